/- The law BitePlays; walked. -/
import Derived.Test.YtecpmffmmiogfabBite11
namespace Go.Proofs.Ytecpmffmmiogfab
open Go.ChangeShapes Go.WideShapes Go.ChangeAt Go.RowKit
set_option linter.unusedVariables false
set_option linter.unusedSimpArgs false
/-- The run, and the row of what is wanted. -/
structure PlK (p q tb tc n : Nat) (NM : Nat → ByteArray) (J : Nat → Nat → Int) (s : BrSt) (wq : Nat) (RW : Nat → Int) (w u : World) : Prop where
  r : NewK p q tb tc n NM J s w u
  w' : u.rowIs wq 3 n (fun j => .int .i64 (RW j))
  d1 : p ≠ wq
  d2 : q ≠ wq
  d3 : tb ≠ wq
  d4 : w.heap.size ≤ wq
section
variable {p q tb tc n : Nat} {NM : Nat → ByteArray} {J : Nat → Nat → Int} {s s' : BrSt} {wq : Nat} {RW RV : Nat → Int} {w u u' : World}
theorem PlK.bel (h : PlK p q tb tc n NM J s wq RW w u) (k : Below u.heap.size u u') : PlK p q tb tc n NM J s wq RW w u' := ⟨h.r.bel k, h.w'.of_block (k.block _ h.w'.lt), h.d1, h.d2, h.d3, h.d4⟩
theorem PlK.run (h : PlK p q tb tc n NM J s wq RW w u) (r : BrR p q tb tc n NM J s' u') (k : Bes2 p q u u') : PlK p q tb tc n NM J s' wq RW w u' := ⟨h.r.next r k, h.w'.of_block (k.block _ h.w'.lt (Ne.symm h.d1) (Ne.symm h.d2)), h.d1, h.d2, h.d3, h.d4⟩
theorem PlK.is (h : PlK p q tb tc n NM J s wq RW w u) (e : ∀ j, j < n → RW j = RV j) : PlK p q tb tc n NM J s wq RV w u := ⟨h.r, h.w'.congr (fun i hi => by rw [e i hi]), h.d1, h.d2, h.d3, h.d4⟩
theorem PlK.set (h : PlK p q tb tc n NM J s wq RW w u) (k : Nat) (x : Int) : PlK p q tb tc n NM J s wq (fun j => if j = k then x else RW j) w (u.setCell ⟨wq, k, none⟩ (.int .i64 x)) := by
  have hb : Bes2 wq wq u (u.setCell ⟨wq, k, none⟩ (.int .i64 x)) := (Bes2.refl wq wq u).set1 _ _
  exact ⟨⟨h.r.r.bes2 hb h.d1 h.d1 h.d2 h.d2 h.d3 h.d3, h.r.b.setCell (p := ⟨wq, k, none⟩) h.d4 _, h.r.p, h.r.q, h.r.t⟩, (h.w'.set k (.int .i64 x)).congr (fun i hi => by
    show (if i = k then Value.int .i64 x else .int .i64 (RW i)) = .int .i64 (if i = k then x else RW i)
    by_cases q1 : i = k
    · rw [if_pos q1, if_pos q1]
    · rw [if_neg q1, if_neg q1]), h.d1, h.d2, h.d3, h.d4⟩
theorem PlK.end1 (h : PlK p q tb tc n NM J s wq RW w u) (a : Nat) (c g : Int) (r : Int) (hn : a + 1 < n) : PlK p q tb tc n NM J s wq (brEnd ⟨a, c, g, RW⟩ r).RS w (((u.setCell ⟨wq, a, none⟩ (.int .i64 3)).setCell ⟨wq, a, none⟩ (.int .i64 r)).setCell ⟨wq, a + 1, none⟩ (.int .i64 1)) := by
  refine (((h.set a 3).set a r).set (a + 1) 1).is (fun j hj => ?_)
  show (if j = a + 1 then (1 : Int) else if j = a then r else if j = a then 3 else RW j) = (if j = a then r else if j = a + 1 then 1 else RW j)
  by_cases q1 : j = a
  · rw [if_neg (by omega), if_pos q1, if_pos q1]
  · by_cases q2 : j = a + 1
    · rw [if_pos q2, if_neg q1, if_pos q2]
    · rw [if_neg q2, if_neg q1, if_neg q1, if_neg q1, if_neg q2]
theorem PlK.end2 (h : PlK p q tb tc n NM J s wq RW w u) (a : Nat) (c g : Int) (r : Int) (hn : ¬ a + 1 < n) : PlK p q tb tc n NM J s wq (brEnd ⟨a, c, g, RW⟩ r).RS w ((u.setCell ⟨wq, a, none⟩ (.int .i64 3)).setCell ⟨wq, a, none⟩ (.int .i64 r)) := by
  refine ((h.set a 3).set a r).is (fun j hj => ?_)
  show (if j = a then r else if j = a then 3 else RW j) = (if j = a then r else if j = a + 1 then 1 else RW j)
  by_cases q1 : j = a
  · rw [if_pos q1, if_pos q1]
  · rw [if_neg q1, if_neg q1, if_neg q1, if_neg (by omega)]
theorem PlK.end3 (h : PlK p q tb tc n NM J s wq RW w u) (a : Nat) (c g : Int) (hn : a + 1 < n) : PlK p q tb tc n NM J s wq (brEnd ⟨a, c, g, RW⟩ 3).RS w ((u.setCell ⟨wq, a, none⟩ (.int .i64 3)).setCell ⟨wq, a + 1, none⟩ (.int .i64 1)) := by
  refine ((h.set a 3).set (a + 1) 1).is (fun j hj => ?_)
  show (if j = a + 1 then (1 : Int) else if j = a then 3 else RW j) = (if j = a then 3 else if j = a + 1 then 1 else RW j)
  by_cases q1 : j = a
  · rw [if_neg (by omega), if_pos q1, if_pos q1]
  · by_cases q2 : j = a + 1
    · rw [if_pos q2, if_neg q1, if_pos q2]
    · rw [if_neg q2, if_neg q1, if_neg q1, if_neg q2]
theorem PlK.end4 (h : PlK p q tb tc n NM J s wq RW w u) (a : Nat) (c g : Int) (hn : ¬ a + 1 < n) : PlK p q tb tc n NM J s wq (brEnd ⟨a, c, g, RW⟩ 3).RS w (u.setCell ⟨wq, a, none⟩ (.int .i64 3)) := by
  refine (h.set a 3).is (fun j hj => ?_)
  show (if j = a then (3 : Int) else RW j) = (if j = a then 3 else if j = a + 1 then 1 else RW j)
  by_cases q1 : j = a
  · rw [if_pos q1, if_pos q1]
  · rw [if_neg q1, if_neg q1, if_neg (by omega)]
end
theorem abF_val {n : Nat} {J : Nat → Nat → Int} {s : BrSt} (hi : BrI n J s) {i : Nat} (h : i < n) : abF s.RS n i = if i < s.cur then s.RS i else 3 := by
  unfold abF abV
  rw [if_pos h]
  rcases Nat.lt_or_ge i s.cur with q | q
  · rw [if_pos q]
    rcases hi.lo i q with e | e <;> rw [e] <;> rfl
  · rw [show (if i < s.cur then s.RS i else (3 : Int)) = 3 from if_neg (by omega)]
    rcases Nat.eq_or_lt_of_le q with e | e
    · rw [← e, hi.at1 (by omega)]
      rfl
    · rw [hi.hi i h e]
      rfl
set_option maxRecDepth 100000 in
set_option maxHeartbeats 8000000 in
theorem law_BitePlays (a : Option Addr) (cap n : Nat) (NM : Nat → ByteArray) (J : Nat → Nat → Int) (al : Option Addr) (acp : Nat) (A : List Int) (w : World) (h : Bts w a n NM J) (ha : RowIs .i64 w al A) (hl : n ≤ maxLen) (hc : n ≤ cap) (hs : ∀ i, i < n → (NM i).size ≤ maxLen) : Calls Try.prog 4 #[.slice a n cap, .slice al A.length acp] w fun e w' => e = .returned (.bool true) ∧ Below w.heap.size w w' := by
  have GR := Lib.hid (bgreat a cap n NM J w h hl)
  have HH := Lib.hid h
  have HA := Lib.hid ha
  clear h hl ha
  go_enter Try.func4, Try.ntmps4
  go_wp2_with fail
  refine GR.out.mono ?_
  rintro e w' ⟨hg, hw⟩
  subst w'
  rcases hg.elim with rfl | ⟨rfl, hn, -⟩
  · go_wp2_with fail
    refine (lives48 _).mono ?_
    rintro e w' ⟨rfl, hb⟩
    go_wp2
    go_ret
    exact ⟨rfl, hb⟩
  · clear GR hg
    have RL := Lib.hid (blaw a cap n NM J w HH.out (by omega) hs)
    rcases hr : rtB n NM J with _ | _
    · rw [hr] at RL
      clear hr HH hs HA
      go_wp2_with fail
      refine (RL.out).mono ?_
      rintro e w' ⟨rfl, hb⟩
      have K := Lib.hid hb
      clear hb
      go_wp2_with fail
      refine (lives48 _).mono ?_
      rintro e w' ⟨rfl, hb⟩
      have B2 := Lib.hid (K.out.trans (hb.mono K.out.size))
      clear hb
      go_wp2
      go_ret
      exact ⟨rfl, B2.out⟩
    · rw [hr] at RL
      go_wp2_with fail
      refine RL.out.mono ?_
      rintro e w0 ⟨rfl, hb0⟩
      replace hb0 := Lib.hid hb0
      clear RL
      by_cases h3 : 300 < (A.length : Int)
      · go_wp2_with fail
        refine (lives48 _).mono ?_
        rintro e w' ⟨rfl, hb⟩
        have B2 := Lib.hid (hb0.out.trans (hb.mono hb0.out.size))
        clear hb
        go_wp2
        go_ret
        exact ⟨rfl, B2.out⟩
      · have hj := rtB_j hr
        obtain ⟨b, off, rfl, hbl, -⟩ := HH.out.at (show 0 < n from hj.n1)
        have NW := Lib.hid (fun u (k : Below w.heap.size w u) => bnew_ok b off cap n NM J u (HH.out.below k) hc hr hs)
        have n1 := hj.n1
        have n20 := hj.n20
        have HJ := Lib.hid hj
        have CE := Lib.hid (fun i (hi : i < n) u (k : Below w.heap.size w u) => show u.cell? ⟨b, off + i * 7, none⟩ = some (.string (NM i)) ∧ u.cell? ⟨b, off + i * 7 + 1, none⟩ = some (.int .i64 (J i 1)) ∧ u.cell? ⟨b, off + i * 7 + 2, none⟩ = some (.int .i64 (J i 2)) ∧ u.cell? ⟨b, off + i * 7 + 3, none⟩ = some (.int .i64 (J i 3)) ∧ u.cell? ⟨b, off + i * 7 + 4, none⟩ = some (.int .i64 (J i 4)) ∧ u.cell? ⟨b, off + i * 7 + 5, none⟩ = some (.int .i64 (J i 5)) ∧ u.cell? ⟨b, off + i * 7 + 6, none⟩ = some (.int .i64 (J i 6)) from by
          obtain ⟨b', off', ea, -, k0, k1, k2, k3, k4, k5, k6⟩ := (HH.out.below k).at hi
          injection ea with ea
          injection ea with e1 e2
          subst e1 e2
          exact ⟨k0, k1, k2, k3, k4, k5, k6⟩)
        have mk := fun u => mk_int n (by omega) u
        have z1 : (0 : Int) < (n : Int) := by omega
        have z2 : 0 < n := n1
        clear hr hs hj
        go_wp2_with fail
        refine (NW.out _ hb0.out).mono ?_
        rintro e w1 ⟨p, q, tb, tc, rfl, F⟩
        have hbw := hb0.out.trans (F.b.mono hb0.out.size)
        have tlt := F.r.tlt n1
        obtain ⟨V, eV⟩ : ∃ V, V = w1.alloc (.cells (madeCells #[.int .i64 0] n) 3) := ⟨_, rfl⟩
        have K := Lib.hid (show PlK p q tb tc n NM J s0 w1.heap.size (fun _ => 0) w V from by
          rw [eV]
          exact ⟨⟨F.r.bel ((Below.refl _ _).alloc (Nat.le_refl _) _), hbw.alloc hbw.size _, Nat.le_trans hb0.out.size F.p, Nat.le_trans hb0.out.size F.q, Nat.le_trans hb0.out.size F.t⟩, World.rowIs_made w1 _ n _, Nat.ne_of_lt F.r.h.lt, Nat.ne_of_lt F.r.r.lt, Nat.ne_of_lt tlt, hbw.size⟩)
        replace eV := Lib.hid eV
        clear F hbw tlt NW
        go_upto_region 5 with (fail)
        rw [← eV.out]
        generalize w1.heap.size = wq at *
        clear eV mk
        have c0 := K.out.w'.cell z2
        have f0 := K.out.w'.frozen 0
        have K2 := Lib.hid (show PlK p q tb tc n NM J ⟨0, 0, 0, s0.RS⟩ wq s0.RS w (V.setCell ⟨wq, 0, none⟩ (.int .i64 1)) from K.out.set 0 1)
        clear K
        go_wp2
        go_loopw [11, 8, 9, 10] (fun i s8 s9 s10 v => ∃ (k ac : Nat) (c g : Int) (RS : Nat → Int), k ≤ A.length ∧ i = .int .i64 (k : Int) ∧ s8 = .int .i64 (ac : Int) ∧ s9 = .int .i64 c ∧ s10 = .int .i64 g ∧ Hid (BrI n J ⟨ac, c, g, RS⟩) ∧ Hid (PlK p q tb tc n NM J ⟨ac, c, g, RS⟩ wq RS w v)) (fun i _ _ _ _ => A.length - (intOf i).toNat)
        case atStart => exact ⟨0, 0, 0, 0, _, Nat.zero_le _, rfl, rfl, rfl, rfl, Lib.hid (s0_ok HJ.out), K2⟩
        case round =>
          as_aux_lemma =>
            clear K2 c0 f0
            obtain ⟨k, ac, c, g, RS, hk, rfl, rfl, rfl, rfl, hi, K⟩ := hrel
            by_cases hkA : k < A.length
            · obtain ⟨ab, ao, rfl, c0⟩ := (HA.out.below K.out.r.b).cell1 hkA
              have jk : (k : Int) < (A.length : Int) := by omega
              have j2 : IntKind.i64.wrap ((k : Int) + 1) = (k : Int) + 1 := by rw [IntKind.wrap_i64]; omega
              have HX := Lib.hid (fun u (kb : Below w.heap.size w u) => show u.cell? ⟨ab, ao + k, none⟩ = some (.int .i64 (A.getD k 0)) from by
                obtain ⟨b', off', ea, hc'⟩ := (HA.out.below kb).cell1 hkA
                injection ea with ea
                injection ea with e1 e2
                subst e1 e2
                exact hc')
              generalize A.getD k 0 = x at *
              obtain ⟨T, hT⟩ : ∃ T, brStep n J x ⟨ac, c, g, RS⟩ = T := ⟨_, rfl⟩
              obtain ⟨TC, Tc, Tg, TR⟩ := T
              have hiT := Lib.hid (show BrI n J ⟨TC, Tc, Tg, TR⟩ from hT ▸ brStep_ok x hi.out HJ.out)
              have ST := bstep p q tb tc n NM J ⟨ac, c, g, RS⟩ _ K.out.r.r hi.out HJ.out x
              rw [hT] at ST
              have ST : Calls Try.prog 12 #[.pointer (some ⟨p, 0, none⟩), .int .i64 x] wr fun e w' => e = .returned (.bool (decide (ac < n))) ∧ BrR p q tb tc n NM J ⟨TC, Tc, Tg, TR⟩ w' ∧ Bes2 p q wr w' := ST
              replace ST := Lib.hid ST
              replace hT := Lib.hid hT
              go_wp2_with fail
              refine ST.out.mono ?_
              rintro e u1 ⟨rfl, r1, e1⟩
              have K1 := Lib.hid (K.out.run r1 e1)
              clear r1 e1 c0 ST K
              go_upto_if 63 with (fail)
              go_cut [8, 9, 10] from 43 to 199 (fun s8 s9 s10 u => s8 = .int .i64 (TC : Int) ∧ s9 = .int .i64 Tc ∧ s10 = .int .i64 Tg ∧ Hid (PlK p q tb tc n NM J ⟨TC, Tc, Tg, TR⟩ wq TR w u))
              case first =>
                as_aux_lemma =>
                  by_cases hcn : ac < n
                  · have jc : (ac : Int) < (n : Int) := by omega
                    have jw : IntKind.i64.wrap ((ac : Int) + 1) = (ac : Int) + 1 := by rw [IntKind.wrap_i64]; omega
                    have cl : c < J ac 6 := hi.out.cl hcn
                    have gn : g < J ac 5 := hi.out.gn hcn
                    have q0 : 0 ≤ c := hi.out.c0
                    have g0 : 0 ≤ g := hi.out.g0
                    have js := HJ.out.s ac hcn
                    have jm := HJ.out.m ac hcn
                    have jl := HJ.out.l ac hcn
                    have wc1 : IntKind.i64.wrap (c + 1) = c + 1 := by rw [IntKind.wrap_i64]; omega
                    have wg1 : IntKind.i64.wrap (g + 1) = g + 1 := by rw [IntKind.wrap_i64]; omega
                    have hT := hT.out
                    unfold brStep at hT
                    rw [if_pos hcn] at hT
                    have T2 := Lib.hid (fun (e : gN J ac x c g = J ac 5) => show (⟨TC, Tc, Tg, TR⟩ : BrSt) = brEnd ⟨ac, c, g, RS⟩ 2 from by
                      rw [← hT, if_pos e])
                    have T3 := Lib.hid (fun (e : ¬ gN J ac x c g = J ac 5) (e2 : c + 1 = J ac 6) => show (⟨TC, Tc, Tg, TR⟩ : BrSt) = brEnd ⟨ac, c, g, RS⟩ 3 from by
                      rw [← hT, if_neg e, if_pos e2])
                    have T0 := Lib.hid (fun (e : ¬ gN J ac x c g = J ac 5) (e2 : ¬ c + 1 = J ac 6) => show (⟨TC, Tc, Tg, TR⟩ : BrSt) = ⟨ac, c + 1, gN J ac x c g, RS⟩ from by
                      rw [← hT, if_neg e, if_neg e2])
                    have G1 := Lib.hid (fun (e : c + 1 ≤ J ac 4) => show gN J ac x c g = g from by unfold gN; rw [if_pos e])
                    have G2 := Lib.hid (fun (e : ¬ c + 1 ≤ J ac 4) (e2 : x < J ac 2 ∨ J ac 3 < x) => show gN J ac x c g = 0 from by unfold gN; rw [if_neg e, if_pos e2])
                    have G3 := Lib.hid (fun (e : ¬ c + 1 ≤ J ac 4) (e2 : ¬ (x < J ac 2 ∨ J ac 3 < x)) => show gN J ac x c g = g + 1 from by unfold gN; rw [if_neg e, if_neg e2])
                    obtain ⟨k0, k1, k2, k3, k4, k5, k6⟩ := CE.out ac hcn _ K1.out.r.b
                    obtain ⟨V2, eV, hm0, hz, hbx⟩ := bt_box u1 (NM ac) (J ac 1) (J ac 2) (J ac 3) (J ac 4) (J ac 5) (J ac 6)
                    have K2 := Lib.hid (K1.out.bel hm0)
                    have hvw := Lib.hid (show u1.heap.size ≠ wq from Nat.ne_of_gt K1.out.w'.lt)
                    have RWE := Lib.hid (rfl : RS = RS)
                    clear hT hm0 hz hi K1 js jm jl cl gn CE HA
                    generalize gN J ac x c g = G at *
                    generalize NM ac = nm at *
                    generalize J ac 1 = si at *
                    generalize J ac 2 = lo at *
                    generalize J ac 3 = hv at *
                    generalize J ac 4 = se at *
                    generalize J ac 5 = ne at *
                    generalize J ac 6 = li at *
                    replace eV := Lib.hid eV
                    replace hbx := Lib.hid hbx
                    go_upto_region 14 with (fail)
                    rw [← eV.out]
                    generalize u1.heap.size = vb at *
                    clear k0 k1 k2 k3 k4 k5 k6 eV
                    have hq := hbx.out
                    obtain ⟨c0, d0⟩ := hq.one 0 rfl
                    obtain ⟨c1, d1⟩ := hq.one 1 rfl
                    obtain ⟨c2, d2⟩ := hq.one 2 rfl
                    obtain ⟨c3, d3⟩ := hq.one 3 rfl
                    obtain ⟨c4, d4⟩ := hq.one 4 rfl
                    obtain ⟨c5, d5⟩ := hq.one 5 rfl
                    obtain ⟨c6, d6⟩ := hq.one 6 rfl
                    clear hq
                    go_upto_if 73 with (fail)
                    clear c0 c1 c2 c3 c4 c5 c6 d0 d1 d2 d3 d4 d5 d6
                    go_cut [10] from 43 to 199 (fun s u => s = .int .i64 G ∧ Hid (PlK p q tb tc n NM J ⟨TC, Tc, Tg, TR⟩ wq RS w u) ∧ Hid (Held vb [.string nm, .int .i64 si, .int .i64 lo, .int .i64 hv, .int .i64 se, .int .i64 ne, .int .i64 li] u))
                    case first =>
                      as_aux_lemma =>
                        have x0 := HX.out _ K2.out.r.b
                        have hq := hbx.out
                        obtain ⟨c0, d0⟩ := hq.one 0 rfl
                        obtain ⟨c1, d1⟩ := hq.one 1 rfl
                        obtain ⟨c2, d2⟩ := hq.one 2 rfl
                        obtain ⟨c3, d3⟩ := hq.one 3 rfl
                        obtain ⟨c4, d4⟩ := hq.one 4 rfl
                        obtain ⟨c5, d5⟩ := hq.one 5 rfl
                        obtain ⟨c6, d6⟩ := hq.one 6 rfl
                        clear hq T0 T2 T3
                        by_cases e1 : c + 1 ≤ se
                        · obtain rfl : G = g := G1.out e1
                          have e1' : ¬ se < c + 1 := by omega
                          clear G1 G2 G3
                          go_wp2_with fail
                          go_meet
                          case rel => exact ⟨rfl, K2, hbx⟩
                        · have e1' : se < c + 1 := by omega
                          by_cases e2 : x < lo
                          · obtain rfl : G = 0 := G2.out (by omega) (.inl e2)
                            have q1 : decide (x < lo) = true := decide_eq_true e2
                            clear G1 G2 G3
                            go_wp2_with fail
                            refine region_moves (fun u => u.cell? ⟨ab, ao + k, none⟩ = some (.int .i64 x) ∧ u.cell? ⟨vb, 2, none⟩ = some (.int .i64 lo) ∧ u.cell? ⟨vb, 3, none⟩ = some (.int .i64 hv)) [] [(.free, 0), (.free, 1), (.free, 2), (.take, 3), (.free, 4), (.take, 5), (.free, 6), (.free, 7), (.free, 8), (.free, 9), (.free, 10), (.take, 11), (.free, 12), (.take, 13), (.free, 14), (.free, 15)] _ (by kernel_rfl) (by kernel_rfl) (by kernel_rfl) (by kernel_rfl) (by decide) rfl (fun _ _ _ _ _ h => h) ?_
                            simp only [List.filterMap_cons, List.filterMap_nil, List.getElem?_toArray, List.getElem?_cons_zero, List.getElem?_cons_succ, Option.map_some]
                            iterate 3
                              first
                                | (refine mv_free ?_ (Or.inl ⟨by rfl, ?_⟩) (⟨x0, c2, c3⟩) ?_
                                   rotate_left 1
                                   · intro u
                                     go_simp
                                     try simp only [q1]
                                     try simp only [q2]
                                     try simp only [q3]
                                     try simp only [q4]
                                     try with_reducible rfl
                                   simp only [Act.put, List.setIfInBounds_toArray, List.set_cons_zero, List.set_cons_succ])
                                | (refine mv_free _ (Or.inr ⟨by rfl, rfl⟩) (⟨x0, c2, c3⟩) ?_
                                   simp only [Act.put, List.setIfInBounds_toArray, List.set_cons_zero, List.set_cons_succ])
                            iterate 1
                              first
                                | (refine mv_take ?_ (Or.inl ⟨by rfl, ?_⟩) (⟨x0, c2, c3⟩) ?_
                                   rotate_left 1
                                   · intro u hu
                                     (try dsimp only at hu)
                                     go_simp
                                     try with_reducible rfl
                                   simp only [Act.put, List.setIfInBounds_toArray, List.set_cons_zero, List.set_cons_succ])
                                | (refine mv_take _ (Or.inr ⟨by rfl, rfl⟩) (⟨x0, c2, c3⟩) ?_
                                   simp only [Act.put, List.setIfInBounds_toArray, List.set_cons_zero, List.set_cons_succ])
                            iterate 1
                              first
                                | (refine mv_free ?_ (Or.inl ⟨by rfl, ?_⟩) (⟨x0, c2, c3⟩) ?_
                                   rotate_left 1
                                   · intro u
                                     go_simp
                                     try simp only [q1]
                                     try simp only [q2]
                                     try simp only [q3]
                                     try simp only [q4]
                                     try with_reducible rfl
                                   simp only [Act.put, List.setIfInBounds_toArray, List.set_cons_zero, List.set_cons_succ])
                                | (refine mv_free _ (Or.inr ⟨by rfl, rfl⟩) (⟨x0, c2, c3⟩) ?_
                                   simp only [Act.put, List.setIfInBounds_toArray, List.set_cons_zero, List.set_cons_succ])
                            iterate 1
                              first
                                | (refine mv_take ?_ (Or.inl ⟨by rfl, ?_⟩) (⟨x0, c2, c3⟩) ?_
                                   rotate_left 1
                                   · intro u hu
                                     (try dsimp only at hu)
                                     go_simp
                                     try with_reducible rfl
                                   simp only [Act.put, List.setIfInBounds_toArray, List.set_cons_zero, List.set_cons_succ])
                                | (refine mv_take _ (Or.inr ⟨by rfl, rfl⟩) (⟨x0, c2, c3⟩) ?_
                                   simp only [Act.put, List.setIfInBounds_toArray, List.set_cons_zero, List.set_cons_succ])
                            iterate 5
                              first
                                | (refine mv_free ?_ (Or.inl ⟨by rfl, ?_⟩) (⟨x0, c2, c3⟩) ?_
                                   rotate_left 1
                                   · intro u
                                     go_simp
                                     try simp only [q1]
                                     try simp only [q2]
                                     try simp only [q3]
                                     try simp only [q4]
                                     try with_reducible rfl
                                   simp only [Act.put, List.setIfInBounds_toArray, List.set_cons_zero, List.set_cons_succ])
                                | (refine mv_free _ (Or.inr ⟨by rfl, rfl⟩) (⟨x0, c2, c3⟩) ?_
                                   simp only [Act.put, List.setIfInBounds_toArray, List.set_cons_zero, List.set_cons_succ])
                            iterate 1
                              first
                                | (refine mv_take ?_ (Or.inl ⟨by rfl, ?_⟩) (⟨x0, c2, c3⟩) ?_
                                   rotate_left 1
                                   · intro u hu
                                     (try dsimp only at hu)
                                     go_simp
                                     try with_reducible rfl
                                   simp only [Act.put, List.setIfInBounds_toArray, List.set_cons_zero, List.set_cons_succ])
                                | (refine mv_take _ (Or.inr ⟨by rfl, rfl⟩) (⟨x0, c2, c3⟩) ?_
                                   simp only [Act.put, List.setIfInBounds_toArray, List.set_cons_zero, List.set_cons_succ])
                            iterate 1
                              first
                                | (refine mv_free ?_ (Or.inl ⟨by rfl, ?_⟩) (⟨x0, c2, c3⟩) ?_
                                   rotate_left 1
                                   · intro u
                                     go_simp
                                     try simp only [q1]
                                     try simp only [q2]
                                     try simp only [q3]
                                     try simp only [q4]
                                     try with_reducible rfl
                                   simp only [Act.put, List.setIfInBounds_toArray, List.set_cons_zero, List.set_cons_succ])
                                | (refine mv_free _ (Or.inr ⟨by rfl, rfl⟩) (⟨x0, c2, c3⟩) ?_
                                   simp only [Act.put, List.setIfInBounds_toArray, List.set_cons_zero, List.set_cons_succ])
                            iterate 1
                              first
                                | (refine mv_take ?_ (Or.inl ⟨by rfl, ?_⟩) (⟨x0, c2, c3⟩) ?_
                                   rotate_left 1
                                   · intro u hu
                                     (try dsimp only at hu)
                                     go_simp
                                     try with_reducible rfl
                                   simp only [Act.put, List.setIfInBounds_toArray, List.set_cons_zero, List.set_cons_succ])
                                | (refine mv_take _ (Or.inr ⟨by rfl, rfl⟩) (⟨x0, c2, c3⟩) ?_
                                   simp only [Act.put, List.setIfInBounds_toArray, List.set_cons_zero, List.set_cons_succ])
                            iterate 2
                              first
                                | (refine mv_free ?_ (Or.inl ⟨by rfl, ?_⟩) (⟨x0, c2, c3⟩) ?_
                                   rotate_left 1
                                   · intro u
                                     go_simp
                                     try simp only [q1]
                                     try simp only [q2]
                                     try simp only [q3]
                                     try simp only [q4]
                                     try with_reducible rfl
                                   simp only [Act.put, List.setIfInBounds_toArray, List.set_cons_zero, List.set_cons_succ])
                                | (refine mv_free _ (Or.inr ⟨by rfl, rfl⟩) (⟨x0, c2, c3⟩) ?_
                                   simp only [Act.put, List.setIfInBounds_toArray, List.set_cons_zero, List.set_cons_succ])
                            refine mv_done ?_
                            go_wp2_with fail
                            go_meet
                            case rel => exact ⟨rfl, Lib.hid (K2.out.bel (Below.refl _ _).drew), Lib.hid hbx.out.drew⟩
                          · have q1 : decide (x < lo) = false := decide_eq_false e2
                            by_cases e3 : hv < x
                            · obtain rfl : G = 0 := G2.out (by omega) (.inr e3)
                              have q2 : decide (hv < x) = true := decide_eq_true e3
                              clear G1 G2 G3
                              go_wp2_with fail
                              refine region_moves (fun u => u.cell? ⟨ab, ao + k, none⟩ = some (.int .i64 x) ∧ u.cell? ⟨vb, 2, none⟩ = some (.int .i64 lo) ∧ u.cell? ⟨vb, 3, none⟩ = some (.int .i64 hv)) [] [(.free, 0), (.free, 1), (.free, 2), (.take, 3), (.free, 4), (.take, 5), (.free, 6), (.free, 7), (.free, 8), (.free, 9), (.free, 10), (.take, 11), (.free, 12), (.take, 13), (.free, 14), (.free, 15)] _ (by kernel_rfl) (by kernel_rfl) (by kernel_rfl) (by kernel_rfl) (by decide) rfl (fun _ _ _ _ _ h => h) ?_
                              simp only [List.filterMap_cons, List.filterMap_nil, List.getElem?_toArray, List.getElem?_cons_zero, List.getElem?_cons_succ, Option.map_some]
                              iterate 3
                                first
                                  | (refine mv_free ?_ (Or.inl ⟨by rfl, ?_⟩) (⟨x0, c2, c3⟩) ?_
                                     rotate_left 1
                                     · intro u
                                       go_simp
                                       try simp only [q1]
                                       try simp only [q2]
                                       try simp only [q3]
                                       try simp only [q4]
                                       try with_reducible rfl
                                     simp only [Act.put, List.setIfInBounds_toArray, List.set_cons_zero, List.set_cons_succ])
                                  | (refine mv_free _ (Or.inr ⟨by rfl, rfl⟩) (⟨x0, c2, c3⟩) ?_
                                     simp only [Act.put, List.setIfInBounds_toArray, List.set_cons_zero, List.set_cons_succ])
                              iterate 1
                                first
                                  | (refine mv_take ?_ (Or.inl ⟨by rfl, ?_⟩) (⟨x0, c2, c3⟩) ?_
                                     rotate_left 1
                                     · intro u hu
                                       (try dsimp only at hu)
                                       go_simp
                                       try with_reducible rfl
                                     simp only [Act.put, List.setIfInBounds_toArray, List.set_cons_zero, List.set_cons_succ])
                                  | (refine mv_take _ (Or.inr ⟨by rfl, rfl⟩) (⟨x0, c2, c3⟩) ?_
                                     simp only [Act.put, List.setIfInBounds_toArray, List.set_cons_zero, List.set_cons_succ])
                              iterate 1
                                first
                                  | (refine mv_free ?_ (Or.inl ⟨by rfl, ?_⟩) (⟨x0, c2, c3⟩) ?_
                                     rotate_left 1
                                     · intro u
                                       go_simp
                                       try simp only [q1]
                                       try simp only [q2]
                                       try simp only [q3]
                                       try simp only [q4]
                                       try with_reducible rfl
                                     simp only [Act.put, List.setIfInBounds_toArray, List.set_cons_zero, List.set_cons_succ])
                                  | (refine mv_free _ (Or.inr ⟨by rfl, rfl⟩) (⟨x0, c2, c3⟩) ?_
                                     simp only [Act.put, List.setIfInBounds_toArray, List.set_cons_zero, List.set_cons_succ])
                              iterate 1
                                first
                                  | (refine mv_take ?_ (Or.inl ⟨by rfl, ?_⟩) (⟨x0, c2, c3⟩) ?_
                                     rotate_left 1
                                     · intro u hu
                                       (try dsimp only at hu)
                                       go_simp
                                       try with_reducible rfl
                                     simp only [Act.put, List.setIfInBounds_toArray, List.set_cons_zero, List.set_cons_succ])
                                  | (refine mv_take _ (Or.inr ⟨by rfl, rfl⟩) (⟨x0, c2, c3⟩) ?_
                                     simp only [Act.put, List.setIfInBounds_toArray, List.set_cons_zero, List.set_cons_succ])
                              iterate 5
                                first
                                  | (refine mv_free ?_ (Or.inl ⟨by rfl, ?_⟩) (⟨x0, c2, c3⟩) ?_
                                     rotate_left 1
                                     · intro u
                                       go_simp
                                       try simp only [q1]
                                       try simp only [q2]
                                       try simp only [q3]
                                       try simp only [q4]
                                       try with_reducible rfl
                                     simp only [Act.put, List.setIfInBounds_toArray, List.set_cons_zero, List.set_cons_succ])
                                  | (refine mv_free _ (Or.inr ⟨by rfl, rfl⟩) (⟨x0, c2, c3⟩) ?_
                                     simp only [Act.put, List.setIfInBounds_toArray, List.set_cons_zero, List.set_cons_succ])
                              iterate 1
                                first
                                  | (refine mv_take ?_ (Or.inl ⟨by rfl, ?_⟩) (⟨x0, c2, c3⟩) ?_
                                     rotate_left 1
                                     · intro u hu
                                       (try dsimp only at hu)
                                       go_simp
                                       try with_reducible rfl
                                     simp only [Act.put, List.setIfInBounds_toArray, List.set_cons_zero, List.set_cons_succ])
                                  | (refine mv_take _ (Or.inr ⟨by rfl, rfl⟩) (⟨x0, c2, c3⟩) ?_
                                     simp only [Act.put, List.setIfInBounds_toArray, List.set_cons_zero, List.set_cons_succ])
                              iterate 1
                                first
                                  | (refine mv_free ?_ (Or.inl ⟨by rfl, ?_⟩) (⟨x0, c2, c3⟩) ?_
                                     rotate_left 1
                                     · intro u
                                       go_simp
                                       try simp only [q1]
                                       try simp only [q2]
                                       try simp only [q3]
                                       try simp only [q4]
                                       try with_reducible rfl
                                     simp only [Act.put, List.setIfInBounds_toArray, List.set_cons_zero, List.set_cons_succ])
                                  | (refine mv_free _ (Or.inr ⟨by rfl, rfl⟩) (⟨x0, c2, c3⟩) ?_
                                     simp only [Act.put, List.setIfInBounds_toArray, List.set_cons_zero, List.set_cons_succ])
                              iterate 1
                                first
                                  | (refine mv_take ?_ (Or.inl ⟨by rfl, ?_⟩) (⟨x0, c2, c3⟩) ?_
                                     rotate_left 1
                                     · intro u hu
                                       (try dsimp only at hu)
                                       go_simp
                                       try with_reducible rfl
                                     simp only [Act.put, List.setIfInBounds_toArray, List.set_cons_zero, List.set_cons_succ])
                                  | (refine mv_take _ (Or.inr ⟨by rfl, rfl⟩) (⟨x0, c2, c3⟩) ?_
                                     simp only [Act.put, List.setIfInBounds_toArray, List.set_cons_zero, List.set_cons_succ])
                              iterate 2
                                first
                                  | (refine mv_free ?_ (Or.inl ⟨by rfl, ?_⟩) (⟨x0, c2, c3⟩) ?_
                                     rotate_left 1
                                     · intro u
                                       go_simp
                                       try simp only [q1]
                                       try simp only [q2]
                                       try simp only [q3]
                                       try simp only [q4]
                                       try with_reducible rfl
                                     simp only [Act.put, List.setIfInBounds_toArray, List.set_cons_zero, List.set_cons_succ])
                                  | (refine mv_free _ (Or.inr ⟨by rfl, rfl⟩) (⟨x0, c2, c3⟩) ?_
                                     simp only [Act.put, List.setIfInBounds_toArray, List.set_cons_zero, List.set_cons_succ])
                              refine mv_done ?_
                              go_wp2_with fail
                              go_meet
                              case rel => exact ⟨rfl, Lib.hid (K2.out.bel (Below.refl _ _).drew), Lib.hid hbx.out.drew⟩
                            · have q2 : decide (hv < x) = false := decide_eq_false e3
                              obtain rfl : G = g + 1 := G3.out (by omega) (by omega)
                              clear G1 G2 G3
                              go_wp2_with fail
                              refine region_moves (fun u => u.cell? ⟨ab, ao + k, none⟩ = some (.int .i64 x) ∧ u.cell? ⟨vb, 2, none⟩ = some (.int .i64 lo) ∧ u.cell? ⟨vb, 3, none⟩ = some (.int .i64 hv)) [] [(.free, 0), (.free, 1), (.free, 2), (.take, 3), (.free, 4), (.take, 5), (.free, 6), (.free, 7), (.free, 8), (.free, 9), (.free, 10), (.take, 11), (.free, 12), (.take, 13), (.free, 14), (.free, 15)] _ (by kernel_rfl) (by kernel_rfl) (by kernel_rfl) (by kernel_rfl) (by decide) rfl (fun _ _ _ _ _ h => h) ?_
                              simp only [List.filterMap_cons, List.filterMap_nil, List.getElem?_toArray, List.getElem?_cons_zero, List.getElem?_cons_succ, Option.map_some]
                              iterate 3
                                first
                                  | (refine mv_free ?_ (Or.inl ⟨by rfl, ?_⟩) (⟨x0, c2, c3⟩) ?_
                                     rotate_left 1
                                     · intro u
                                       go_simp
                                       try simp only [q1]
                                       try simp only [q2]
                                       try simp only [q3]
                                       try simp only [q4]
                                       try with_reducible rfl
                                     simp only [Act.put, List.setIfInBounds_toArray, List.set_cons_zero, List.set_cons_succ])
                                  | (refine mv_free _ (Or.inr ⟨by rfl, rfl⟩) (⟨x0, c2, c3⟩) ?_
                                     simp only [Act.put, List.setIfInBounds_toArray, List.set_cons_zero, List.set_cons_succ])
                              iterate 1
                                first
                                  | (refine mv_take ?_ (Or.inl ⟨by rfl, ?_⟩) (⟨x0, c2, c3⟩) ?_
                                     rotate_left 1
                                     · intro u hu
                                       (try dsimp only at hu)
                                       go_simp
                                       try with_reducible rfl
                                     simp only [Act.put, List.setIfInBounds_toArray, List.set_cons_zero, List.set_cons_succ])
                                  | (refine mv_take _ (Or.inr ⟨by rfl, rfl⟩) (⟨x0, c2, c3⟩) ?_
                                     simp only [Act.put, List.setIfInBounds_toArray, List.set_cons_zero, List.set_cons_succ])
                              iterate 1
                                first
                                  | (refine mv_free ?_ (Or.inl ⟨by rfl, ?_⟩) (⟨x0, c2, c3⟩) ?_
                                     rotate_left 1
                                     · intro u
                                       go_simp
                                       try simp only [q1]
                                       try simp only [q2]
                                       try simp only [q3]
                                       try simp only [q4]
                                       try with_reducible rfl
                                     simp only [Act.put, List.setIfInBounds_toArray, List.set_cons_zero, List.set_cons_succ])
                                  | (refine mv_free _ (Or.inr ⟨by rfl, rfl⟩) (⟨x0, c2, c3⟩) ?_
                                     simp only [Act.put, List.setIfInBounds_toArray, List.set_cons_zero, List.set_cons_succ])
                              iterate 1
                                first
                                  | (refine mv_take ?_ (Or.inl ⟨by rfl, ?_⟩) (⟨x0, c2, c3⟩) ?_
                                     rotate_left 1
                                     · intro u hu
                                       (try dsimp only at hu)
                                       go_simp
                                       try with_reducible rfl
                                     simp only [Act.put, List.setIfInBounds_toArray, List.set_cons_zero, List.set_cons_succ])
                                  | (refine mv_take _ (Or.inr ⟨by rfl, rfl⟩) (⟨x0, c2, c3⟩) ?_
                                     simp only [Act.put, List.setIfInBounds_toArray, List.set_cons_zero, List.set_cons_succ])
                              iterate 5
                                first
                                  | (refine mv_free ?_ (Or.inl ⟨by rfl, ?_⟩) (⟨x0, c2, c3⟩) ?_
                                     rotate_left 1
                                     · intro u
                                       go_simp
                                       try simp only [q1]
                                       try simp only [q2]
                                       try simp only [q3]
                                       try simp only [q4]
                                       try with_reducible rfl
                                     simp only [Act.put, List.setIfInBounds_toArray, List.set_cons_zero, List.set_cons_succ])
                                  | (refine mv_free _ (Or.inr ⟨by rfl, rfl⟩) (⟨x0, c2, c3⟩) ?_
                                     simp only [Act.put, List.setIfInBounds_toArray, List.set_cons_zero, List.set_cons_succ])
                              iterate 1
                                first
                                  | (refine mv_take ?_ (Or.inl ⟨by rfl, ?_⟩) (⟨x0, c2, c3⟩) ?_
                                     rotate_left 1
                                     · intro u hu
                                       (try dsimp only at hu)
                                       go_simp
                                       try with_reducible rfl
                                     simp only [Act.put, List.setIfInBounds_toArray, List.set_cons_zero, List.set_cons_succ])
                                  | (refine mv_take _ (Or.inr ⟨by rfl, rfl⟩) (⟨x0, c2, c3⟩) ?_
                                     simp only [Act.put, List.setIfInBounds_toArray, List.set_cons_zero, List.set_cons_succ])
                              iterate 1
                                first
                                  | (refine mv_free ?_ (Or.inl ⟨by rfl, ?_⟩) (⟨x0, c2, c3⟩) ?_
                                     rotate_left 1
                                     · intro u
                                       go_simp
                                       try simp only [q1]
                                       try simp only [q2]
                                       try simp only [q3]
                                       try simp only [q4]
                                       try with_reducible rfl
                                     simp only [Act.put, List.setIfInBounds_toArray, List.set_cons_zero, List.set_cons_succ])
                                  | (refine mv_free _ (Or.inr ⟨by rfl, rfl⟩) (⟨x0, c2, c3⟩) ?_
                                     simp only [Act.put, List.setIfInBounds_toArray, List.set_cons_zero, List.set_cons_succ])
                              iterate 1
                                first
                                  | (refine mv_take ?_ (Or.inl ⟨by rfl, ?_⟩) (⟨x0, c2, c3⟩) ?_
                                     rotate_left 1
                                     · intro u hu
                                       (try dsimp only at hu)
                                       go_simp
                                       try with_reducible rfl
                                     simp only [Act.put, List.setIfInBounds_toArray, List.set_cons_zero, List.set_cons_succ])
                                  | (refine mv_take _ (Or.inr ⟨by rfl, rfl⟩) (⟨x0, c2, c3⟩) ?_
                                     simp only [Act.put, List.setIfInBounds_toArray, List.set_cons_zero, List.set_cons_succ])
                              iterate 2
                                first
                                  | (refine mv_free ?_ (Or.inl ⟨by rfl, ?_⟩) (⟨x0, c2, c3⟩) ?_
                                     rotate_left 1
                                     · intro u
                                       go_simp
                                       try simp only [q1]
                                       try simp only [q2]
                                       try simp only [q3]
                                       try simp only [q4]
                                       try with_reducible rfl
                                     simp only [Act.put, List.setIfInBounds_toArray, List.set_cons_zero, List.set_cons_succ])
                                  | (refine mv_free _ (Or.inr ⟨by rfl, rfl⟩) (⟨x0, c2, c3⟩) ?_
                                     simp only [Act.put, List.setIfInBounds_toArray, List.set_cons_zero, List.set_cons_succ])
                              refine mv_done ?_
                              go_wp2_with fail
                              go_meet
                              case rel => exact ⟨rfl, Lib.hid (K2.out.bel (Below.refl _ _).drew), Lib.hid hbx.out.drew⟩
                    case rest =>
                      as_aux_lemma =>
                        obtain ⟨rfl, K3, hb3⟩ := hcut
                        clear K2 hbx G1 G2 G3 HX
                        have hq := hb3.out
                        obtain ⟨c0, d0⟩ := hq.one 0 rfl
                        obtain ⟨c1, d1⟩ := hq.one 1 rfl
                        obtain ⟨c2, d2⟩ := hq.one 2 rfl
                        obtain ⟨c3, d3⟩ := hq.one 3 rfl
                        obtain ⟨c4, d4⟩ := hq.one 4 rfl
                        obtain ⟨c5, d5⟩ := hq.one 5 rfl
                        obtain ⟨c6, d6⟩ := hq.one 6 rfl
                        clear hq
                        have r0 := K3.out.w'.cell hcn
                        have f0 := K3.out.w'.frozen ac
                        by_cases e1 : G = ne
                        · have TT := T2.out e1
                          injection TT with t1 t2 t3 t4
                          subst TC Tc Tg
                          clear T0 T2 T3
                          obtain ⟨v1, ev1⟩ : ∃ v1, v1 = wc.setCell ⟨wq, ac, none⟩ (.int .i64 3) := ⟨_, rfl⟩
                          have K4 := K3.out.set ac 3
                          rw [← ev1] at K4
                          have hb4 := hb3.out.beside ((Beside.of_below (Below.refl _ _)).setCell (p := ⟨wq, ac, none⟩) (.int .i64 3)) hvw.out
                          rw [← ev1] at hb4
                          have r4 := K4.w'.cell hcn
                          have f4 := K4.w'.frozen ac
                          rw [if_pos rfl] at r4
                          obtain ⟨v2, ev2⟩ : ∃ v2, v2 = v1.setCell ⟨wq, ac, none⟩ (.int .i64 2) := ⟨_, rfl⟩
                          have K5 := K4.set ac 2
                          rw [← ev2] at K5
                          have f5 := K5.w'.frozen (ac + 1)
                          by_cases hl : ac + 1 < n
                          · have jl : (ac : Int) + 1 < (n : Int) := by omega
                            have r5 := K5.w'.cell hl
                            have KF := Lib.hid (show PlK p q tb tc n NM J ⟨ac + 1, 0, 0, TR⟩ wq TR w (v2.setCell ⟨wq, ac + 1, none⟩ (.int .i64 1)) from by
                              rw [ev2, ev1]
                              exact (K3.out.end1 ac c g 2 hl).is (fun j _ => congrFun t4.symm j))
                            replace ev1 := Lib.hid ev1
                            replace ev2 := Lib.hid ev2
                            replace hb4 := Lib.hid hb4
                            clear K4 K5 K3 hb3
                            go_upto_region 21 with (fail)
                            rw [← ev1.out]
                            clear c0 c1 c2 c3 c4 c5 c6 d0 d1 d2 d3 d4 d5 d6
                            have hq := hb4.out
                            obtain ⟨c0, d0⟩ := hq.one 0 rfl
                            obtain ⟨c1, d1⟩ := hq.one 1 rfl
                            obtain ⟨c2, d2⟩ := hq.one 2 rfl
                            obtain ⟨c3, d3⟩ := hq.one 3 rfl
                            obtain ⟨c4, d4⟩ := hq.one 4 rfl
                            obtain ⟨c5, d5⟩ := hq.one 5 rfl
                            obtain ⟨c6, d6⟩ := hq.one 6 rfl
                            clear hq r0 f0
                            go_upto_region 23 with (fail)
                            rw [← ev2.out]
                            clear c0 c1 c2 c3 c4 c5 c6 d0 d1 d2 d3 d4 d5 d6 r4 f4
                            go_wp2_with fail
                            go_meet
                            case rel => exact ⟨by first | rfl | go_num, rfl, rfl, KF⟩
                          · have jl : ¬ (ac : Int) + 1 < (n : Int) := by omega
                            have r5 : True := trivial
                            have KF := Lib.hid (show PlK p q tb tc n NM J ⟨ac + 1, 0, 0, TR⟩ wq TR w v2 from by
                              rw [ev2, ev1]
                              exact (K3.out.end2 ac c g 2 hl).is (fun j _ => congrFun t4.symm j))
                            replace ev1 := Lib.hid ev1
                            replace ev2 := Lib.hid ev2
                            replace hb4 := Lib.hid hb4
                            clear K4 K5 K3 hb3
                            go_upto_region 21 with (fail)
                            rw [← ev1.out]
                            clear c0 c1 c2 c3 c4 c5 c6 d0 d1 d2 d3 d4 d5 d6
                            have hq := hb4.out
                            obtain ⟨c0, d0⟩ := hq.one 0 rfl
                            obtain ⟨c1, d1⟩ := hq.one 1 rfl
                            obtain ⟨c2, d2⟩ := hq.one 2 rfl
                            obtain ⟨c3, d3⟩ := hq.one 3 rfl
                            obtain ⟨c4, d4⟩ := hq.one 4 rfl
                            obtain ⟨c5, d5⟩ := hq.one 5 rfl
                            obtain ⟨c6, d6⟩ := hq.one 6 rfl
                            clear hq r0 f0
                            go_upto_region 23 with (fail)
                            rw [← ev2.out]
                            clear c0 c1 c2 c3 c4 c5 c6 d0 d1 d2 d3 d4 d5 d6 r4 f4
                            go_wp2_with fail
                            go_meet
                            case rel => exact ⟨by first | rfl | go_num, rfl, rfl, KF⟩
                        · by_cases e2 : c + 1 = li
                          · have TT := T3.out e1 e2
                            injection TT with t1 t2 t3 t4
                            subst TC Tc Tg
                            clear T0 T2 T3
                            obtain ⟨v1, ev1⟩ : ∃ v1, v1 = wc.setCell ⟨wq, ac, none⟩ (.int .i64 3) := ⟨_, rfl⟩
                            have K4 := K3.out.set ac 3
                            rw [← ev1] at K4
                            have hb4 := hb3.out.beside ((Beside.of_below (Below.refl _ _)).setCell (p := ⟨wq, ac, none⟩) (.int .i64 3)) hvw.out
                            rw [← ev1] at hb4
                            have f5 := K4.w'.frozen (ac + 1)
                            have b1 : (G == ne) = false := beq_eq_false_iff_ne.2 e1
                            by_cases hl : ac + 1 < n
                            · have jl : (ac : Int) + 1 < (n : Int) := by omega
                              have r5 := K4.w'.cell hl
                              have KF := Lib.hid (show PlK p q tb tc n NM J ⟨ac + 1, 0, 0, TR⟩ wq TR w (v1.setCell ⟨wq, ac + 1, none⟩ (.int .i64 1)) from by
                                rw [ev1]
                                exact (K3.out.end3 ac c g hl).is (fun j _ => congrFun t4.symm j))
                              replace ev1 := Lib.hid ev1
                              replace hb4 := Lib.hid hb4
                              clear K4 K3 hb3
                              go_upto_region 21 with (fail)
                              rw [← ev1.out]
                              clear c0 c1 c2 c3 c4 c5 c6 d0 d1 d2 d3 d4 d5 d6
                              have hq := hb4.out
                              obtain ⟨c0, d0⟩ := hq.one 0 rfl
                              obtain ⟨c1, d1⟩ := hq.one 1 rfl
                              obtain ⟨c2, d2⟩ := hq.one 2 rfl
                              obtain ⟨c3, d3⟩ := hq.one 3 rfl
                              obtain ⟨c4, d4⟩ := hq.one 4 rfl
                              obtain ⟨c5, d5⟩ := hq.one 5 rfl
                              obtain ⟨c6, d6⟩ := hq.one 6 rfl
                              clear hq r0 f0
                              go_wp2_with fail
                              go_meet
                              case rel => exact ⟨by first | rfl | go_num, rfl, rfl, KF⟩
                            · have jl : ¬ (ac : Int) + 1 < (n : Int) := by omega
                              have r5 : True := trivial
                              have KF := Lib.hid (show PlK p q tb tc n NM J ⟨ac + 1, 0, 0, TR⟩ wq TR w v1 from by
                                rw [ev1]
                                exact (K3.out.end4 ac c g hl).is (fun j _ => congrFun t4.symm j))
                              replace ev1 := Lib.hid ev1
                              replace hb4 := Lib.hid hb4
                              clear K4 K3 hb3
                              go_upto_region 21 with (fail)
                              rw [← ev1.out]
                              clear c0 c1 c2 c3 c4 c5 c6 d0 d1 d2 d3 d4 d5 d6
                              have hq := hb4.out
                              obtain ⟨c0, d0⟩ := hq.one 0 rfl
                              obtain ⟨c1, d1⟩ := hq.one 1 rfl
                              obtain ⟨c2, d2⟩ := hq.one 2 rfl
                              obtain ⟨c3, d3⟩ := hq.one 3 rfl
                              obtain ⟨c4, d4⟩ := hq.one 4 rfl
                              obtain ⟨c5, d5⟩ := hq.one 5 rfl
                              obtain ⟨c6, d6⟩ := hq.one 6 rfl
                              clear hq r0 f0
                              go_wp2_with fail
                              go_meet
                              case rel => exact ⟨by first | rfl | go_num, rfl, rfl, KF⟩
                          · have TT := T0.out e1 e2
                            injection TT with t1 t2 t3 t4
                            subst TC Tc Tg
                            clear T0 T2 T3
                            have b1 : (G == ne) = false := beq_eq_false_iff_ne.2 e1
                            have b2 : (c + 1 == li) = false := beq_eq_false_iff_ne.2 e2
                            have KF := Lib.hid (show PlK p q tb tc n NM J ⟨ac, c + 1, G, TR⟩ wq TR w _ from K3.out.is (fun j _ => congrFun t4.symm j))
                            clear K3 hb3
                            go_wp2_with fail
                            go_meet
                            case rel => exact ⟨rfl, rfl, rfl, KF⟩
                  · have jc : ¬ (ac : Int) < (n : Int) := by omega
                    have hT := hT.out
                    unfold brStep at hT
                    rw [if_neg hcn] at hT
                    injection hT with t1 t2 t3 t4
                    subst t1 t2 t3 t4
                    clear HA CE
                    go_wp2_with fail
                    go_meet
                    case rel => exact ⟨rfl, rfl, rfl, K1⟩
              case rest =>
                as_aux_lemma =>
                  obtain ⟨rfl, rfl, rfl, K⟩ := hcut
                  clear K1 hT hi HX
                  have SG := bsignal p q tb tc n NM J ⟨TC, Tc, Tg, TR⟩ _ K.out.r.r hiT.out HJ.out
                  have SG : Calls Try.prog 11 #[.pointer (some ⟨p, 0, none⟩)] wc fun e w' => e = .returned (.tuple #[.int .i64 (sigI ⟨TC, Tc, Tg, TR⟩ n J), .bool (decide (TC < n))]) ∧ w' = wc := SG
                  have DN := bdone p q tb tc n NM J ⟨TC, Tc, Tg, TR⟩ _ K.out.r.r hiT.out HJ.out
                  have DN : Calls Try.prog 14 #[.pointer (some ⟨p, 0, none⟩)] wc fun e w' => e = .returned (.bool (!decide (TC < n))) ∧ w' = wc := DN
                  have RSL := Lib.hid (fun u (kk : BrR p q tb tc n NM J ⟨TC, Tc, Tg, TR⟩ u) => show Calls Try.prog 13 #[.pointer (some ⟨p, 0, none⟩)] u fun e w' => ∃ v, e = .returned v ∧ ResI v n TR u w' from bresults p q tb tc n NM J ⟨TC, Tc, Tg, TR⟩ u kk hiT.out HJ.out)
                  have TXT := Lib.hid (fun u (kk : BrR p q tb tc n NM J ⟨TC, Tc, Tg, TR⟩ u) => btext p q tb tc n NM J TC Tc Tg TR u kk HJ.out)
                  have tcl : TC ≤ n := hiT.out.le
                  replace DN := Lib.hid DN
                  replace SG := Lib.hid SG
                  go_wp2_with fail
                  refine SG.out.mono ?_
                  rintro e w' ⟨rfl, hw⟩
                  subst w'
                  go_upto_region 29 with (fail)
                  go_cut [13, 14, 157] from 43 to 199 (fun s13 s14 s u => s = .bool false ∧ Hid (PlK p q tb tc n NM J ⟨TC, Tc, Tg, TR⟩ wq TR w u))
                  case first =>
                    as_aux_lemma =>
                      by_cases hTn : TC < n
                      · obtain ⟨-, k1, -⟩ := CE.out TC hTn _ K.out.r.b
                        have dT := decide_eq_true hTn
                        have sT : sigI ⟨TC, Tc, Tg, TR⟩ n J = J TC 1 := if_pos hTn
                        rw [dT] at DN
                        simp only [dT, sT]
                        have jc : (TC : Int) < (n : Int) := by omega
                        generalize J TC 1 = sg at *
                        clear CE RSL TXT HA hiT
                        go_wp2_with fail
                        refine DN.out.mono ?_
                        rintro e w' ⟨rfl, hw⟩
                        subst w'
                        go_wp2_with fail
                        go_meet
                        case rel => exact ⟨by first | rfl | simp, K⟩
                      · have dT := decide_eq_false hTn
                        have sT : sigI ⟨TC, Tc, Tg, TR⟩ n J = 0 := if_neg hTn
                        rw [dT] at DN
                        simp only [dT, sT]
                        have jc : ¬ (TC : Int) < (n : Int) := by omega
                        clear CE RSL TXT HA hiT
                        go_wp2_with fail
                        refine DN.out.mono ?_
                        rintro e w' ⟨rfl, hw⟩
                        subst w'
                        go_wp2_with fail
                        go_meet
                        case rel => exact ⟨by first | rfl | simp, K⟩
                  case rest =>
                    as_aux_lemma =>
                      clear K SG DN
                      obtain ⟨rfl, K⟩ := hcut
                      go_wp2_with fail
                      refine (RSL.out _ K.out.r.r).mono ?_
                      rintro e w5 ⟨v, rfl, RI⟩
                      have RO := RI.o
                      have hb := RI.b
                      have K2 := Lib.hid (K.out.bel hb)
                      clear hb K
                      have K := K2
                      clear K2
                      clear RI RSL
                      obtain ⟨g2, gc, rfl, hg1, hg2, hg3⟩ := RO
                      replace hg2 := Lib.hid hg2
                      replace hg3 := Lib.hid hg3
                      clear hg1
                      go_wp2
                      go_loopw [17, 16] (fun i' s16 v => ∃ j : Nat, j ≤ n ∧ i' = .int .i64 (j : Int) ∧ s16 = .string (txB NM TR j) ∧ Hid (PlK p q tb tc n NM J ⟨TC, Tc, Tg, TR⟩ wq TR w v) ∧ Hid (g2 < v.heap.size) ∧ Hid (∀ i, i < n → v.cell? ⟨g2, i, none⟩ = some (.int .i64 (TR i)))) (fun i' _ _ => n - (intOf i').toNat)
                      case atStart => exact ⟨0, by omega, rfl, rfl, K, hg2, hg3⟩
                      case round =>
                        as_aux_lemma =>
                          clear K hg2 hg3
                          obtain ⟨j, hjn, rfl, rfl, K, hg2, hg3⟩ := hrel
                          by_cases hlt : j < n
                          · have j1 : (j : Int) < (n : Int) := by omega
                            have y2 : IntKind.i64.wrap ((j : Int) + 1) = (j : Int) + 1 := by rw [IntKind.wrap_i64]; omega
                            have q1 : decide ((n : Int) ≤ (j : Int)) = false := decide_eq_false (by omega)
                            have q2 : decide (n ≤ j) = false := decide_eq_false (by omega)
                            obtain ⟨k0, -⟩ := CE.out j hlt _ K.out.r.b
                            have m0 := hg3.out j hlt
                            have r0 := K.out.w'.cell hlt
                            have s1 := txB_size (NM := NM) (RS := TR) (k := j) (fun i hi => HJ.out.nm i (by omega))
                            have s2 := HJ.out.nm j hlt
                            have s3 := wdB_size (TR j)
                            have e1 : (⟨#[32]⟩ : ByteArray).size = 1 := rfl
                            have e2 : (⟨#[10]⟩ : ByteArray).size = 1 := rfl
                            have ad1 : ∀ u, (Op.stringOp .add (txB NM TR j) (NM j)).run Try.prog u = .ok (.string (txB NM TR j ++ NM j)) u := fun u => addS _ _ _ (by simp only [ByteArray.size_append]; unfold maxLen; omega)
                            have ad2 : ∀ u, (Op.stringOp .add (txB NM TR j ++ NM j) ⟨#[32]⟩).run Try.prog u = .ok (.string (txB NM TR j ++ NM j ++ ⟨#[32]⟩)) u := fun u => addS _ _ _ (by simp only [ByteArray.size_append]; unfold maxLen; omega)
                            have ad3 : ∀ u, (Op.stringOp .add (txB NM TR j ++ NM j ++ ⟨#[32]⟩) (wdB (TR j))).run Try.prog u = .ok (.string (txB NM TR j ++ NM j ++ ⟨#[32]⟩ ++ wdB (TR j))) u := fun u => addS _ _ _ (by simp only [ByteArray.size_append]; unfold maxLen; omega)
                            have ad4 : ∀ u, (Op.stringOp .add (txB NM TR j ++ NM j ++ ⟨#[32]⟩ ++ wdB (TR j)) ⟨#[10]⟩).run Try.prog u = .ok (.string (txB NM TR (j + 1))) u := fun u => by
                              rw [addS _ _ _ (by simp only [ByteArray.size_append]; unfold maxLen; omega)]
                              rw [show txB NM TR j ++ NM j ++ ⟨#[32]⟩ ++ wdB (TR j) ++ ⟨#[10]⟩ = txB NM TR (j + 1) from by
                                show _ = txB NM TR j ++ (NM j ++ ⟨#[32]⟩ ++ wdB (TR j) ++ ⟨#[10]⟩)
                                simp only [ByteArray.append_assoc]]
                            clear s1 s2 s3 e1 e2
                            obtain ⟨tx1, htx⟩ : ∃ z, z = txB NM TR (j + 1) := ⟨_, rfl⟩
                            rw [← htx] at ad4
                            replace htx := Lib.hid htx
                            generalize txB NM TR j = tx0 at *
                            generalize NM j = nm at *
                            generalize TR j = rj at *
                            go_wp2_with fail
                            refine region_moves (fun u => u.cell? ⟨g2, j, none⟩ = some (.int .i64 rj) ∧ u.cell? ⟨wq, j, none⟩ = some (.int .i64 rj)) [] [(.free, 0), (.free, 1), (.free, 2), (.free, 3), (.free, 4), (.free, 5), (.free, 6), (.free, 7), (.take, 8), (.free, 9), (.free, 10), (.free, 11), (.take, 12), (.free, 13), (.free, 14)] _ (by kernel_rfl) (by kernel_rfl) (by kernel_rfl) (by kernel_rfl) (by decide) rfl (fun _ _ _ _ _ h => h) ?_
                            simp only [List.filterMap_cons, List.filterMap_nil, List.getElem?_toArray, List.getElem?_cons_zero, List.getElem?_cons_succ, Option.map_some]
                            iterate 8
                              first
                                | (refine mv_free ?_ (Or.inl ⟨by rfl, ?_⟩) (⟨m0, r0⟩) ?_
                                   rotate_left 1
                                   · intro u
                                     go_simp
                                     try simp only [q1]
                                     try simp only [q2]
                                     try simp only [q3]
                                     try simp only [q4]
                                     try with_reducible rfl
                                   simp only [Act.put, List.setIfInBounds_toArray, List.set_cons_zero, List.set_cons_succ])
                                | (refine mv_free _ (Or.inr ⟨by rfl, rfl⟩) (⟨m0, r0⟩) ?_
                                   simp only [Act.put, List.setIfInBounds_toArray, List.set_cons_zero, List.set_cons_succ])
                            iterate 1
                              first
                                | (refine mv_take ?_ (Or.inl ⟨by rfl, ?_⟩) (⟨m0, r0⟩) ?_
                                   rotate_left 1
                                   · intro u hu
                                     (try dsimp only at hu)
                                     go_simp
                                     try with_reducible rfl
                                   simp only [Act.put, List.setIfInBounds_toArray, List.set_cons_zero, List.set_cons_succ])
                                | (refine mv_take _ (Or.inr ⟨by rfl, rfl⟩) (⟨m0, r0⟩) ?_
                                   simp only [Act.put, List.setIfInBounds_toArray, List.set_cons_zero, List.set_cons_succ])
                            iterate 3
                              first
                                | (refine mv_free ?_ (Or.inl ⟨by rfl, ?_⟩) (⟨m0, r0⟩) ?_
                                   rotate_left 1
                                   · intro u
                                     go_simp
                                     try simp only [q1]
                                     try simp only [q2]
                                     try simp only [q3]
                                     try simp only [q4]
                                     try with_reducible rfl
                                   simp only [Act.put, List.setIfInBounds_toArray, List.set_cons_zero, List.set_cons_succ])
                                | (refine mv_free _ (Or.inr ⟨by rfl, rfl⟩) (⟨m0, r0⟩) ?_
                                   simp only [Act.put, List.setIfInBounds_toArray, List.set_cons_zero, List.set_cons_succ])
                            iterate 1
                              first
                                | (refine mv_take ?_ (Or.inl ⟨by rfl, ?_⟩) (⟨m0, r0⟩) ?_
                                   rotate_left 1
                                   · intro u hu
                                     (try dsimp only at hu)
                                     go_simp
                                     try with_reducible rfl
                                   simp only [Act.put, List.setIfInBounds_toArray, List.set_cons_zero, List.set_cons_succ])
                                | (refine mv_take _ (Or.inr ⟨by rfl, rfl⟩) (⟨m0, r0⟩) ?_
                                   simp only [Act.put, List.setIfInBounds_toArray, List.set_cons_zero, List.set_cons_succ])
                            iterate 2
                              first
                                | (refine mv_free ?_ (Or.inl ⟨by rfl, ?_⟩) (⟨m0, r0⟩) ?_
                                   rotate_left 1
                                   · intro u
                                     go_simp
                                     try simp only [q1]
                                     try simp only [q2]
                                     try simp only [q3]
                                     try simp only [q4]
                                     try with_reducible rfl
                                   simp only [Act.put, List.setIfInBounds_toArray, List.set_cons_zero, List.set_cons_succ])
                                | (refine mv_free _ (Or.inr ⟨by rfl, rfl⟩) (⟨m0, r0⟩) ?_
                                   simp only [Act.put, List.setIfInBounds_toArray, List.set_cons_zero, List.set_cons_succ])
                            refine mv_done ?_
                            replace K := Lib.hid (K.out.bel (Below.refl _ _).drew)
                            go_wp2_with fail
                            refine region_moves (fun u => u.cell? ⟨b, off + j * 7, none⟩ = some (.string nm) ∧ u.cell? ⟨wq, j, none⟩ = some (.int .i64 rj)) [] [(.free, 0), (.free, 1), (.free, 2), (.free, 3), (.free, 4), (.take, 5), (.free, 6), (.free, 7), (.free, 8), (.free, 9), (.free, 10), (.take, 11), (.step, 12), (.free, 13), (.free, 14), (.free, 15)] _ (by kernel_rfl) (by kernel_rfl) (by kernel_rfl) (by kernel_rfl) (by decide) rfl (fun _ _ _ _ _ h => h) ?_
                            simp only [List.filterMap_cons, List.filterMap_nil, List.getElem?_toArray, List.getElem?_cons_zero, List.getElem?_cons_succ, Option.map_some]
                            iterate 5
                              first
                                | (refine mv_free ?_ (Or.inl ⟨by rfl, ?_⟩) (⟨k0, r0⟩) ?_
                                   rotate_left 1
                                   · intro u
                                     go_simp
                                     try simp only [q1]
                                     try simp only [q2]
                                     try simp only [q3]
                                     try simp only [q4]
                                     try with_reducible rfl
                                   simp only [Act.put, List.setIfInBounds_toArray, List.set_cons_zero, List.set_cons_succ])
                                | (refine mv_free _ (Or.inr ⟨by rfl, rfl⟩) (⟨k0, r0⟩) ?_
                                   simp only [Act.put, List.setIfInBounds_toArray, List.set_cons_zero, List.set_cons_succ])
                            iterate 1
                              first
                                | (refine mv_take ?_ (Or.inl ⟨by rfl, ?_⟩) (⟨k0, r0⟩) ?_
                                   rotate_left 1
                                   · intro u hu
                                     (try dsimp only at hu)
                                     go_simp
                                     try with_reducible rfl
                                   simp only [Act.put, List.setIfInBounds_toArray, List.set_cons_zero, List.set_cons_succ])
                                | (refine mv_take _ (Or.inr ⟨by rfl, rfl⟩) (⟨k0, r0⟩) ?_
                                   simp only [Act.put, List.setIfInBounds_toArray, List.set_cons_zero, List.set_cons_succ])
                            iterate 5
                              first
                                | (refine mv_free ?_ (Or.inl ⟨by rfl, ?_⟩) (⟨k0, r0⟩) ?_
                                   rotate_left 1
                                   · intro u
                                     go_simp
                                     try simp only [q1]
                                     try simp only [q2]
                                     try simp only [q3]
                                     try simp only [q4]
                                     try with_reducible rfl
                                   simp only [Act.put, List.setIfInBounds_toArray, List.set_cons_zero, List.set_cons_succ])
                                | (refine mv_free _ (Or.inr ⟨by rfl, rfl⟩) (⟨k0, r0⟩) ?_
                                   simp only [Act.put, List.setIfInBounds_toArray, List.set_cons_zero, List.set_cons_succ])
                            iterate 1
                              first
                                | (refine mv_take ?_ (Or.inl ⟨by rfl, ?_⟩) (⟨k0, r0⟩) ?_
                                   rotate_left 1
                                   · intro u hu
                                     (try dsimp only at hu)
                                     go_simp
                                     try with_reducible rfl
                                   simp only [Act.put, List.setIfInBounds_toArray, List.set_cons_zero, List.set_cons_succ])
                                | (refine mv_take _ (Or.inr ⟨by rfl, rfl⟩) (⟨k0, r0⟩) ?_
                                   simp only [Act.put, List.setIfInBounds_toArray, List.set_cons_zero, List.set_cons_succ])
                            refine mv_step (fun K hK => ?_)
                            go_simp
                            refine (bword2 _ _).mono ?_
                            rintro e w' ⟨rfl, hw⟩
                            subst w'
                            go_wp2_with fail
                            refine hK.out _ _ _ (fun u hu => hu) (⟨k0, r0⟩) ?_
                            clear hK K
                            iterate 3
                              first
                                | (refine mv_free ?_ (Or.inl ⟨by rfl, ?_⟩) (⟨k0, r0⟩) ?_
                                   rotate_left 1
                                   · intro u
                                     go_simp
                                     try simp only [q1]
                                     try simp only [q2]
                                     try simp only [q3]
                                     try simp only [q4]
                                     try with_reducible rfl
                                   simp only [Act.put, List.setIfInBounds_toArray, List.set_cons_zero, List.set_cons_succ])
                                | (refine mv_free _ (Or.inr ⟨by rfl, rfl⟩) (⟨k0, r0⟩) ?_
                                   simp only [Act.put, List.setIfInBounds_toArray, List.set_cons_zero, List.set_cons_succ])
                            refine mv_done ?_
                            have K2 := Lib.hid (K.out.bel (Below.refl _ _).drew)
                            clear K
                            go_wp2
                            go_roundw
                            case rel => exact ⟨j + 1, by omega, by first | rfl | go_num, by rw [htx.out], K2, hg2, hg3⟩
                            case measure => simp [intOf] <;> omega
                          · obtain rfl : j = n := by omega
                            go_wp2_with fail
                            refine (TXT.out _ K.out.r.r).mono ?_
                            rintro e w' ⟨rfl, hb⟩
                            have K2 := Lib.hid (K.out.bel hb)
                            clear hb K hg2 hg3
                            generalize txB NM TR j = tx0 at *
                            go_wp2
                            go_roundw
                            case rel => exact ⟨k + 1, TC, Tc, Tg, TR, by omega, by first | rfl | go_num, rfl, rfl, rfl, hiT, K2⟩
                            case measure => simp [intOf] <;> omega
            · obtain rfl : k = A.length := by omega
              have AB := babort p q tb tc n NM J ⟨ac, c, g, RS⟩ _ K.out.r.r hi.out HJ.out
              have AV := Lib.hid (fun i (h : i < n) => show abF RS n i = if i < ac then RS i else 3 from abF_val hi.out h)
              have hiA := Lib.hid (brAb_ok hi.out)
              have RSL := Lib.hid (fun u (kk : BrR p q tb tc n NM J (brAb n ⟨ac, c, g, RS⟩) u) => show Calls Try.prog 13 #[.pointer (some ⟨p, 0, none⟩)] u fun e w' => ∃ v, e = .returned v ∧ ResI v n (abF RS n) u w' from bresults p q tb tc n NM J _ u kk hiA.out HJ.out)
              have DN := Lib.hid (fun u (kk : BrR p q tb tc n NM J (brAb n ⟨ac, c, g, RS⟩) u) => show Calls Try.prog 14 #[.pointer (some ⟨p, 0, none⟩)] u fun e w' => e = .returned (.bool true) ∧ w' = u from by
                have := bdone p q tb tc n NM J _ u kk hiA.out HJ.out
                rw [show decide ((brAb n ⟨ac, c, g, RS⟩).cur < n) = false from decide_eq_false (Nat.lt_irrefl n)] at this
                exact this)
              replace AB := Lib.hid AB
              have acl : ac ≤ n := hi.out.le
              clear hi hiA CE HA
              go_wp2_with fail
              refine (AB.out).mono ?_
              rintro e w4 ⟨rfl, r, e2⟩
              have K2 := Lib.hid (K.out.run r e2)
              clear r e2 K AB
              have K := K2
              clear K2
              go_wp2_with fail
              refine (RSL.out _ K.out.r.r).mono ?_
              rintro e w5 ⟨v, rfl, RI⟩
              have RO := RI.o
              have hb := RI.b
              have K2 := Lib.hid (K.out.bel hb)
              clear hb K
              have K := K2
              clear K2
              clear RI RSL
              obtain ⟨g2, gc, rfl, hg1, hg2, hg3⟩ := RO
              replace hg3 := Lib.hid hg3
              clear hg1 hg2
              go_wp2
              go_loopw [19] (fun i' v => ∃ j : Nat, j ≤ n ∧ i' = .int .i64 (j : Int) ∧ Hid (PlK p q tb tc n NM J (brAb n ⟨ac, c, g, RS⟩) wq RS w v) ∧ Hid (∀ i, i < n → v.cell? ⟨g2, i, none⟩ = some (.int .i64 (abF RS n i)))) (fun i' _ => n - (intOf i').toNat)
              case atStart => exact ⟨0, by omega, rfl, K, hg3⟩
              case round =>
                as_aux_lemma =>
                  clear K hg3
                  obtain ⟨j, hjn, rfl, K, hg3⟩ := hrel
                  by_cases hlt : j < n
                  · have j1 : (j : Int) < (n : Int) := by omega
                    have y2 : IntKind.i64.wrap ((j : Int) + 1) = (j : Int) + 1 := by rw [IntKind.wrap_i64]; omega
                    have m0 := (hg3.out j hlt).trans (congrArg (fun z => some (Value.int .i64 z)) (AV.out j hlt))
                    have m0 : wr.cell? ⟨g2, j, none⟩ = some (.int .i64 (if j < ac then RS j else 3)) := m0
                    have r0 := K.out.w'.cell hlt
                    have K2 := Lib.hid (K.out.bel (Below.refl _ _).drew)
                    by_cases hja : j < ac
                    · rw [if_pos hja] at m0
                      have jj : (j : Int) < (ac : Int) := by omega
                      have q1 : decide ((j : Int) < (ac : Int)) = true := decide_eq_true jj
                      have q2 : decide ((ac : Int) ≤ (j : Int)) = false := decide_eq_false (by omega)
                      have q3 : decide (j < ac) = true := decide_eq_true hja
                      have q4 : decide (ac ≤ j) = false := decide_eq_false (by omega)
                      generalize RS j = rj at m0 r0
                      go_wp2_with fail
                      refine region_moves (fun u => u.cell? ⟨g2, j, none⟩ = some (.int .i64 rj) ∧ u.cell? ⟨wq, j, none⟩ = some (.int .i64 rj)) [] [(.free, 0), (.free, 1), (.free, 2), (.free, 3), (.free, 4), (.free, 5), (.free, 6), (.take, 7), (.free, 8), (.free, 9), (.free, 10), (.take, 11), (.free, 12), (.free, 13), (.free, 14), (.free, 15), (.free, 16), (.free, 17), (.free, 18), (.free, 19), (.free, 20), (.free, 21), (.take, 22), (.free, 23), (.free, 24), (.free, 25)] _ (by kernel_rfl) (by kernel_rfl) (by kernel_rfl) (by kernel_rfl) (by decide) rfl (fun _ _ _ _ _ h => h) ?_
                      simp only [List.filterMap_cons, List.filterMap_nil, List.getElem?_toArray, List.getElem?_cons_zero, List.getElem?_cons_succ, Option.map_some]
                      iterate 7
                        first
                          | (refine mv_free ?_ (Or.inl ⟨by rfl, ?_⟩) (⟨m0, r0⟩) ?_
                             rotate_left 1
                             · intro u
                               go_simp
                               try simp only [q1]
                               try simp only [q2]
                               try simp only [q3]
                               try simp only [q4]
                               try with_reducible rfl
                             simp only [Act.put, List.setIfInBounds_toArray, List.set_cons_zero, List.set_cons_succ])
                          | (refine mv_free _ (Or.inr ⟨by rfl, rfl⟩) (⟨m0, r0⟩) ?_
                             simp only [Act.put, List.setIfInBounds_toArray, List.set_cons_zero, List.set_cons_succ])
                      iterate 1
                        first
                          | (refine mv_take ?_ (Or.inl ⟨by rfl, ?_⟩) (⟨m0, r0⟩) ?_
                             rotate_left 1
                             · intro u hu
                               (try dsimp only at hu)
                               go_simp
                               try with_reducible rfl
                             simp only [Act.put, List.setIfInBounds_toArray, List.set_cons_zero, List.set_cons_succ])
                          | (refine mv_take _ (Or.inr ⟨by rfl, rfl⟩) (⟨m0, r0⟩) ?_
                             simp only [Act.put, List.setIfInBounds_toArray, List.set_cons_zero, List.set_cons_succ])
                      iterate 3
                        first
                          | (refine mv_free ?_ (Or.inl ⟨by rfl, ?_⟩) (⟨m0, r0⟩) ?_
                             rotate_left 1
                             · intro u
                               go_simp
                               try simp only [q1]
                               try simp only [q2]
                               try simp only [q3]
                               try simp only [q4]
                               try with_reducible rfl
                             simp only [Act.put, List.setIfInBounds_toArray, List.set_cons_zero, List.set_cons_succ])
                          | (refine mv_free _ (Or.inr ⟨by rfl, rfl⟩) (⟨m0, r0⟩) ?_
                             simp only [Act.put, List.setIfInBounds_toArray, List.set_cons_zero, List.set_cons_succ])
                      iterate 1
                        first
                          | (refine mv_take ?_ (Or.inl ⟨by rfl, ?_⟩) (⟨m0, r0⟩) ?_
                             rotate_left 1
                             · intro u hu
                               (try dsimp only at hu)
                               go_simp
                               try with_reducible rfl
                             simp only [Act.put, List.setIfInBounds_toArray, List.set_cons_zero, List.set_cons_succ])
                          | (refine mv_take _ (Or.inr ⟨by rfl, rfl⟩) (⟨m0, r0⟩) ?_
                             simp only [Act.put, List.setIfInBounds_toArray, List.set_cons_zero, List.set_cons_succ])
                      iterate 10
                        first
                          | (refine mv_free ?_ (Or.inl ⟨by rfl, ?_⟩) (⟨m0, r0⟩) ?_
                             rotate_left 1
                             · intro u
                               go_simp
                               try simp only [q1]
                               try simp only [q2]
                               try simp only [q3]
                               try simp only [q4]
                               try with_reducible rfl
                             simp only [Act.put, List.setIfInBounds_toArray, List.set_cons_zero, List.set_cons_succ])
                          | (refine mv_free _ (Or.inr ⟨by rfl, rfl⟩) (⟨m0, r0⟩) ?_
                             simp only [Act.put, List.setIfInBounds_toArray, List.set_cons_zero, List.set_cons_succ])
                      iterate 1
                        first
                          | (refine mv_take ?_ (Or.inl ⟨by rfl, ?_⟩) (⟨m0, r0⟩) ?_
                             rotate_left 1
                             · intro u hu
                               (try dsimp only at hu)
                               go_simp
                               try with_reducible rfl
                             simp only [Act.put, List.setIfInBounds_toArray, List.set_cons_zero, List.set_cons_succ])
                          | (refine mv_take _ (Or.inr ⟨by rfl, rfl⟩) (⟨m0, r0⟩) ?_
                             simp only [Act.put, List.setIfInBounds_toArray, List.set_cons_zero, List.set_cons_succ])
                      iterate 3
                        first
                          | (refine mv_free ?_ (Or.inl ⟨by rfl, ?_⟩) (⟨m0, r0⟩) ?_
                             rotate_left 1
                             · intro u
                               go_simp
                               try simp only [q1]
                               try simp only [q2]
                               try simp only [q3]
                               try simp only [q4]
                               try with_reducible rfl
                             simp only [Act.put, List.setIfInBounds_toArray, List.set_cons_zero, List.set_cons_succ])
                          | (refine mv_free _ (Or.inr ⟨by rfl, rfl⟩) (⟨m0, r0⟩) ?_
                             simp only [Act.put, List.setIfInBounds_toArray, List.set_cons_zero, List.set_cons_succ])
                      refine mv_done ?_
                      go_wp2
                      go_roundw
                      case rel => exact ⟨j + 1, by omega, by first | rfl | go_num, K2, hg3⟩
                      case measure => simp [intOf] <;> omega
                    · rw [if_neg hja] at m0
                      have jj : ¬ (j : Int) < (ac : Int) := by omega
                      have q1 : decide ((j : Int) < (ac : Int)) = false := decide_eq_false jj
                      have q2 : decide ((ac : Int) ≤ (j : Int)) = true := decide_eq_true (by omega)
                      have q3 : decide (j < ac) = false := decide_eq_false hja
                      have q4 : decide (ac ≤ j) = true := decide_eq_true (by omega)
                      generalize RS j = rj at r0
                      go_wp2_with fail
                      refine region_moves (fun u => u.cell? ⟨g2, j, none⟩ = some (.int .i64 3) ∧ u.cell? ⟨wq, j, none⟩ = some (.int .i64 rj)) [] [(.free, 0), (.free, 1), (.free, 2), (.free, 3), (.free, 4), (.free, 5), (.free, 6), (.take, 7), (.free, 8), (.free, 9), (.free, 10), (.take, 11), (.free, 12), (.free, 13), (.free, 14), (.free, 15), (.free, 16), (.free, 17), (.free, 18), (.free, 19), (.free, 20), (.free, 21), (.take, 22), (.free, 23), (.free, 24), (.free, 25)] _ (by kernel_rfl) (by kernel_rfl) (by kernel_rfl) (by kernel_rfl) (by decide) rfl (fun _ _ _ _ _ h => h) ?_
                      simp only [List.filterMap_cons, List.filterMap_nil, List.getElem?_toArray, List.getElem?_cons_zero, List.getElem?_cons_succ, Option.map_some]
                      iterate 7
                        first
                          | (refine mv_free ?_ (Or.inl ⟨by rfl, ?_⟩) (⟨m0, r0⟩) ?_
                             rotate_left 1
                             · intro u
                               go_simp
                               try simp only [q1]
                               try simp only [q2]
                               try simp only [q3]
                               try simp only [q4]
                               try with_reducible rfl
                             simp only [Act.put, List.setIfInBounds_toArray, List.set_cons_zero, List.set_cons_succ])
                          | (refine mv_free _ (Or.inr ⟨by rfl, rfl⟩) (⟨m0, r0⟩) ?_
                             simp only [Act.put, List.setIfInBounds_toArray, List.set_cons_zero, List.set_cons_succ])
                      iterate 1
                        first
                          | (refine mv_take ?_ (Or.inl ⟨by rfl, ?_⟩) (⟨m0, r0⟩) ?_
                             rotate_left 1
                             · intro u hu
                               (try dsimp only at hu)
                               go_simp
                               try with_reducible rfl
                             simp only [Act.put, List.setIfInBounds_toArray, List.set_cons_zero, List.set_cons_succ])
                          | (refine mv_take _ (Or.inr ⟨by rfl, rfl⟩) (⟨m0, r0⟩) ?_
                             simp only [Act.put, List.setIfInBounds_toArray, List.set_cons_zero, List.set_cons_succ])
                      iterate 3
                        first
                          | (refine mv_free ?_ (Or.inl ⟨by rfl, ?_⟩) (⟨m0, r0⟩) ?_
                             rotate_left 1
                             · intro u
                               go_simp
                               try simp only [q1]
                               try simp only [q2]
                               try simp only [q3]
                               try simp only [q4]
                               try with_reducible rfl
                             simp only [Act.put, List.setIfInBounds_toArray, List.set_cons_zero, List.set_cons_succ])
                          | (refine mv_free _ (Or.inr ⟨by rfl, rfl⟩) (⟨m0, r0⟩) ?_
                             simp only [Act.put, List.setIfInBounds_toArray, List.set_cons_zero, List.set_cons_succ])
                      iterate 1
                        first
                          | (refine mv_take ?_ (Or.inl ⟨by rfl, ?_⟩) (⟨m0, r0⟩) ?_
                             rotate_left 1
                             · intro u hu
                               (try dsimp only at hu)
                               go_simp
                               try with_reducible rfl
                             simp only [Act.put, List.setIfInBounds_toArray, List.set_cons_zero, List.set_cons_succ])
                          | (refine mv_take _ (Or.inr ⟨by rfl, rfl⟩) (⟨m0, r0⟩) ?_
                             simp only [Act.put, List.setIfInBounds_toArray, List.set_cons_zero, List.set_cons_succ])
                      iterate 10
                        first
                          | (refine mv_free ?_ (Or.inl ⟨by rfl, ?_⟩) (⟨m0, r0⟩) ?_
                             rotate_left 1
                             · intro u
                               go_simp
                               try simp only [q1]
                               try simp only [q2]
                               try simp only [q3]
                               try simp only [q4]
                               try with_reducible rfl
                             simp only [Act.put, List.setIfInBounds_toArray, List.set_cons_zero, List.set_cons_succ])
                          | (refine mv_free _ (Or.inr ⟨by rfl, rfl⟩) (⟨m0, r0⟩) ?_
                             simp only [Act.put, List.setIfInBounds_toArray, List.set_cons_zero, List.set_cons_succ])
                      iterate 1
                        first
                          | (refine mv_take ?_ (Or.inl ⟨by rfl, ?_⟩) (⟨m0, r0⟩) ?_
                             rotate_left 1
                             · intro u hu
                               (try dsimp only at hu)
                               go_simp
                               try with_reducible rfl
                             simp only [Act.put, List.setIfInBounds_toArray, List.set_cons_zero, List.set_cons_succ])
                          | (refine mv_take _ (Or.inr ⟨by rfl, rfl⟩) (⟨m0, r0⟩) ?_
                             simp only [Act.put, List.setIfInBounds_toArray, List.set_cons_zero, List.set_cons_succ])
                      iterate 3
                        first
                          | (refine mv_free ?_ (Or.inl ⟨by rfl, ?_⟩) (⟨m0, r0⟩) ?_
                             rotate_left 1
                             · intro u
                               go_simp
                               try simp only [q1]
                               try simp only [q2]
                               try simp only [q3]
                               try simp only [q4]
                               try with_reducible rfl
                             simp only [Act.put, List.setIfInBounds_toArray, List.set_cons_zero, List.set_cons_succ])
                          | (refine mv_free _ (Or.inr ⟨by rfl, rfl⟩) (⟨m0, r0⟩) ?_
                             simp only [Act.put, List.setIfInBounds_toArray, List.set_cons_zero, List.set_cons_succ])
                      refine mv_done ?_
                      go_wp2
                      go_roundw
                      case rel => exact ⟨j + 1, by omega, by first | rfl | go_num, K2, hg3⟩
                      case measure => simp [intOf] <;> omega
                  · obtain rfl : j = n := by omega
                    clear hg3 AV
                    go_wp2_with fail
                    refine (DN.out _ K.out.r.r).mono ?_
                    rintro e w' ⟨rfl, hw⟩
                    subst w'
                    go_wp2_with fail
                    refine (lives48 _).mono ?_
                    rintro e w' ⟨rfl, hb⟩
                    have B2 := Lib.hid (K.out.r.b.trans (hb.mono K.out.r.b.size))
                    clear hb
                    go_wp2
                    go_ret
                    exact ⟨rfl, B2.out⟩
end Go.Proofs.Ytecpmffmmiogfab
