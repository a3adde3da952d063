/- The law BiteEnds; walked. -/
import Derived.Test.YtecpmffmmiogfabBite10
import Derived.Test.YtecpmffmmiogfabOw
namespace Go.Proofs.Ytecpmffmmiogfab
open Go.ChangeShapes Go.WideShapes Go.ChangeAt Go.RowKit
set_option linter.unusedVariables false
set_option linter.unusedSimpArgs false
theorem BrR.tlt {p q tb tc n : Nat} {NM : Nat → ByteArray} {J : Nat → Nat → Int} {s : BrSt} {w : World} (h : BrR p q tb tc n NM J s w) (h1 : 1 ≤ n) : tb < w.heap.size := by
  obtain ⟨b, off, e, hlt, -⟩ := h.t.at (show 0 < n from h1)
  injection e with e
  injection e with e1 e2
  subst e1
  exact hlt
theorem RowIs.cell1 {k : IntKind} {w : World} {a : Option Addr} {l : List Int} (h : RowIs k w a l) {i : Nat} (hi : i < l.length) : ∃ b off, a = some ⟨b, off, none⟩ ∧ w.cell? ⟨b, off + i, none⟩ = some (.int k (l.getD i 0)) := by
  obtain ⟨b, off, e, hb, hc⟩ := h.at hi
  exact ⟨b, off, e, hc⟩
/-- Two runs, apart. -/
structure Two (p q tb tc p2 q2 tb2 tc2 n : Nat) (NM : Nat → ByteArray) (J : Nat → Nat → Int) (s s2 : BrSt) (w u : World) : Prop where
  r : NewK p q tb tc n NM J s w u
  f : BrR p2 q2 tb2 tc2 n NM J s2 u
  m : ∃ M, p < M ∧ q < M ∧ tb < M ∧ M ≤ p2 ∧ M ≤ q2 ∧ M ≤ tb2
theorem Two.bel {p q tb tc p2 q2 tb2 tc2 n : Nat} {NM : Nat → ByteArray} {J : Nat → Nat → Int} {s s2 : BrSt} {w u u' : World} (h : Two p q tb tc p2 q2 tb2 tc2 n NM J s s2 w u) (k : Below u.heap.size u u') : Two p q tb tc p2 q2 tb2 tc2 n NM J s s2 w u' := ⟨h.r.bel k, h.f.bel k, h.m⟩
theorem Two.one {p q tb tc p2 q2 tb2 tc2 n : Nat} {NM : Nat → ByteArray} {J : Nat → Nat → Int} {s s' s2 : BrSt} {w u u' : World} (h : Two p q tb tc p2 q2 tb2 tc2 n NM J s s2 w u) (r : BrR p q tb tc n NM J s' u') (k : Bes2 p q u u') : Two p q tb tc p2 q2 tb2 tc2 n NM J s' s2 w u' := by
  obtain ⟨M, h1, h2, h3, h4, h5, h6⟩ := h.m
  exact ⟨h.r.next r k, h.f.bes2 k (by omega) (by omega) (by omega) (by omega) (by omega) (by omega), h.m⟩
theorem Two.two {p q tb tc p2 q2 tb2 tc2 n : Nat} {NM : Nat → ByteArray} {J : Nat → Nat → Int} {s s2 s' : BrSt} {w u u' : World} (h : Two p q tb tc p2 q2 tb2 tc2 n NM J s s2 w u) (r : BrR p2 q2 tb2 tc2 n NM J s' u') (k : Bes2 p2 q2 u u') : Two p q tb tc p2 q2 tb2 tc2 n NM J s s' w u' := by
  obtain ⟨M, h1, h2, h3, h4, h5, h6⟩ := h.m
  have l1 := h.r.p
  have l2 := h.r.q
  have l3 := h.r.t
  exact ⟨⟨h.r.r.bes2 k (by omega) (by omega) (by omega) (by omega) (by omega) (by omega), h.r.b.trans (k.below (by omega) (by omega) h.r.b.size), l1, l2, l3⟩, r, h.m⟩
theorem sumL_mono {n : Nat} {NM : Nat → ByteArray} {J : Nat → Nat → Int} (hj : JOk n NM J) (k : Nat) : ∀ m, k ≤ m → m ≤ n → sumL J k ≤ sumL J m
  | 0, h, _ => by
    obtain rfl : k = 0 := by omega
    exact Int.le_refl _
  | m + 1, h, hm => by
    rcases Nat.eq_or_lt_of_le h with e | e
    · rw [e]
      exact Int.le_refl _
    · have h1 := sumL_mono hj k m (by omega) (by omega)
      have h2 := hj.l m (by omega)
      have h3 := hj.s m (by omega)
      have h4 := hj.m m (by omega)
      show sumL J k ≤ sumL J m + J m 6
      omega
theorem brStep_on {n : Nat} {NM : Nat → ByteArray} {J : Nat → Nat → Int} {s : BrSt} (x : Int) {i : Int} (hi : BrI n J s) (hj : JOk n NM J) (h : i ≤ sumL J s.cur + s.c) (hl : i + 1 ≤ sumL J n) : i + 1 ≤ sumL J (brStep n J x s).cur + (brStep n J x s).c := by
  unfold brStep
  by_cases hc : s.cur < n
  · rw [if_pos hc]
    have cl := hi.cl hc
    have e : ∀ r, i + 1 ≤ sumL J (brEnd s r).cur + (brEnd s r).c := fun r => by
      show i + 1 ≤ sumL J s.cur + J s.cur 6 + 0
      omega
    split
    · exact e _
    · split
      · exact e _
      · show i + 1 ≤ sumL J s.cur + (s.c + 1)
        omega
  · rw [if_neg hc]
    have e : s.cur = n := by have := hi.le; omega
    have := hi.c0
    rw [e]
    omega
theorem brStep_all {n : Nat} {NM : Nat → ByteArray} {J : Nat → Nat → Int} {s : BrSt} (hi : BrI n J s) (hj : JOk n NM J) (h : sumL J n ≤ sumL J s.cur + s.c) : s.cur = n := by
  rcases Nat.lt_or_ge s.cur n with hc | hc
  · have cl := hi.cl hc
    have h1 := sumL_mono hj (s.cur + 1) n hc (Nat.le_refl _)
    have h1 : sumL J s.cur + J s.cur 6 ≤ sumL J n := h1
    omega
  · have := hi.le
    omega
/-- The sum of what settles and what is needed. -/
def sum2 (J : Nat → Nat → Int) : Nat → Int
  | 0 => 0
  | k + 1 => sum2 J k + J k 4 + J k 5
theorem sum2_b {n : Nat} {NM : Nat → ByteArray} {J : Nat → Nat → Int} (hj : JOk n NM J) : ∀ k, k ≤ n → 0 ≤ sum2 J k ∧ sum2 J k ≤ sumL J k ∧ sum2 J k ≤ k * 200
  | 0, _ => ⟨Int.le_refl _, Int.le_refl _, by show (0 : Int) ≤ _; omega⟩
  | k + 1, h => by
    have h1 := sum2_b hj k (by omega)
    have h2 := hj.l k (by omega)
    have h3 := hj.s k (by omega)
    have h4 := hj.m k (by omega)
    show 0 ≤ sum2 J k + J k 4 + J k 5 ∧ sum2 J k + J k 4 + J k 5 ≤ sumL J k + J k 6 ∧ sum2 J k + J k 4 + J k 5 ≤ _
    omega
/-- A run behind k fine answers to test i. -/
def eS (J : Nat → Nat → Int) (i k : Nat) : BrSt := if (k : Int) < J i 4 + J i 5 then ⟨i, k, if (k : Int) ≤ J i 4 then 0 else k - J i 4, rsK 2 i⟩ else ⟨i + 1, 0, 0, rsK 2 (i + 1)⟩
theorem eS_step {n : Nat} {NM : Nat → ByteArray} {J : Nat → Nat → Int} (hj : JOk n NM J) {i k : Nat} (hi : i < n) (hk : (k : Int) < J i 4 + J i 5) : brStep n J (J i 3) (eS J i k) = eS J i (k + 1) := by
  have h5 := hj.m i hi
  have h4 := hj.s i hi
  have h6 := hj.l i hi
  have hv := hj.v i hi
  obtain ⟨G, hG⟩ : ∃ G : Int, G = if (k : Int) ≤ J i 4 then 0 else (k : Int) - J i 4 := ⟨_, rfl⟩
  have e0 : eS J i k = ⟨i, k, G, rsK 2 i⟩ := by
    unfold eS
    rw [if_pos hk, hG]
  have hg : gN J i (J i 3) k G = if ((k + 1 : Nat) : Int) ≤ J i 4 then 0 else ((k + 1 : Nat) : Int) - J i 4 := by
    unfold gN
    by_cases e : (k : Int) + 1 ≤ J i 4
    · rw [if_pos e, if_pos (by omega), hG, if_pos (by omega)]
    · rw [if_neg e, if_neg (by omega), if_neg (by omega), hG]
      split <;> omega
  rw [e0]
  unfold brStep
  show (if i < n then (if gN J i (J i 3) k G = J i 5 then brEnd ⟨i, k, G, rsK 2 i⟩ 2 else if (k : Int) + 1 = J i 6 then _ else ⟨i, (k : Int) + 1, gN J i (J i 3) k G, rsK 2 i⟩) else _) = _
  rw [if_pos hi]
  unfold eS
  by_cases e : (k : Int) + 1 = J i 4 + J i 5
  · have : gN J i (J i 3) k G = J i 5 := by
      rw [hg, if_neg (by omega)]
      omega
    rw [if_pos this, if_neg (by omega)]
    exact rsK_end 2 _ _ i
  · have : ¬ gN J i (J i 3) k G = J i 5 := by
      rw [hg]
      split <;> omega
    rw [if_neg this, if_neg (by omega), if_pos (by omega), hg]
    rfl
theorem eS_ok {n : Nat} {NM : Nat → ByteArray} {J : Nat → Nat → Int} (hj : JOk n NM J) {i k : Nat} (hi : i < n) : BrI n J (eS J i k) := by
  have h5 := hj.m i hi
  have h4 := hj.s i hi
  have h6 := hj.l i hi
  unfold eS
  split
  · refine rsK_ok hj (.inl rfl) (by omega) (by omega) ?_ ?_ (fun _ => by omega) (fun _ => ?_)
    · split <;> omega
    · split <;> omega
    · split <;> omega
  · refine rsK_ok hj (.inl rfl) (by omega) (Int.le_refl _) (Int.le_refl _) (Int.le_refl _) (fun h => ?_) (fun h => ?_)
    · have h1 := hj.l (i + 1) h
      have h2 := hj.s (i + 1) h
      have h3 := hj.m (i + 1) h
      omega
    · have h3 := hj.m (i + 1) h
      omega
set_option maxRecDepth 100000 in
set_option maxHeartbeats 8000000 in
theorem law_BiteEnds (a : Option Addr) (cap n : Nat) (NM : Nat → ByteArray) (J : Nat → Nat → Int) (al : Option Addr) (ac : Nat) (A : List Int) (w : World) (h : Bts w a n NM J) (ha : RowIs .i64 w al A) (hl : n ≤ maxLen) (hc : n ≤ cap) (hs : ∀ i, i < n → (NM i).size ≤ maxLen) : Calls Try.prog 5 #[.slice a n cap, .slice al A.length ac] w fun e w' => e = .returned (.bool true) ∧ Below w.heap.size w w' := by
  have GR := Lib.hid (bgreat a cap n NM J w h hl)
  have HH := Lib.hid h
  have HA := Lib.hid ha
  clear h hl ha
  go_enter Try.func5, Try.ntmps5
  go_wp2_with fail
  refine GR.out.mono ?_
  rintro e w' ⟨hg, hw⟩
  subst w'
  rcases hg.elim with rfl | ⟨rfl, hn, -⟩
  · go_wp2_with fail
    refine (lives48 _).mono ?_
    rintro e w' ⟨rfl, hb⟩
    go_wp2
    go_ret
    exact ⟨rfl, hb⟩
  · clear GR hg
    by_cases h3 : 300 < (A.length : Int)
    · go_wp2_with fail
      refine (lives48 _).mono ?_
      rintro e w' ⟨rfl, hb⟩
      go_wp2
      go_ret
      exact ⟨rfl, hb⟩
    · rcases hr : rtB n NM J with _ | _
      · have NW := Lib.hid (fun u (k : Below w.heap.size w u) => bnew_no a cap n NM J u (HH.out.below k) (by omega) hc hs hr)
        clear hr HH hs HA
        go_wp2_with fail
        refine (NW.out _ (Below.refl _ _)).mono ?_
        rintro e w' ⟨rfl, K⟩
        replace K := Lib.hid K
        go_wp2_with fail
        refine (NW.out _ K.out).mono ?_
        rintro e w' ⟨rfl, hb⟩
        have K2 := Lib.hid (K.out.trans (hb.mono K.out.size))
        clear hb K
        go_wp2_with fail
        refine (lives48 _).mono ?_
        rintro e w' ⟨rfl, hb⟩
        have B2 := Lib.hid (K2.out.trans (hb.mono K2.out.size))
        clear hb
        go_wp2
        go_ret
        exact ⟨rfl, B2.out⟩
      · have hj := rtB_j hr
        obtain ⟨b, off, rfl, hbl, -⟩ := HH.out.at (show 0 < n from hj.n1)
        have NW := Lib.hid (fun u (k : Below w.heap.size w u) => bnew_ok b off cap n NM J u (HH.out.below k) hc hr hs)
        have LG := Lib.hid (fun u (k : Below w.heap.size w u) => blongest _ cap n NM J u (HH.out.below k) (by omega) hc hs)
        unfold lngI at LG
        rw [hr, if_pos rfl] at LG
        have n1 := hj.n1
        have n20 := hj.n20
        have HJ := Lib.hid hj
        have S2 := Lib.hid (sum2_b hj)
        have SB := Lib.hid (sumL_b hj n (Nat.le_refl _))
        have CE := Lib.hid (fun i (hi : i < n) u (k : Below w.heap.size w u) => show u.cell? ⟨b, off + i * 7 + 3, none⟩ = some (.int .i64 (J i 3)) ∧ u.cell? ⟨b, off + i * 7 + 4, none⟩ = some (.int .i64 (J i 4)) ∧ u.cell? ⟨b, off + i * 7 + 5, none⟩ = some (.int .i64 (J i 5)) from by
          obtain ⟨b', off', ea, -, k0, k1, k2, k3, k4, k5, k6⟩ := (HH.out.below k).at hi
          injection ea with ea
          injection ea with e1 e2
          subst e1 e2
          exact ⟨k3, k4, k5⟩)
        clear hr hs hj
        go_wp2_with fail
        refine (NW.out _ (Below.refl _ _)).mono ?_
        rintro e w1 ⟨p, q, tb, tc, rfl, K⟩
        replace K := Lib.hid K
        go_wp2_with fail
        refine (NW.out _ K.out.b).mono ?_
        rintro e w2 ⟨p2, q2, tb2, tc2, rfl, F⟩
        have K2 := Lib.hid (show Two p q tb tc p2 q2 tb2 tc2 n NM J s0 s0 w w2 from ⟨K.out.bel F.b, F.r, w1.heap.size, K.out.r.h.lt, K.out.r.r.lt, Nat.lt_of_le_of_ne (Nat.le_of_lt_succ (Nat.lt_succ_of_lt (BrR.tlt K.out.r n1))) (Nat.ne_of_lt (BrR.tlt K.out.r n1)), F.p, F.q, F.t⟩)
        clear K F
        have K := K2
        clear K2 NW
        go_wp2_with fail
        refine (LG.out _ K.out.r.b).mono ?_
        rintro e w' ⟨rfl, hb⟩
        have K2 := Lib.hid (K.out.bel hb)
        clear hb K
        have K := K2
        clear K2
        by_cases hS : 2000 < sumL J n
        · generalize sumL J n = S at *
          go_wp2_with fail
          refine (lives48 _).mono ?_
          rintro e w' ⟨rfl, hb⟩
          have B2 := Lib.hid (K.out.r.b.trans (hb.mono K.out.r.b.size))
          clear hb
          go_wp2
          go_ret
          exact ⟨rfl, B2.out⟩
        · obtain ⟨S, hSS⟩ : ∃ S, sumL J n = S := ⟨_, rfl⟩
          rw [hSS] at LG hS SB
          go_wp2
          go_loopw [9] (fun i v => ∃ (k : Nat) (s : BrSt), (k : Int) ≤ S ∧ i = .int .i64 (k : Int) ∧ Hid (BrI n J s) ∧ Hid ((k : Int) ≤ sumL J s.cur + s.c) ∧ Hid (Two p q tb tc p2 q2 tb2 tc2 n NM J s s0 w v)) (fun i _ => S.toNat - (intOf i).toNat)
          case atStart => exact ⟨0, s0, SB.out.1, rfl, Lib.hid (s0_ok HJ.out), Lib.hid (by show (0 : Int) ≤ 0 + 0; omega), K⟩
          case round =>
            clear K
            obtain ⟨k, s, hk, rfl, hi, hon, K⟩ := hrel
            have j2 : IntKind.i64.wrap ((k : Int) + 1) = (k : Int) + 1 := by rw [IntKind.wrap_i64]; omega
            go_wp2_with fail
            refine (LG.out _ K.out.r.b).mono ?_
            rintro e w' ⟨rfl, hb⟩
            have K2 := Lib.hid (K.out.bel hb)
            clear hb K
            have K := K2
            clear K2
            by_cases hkS : (k : Int) < S
            · have ONX := Lib.hid (fun x => brStep_on x hi.out HJ.out hon.out (by rw [hSS]; omega))
              have OKX := Lib.hid (fun x => brStep_ok x hi.out HJ.out)
              have STX := Lib.hid (fun x => bstep p q tb tc n NM J s _ K.out.r.r hi.out HJ.out x)
              clear hon hi
              by_cases hA : k < A.length
              · have c0 := (HA.out.below K.out.r.b).cell1 hA
                have jA : (k : Int) < (A.length : Int) := by omega
                have ON := Lib.hid (ONX.out (A.getD k 0))
                have OK := Lib.hid (OKX.out (A.getD k 0))
                have ST := Lib.hid (STX.out (A.getD k 0))
                clear ONX OKX STX
                generalize A.getD k 0 = x at *
                obtain ⟨ab, ao, rfl, c0⟩ := c0
                go_wp2_with fail
                refine (ST.out).mono ?_
                rintro e w' ⟨rfl, r, e2⟩
                have K2 := Lib.hid (K.out.one r e2)
                clear r e2 K
                go_wp2
                go_roundw
                case rel => exact ⟨k + 1, _, by omega, by first | rfl | go_num, OK, ON, K2⟩
                case measure => simp [intOf] <;> omega
              · have jA : ¬ (k : Int) < (A.length : Int) := by omega
                have ON := Lib.hid (ONX.out 0)
                have OK := Lib.hid (OKX.out 0)
                have ST := Lib.hid (STX.out 0)
                clear ONX OKX STX
                go_wp2_with fail
                refine (ST.out).mono ?_
                rintro e w' ⟨rfl, r, e2⟩
                have K2 := Lib.hid (K.out.one r e2)
                clear r e2 K
                go_wp2
                go_roundw
                case rel => exact ⟨k + 1, _, by omega, by first | rfl | go_num, OK, ON, K2⟩
                case measure => simp [intOf] <;> omega
            · have kS : (k : Int) = S := by omega
              have hcur := brStep_all hi.out HJ.out (by rw [hSS, ← kS]; exact hon.out)
              have LO := Lib.hid (fun i (hlt : i < n) => hi.out.lo i (by omega))
              clear hon SB hk
              go_wp2
              go_loopw [12, 11] (fun i s2 v => ∃ k : Nat, k ≤ n ∧ i = .int .i64 (k : Int) ∧ s2 = .int .i64 (sum2 J k) ∧ Hid (Two p q tb tc p2 q2 tb2 tc2 n NM J s ⟨k, 0, 0, rsK 2 k⟩ w v)) (fun i _ _ => n - (intOf i).toNat)
              case atStart => exact ⟨0, by omega, rfl, rfl, Lib.hid (rsK_0 2 ▸ K.out)⟩
              case round =>
                clear K
                obtain ⟨i, hin, rfl, rfl, K⟩ := hrel
                by_cases hlt : i < n
                · have j1 : (i : Int) < (n : Int) := by omega
                  have y2 : IntKind.i64.wrap ((i : Int) + 1) = (i : Int) + 1 := by rw [IntKind.wrap_i64]; omega
                  obtain ⟨c3, c4, c5⟩ := CE.out i hlt _ K.out.r.b
                  have se := HJ.out.s i hlt
                  have ne := HJ.out.m i hlt
                  have sb := S2.out i hin
                  have w1 : IntKind.i64.wrap (sum2 J i + J i 4) = sum2 J i + J i 4 := by rw [IntKind.wrap_i64]; omega
                  have w2 : IntKind.i64.wrap (sum2 J i + J i 4 + J i 5) = sum2 J i + J i 4 + J i 5 := by rw [IntKind.wrap_i64]; omega
                  have w3 : IntKind.i64.wrap (J i 4 + J i 5) = J i 4 + J i 5 := by rw [IntKind.wrap_i64]; omega
                  have SN := Lib.hid (show sum2 J i + J i 4 + J i 5 = sum2 J (i + 1) from rfl)
                  have K0 := Lib.hid (show Two p q tb tc p2 q2 tb2 tc2 n NM J s (eS J i 0) w wr from by
                    rw [show eS J i 0 = ⟨i, 0, 0, rsK 2 i⟩ from by
                      unfold eS
                      rw [if_pos (show ((0 : Nat) : Int) < J i 4 + J i 5 by omega), if_pos (show ((0 : Nat) : Int) ≤ J i 4 by omega)]
                      rfl]
                    exact K.out)
                  have ST := Lib.hid (fun (k : Nat) (hk : (k : Int) < J i 4 + J i 5) u (kk : BrR p2 q2 tb2 tc2 n NM J (eS J i k) u) => show Calls Try.prog 12 #[.pointer (some ⟨p2, 0, none⟩), .int .i64 (J i 3)] u fun e w' => ∃ z, e = .returned (.bool z) ∧ BrR p2 q2 tb2 tc2 n NM J (eS J i (k + 1)) w' ∧ Bes2 p2 q2 u w' from by
                    refine (bstep p2 q2 tb2 tc2 n NM J (eS J i k) u kk (eS_ok HJ.out hlt) HJ.out (J i 3)).mono ?_
                    rintro e w' ⟨rfl, r, e2⟩
                    rw [eS_step HJ.out hlt hk] at r
                    exact ⟨_, rfl, r, e2⟩)
                  have F3 := Lib.hid (fun (k : Nat) (hk : ¬ (k : Int) < J i 4 + J i 5) => show eS J i k = ⟨i + 1, 0, 0, rsK 2 (i + 1)⟩ from if_neg hk)
                  have CI := Lib.hid (CE.out i hlt)
                  clear K LG
                  generalize sum2 J i = sm at *
                  generalize J i 3 = hv at *
                  generalize J i 4 = sv at *
                  generalize J i 5 = nv at *
                  go_wp2_with fail
                  refine region_moves (fun u => u.cell? ⟨b, off + i * 7 + 4, none⟩ = some (.int .i64 sv) ∧ u.cell? ⟨b, off + i * 7 + 5, none⟩ = some (.int .i64 nv)) [] [(.free, 0), (.free, 1), (.free, 2), (.free, 3), (.free, 4), (.take, 5), (.free, 6), (.free, 7), (.free, 8), (.free, 9), (.free, 10), (.take, 11), (.free, 12), (.free, 13)] _ (by kernel_rfl) (by kernel_rfl) (by kernel_rfl) (by kernel_rfl) (by decide) rfl (fun _ _ _ _ _ h => h) ?_
                  simp only [List.filterMap_cons, List.filterMap_nil, List.getElem?_toArray, List.getElem?_cons_zero, List.getElem?_cons_succ, Option.map_some]
                  iterate 5
                    first
                      | (refine mv_free ?_ (Or.inl ⟨by rfl, ?_⟩) (⟨c4, c5⟩) ?_
                         rotate_left 1
                         · intro u
                           go_simp
                           try with_reducible rfl
                         simp only [Act.put, List.setIfInBounds_toArray, List.set_cons_zero, List.set_cons_succ])
                      | (refine mv_free _ (Or.inr ⟨by rfl, rfl⟩) (⟨c4, c5⟩) ?_
                         simp only [Act.put, List.setIfInBounds_toArray, List.set_cons_zero, List.set_cons_succ])
                  iterate 1
                    first
                      | (refine mv_take ?_ (Or.inl ⟨by rfl, ?_⟩) (⟨c4, c5⟩) ?_
                         rotate_left 1
                         · intro u hu
                           (try dsimp only at hu)
                           go_simp
                           try with_reducible rfl
                         simp only [Act.put, List.setIfInBounds_toArray, List.set_cons_zero, List.set_cons_succ])
                      | (refine mv_take _ (Or.inr ⟨by rfl, rfl⟩) (⟨c4, c5⟩) ?_
                         simp only [Act.put, List.setIfInBounds_toArray, List.set_cons_zero, List.set_cons_succ])
                  iterate 5
                    first
                      | (refine mv_free ?_ (Or.inl ⟨by rfl, ?_⟩) (⟨c4, c5⟩) ?_
                         rotate_left 1
                         · intro u
                           go_simp
                           try with_reducible rfl
                         simp only [Act.put, List.setIfInBounds_toArray, List.set_cons_zero, List.set_cons_succ])
                      | (refine mv_free _ (Or.inr ⟨by rfl, rfl⟩) (⟨c4, c5⟩) ?_
                         simp only [Act.put, List.setIfInBounds_toArray, List.set_cons_zero, List.set_cons_succ])
                  iterate 1
                    first
                      | (refine mv_take ?_ (Or.inl ⟨by rfl, ?_⟩) (⟨c4, c5⟩) ?_
                         rotate_left 1
                         · intro u hu
                           (try dsimp only at hu)
                           go_simp
                           try with_reducible rfl
                         simp only [Act.put, List.setIfInBounds_toArray, List.set_cons_zero, List.set_cons_succ])
                      | (refine mv_take _ (Or.inr ⟨by rfl, rfl⟩) (⟨c4, c5⟩) ?_
                         simp only [Act.put, List.setIfInBounds_toArray, List.set_cons_zero, List.set_cons_succ])
                  iterate 2
                    first
                      | (refine mv_free ?_ (Or.inl ⟨by rfl, ?_⟩) (⟨c4, c5⟩) ?_
                         rotate_left 1
                         · intro u
                           go_simp
                           try with_reducible rfl
                         simp only [Act.put, List.setIfInBounds_toArray, List.set_cons_zero, List.set_cons_succ])
                      | (refine mv_free _ (Or.inr ⟨by rfl, rfl⟩) (⟨c4, c5⟩) ?_
                         simp only [Act.put, List.setIfInBounds_toArray, List.set_cons_zero, List.set_cons_succ])
                  refine mv_done ?_
                  replace K0 := Lib.hid (K0.out.bel (Below.refl _ _).drew)
                  clear c3 c4 c5
                  go_wp2_with fail
                  go_loopw [13] (fun i' v => ∃ k : Nat, (k : Int) ≤ sv + nv ∧ i' = .int .i64 (k : Int) ∧ Hid (Two p q tb tc p2 q2 tb2 tc2 n NM J s (eS J i k) w v)) (fun i' _ => (sv + nv).toNat - (intOf i').toNat)
                  case atStart => exact ⟨0, by omega, rfl, K0⟩
                  case round =>
                    clear K0
                    obtain ⟨k, hk, rfl, K⟩ := hrel
                    obtain ⟨c3, c4, c5⟩ := CI.out _ K.out.r.b
                    by_cases hkl : (k : Int) < sv + nv
                    · have y2 : IntKind.i64.wrap ((k : Int) + 1) = (k : Int) + 1 := by rw [IntKind.wrap_i64]; omega
                      have q1 : decide ((k : Int) < sv + nv) = true := decide_eq_true hkl
                      go_wp2_with fail
                      refine region_moves (fun u => u.cell? ⟨b, off + i * 7 + 4, none⟩ = some (.int .i64 sv) ∧ u.cell? ⟨b, off + i * 7 + 5, none⟩ = some (.int .i64 nv)) [] [(.free, 0), (.free, 1), (.free, 2), (.free, 3), (.free, 4), (.take, 5), (.free, 6), (.free, 7), (.free, 8), (.free, 9), (.take, 10), (.free, 11), (.free, 12)] _ (by kernel_rfl) (by kernel_rfl) (by kernel_rfl) (by kernel_rfl) (by decide) rfl (fun _ _ _ _ _ h => h) ?_
                      simp only [List.filterMap_cons, List.filterMap_nil, List.getElem?_toArray, List.getElem?_cons_zero, List.getElem?_cons_succ, Option.map_some]
                      iterate 5
                        first
                          | (refine mv_free ?_ (Or.inl ⟨by rfl, ?_⟩) (⟨c4, c5⟩) ?_
                             rotate_left 1
                             · intro u
                               go_simp
                               try with_reducible rfl
                             simp only [Act.put, List.setIfInBounds_toArray, List.set_cons_zero, List.set_cons_succ])
                          | (refine mv_free _ (Or.inr ⟨by rfl, rfl⟩) (⟨c4, c5⟩) ?_
                             simp only [Act.put, List.setIfInBounds_toArray, List.set_cons_zero, List.set_cons_succ])
                      iterate 1
                        first
                          | (refine mv_take ?_ (Or.inl ⟨by rfl, ?_⟩) (⟨c4, c5⟩) ?_
                             rotate_left 1
                             · intro u hu
                               (try dsimp only at hu)
                               go_simp
                               try with_reducible rfl
                             simp only [Act.put, List.setIfInBounds_toArray, List.set_cons_zero, List.set_cons_succ])
                          | (refine mv_take _ (Or.inr ⟨by rfl, rfl⟩) (⟨c4, c5⟩) ?_
                             simp only [Act.put, List.setIfInBounds_toArray, List.set_cons_zero, List.set_cons_succ])
                      iterate 4
                        first
                          | (refine mv_free ?_ (Or.inl ⟨by rfl, ?_⟩) (⟨c4, c5⟩) ?_
                             rotate_left 1
                             · intro u
                               go_simp
                               try with_reducible rfl
                             simp only [Act.put, List.setIfInBounds_toArray, List.set_cons_zero, List.set_cons_succ])
                          | (refine mv_free _ (Or.inr ⟨by rfl, rfl⟩) (⟨c4, c5⟩) ?_
                             simp only [Act.put, List.setIfInBounds_toArray, List.set_cons_zero, List.set_cons_succ])
                      iterate 1
                        first
                          | (refine mv_take ?_ (Or.inl ⟨by rfl, ?_⟩) (⟨c4, c5⟩) ?_
                             rotate_left 1
                             · intro u hu
                               (try dsimp only at hu)
                               go_simp
                               try with_reducible rfl
                             simp only [Act.put, List.setIfInBounds_toArray, List.set_cons_zero, List.set_cons_succ])
                          | (refine mv_take _ (Or.inr ⟨by rfl, rfl⟩) (⟨c4, c5⟩) ?_
                             simp only [Act.put, List.setIfInBounds_toArray, List.set_cons_zero, List.set_cons_succ])
                      iterate 2
                        first
                          | (refine mv_free ?_ (Or.inl ⟨by rfl, ?_⟩) (⟨c4, c5⟩) ?_
                             rotate_left 1
                             · intro u
                               go_simp
                               try with_reducible rfl
                             simp only [Act.put, List.setIfInBounds_toArray, List.set_cons_zero, List.set_cons_succ])
                          | (refine mv_free _ (Or.inr ⟨by rfl, rfl⟩) (⟨c4, c5⟩) ?_
                             simp only [Act.put, List.setIfInBounds_toArray, List.set_cons_zero, List.set_cons_succ])
                      refine mv_done ?_
                      replace K := Lib.hid (K.out.bel (Below.refl _ _).drew)
                      clear c3 c4 c5 q1
                      obtain ⟨c3, -⟩ := CI.out _ K.out.r.b
                      go_wp2_with fail
                      refine (ST.out k hkl _ K.out.f).mono ?_
                      rintro e w' ⟨z, rfl, r, e2⟩
                      have K2 := Lib.hid (K.out.two r e2)
                      clear r e2 K c3
                      go_wp2
                      go_roundw
                      case rel => exact ⟨k + 1, by omega, by first | rfl | go_num, K2⟩
                      case measure => simp [intOf] <;> omega
                    · have q1 : decide ((k : Int) < sv + nv) = false := decide_eq_false hkl
                      go_wp2_with fail
                      refine region_moves (fun u => u.cell? ⟨b, off + i * 7 + 4, none⟩ = some (.int .i64 sv) ∧ u.cell? ⟨b, off + i * 7 + 5, none⟩ = some (.int .i64 nv)) [] [(.free, 0), (.free, 1), (.free, 2), (.free, 3), (.free, 4), (.take, 5), (.free, 6), (.free, 7), (.free, 8), (.free, 9), (.take, 10), (.free, 11), (.free, 12)] _ (by kernel_rfl) (by kernel_rfl) (by kernel_rfl) (by kernel_rfl) (by decide) rfl (fun _ _ _ _ _ h => h) ?_
                      simp only [List.filterMap_cons, List.filterMap_nil, List.getElem?_toArray, List.getElem?_cons_zero, List.getElem?_cons_succ, Option.map_some]
                      iterate 5
                        first
                          | (refine mv_free ?_ (Or.inl ⟨by rfl, ?_⟩) (⟨c4, c5⟩) ?_
                             rotate_left 1
                             · intro u
                               go_simp
                               try with_reducible rfl
                             simp only [Act.put, List.setIfInBounds_toArray, List.set_cons_zero, List.set_cons_succ])
                          | (refine mv_free _ (Or.inr ⟨by rfl, rfl⟩) (⟨c4, c5⟩) ?_
                             simp only [Act.put, List.setIfInBounds_toArray, List.set_cons_zero, List.set_cons_succ])
                      iterate 1
                        first
                          | (refine mv_take ?_ (Or.inl ⟨by rfl, ?_⟩) (⟨c4, c5⟩) ?_
                             rotate_left 1
                             · intro u hu
                               (try dsimp only at hu)
                               go_simp
                               try with_reducible rfl
                             simp only [Act.put, List.setIfInBounds_toArray, List.set_cons_zero, List.set_cons_succ])
                          | (refine mv_take _ (Or.inr ⟨by rfl, rfl⟩) (⟨c4, c5⟩) ?_
                             simp only [Act.put, List.setIfInBounds_toArray, List.set_cons_zero, List.set_cons_succ])
                      iterate 4
                        first
                          | (refine mv_free ?_ (Or.inl ⟨by rfl, ?_⟩) (⟨c4, c5⟩) ?_
                             rotate_left 1
                             · intro u
                               go_simp
                               try with_reducible rfl
                             simp only [Act.put, List.setIfInBounds_toArray, List.set_cons_zero, List.set_cons_succ])
                          | (refine mv_free _ (Or.inr ⟨by rfl, rfl⟩) (⟨c4, c5⟩) ?_
                             simp only [Act.put, List.setIfInBounds_toArray, List.set_cons_zero, List.set_cons_succ])
                      iterate 1
                        first
                          | (refine mv_take ?_ (Or.inl ⟨by rfl, ?_⟩) (⟨c4, c5⟩) ?_
                             rotate_left 1
                             · intro u hu
                               (try dsimp only at hu)
                               go_simp
                               try with_reducible rfl
                             simp only [Act.put, List.setIfInBounds_toArray, List.set_cons_zero, List.set_cons_succ])
                          | (refine mv_take _ (Or.inr ⟨by rfl, rfl⟩) (⟨c4, c5⟩) ?_
                             simp only [Act.put, List.setIfInBounds_toArray, List.set_cons_zero, List.set_cons_succ])
                      iterate 2
                        first
                          | (refine mv_free ?_ (Or.inl ⟨by rfl, ?_⟩) (⟨c4, c5⟩) ?_
                             rotate_left 1
                             · intro u
                               go_simp
                               try with_reducible rfl
                             simp only [Act.put, List.setIfInBounds_toArray, List.set_cons_zero, List.set_cons_succ])
                          | (refine mv_free _ (Or.inr ⟨by rfl, rfl⟩) (⟨c4, c5⟩) ?_
                             simp only [Act.put, List.setIfInBounds_toArray, List.set_cons_zero, List.set_cons_succ])
                      refine mv_done ?_
                      have K2 := Lib.hid (show Two p q tb tc p2 q2 tb2 tc2 n NM J s ⟨i + 1, 0, 0, rsK 2 (i + 1)⟩ w _ from F3.out k hkl ▸ K.out.bel (Below.refl _ _).drew)
                      clear c3 c4 c5 q1 K
                      go_wp2
                      go_roundw
                      case rel => exact ⟨i + 1, by omega, by first | rfl | go_num, by rw [SN.out], K2⟩
                      case measure => simp [intOf] <;> omega
                · obtain rfl : i = n := by omega
                  have RS1 := Lib.hid (fun u (kk : BrR p q tb tc i NM J s u) => bresults p q tb tc i NM J s u kk hi.out HJ.out)
                  have OK2 := Lib.hid (rsK_ok (r := 2) (c := 0) (g := 0) (i := i) HJ.out (.inl rfl) (Nat.le_refl _) (Int.le_refl _) (Int.le_refl _) (Int.le_refl _) (fun h => absurd h hlt) (fun h => absurd h hlt))
                  have RS2 := Lib.hid (fun u (kk : BrR p2 q2 tb2 tc2 i NM J ⟨i, 0, 0, rsK 2 i⟩ u) => bresults p2 q2 tb2 tc2 i NM J _ u kk OK2.out HJ.out)
                  have DN1 := Lib.hid (fun u (kk : BrR p q tb tc i NM J s u) => show Calls Try.prog 14 #[.pointer (some ⟨p, 0, none⟩)] u fun e w' => e = .returned (.bool true) ∧ w' = u from by
                    have := bdone p q tb tc i NM J s u kk hi.out HJ.out
                    rw [show decide (s.cur < i) = false from decide_eq_false (by omega)] at this
                    exact this)
                  have DN2 := Lib.hid (fun u (kk : BrR p2 q2 tb2 tc2 i NM J ⟨i, 0, 0, rsK 2 i⟩ u) => show Calls Try.prog 14 #[.pointer (some ⟨p2, 0, none⟩)] u fun e w' => e = .returned (.bool true) ∧ w' = u from by
                    have := bdone p2 q2 tb2 tc2 i NM J _ u kk OK2.out HJ.out
                    rw [show decide ((⟨i, 0, 0, rsK 2 i⟩ : BrSt).cur < i) = false from decide_eq_false hlt] at this
                    exact this)
                  have sb := (S2.out i (Nat.le_refl _)).2.1
                  rw [hSS] at sb
                  generalize sum2 J i = sm at *
                  clear OK2 hcur hi S2 CE
                  go_wp2_with fail
                  refine (RS1.out _ K.out.r.r).mono ?_
                  rintro e w5 ⟨v, rfl, RI⟩
                  have RO := RI.o
                  have hb := RI.b
                  have K2 := Lib.hid (K.out.bel hb)
                  clear hb K
                  have K := K2
                  clear K2
                  clear RI
                  obtain ⟨g, gc, rfl, hg1, hg2, hg3⟩ := RO
                  go_wp2_with fail
                  refine (RS2.out _ K.out.f).mono ?_
                  rintro e w6 ⟨v, rfl, RI⟩
                  have RO := RI.o
                  have hb := RI.b
                  have hg4 := Lib.hid (fun j (hj : j < i) => (bc hb hg2).trans (hg3 j hj))
                  have K2 := Lib.hid (K.out.bel hb)
                  clear hb K
                  have K := K2
                  clear K2
                  clear RI hg3
                  obtain ⟨g2, gc2, rfl, hq1, hq2, hg3⟩ := RO
                  have hg5 := Lib.hid (fun j (hj : j < i) => (hg3 j hj).trans (show some (Value.int .i64 (rsK 2 i j)) = some (.int .i64 2) from by unfold rsK; rw [if_pos hj]))
                  clear hg3
                  go_wp2
                  go_loopw [16] (fun i' v => ∃ j : Nat, j ≤ i ∧ i' = .int .i64 (j : Int) ∧ v = w6) (fun i' _ => i - (intOf i').toNat)
                  case atStart => exact ⟨0, by omega, rfl, rfl⟩
                  case round =>
                    obtain ⟨j, hj, rfl, rfl⟩ := hrel
                    by_cases hlj : j < i
                    · have j1 : (j : Int) < (i : Int) := by omega
                      have y2 : IntKind.i64.wrap ((j : Int) + 1) = (j : Int) + 1 := by rw [IntKind.wrap_i64]; omega
                      have d1 := hg4.out j hlj
                      have d2 := hg5.out j hlj
                      rcases LO.out j hlj with e | e
                      all_goals
                        rw [e] at d1
                        clear e
                        go_wp2
                        go_roundw
                        case rel => exact ⟨j + 1, by omega, by first | rfl | go_num, by first | rfl | trivial⟩
                        case measure => simp [intOf] <;> omega
                    · obtain rfl : j = i := by omega
                      clear hg4 hg5
                      go_wp2_with fail
                      refine (DN1.out _ K.out.r.r).mono ?_
                      rintro e w' ⟨rfl, hw⟩
                      subst w'
                      go_wp2_with fail
                      refine (DN2.out _ K.out.f).mono ?_
                      rintro e w' ⟨rfl, hw⟩
                      subst w'
                      go_wp2_with fail
                      refine (LG.out _ K.out.r.b).mono ?_
                      rintro e w' ⟨rfl, hb⟩
                      have K2 := Lib.hid (K.out.bel hb)
                      clear hb K
                      have K := K2
                      clear K2
                      go_wp2_with fail
                      refine (lives48 _).mono ?_
                      rintro e w' ⟨rfl, hb⟩
                      have B2 := Lib.hid (K.out.r.b.trans (hb.mono K.out.r.b.size))
                      clear hb
                      go_wp2
                      go_ret
                      exact ⟨rfl, B2.out⟩
end Go.Proofs.Ytecpmffmmiogfab
