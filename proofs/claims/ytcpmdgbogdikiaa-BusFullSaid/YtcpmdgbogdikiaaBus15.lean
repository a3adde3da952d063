/- The law BusFull; walked. -/
import Derived.Test.YtcpmdgbogdikiaaBus14
namespace Go.Proofs.Ytcpmdgbogdikiaa
open Go.ChangeShapes Go.WideShapes Go.ChangeAt Go.RowKit
set_option linter.unusedVariables false
set_option linter.unusedSimpArgs false
/-- The watcher in memory of its own. -/
structure FuS (p q g tc n : Nat) (N P F : Nat → Int) (pa c : Int) (W : Nat → Int) (K : Nat → Bool) (T : Nat → Int) (w0 u : World) : Prop where
  x : Wt p q g tc n N P F pa c W K T u
  b : Below w0.heap.size w0 u
  lp : w0.heap.size ≤ p
  lq : w0.heap.size ≤ q
theorem FuS.next {p q g tc n : Nat} {N P F : Nat → Int} {pa c : Int} {W : Nat → Int} {K : Nat → Bool} {T : Nat → Int} {w0 u v : World} (h : FuS p q g tc n N P F pa c W K T w0 u) (k : Below u.heap.size u v) : FuS p q g tc n N P F pa c W K T w0 v :=
  ⟨h.x.bel k, h.b.trans (k.mono h.b.size), h.lp, h.lq⟩
theorem FuS.step {p q g tc n : Nat} {N P F : Nat → Int} {pa c c' : Int} {W W' : Nat → Int} {K K' : Nat → Bool} {T T' : Nat → Int} {w0 u v : World} (h : FuS p q g tc n N P F pa c W K T w0 u) (hx : Wt p q g tc n N P F pa c' W' K' T' v) (t : Two p q u v) : FuS p q g tc n N P F pa c' W' K' T' w0 v := by
  have a1 := h.lp
  have a2 := h.lq
  have bs := h.b.size
  exact ⟨hx, ⟨t.os.trans h.b.os, t.tape.trans h.b.tape, t.output.trans h.b.output, Nat.le_trans bs t.size, fun i hi => (t.block i (Nat.lt_of_lt_of_le hi bs) (by omega) (by omega)).trans (h.b.block i hi)⟩, h.lp, h.lq⟩
set_option maxRecDepth 100000 in
set_option maxHeartbeats 16000000 in
theorem law_BusFull (a : Option Addr) (cap n : Nat) (N P F : Nat → Int) (fr : Int) (w : World) (h : Pl w a n N P F) (hcap : n ≤ cap) (hn : n ≤ maxLen) : Calls Try.prog 7 #[.slice a n cap, .int .i64 fr] w fun e w' => e = .returned (.bool true) ∧ Below w.heap.size w w' := by
  have LV := Lib.hid (fun u => lives46 u)
  have hw := Lib.hid (Below.refl w.heap.size w)
  have HH := Lib.hid (fun u (k : Below w.heap.size w u) => h.below k)
  have hn' : (n : Int) ≤ 9223372036854775807 := by unfold maxLen at hn; omega
  have RT := bright a cap n N P F w h hcap hn
  by_cases ep : rtB n N P F = true
  case neg =>
    rw [Bool.eq_false_iff.2 ep] at RT
    replace RT := Lib.hid RT
    clear h hcap
    go_enter Try.func7, Try.ntmps7
    go_wp2_with fail
    refine RT.out.mono ?_
    rintro e w1 ⟨rfl, hb⟩
    have h1 := Lib.hid hb
    clear hb RT
    go_wp2_with fail
    refine (LV.out _).mono ?_
    rintro e u9 ⟨rfl, hb9⟩
    have hb8 := Lib.hid (show Below w.heap.size w u9 from h1.out.trans (hb9.mono h1.out.size))
    clear hb9
    go_wp2
    go_ret
    exact ⟨rfl, hb8.out⟩
  rw [ep] at RT
  replace RT := Lib.hid RT
  by_cases z0 : fr < 0
  · have q1 : decide (fr < 0) = true := decide_eq_true z0
    clear h hcap
    go_enter Try.func7, Try.ntmps7
    go_wp2_with fail
    refine RT.out.mono ?_
    rintro e w1 ⟨rfl, hb⟩
    have h1 := Lib.hid hb
    clear hb RT
    go_wp2_with fail
    refine (LV.out _).mono ?_
    rintro e u9 ⟨rfl, hb9⟩
    have hb8 := Lib.hid (show Below w.heap.size w u9 from h1.out.trans (hb9.mono h1.out.size))
    clear hb9
    go_wp2
    go_ret
    exact ⟨rfl, hb8.out⟩
  have q1 : decide (fr < 0) = false := decide_eq_false z0
  by_cases z1 : 100000 < fr
  · have q2 : decide (100000 < fr) = true := decide_eq_true z1
    clear h hcap
    go_enter Try.func7, Try.ntmps7
    go_wp2_with fail
    refine RT.out.mono ?_
    rintro e w1 ⟨rfl, hb⟩
    have h1 := Lib.hid hb
    clear hb RT
    go_wp2_with fail
    refine (LV.out _).mono ?_
    rintro e u9 ⟨rfl, hb9⟩
    have hb8 := Lib.hid (show Below w.heap.size w u9 from h1.out.trans (hb9.mono h1.out.size))
    clear hb9
    go_wp2
    go_ret
    exact ⟨rfl, hb8.out⟩
  have q2 : decide (100000 < fr) = false := decide_eq_false z1
  have hr := of_decide_eq_true ep
  obtain ⟨b, off, ea, -, -, -, -⟩ := h.at (show 0 < n by omega)
  subst ea
  have HS := Lib.hid (fun i (hi : i < n) => (hr.2.2 i hi).1)
  have hn2 : n ≤ 32 := by omega
  have NW := Lib.hid (fun u (k : Below w.heap.size w u) => bnewx b off cap n N P F 2 u (h.below k) hcap ep (by omega))
  have DU := Lib.hid (fun t (h1 : 0 ≤ t) (ht : t ≤ 9223372036854775807) u (k : Below w.heap.size w u) => show Calls Try.prog 9 #[.slice (some ⟨b, off, none⟩) n cap, .int .i64 t] u fun e w' => ∃ x', e = .returned x' ∧ Og 3 u.heap.size x' (lvals (duL P F t n)) w' ∧ Below u.heap.size u w' by
    have := bDue (some ⟨b, off, none⟩) cap n N P F t u (h.below k) hcap (by omega) ht
    rw [show DuL n N P F t = duL P F t n from if_pos ⟨ep, h1⟩] at this
    exact this)
  have FO := Lib.hid (fuN_ok ep)
  have FS := Lib.hid (fun k : Nat => show fuN N P F n (k + 1) = ((duL P F k n).map fun i => xwI (N i)).foldl (st1 N n ((k : Int) + 1)) ⟨(fuN N P F n k).W, (fuN N P F n k).K, (fuN N P F n k).T, 0⟩ from rfl)
  have FZ := Lib.hid (show fuN N P F n 0 = ⟨fun _ => 0, fun _ => false, fun _ => 0, 0⟩ from rfl)
  have frb : 0 ≤ fr ∧ fr ≤ 100000 := by omega
  clear h hcap hr ep hn z0 z1
  have e0 : ((0 : Int) != 0) = false := by decide
  generalize fuN N P F n = S at *
  go_enter Try.func7, Try.ntmps7
  go_wp2_with fail
  refine RT.out.mono ?_
  rintro e w1 ⟨rfl, hb⟩
  have h1 := Lib.hid hb
  clear hb RT
  go_wp2_with fail
  refine (NW.out w1 h1.out).mono ?_
  rintro e w2 ⟨p, q, g, tc, rfl, hN⟩
  have B0 := Lib.hid (show FuS p q g tc n N P F 2 0 (fun _ => 0) (fun _ => false) (fun _ => 0) w w2 from ⟨hN.r, h1.out.trans (hN.b.mono h1.out.size), Nat.le_trans h1.out.size hN.lp, Nat.le_trans h1.out.size hN.lq⟩)
  clear hN NW q1 q2 h1
  go_wp2_with fail
  go_loopw [7] (fun i v => ∃ k : Nat, k ≤ n ∧ i = .int .i64 (k : Int) ∧ Hid (FuS p q g tc n N P F 2 0 (fun _ => 0) (fun _ => false) (fun _ => 0) w v)) (fun i _ => n - (intOf i).toNat)
  case atStart => exact ⟨0, by omega, rfl, B0⟩
  case round =>
    clear B0
    obtain ⟨k, hk, rfl, hB⟩ := hrel
    generalize wr = v at *
    by_cases hlt : k < n
    · obtain ⟨b2, off2, ea2, -, -, m1, m2⟩ := (HH.out v hB.out.b).at hlt
      injection ea2 with ea2
      injection ea2 with e1 e2
      subst e1 e2
      have j1 : (k : Int) < (n : Int) := by omega
      have j2 : IntKind.i64.wrap ((k : Int) + 1) = (k : Int) + 1 := by rw [IntKind.wrap_i64]; omega
      have j3 : 0 ≤ (k : Int) := by omega
      have hs := of_decide_eq_true (HS.out k hlt)
      by_cases y : 50 < P k
      · have hb3 := Lib.hid hB.out.b
        go_wp2_with fail
        refine (LV.out _).mono ?_
        rintro e u9 ⟨rfl, hb9⟩
        have hb8 := Lib.hid (show Below w.heap.size w u9 from hb3.out.trans (hb9.mono hb3.out.size))
        clear hb9
        go_wp2
        go_ret
        exact ⟨rfl, hb8.out⟩
      have y1 : ¬ 50 < P k := y
      obtain ⟨pk, epk⟩ : ∃ z, (P k).toNat = z := ⟨_, rfl⟩
      have ePk := Lib.hid (show P k = (pk : Int) by omega)
      have pk50 : pk ≤ 50 := by have := ePk.out; omega
      have pk1 : 1 ≤ pk := by have := ePk.out; omega
      have ON := Lib.hid (show onN (P k) fr pk = 1 by rw [← epk]; exact onN_all hs.2.2.1)
      have OL := Lib.hid (onN_le (P k) fr)
      have CM := Lib.hid (fun u (b' : Below w.heap.size w u) => show u.cell? ⟨b, off + k * 3 + 1, none⟩ = some (.int .i64 (P k)) ∧ u.cell? ⟨b, off + k * 3 + 2, none⟩ = some (.int .i64 (F k)) by
        obtain ⟨b2, off2, ea2, -, -, m1, m2⟩ := (HH.out u b').at hlt
        injection ea2 with ea2
        injection ea2 with e1 e2
        subst e1 e2
        exact ⟨m1, m2⟩)
      go_wp2_with fail
      go_loopw [8, 9] (fun c t v => ∃ m : Nat, m ≤ pk ∧ c = .int .i64 (onN (P k) fr m : Nat) ∧ t = .int .i64 (fr + (m : Int)) ∧ Hid (FuS p q g tc n N P F 2 0 (fun _ => 0) (fun _ => false) (fun _ => 0) w v)) (fun _ t _ => (fr + pk - wInt t).toNat)
      case atStart => exact ⟨0, by omega, rfl, by simp, hB⟩
      case round =>
        clear hB m1 m2
        obtain ⟨m, hm, rfl, rfl, hB⟩ := hrel
        generalize wr = v at *
        obtain ⟨m1, m2⟩ := CM.out v hB.out.b
        have i0 : IntKind.i64.wrap (fr + P k) = fr + P k := by rw [IntKind.wrap_i64]; omega
        have om := OL.out m
        by_cases hml : m < pk
        · have i1 : fr + (m : Int) < fr + P k := by have := ePk.out; omega
          have i2 : IntKind.i64.wrap (fr + (m : Int) + 1) = fr + (m : Int) + 1 := by rw [IntKind.wrap_i64]; omega
          have i3 : IntKind.i64.wrap (fr + (m : Int) + F k) = fr + (m : Int) + F k := by rw [IntKind.wrap_i64]; omega
          have D1 := Lib.hid (DU.out (fr + (m : Int) + F k) (by omega) (by omega) v hB.out.b)
          have DC := duL_count P F (fr + (m : Int) + F k) k n
          rw [dtB_at (show 0 ≤ fr + (m : Int) by omega)] at DC
          have OS := Lib.hid (show onN (P k) fr (m + 1) = onN (P k) fr m + (duL P F (fr + (m : Int) + F k) n).count k by
            rw [DC]
            show onN (P k) fr m + (if (fr + (m : Int)) % P k = 0 then 1 else 0) = _
            by_cases q : (fr + (m : Int)) % P k = 0
            · rw [if_pos q, if_pos ⟨hlt, decide_eq_true q⟩]
            · rw [if_neg q, if_neg (fun h => q (of_decide_eq_true h.2))])
          have DLL := duL_len P F (fr + (m : Int) + F k) n
          obtain ⟨D, eD⟩ : ∃ D, duL P F (fr + (m : Int) + F k) n = D := ⟨_, rfl⟩
          rw [eD] at D1 OS DLL
          clear DC eD
          go_wp2_with fail
          refine D1.out.mono ?_
          rintro e v1 ⟨xl, rfl, hO, hb⟩
          have hB1 := Lib.hid (hB.out.next hb)
          have hO := Lib.hid hO
          clear hB D1 hb m1 m2
          obtain ⟨al, cl, exl, -, -, -⟩ := hO.out.row
          rw [lvals_len] at exl
          subst exl
          obtain ⟨dl, edl⟩ : ∃ z, D.length = z := ⟨_, rfl⟩
          have EDL := Lib.hid edl
          rw [edl] at hO DLL ⊢
          clear edl
          have CT := Lib.hid (fun j => show (D.take j).count k ≤ D.length from Nat.le_trans List.count_le_length (by rw [List.length_take]; omega))
          go_wp2_with fail
          go_loopw [8, 11] (fun c j u => ∃ r : Nat, r ≤ dl ∧ c = .int .i64 ((onN (P k) fr m + (D.take r).count k : Nat)) ∧ j = .int .i64 (r : Int) ∧ Hid (FuS p q g tc n N P F 2 0 (fun _ => 0) (fun _ => false) (fun _ => 0) w u) ∧ Hid (Og 3 v.heap.size (.slice al dl cl) (lvals D) u)) (fun _ j _ => dl - (intOf j).toNat)
          case atStart => exact ⟨0, by omega, by simp, rfl, hB1, hO⟩
          case round =>
            clear hB1 hO
            obtain ⟨r, hr, rfl, rfl, hB, hO⟩ := hrel
            generalize wr = v2 at *
            by_cases hrn : r < dl
            · have hrD : r < D.length := by rw [EDL.out]; exact hrn
              obtain ⟨ao, cp, ex, -, hn0, hs0⟩ := hO.out.row
              injection ex with ex1 ex2 ex3
              subst ex1
              have hne : D ≠ [] := fun e => by rw [e] at hrD; simp at hrD
              cases al with
              | none => exact absurd (by have := (hn0 rfl).1; simpa [lvals] using this) hne
              | some ad =>
                obtain ⟨mb, mo, sp⟩ := ad
                obtain ⟨s1', -, -, s4⟩ := hs0 _ rfl
                have s1' : sp = none := s1'
                subst s1'
                have ck : v2.cell? ⟨mb, mo + r, none⟩ = some (.int .i64 ((D.getD r 0 : Nat) : Int)) := s4 r (.int .i64 ((D.getD r 0 : Nat) : Int)) (by simp [lvals, hrD])
                have TC := Lib.hid (show (D.take (r + 1)).count k = (D.take r).count k + if D.getD r 0 = k then 1 else 0 by
                  have e : D.getD r 0 = D[r] := by simp [List.getD, hrD]
                  rw [e, List.take_succ_eq_append_getElem hrD, List.count_append, List.count_singleton]
                  by_cases z : D[r] = k
                  · rw [if_pos z]; simp [z]
                  · rw [if_neg z]; simp [z])
                obtain ⟨d, ed⟩ : ∃ d, D.getD r 0 = d := ⟨_, rfl⟩
                rw [ed] at ck TC
                have cl := CT.out r
                rw [EDL.out] at cl
                obtain ⟨cc, ecc⟩ : ∃ cc, onN (P k) fr m + (D.take r).count k = cc := ⟨_, rfl⟩
                rw [ecc]
                have ECC := Lib.hid ecc
                have r1 : (r : Int) < (dl : Int) := by omega
                have r2 : IntKind.i64.wrap ((r : Int) + 1) = (r : Int) + 1 := by rw [IntKind.wrap_i64]; omega
                have r4 : 0 ≤ (r : Int) := by omega
                have r5 : IntKind.i64.wrap ((cc : Int) + 1) = (cc : Int) + 1 := by rw [IntKind.wrap_i64]; omega
                clear hs0 s4 hn0 hne ex2 ex3 ed ecc cl
                by_cases z : d = k
                · have z1 : ((d : Int) == (k : Int)) = true := by rw [z]; simp
                  have TD := Lib.hid (show onN (P k) fr m + (D.take (r + 1)).count k = cc + 1 by rw [TC.out, if_pos z, ← ECC.out]; omega)
                  go_wp2
                  go_roundw
                  case rel => exact ⟨r + 1, by omega, by rw [TD.out]; first | rfl | go_num, by first | rfl | go_num, hB, hO⟩
                  case measure => simp [intOf]; omega
                · have z0 : ¬ (d : Int) = (k : Int) := by omega
                  have z1 : ((d : Int) == (k : Int)) = false := beq_eq_false_iff_ne.2 z0
                  have TD := Lib.hid (show onN (P k) fr m + (D.take (r + 1)).count k = cc by rw [TC.out, if_neg z, ← ECC.out]; omega)
                  go_wp2
                  go_roundw
                  case rel => exact ⟨r + 1, by omega, by rw [TD.out], by first | rfl | go_num, hB, hO⟩
                  case measure => simp [intOf]; omega
            · obtain rfl : r = dl := by omega
              have i1 : ¬ (r : Int) < (r : Int) := by omega
              have TE := Lib.hid (show onN (P k) fr m + (D.take r).count k = onN (P k) fr (m + 1) by rw [← EDL.out, List.take_length, OS.out])
              rw [TE.out]
              go_wp2
              go_roundw
              case rel => exact ⟨m + 1, by omega, rfl, by first | rfl | go_num | (congr 1; omega), hB⟩
              case measure => simp [wInt]; omega
        · obtain rfl : m = pk := by omega
          have i1 : ¬ fr + (m : Int) < fr + P k := by have := ePk.out; omega
          rw [ON.out]
          go_wp2
          go_roundw
          case rel => exact ⟨k + 1, by omega, by first | rfl | go_num, hB⟩
          case measure => simp [intOf]; omega
    · obtain rfl : k = n := by omega
      have j1 : ¬ (k : Int) < (k : Int) := by omega
      go_wp2_with fail
      go_loopw [12] (fun t v => ∃ m : Nat, m ≤ 150 ∧ t = .int .i64 (m : Int) ∧ Hid (FuS p q g tc k N P F 2 m (S m).W (S m).K (S m).T w v)) (fun t _ => 150 - (intOf t).toNat)
      case atStart => exact ⟨0, by omega, rfl, by rw [FZ.out]; exact hB⟩
      case round =>
        clear hB
        obtain ⟨m, hm, rfl, hB⟩ := hrel
        generalize wr = v at *
        have i3 : 0 ≤ (m : Int) := by omega
        by_cases hml : m < 150
        · have i1 : (m : Int) < 150 := by omega
          have i2 : IntKind.i64.wrap ((m : Int) + 1) = (m : Int) + 1 := by rw [IntKind.wrap_i64]; omega
          have D1 := Lib.hid (DU.out m (by omega) (by omega) v hB.out.b)
          have SN := FS.out m
          have DLL := duL_len P F m k
          have DM := fun d (h : d ∈ duL P F m k) => (duL_mem.1 h).1
          obtain ⟨D, eD⟩ : ∃ D, duL P F m k = D := ⟨_, rfl⟩
          rw [eD] at D1 SN DLL DM
          clear eD
          have SN := Lib.hid SN
          have DM := Lib.hid DM
          go_wp2_with fail
          refine D1.out.mono ?_
          rintro e v1 ⟨xl, rfl, hO, hb⟩
          have hB1 := Lib.hid (hB.out.next hb)
          have lo := Lib.hid (show w.heap.size ≤ v.heap.size from hB.out.b.size)
          have bz := Lib.hid hb.size
          have pv := Lib.hid (show p < v.heap.size ∧ q < v.heap.size from ⟨hB.out.x.h.lt, hB.out.x.qz⟩)
          have hO := Lib.hid hO
          clear hB D1 hb
          obtain ⟨al, cl, exl, -, -, -⟩ := hO.out.row
          rw [lvals_len] at exl
          subst exl
          obtain ⟨dl, edl⟩ : ∃ z, D.length = z := ⟨_, rfl⟩
          have EDL := Lib.hid edl
          rw [edl] at hO DLL ⊢
          clear edl
          obtain ⟨LL, eLL⟩ : ∃ LL : Nat → List Int, ∀ r, LL r = (D.take r).map fun i => xwI (N i) := ⟨_, fun _ => rfl⟩
          have LN := Lib.hid (fun r (hr : r ≤ dl) => show (LL r).length = r by rw [eLL, List.length_map, List.length_take, EDL.out]; omega)
          have L0 := Lib.hid (show LL 0 = [] by rw [eLL]; rfl)
          have LS := Lib.hid (fun r (hr : r < D.length) => show LL (r + 1) = LL r ++ [xwI (N (D.getD r 0))] by
            have e : D.getD r 0 = D[r] := by simp [List.getD, hr]
            rw [e, eLL, eLL, List.take_succ_eq_append_getElem hr, List.map_append]; rfl)
          have LE := Lib.hid (show LL dl = D.map fun i => xwI (N i) by rw [eLL, ← EDL.out, List.take_length])
          clear eLL
          go_wp2_with fail
          go_loopw [13, 15] (fun x j u => ∃ (r : Nat) (x' : Value), r ≤ dl ∧ x = x' ∧ j = .int .i64 (r : Int) ∧ Hid (Og 44 v1.heap.size x' (nvals .u32 (LL r)) u) ∧ Hid (Below v1.heap.size v1 u)) (fun _ j _ => dl - (intOf j).toNat)
          case atStart => exact ⟨0, _, by omega, rfl, rfl, by rw [L0.out]; exact Lib.hid (Og.nil _ _ _), Lib.hid (Below.refl _ _)⟩
          case round =>
            obtain ⟨r, xw, hr, rfl, rfl, hW, hV⟩ := hrel
            generalize wr = v2 at *
            have hB := Lib.hid (hB1.out.next hV.out)
            have hO2 := Lib.hid (hO.out.bel hV.out)
            by_cases hrn : r < dl
            · have hrD : r < D.length := by rw [EDL.out]; exact hrn
              obtain ⟨ao, cp, ex, -, hn0, hs0⟩ := hO2.out.row
              injection ex with ex1 ex2 ex3
              subst ex1
              have hne : D ≠ [] := fun e => by rw [e] at hrD; simp at hrD
              have dk := DM.out (D.getD r 0) (by simp [List.getD, hrD])
              have LS2 := LS.out r hrD
              cases al with
              | none => exact absurd (by have := (hn0 rfl).1; simpa [lvals] using this) hne
              | some ad =>
                obtain ⟨mb, mo, sp⟩ := ad
                obtain ⟨s1', -, -, s4⟩ := hs0 _ rfl
                have s1' : sp = none := s1'
                subst s1'
                have ck : v2.cell? ⟨mb, mo + r, none⟩ = some (.int .i64 ((D.getD r 0 : Nat) : Int)) := s4 r (.int .i64 ((D.getD r 0 : Nat) : Int)) (by simp [lvals, hrD])
                obtain ⟨d, ed⟩ : ∃ d, D.getD r 0 = d := ⟨_, rfl⟩
                rw [ed] at ck dk LS2
                obtain ⟨b2, off2, ea2, -, m0, -, -⟩ := (HH.out v2 hB.out.b).at dk
                injection ea2 with ea2
                injection ea2 with e1 e2
                subst e1 e2
                have hs := of_decide_eq_true (HS.out d dk)
                obtain ⟨y, ey⟩ : ∃ y, N d = y := ⟨_, rfl⟩
                rw [ey] at hs m0 LS2
                have r1 : (r : Int) < (dl : Int) := by omega
                have r2 : IntKind.i64.wrap ((r : Int) + 1) = (r : Int) + 1 := by rw [IntKind.wrap_i64]; omega
                have r4 : 0 ≤ (r : Int) := by omega
                have d1 : (d : Int) < (k : Int) := by omega
                have d2 : 0 ≤ (d : Int) := by omega
                have u1 : IntKind.u32.wrap y = y := by rw [IntKind.wrap_u32]; omega
                have u2 : IntKind.i64.wrap y = y := by rw [IntKind.wrap_i64]; omega
                have u3 : IntKind.u32.wrap (y + 2147483648) = y + 2147483648 := by rw [IntKind.wrap_u32]; omega
                have ON := Lib.hid (fun u => rones_any y (by omega) (by omega) u)
                have OBD := onI_bd y 40
                have o1 : (onI y 40).tmod 2 = onI y 40 % 2 := Int.tmod_eq_emod_of_nonneg (by omega)
                have o2 : IntKind.i64.wrap (onI y 40 % 2) = onI y 40 % 2 := by rw [IntKind.wrap_i64]; omega
                have GL := Lib.hid (show (nvals .u32 (LL r)).length + 1 ≤ 100 by rw [nvals_len, LN.out r (by omega)]; omega)
                have hz2 := Lib.hid (show v1.heap.size ≤ v2.heap.size from hV.out.size)
                clear hs0 s4 hn0 hne ex2 ex3 ed ey OBD hs
                by_cases z : onI y 40 % 2 = 0
                · have z1 : (onI y 40 % 2 == 0) = true := beq_iff_eq.2 z
                  have LS3 := Lib.hid (show LL (r + 1) = LL r ++ [y + 2147483648] by rw [LS2, show xwI y = y + 2147483648 from if_pos z])
                  clear LS2 z
                  go_wp2_with fail
                  refine (ON.out _).mono ?_
                  rintro e v3 ⟨rfl, rfl⟩
                  have SR := Lib.hid (src_new 39 44 44 Try.underlying39 v2 [.int .u32 (y + 2147483648)] (fun u hu => by simp at hu; subst hu; rfl))
                  have A1 := Lib.hid ((Below.refl v2.heap.size v2).alloc (Nat.le_refl _) (.cells #[.int .u32 (y + 2147483648)] 44))
                  have hW3 := Lib.hid (hW.out.bel A1.out)
                  have hV3 := Lib.hid (hV.out.trans (A1.out.mono hz2.out))
                  have hz3 := Lib.hid (Nat.le_trans hz2.out A1.out.size)
                  clear hO2 hB
                  go_wp2_with (first | (at_builtin; go_loud (refine wpList_append_og _ rfl (.tmp 115) (.tmp 117) 39 39 rfl 44 (.int .u32 0) 4 Try.underlying39 (by kernel_rfl) rfl v1.heap.size _ _ rfl hW3.out hz3.out _ 1 _ rfl SR.out (by have := GL.out; unfold maxLen; omega) (by have := GL.out; omega) ?_; intro x7 w7 hO7 hK7 hN7)) | fail)
                  have k7 := Lib.hid (hV3.out.trans (hK7.below hW3.out hz3.out))
                  have o7 := Lib.hid (show Og 44 v1.heap.size x7 (nvals .u32 (LL (r + 1))) w7 by rw [LS3.out, nvals_app]; exact hO7)
                  clear hO7 hK7 hN7 SR A1 hW3 hz3 hW hV hV3
                  go_wp2
                  go_roundw
                  case rel => exact ⟨r + 1, x7, by omega, rfl, by first | rfl | go_num, o7, k7⟩
                  case measure => simp [intOf]; omega
                · have z1 : (onI y 40 % 2 == 0) = false := beq_eq_false_iff_ne.2 z
                  have LS3 := Lib.hid (show LL (r + 1) = LL r ++ [y] by rw [LS2, show xwI y = y from if_neg z])
                  clear LS2 z
                  go_wp2_with fail
                  refine (ON.out _).mono ?_
                  rintro e v3 ⟨rfl, rfl⟩
                  have SR := Lib.hid (src_new 39 44 44 Try.underlying39 v2 [.int .u32 (y)] (fun u hu => by simp at hu; subst hu; rfl))
                  have A1 := Lib.hid ((Below.refl v2.heap.size v2).alloc (Nat.le_refl _) (.cells #[.int .u32 (y)] 44))
                  have hW3 := Lib.hid (hW.out.bel A1.out)
                  have hV3 := Lib.hid (hV.out.trans (A1.out.mono hz2.out))
                  have hz3 := Lib.hid (Nat.le_trans hz2.out A1.out.size)
                  clear hO2 hB
                  go_wp2_with (first | (at_builtin; go_loud (refine wpList_append_og _ rfl (.tmp 115) (.tmp 117) 39 39 rfl 44 (.int .u32 0) 4 Try.underlying39 (by kernel_rfl) rfl v1.heap.size _ _ rfl hW3.out hz3.out _ 1 _ rfl SR.out (by have := GL.out; unfold maxLen; omega) (by have := GL.out; omega) ?_; intro x7 w7 hO7 hK7 hN7)) | fail)
                  have k7 := Lib.hid (hV3.out.trans (hK7.below hW3.out hz3.out))
                  have o7 := Lib.hid (show Og 44 v1.heap.size x7 (nvals .u32 (LL (r + 1))) w7 by rw [LS3.out, nvals_app]; exact hO7)
                  clear hO7 hK7 hN7 SR A1 hW3 hz3 hW hV hV3
                  go_wp2
                  go_roundw
                  case rel => exact ⟨r + 1, x7, by omega, rfl, by first | rfl | go_num, o7, k7⟩
                  case measure => simp [intOf]; omega
            · obtain rfl : r = dl := by omega
              have r1 : ¬ (r : Int) < (r : Int) := by omega
              obtain ⟨aw, cw, exw, -, hRW, -, hAW⟩ := hW.out.rowIs
              subst exw
              rw [LN.out r (Nat.le_refl _)]
              have pv2 := pv.out
              have b1 := bz.out
              have ST := wstep aw cw (LL r) v2 hB.out.x hn2 (by omega) hRW (fun _ b hb => by have := (hAW b hb).2; omega) (by rw [LN.out r (Nat.le_refl _)]; omega) (fun x hx => by
                rw [LE.out] at hx
                obtain ⟨i, hi, rfl⟩ := List.mem_map.1 hx
                have hs := of_decide_eq_true (HS.out i (DM.out i hi))
                have := xwI_ok hs.1 hs.2.1
                exact this.2.2)
              have em : min ((m : Int) + 1) 1000000 = (m : Int) + 1 := by omega
              rw [em, LN.out r (Nat.le_refl _), LE.out, ← SN.out, (FO.out (m + 1)).1] at ST
              replace ST := Lib.hid ST
              have ec : (((m + 1 : Nat)) : Int) = (m : Int) + 1 := by omega
              have F3 := FO.out (m + 1)
              rw [ec] at F3
              have MT := Lib.hid (okT_ms HS.out F3.2.1 k (Nat.le_refl _))
              have F3T := Lib.hid F3.2.2
              clear F3 hRW hAW hO hO2 hB1 LN L0 LS LE SN DM em pv2 hW
              go_wp2_with fail
              refine ST.out.mono ?_
              rintro e w3 ⟨rfl, hx3, h3⟩
              have B3 := Lib.hid (hB.out.step hx3 h3)
              clear hB ST hx3 h3
              have MS := wmiss w3 B3.out.x hn2 (by omega) (by omega) HS.out F3T.out
              rw [MT.out] at MS
              replace MS := Lib.hid MS
              have e1 : ((((0 : Nat)) : Int) != 0) = false := by decide
              go_wp2_with fail
              refine MS.out.mono ?_
              rintro e w4 ⟨xm, rfl, hOm, hb⟩
              have B4 := Lib.hid (B3.out.next hb)
              obtain ⟨am, cm, exm, -, -, -⟩ := hOm.row
              rw [show (nvals .i64 []).length = 0 from rfl] at exm
              subst exm
              clear hb MS B3 hOm
              have B5 := Lib.hid (show FuS p q g tc k N P F 2 ((m + 1 : Nat) : Int) (S (m + 1)).W (S (m + 1)).K (S (m + 1)).T w w4 by rw [ec]; exact B4.out)
              clear B4
              go_wp2
              go_roundw
              case rel => exact ⟨m + 1, by omega, by first | rfl | go_num, B5⟩
              case measure => simp [intOf]; omega
        · obtain rfl : m = 150 := by omega
          have i1 : ¬ (((150 : Nat) : Int)) < 150 := by omega
          have hb3 := Lib.hid hB.out.b
          go_wp2_with fail
          refine (LV.out _).mono ?_
          rintro e u9 ⟨rfl, hb9⟩
          have hb8 := Lib.hid (show Below w.heap.size w u9 from hb3.out.trans (hb9.mono hb3.out.size))
          clear hb9
          go_wp2
          go_ret
          exact ⟨rfl, hb8.out⟩
end Go.Proofs.Ytcpmdgbogdikiaa
