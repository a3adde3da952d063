/- Package bite: all tests right, and great; walked. -/
import Derived.Test.YtecpmffmmiogfabBite2
namespace Go.Proofs.Ytecpmffmmiogfab
open Go.ChangeShapes Go.WideShapes Go.ChangeAt Go.RowKit
set_option linter.unusedVariables false
set_option linter.unusedSimpArgs false
def okB (NM : Nat → ByteArray) (J : Nat → Nat → Int) (i : Nat) : Bool := tsB (NM i) (J i 1) (J i 2) (J i 3) (J i 4) (J i 5) (J i 6) && !dupB NM i (NM i)
def rtB (n : Nat) (NM : Nat → ByteArray) (J : Nat → Nat → Int) : Bool := decide (1 ≤ n) && decide (n ≤ 20) && (List.range n).all (okB NM J)
theorem rtB_bad {n k : Nat} {NM : Nat → ByteArray} {J : Nat → Nat → Int} (h : k < n) (e : okB NM J k = false) : rtB n NM J = false := by
  cases q : rtB n NM J
  · rfl
  · unfold rtB at q
    simp only [Bool.and_eq_true] at q
    have := List.all_eq_true.1 q.2 k (List.mem_range.2 h)
    rw [e] at this
    cases this
theorem rtB_good {n : Nat} {NM : Nat → ByteArray} {J : Nat → Nat → Int} (h1 : 1 ≤ n) (h2 : n ≤ 20) (h : ∀ i, i < n → okB NM J i = true) : rtB n NM J = true := by
  unfold rtB
  simp only [Bool.and_eq_true]
  exact ⟨⟨decide_eq_true h1, decide_eq_true h2⟩, List.all_eq_true.2 (fun i hi => h i (List.mem_range.1 hi))⟩
theorem rtB_few {n : Nat} {NM : Nat → ByteArray} {J : Nat → Nat → Int} (h : ¬ (1 ≤ n ∧ n ≤ 20)) : rtB n NM J = false := by
  cases q : rtB n NM J
  · rfl
  · unfold rtB at q
    simp only [Bool.and_eq_true, decide_eq_true_eq] at q
    exact absurd q.1 h
theorem rtB_ok {n : Nat} {NM : Nat → ByteArray} {J : Nat → Nat → Int} (q : rtB n NM J = true) : 1 ≤ n ∧ n ≤ 20 ∧ ∀ i, i < n → okB NM J i = true := by
  unfold rtB at q
  simp only [Bool.and_eq_true, decide_eq_true_eq] at q
  exact ⟨q.1.1, q.1.2, fun i hi => List.all_eq_true.1 q.2 i (List.mem_range.2 hi)⟩
theorem okB_bad1 {NM : Nat → ByteArray} {J : Nat → Nat → Int} {i : Nat} (h : tsB (NM i) (J i 1) (J i 2) (J i 3) (J i 4) (J i 5) (J i 6) = false) : okB NM J i = false := by
  unfold okB
  rw [h]
  rfl
theorem okB_bad2 {NM : Nat → ByteArray} {J : Nat → Nat → Int} {i : Nat} (h : dupB NM i (NM i) = true) : okB NM J i = false := by
  unfold okB
  rw [h]
  simp
theorem okB_good {NM : Nat → ByteArray} {J : Nat → Nat → Int} {i : Nat} (h : tsB (NM i) (J i 1) (J i 2) (J i 3) (J i 4) (J i 5) (J i 6) = true) (g : dupB NM i (NM i) = false) : okB NM J i = true := by
  unfold okB
  rw [h, g]
  rfl
theorem tsB_no {nm : ByteArray} {si lo hi se ne li : Int} (h : namB nm = false ∨ (si < 0 ∨ 1000 < si ∨ hi < lo ∨ se < 0 ∨ 100 < se ∨ ne < 1 ∨ 100 < ne ∨ li < se + ne ∨ 1000 < li)) : tsB nm si lo hi se ne li = false := by
  cases e : tsB nm si lo hi se ne li
  · rfl
  · unfold tsB bwI at e
    simp only [Bool.and_eq_true, decide_eq_true_eq] at e
    rcases h with h | h
    · rw [h] at e
      exact absurd e.1.1.1.1.1 (by simp)
    · omega
theorem tsB_yes {nm : ByteArray} {si lo hi se ne li : Int} (h : namB nm = true) (g : ¬ (si < 0 ∨ 1000 < si ∨ hi < lo ∨ se < 0 ∨ 100 < se ∨ ne < 1 ∨ 100 < ne ∨ li < se + ne ∨ 1000 < li)) : tsB nm si lo hi se ne li = true := by
  unfold tsB bwI
  simp only [Bool.and_eq_true, decide_eq_true_eq]
  refine ⟨⟨⟨⟨⟨h, ?_⟩, ?_⟩, ?_⟩, ?_⟩, ?_⟩ <;> omega
theorem Bts.le {w : World} {a : Option Addr} {n k : Nat} {NM : Nat → ByteArray} {J : Nat → Nat → Int} (h : Bts w a n NM J) (hk : k ≤ n) : Bts w a k NM J := by
  rcases h with h | ⟨b, off, e, hlt, hc⟩
  · exact .inl (by omega)
  · exact .inr ⟨b, off, e, hlt, fun i hi => hc i (by omega)⟩
set_option maxRecDepth 100000 in
set_option maxHeartbeats 8000000 in
theorem bright (a : Option Addr) (cap n : Nat) (NM : Nat → ByteArray) (J : Nat → Nat → Int) (w : World) (h : Bts w a n NM J) (hl : n ≤ 1000) (hc : n ≤ cap) (hs : ∀ i, i < n → (NM i).size ≤ maxLen) : Calls Try.prog 16 #[.slice a n cap] w fun e w' => e = .returned (.bool (rtB n NM J)) ∧ Below w.heap.size w w' := by
  have HH := Lib.hid h
  have TS := Lib.hid (fun i (hi : i < n) u => btest (NM i) (J i 1) (J i 2) (J i 3) (J i 4) (J i 5) (J i 6) (hs i hi) u)
  have CF := Lib.hid (fun k (hk : k < n) q u (hb : Below w.heap.size w u) (hq : u.cell? ⟨q, 0, none⟩ = some (.string (NM k))) (hlt : q < u.heap.size) => bcontf a cap k NM J q (NM k) u ((h.le (by omega)).below hb) (by omega) hq hlt)
  have RB := Lib.hid (fun k (hk : k < n) (e : okB NM J k = false) => rtB_bad hk e)
  have RF := Lib.hid (fun (e : ¬ (1 ≤ n ∧ n ≤ 20)) => rtB_few (NM := NM) (J := J) e)
  have RG := Lib.hid (fun a b e => rtB_good (n := n) (NM := NM) (J := J) a b e)
  obtain ⟨R, hR⟩ : ∃ R, rtB n NM J = R := ⟨_, rfl⟩
  rw [hR] at RB RF RG ⊢
  clear hR h hs
  by_cases h1 : 1 ≤ n
  · by_cases h2 : n ≤ 20
    · have i1 : ¬ (n : Int) < 1 := by omega
      have i2 : ¬ (20 : Int) < (n : Int) := by omega
      clear RF
      go_enter Try.func16, Try.ntmps16
      go_wp2
      go_loopw [15] (fun i v => ∃ k : Nat, k ≤ n ∧ i = .int .i64 (k : Int) ∧ Hid (Below w.heap.size w v) ∧ Hid (∀ j, j < k → okB NM J j = true)) (fun i _ => n - (intOf i).toNat)
      case atStart => exact ⟨0, by omega, rfl, Lib.hid (Below.refl _ _), Lib.hid (fun j hj => by omega)⟩
      case round =>
        obtain ⟨k, hk, rfl, hb, hO⟩ := hrel
        by_cases hltk : k < n
        · obtain ⟨b, off, ea, hbb, k0, k1, k2, k3, k4, k5, k6⟩ := (HH.out.below hb.out).at hltk
          subst ea
          have j1 : (k : Int) < (n : Int) := by omega
          have j2 : IntKind.i64.wrap ((k : Int) + 1) = (k : Int) + 1 := by rw [IntKind.wrap_i64]; omega
          have j3 : 0 ≤ (k : Int) := by omega
          have j4 : (k : Int) ≤ (cap : Int) := by omega
          have j5 : k ≤ cap := by omega
          have TT := TS.out k hltk
          have CC := CF.out k hltk
          have rb := RB.out k hltk
          have O1 := fun e => okB_bad1 (NM := NM) (J := J) (i := k) e
          have O2 := fun e => okB_bad2 (NM := NM) (J := J) (i := k) e
          have O3 := fun e g => okB_good (NM := NM) (J := J) (i := k) e g
          have ON := Lib.hid (fun (e : okB NM J k = true) => show ∀ j, j < k + 1 → okB NM J j = true from fun j hj => by
            rcases Nat.lt_succ_iff_lt_or_eq.1 hj with h | h
            · exact hO.out j h
            · subst h; exact e)
          obtain ⟨V, eV, hm0, hz, hh⟩ := bt_box wr (NM k) (J k 1) (J k 2) (J k 3) (J k 4) (J k 5) (J k 6)
          have hbV := Lib.hid (hb.out.trans (hm0.mono hb.out.size))
          have hmf : ∀ u, (Instr.makeFunc (.func 29) #[] #[.pointer (some ⟨wr.heap.size, 0, none⟩)]).run Try.prog u = .ok (.func (.func 29) #[] #[.pointer (some ⟨wr.heap.size, 0, none⟩)]) u := fun u => rfl
          generalize okB NM J k = o at *
          generalize tsB (NM k) (J k 1) (J k 2) (J k 3) (J k 4) (J k 5) (J k 6) = p at *
          generalize dupB NM k (NM k) = d at *
          generalize NM k = nm at *
          generalize J k 1 = si at *
          generalize J k 2 = lo at *
          generalize J k 3 = hi at *
          generalize J k 4 = se at *
          generalize J k 5 = ne at *
          generalize J k 6 = li at *
          replace TT := Lib.hid TT
          replace CC := Lib.hid CC
          replace rb := Lib.hid rb
          replace O1 := Lib.hid O1
          replace O2 := Lib.hid O2
          replace O3 := Lib.hid O3
          replace eV := Lib.hid eV
          replace hz := Lib.hid hz
          replace hh := Lib.hid hh
          clear hbb hm0
          cases p
          · go_upto_region 6 with (fail)
            rw [← eV.out]
            have hq := hh.out
            obtain ⟨c0, f0⟩ := hq.one 0 rfl
            obtain ⟨c1, f1⟩ := hq.one 1 rfl
            obtain ⟨c2, f2⟩ := hq.one 2 rfl
            obtain ⟨c3, f3⟩ := hq.one 3 rfl
            obtain ⟨c4, f4⟩ := hq.one 4 rfl
            obtain ⟨c5, f5⟩ := hq.one 5 rfl
            obtain ⟨c6, f6⟩ := hq.one 6 rfl
            clear hq k0 k1 k2 k3 k4 k5 k6
            go_wp2_with fail
            refine (TT.out _).mono ?_
            rintro e w1 ⟨rfl, hb1⟩
            have hb2 := Lib.hid (hbV.out.trans (hb1.mono hbV.out.size))
            clear hb1 c0 c1 c2 c3 c4 c5 c6 f0 f1 f2 f3 f4 f5 f6
            go_wp2
            go_ret
            exact ⟨ret_bool (by rw [rb.out (O1.out (by trivial))]), hb2.out⟩
          · cases d
            all_goals
              go_upto_region 6 with (fail)
              rw [← eV.out]
              have hq := hh.out
              obtain ⟨c0, f0⟩ := hq.one 0 rfl
              obtain ⟨c1, f1⟩ := hq.one 1 rfl
              obtain ⟨c2, f2⟩ := hq.one 2 rfl
              obtain ⟨c3, f3⟩ := hq.one 3 rfl
              obtain ⟨c4, f4⟩ := hq.one 4 rfl
              obtain ⟨c5, f5⟩ := hq.one 5 rfl
              obtain ⟨c6, f6⟩ := hq.one 6 rfl
              clear hq k0 k1 k2 k3 k4 k5 k6
              go_wp2_with fail
              refine (TT.out _).mono ?_
              rintro e w1 ⟨rfl, hb1⟩
              have hb2 := Lib.hid (hbV.out.trans (hb1.mono hbV.out.size))
              have hh1 := hh.out.bel hb1
              have q0 := (hh1.one 0 rfl).1
              have q1 := hh1.lt
              clear hb1 hh1 c0 c1 c2 c3 c4 c5 c6 f0 f1 f2 f3 f4 f5 f6
              go_wp2_with fail
              refine (CC.out _ _ hb2.out q0 q1).mono ?_
              rintro e w3 ⟨rfl, hb3⟩
              have hb4 := Lib.hid (hb2.out.trans (hb3.mono hb2.out.size))
              clear hb3 q0 q1
            · go_wp2
              go_roundw
              case rel => exact ⟨k + 1, by omega, by first | rfl | go_num, hb4, Lib.hid (ON.out (O3.out (by trivial) (by trivial)))⟩
              case measure => simp [intOf] <;> omega
            · go_wp2
              go_ret
              exact ⟨ret_bool (by rw [rb.out (O2.out (by trivial))]), hb4.out⟩
        · obtain rfl : k = n := by omega
          go_wp2
          go_ret
          exact ⟨ret_bool (RG.out h1 h2 hO.out).symm, hb.out⟩
    · have i1 : ¬ (n : Int) < 1 := by omega
      have i2 : (20 : Int) < (n : Int) := by omega
      go_enter Try.func16, Try.ntmps16
      go_wp2
      go_ret
      exact ⟨ret_bool (by rw [RF.out (by omega)]), Below.refl _ _⟩
  · have i1 : (n : Int) < 1 := by omega
    go_enter Try.func16, Try.ntmps16
    go_wp2
    go_ret
    exact ⟨ret_bool (by rw [RF.out (by omega)]), Below.refl _ _⟩
def GrOut (n : Nat) (NM : Nat → ByteArray) (e : Ending) : Prop := ∃ R : Bool, e = .returned (.bool R) ∧ (R = false → n ≤ 50 ∧ ∀ i, i < n → (NM i).size ≤ 100)
set_option maxRecDepth 100000 in
set_option maxHeartbeats 8000000 in
theorem bgreat (a : Option Addr) (cap n : Nat) (NM : Nat → ByteArray) (J : Nat → Nat → Int) (w : World) (h : Bts w a n NM J) (hl : n ≤ maxLen) : Calls Try.prog 7 #[.slice a n cap] w fun e w' => GrOut n NM e ∧ w' = w := by
  have HH := Lib.hid h
  unfold maxLen at hl
  clear h
  go_enter Try.func7, Try.ntmps7
  go_wp2
  go_loopw [3] (fun i v => ∃ k : Nat, k ≤ n ∧ k ≤ 50 ∧ i = .int .i64 (k : Int) ∧ v = w ∧ Hid (∀ j, j < k → (NM j).size ≤ 100)) (fun i _ => n - (intOf i).toNat)
  case atStart => exact ⟨0, by omega, by omega, rfl, rfl, Lib.hid (fun j hj => by omega)⟩
  case round =>
    obtain ⟨k, hk, hk5, rfl, rfl, hO⟩ := hrel
    by_cases hltk : k < n
    · by_cases h5 : k < 50
      · obtain ⟨b, off, ea, hbb, k0, -⟩ := HH.out.at hltk
        subst ea
        have j1 : (k : Int) < (n : Int) := by omega
        have j5 : (k : Int) < 50 := by omega
        have j2 : IntKind.i64.wrap ((k : Int) + 1) = (k : Int) + 1 := by rw [IntKind.wrap_i64]; omega
        have ON := Lib.hid (fun (e : (NM k).size ≤ 100) => show ∀ j, j < k + 1 → (NM j).size ≤ 100 from fun j hj => by
          rcases Nat.lt_succ_iff_lt_or_eq.1 hj with h | h
          · exact hO.out j h
          · subst h; exact e)
        generalize NM k = nm at *
        by_cases h6 : nm.size ≤ 100
        · have j6 : ¬ (100 : Int) < (nm.size : Int) := by omega
          go_wp2
          go_roundw
          case rel => exact ⟨k + 1, by omega, by omega, by first | rfl | go_num, by first | rfl | trivial, Lib.hid (ON.out h6)⟩
          case measure => simp [intOf] <;> omega
        · have j6 : (100 : Int) < (nm.size : Int) := by omega
          go_wp2
          go_ret
          exact ⟨⟨true, rfl, fun e => by cases e⟩, rfl⟩
      · have j1 : (k : Int) < (n : Int) := by omega
        have j5 : ¬ (k : Int) < 50 := by omega
        have j6 : (50 : Int) < (n : Int) := by omega
        go_wp2
        go_ret
        exact ⟨⟨true, rfl, fun e => by cases e⟩, rfl⟩
    · obtain rfl : k = n := by omega
      have j6 : ¬ (50 : Int) < (k : Int) := by omega
      go_wp2
      go_ret
      exact ⟨⟨false, rfl, fun e => ⟨hk5, hO.out⟩⟩, rfl⟩
set_option maxRecDepth 100000 in
set_option maxHeartbeats 8000000 in
theorem blaw (a : Option Addr) (cap n : Nat) (NM : Nat → ByteArray) (J : Nat → Nat → Int) (w : World) (h : Bts w a n NM J) (hl : n ≤ 1000) (hs : ∀ i, i < n → (NM i).size ≤ maxLen) : Calls Try.prog 17 #[.slice a n cap] w fun e w' => e = .returned (.bool (rtB n NM J)) ∧ Below w.heap.size w w' := by
  have HH := Lib.hid h
  have NS := Lib.hid (fun i (hi : i < n) u => bnamed (NM i) (hs i hi) u)
  have RB := Lib.hid (fun k (hk : k < n) (e : okB NM J k = false) => rtB_bad hk e)
  have RF := Lib.hid (fun (e : ¬ (1 ≤ n ∧ n ≤ 20)) => rtB_few (NM := NM) (J := J) e)
  have RG := Lib.hid (fun a b e => rtB_good (n := n) (NM := NM) (J := J) a b e)
  obtain ⟨R, hR⟩ : ∃ R, rtB n NM J = R := ⟨_, rfl⟩
  rw [hR] at RB RF RG ⊢
  clear hR h hs
  go_enter Try.func17, Try.ntmps17
  go_wp2
  go_loopw [3] (fun i v => ∃ k : Nat, k ≤ n ∧ i = .int .i64 (k : Int) ∧ Hid (Below w.heap.size w v) ∧ Hid (∀ j, j < k → okB NM J j = true)) (fun i _ => n - (intOf i).toNat)
  case atStart => exact ⟨0, by omega, rfl, Lib.hid (Below.refl _ _), Lib.hid (fun j hj => by omega)⟩
  case round =>
    obtain ⟨k, hk, rfl, hb, hO⟩ := hrel
    by_cases hltk : k < n
    · obtain ⟨b, off, ea, hbb, k0, k1, k2, k3, k4, k5, k6⟩ := (HH.out.below hb.out).at hltk
      subst ea
      have j1 : (k : Int) < (n : Int) := by omega
      have j2 : IntKind.i64.wrap ((k : Int) + 1) = (k : Int) + 1 := by rw [IntKind.wrap_i64]; omega
      have NA := NS.out k hltk
      have rb := RB.out k hltk
      have O1 := fun e => okB_bad1 (NM := NM) (J := J) (i := k) e
      have O2 := fun e => okB_bad2 (NM := NM) (J := J) (i := k) e
      have O3 := fun e g => okB_good (NM := NM) (J := J) (i := k) e g
      have TN := fun e => tsB_no (nm := NM k) (si := J k 1) (lo := J k 2) (hi := J k 3) (se := J k 4) (ne := J k 5) (li := J k 6) e
      have TY := fun e g => tsB_yes (nm := NM k) (si := J k 1) (lo := J k 2) (hi := J k 3) (se := J k 4) (ne := J k 5) (li := J k 6) e g
      have ON := Lib.hid (fun (e : okB NM J k = true) => show ∀ j, j < k + 1 → okB NM J j = true from fun j hj => by
        rcases Nat.lt_succ_iff_lt_or_eq.1 hj with h | h
        · exact hO.out j h
        · subst h; exact e)
      obtain ⟨V, eV, hm0, hz, hh⟩ := bt_box wr (NM k) (J k 1) (J k 2) (J k 3) (J k 4) (J k 5) (J k 6)
      have hbV := Lib.hid (hb.out.trans (hm0.mono hb.out.size))
      generalize okB NM J k = o at *
      generalize tsB (NM k) (J k 1) (J k 2) (J k 3) (J k 4) (J k 5) (J k 6) = p at *
      generalize namB (NM k) = nb at *
      generalize NM k = nm at *
      generalize J k 1 = si at *
      generalize J k 2 = lo at *
      generalize J k 3 = hi at *
      generalize J k 4 = se at *
      generalize J k 5 = ne at *
      generalize J k 6 = li at *
      have wse := Lib.hid (fun (a : ¬ (se < 0 ∨ 100 < se)) (b : ¬ (ne < 1 ∨ 100 < ne)) => show IntKind.i64.wrap (se + ne) = se + ne from IntWalk.i64_in _ ⟨by omega, by omega⟩)
      replace NA := Lib.hid NA
      replace rb := Lib.hid rb
      replace O1 := Lib.hid O1
      replace O2 := Lib.hid O2
      replace O3 := Lib.hid O3
      replace TN := Lib.hid TN
      replace TY := Lib.hid TY
      replace eV := Lib.hid eV
      replace hz := Lib.hid hz
      replace hh := Lib.hid hh
      clear hbb hm0
      generalize wr = wo at *
      cases nb
      · have tn := Lib.hid (TN.out (.inl rfl))
        clear TN
        go_upto_region 5 with (fail)
        rw [← eV.out]
        have hq := hh.out
        obtain ⟨c0, f0⟩ := hq.one 0 rfl
        obtain ⟨c1, f1⟩ := hq.one 1 rfl
        obtain ⟨c2, f2⟩ := hq.one 2 rfl
        obtain ⟨c3, f3⟩ := hq.one 3 rfl
        obtain ⟨c4, f4⟩ := hq.one 4 rfl
        obtain ⟨c5, f5⟩ := hq.one 5 rfl
        obtain ⟨c6, f6⟩ := hq.one 6 rfl
        clear hq k0 k1 k2 k3 k4 k5 k6
        go_wp2_with fail
        refine (NA.out _).mono ?_
        rintro e w1 ⟨rfl, rfl⟩
        go_wp2
        go_ret
        exact ⟨ret_bool (by rw [rb.out (O1.out tn.out)]), hbV.out⟩
      · replace TY := Lib.hid (TY.out rfl)
        by_cases d0 : si < 0
        · have tn := Lib.hid (TN.out (.inr (by omega)))
          clear TN
          go_upto_region 5 with (fail)
          rw [← eV.out]
          have hq := hh.out
          obtain ⟨c0, f0⟩ := hq.one 0 rfl
          obtain ⟨c1, f1⟩ := hq.one 1 rfl
          obtain ⟨c2, f2⟩ := hq.one 2 rfl
          obtain ⟨c3, f3⟩ := hq.one 3 rfl
          obtain ⟨c4, f4⟩ := hq.one 4 rfl
          obtain ⟨c5, f5⟩ := hq.one 5 rfl
          obtain ⟨c6, f6⟩ := hq.one 6 rfl
          clear hq k0 k1 k2 k3 k4 k5 k6
          go_wp2_with fail
          refine (NA.out _).mono ?_
          rintro e w1 ⟨rfl, rfl⟩
          go_wp2
          go_ret
          exact ⟨ret_bool (by rw [rb.out (O1.out tn.out)]), hbV.out⟩
        · by_cases d1 : (1000 : Int) < si
          · have tn := Lib.hid (TN.out (.inr (by omega)))
            clear TN
            go_upto_region 5 with (fail)
            rw [← eV.out]
            have hq := hh.out
            obtain ⟨c0, f0⟩ := hq.one 0 rfl
            obtain ⟨c1, f1⟩ := hq.one 1 rfl
            obtain ⟨c2, f2⟩ := hq.one 2 rfl
            obtain ⟨c3, f3⟩ := hq.one 3 rfl
            obtain ⟨c4, f4⟩ := hq.one 4 rfl
            obtain ⟨c5, f5⟩ := hq.one 5 rfl
            obtain ⟨c6, f6⟩ := hq.one 6 rfl
            clear hq k0 k1 k2 k3 k4 k5 k6
            go_wp2_with fail
            refine (NA.out _).mono ?_
            rintro e w1 ⟨rfl, rfl⟩
            go_wp2
            go_ret
            exact ⟨ret_bool (by rw [rb.out (O1.out tn.out)]), hbV.out⟩
          · by_cases d2 : hi < lo
            · have tn := Lib.hid (TN.out (.inr (by omega)))
              clear TN
              go_upto_region 5 with (fail)
              rw [← eV.out]
              have hq := hh.out
              obtain ⟨c0, f0⟩ := hq.one 0 rfl
              obtain ⟨c1, f1⟩ := hq.one 1 rfl
              obtain ⟨c2, f2⟩ := hq.one 2 rfl
              obtain ⟨c3, f3⟩ := hq.one 3 rfl
              obtain ⟨c4, f4⟩ := hq.one 4 rfl
              obtain ⟨c5, f5⟩ := hq.one 5 rfl
              obtain ⟨c6, f6⟩ := hq.one 6 rfl
              clear hq k0 k1 k2 k3 k4 k5 k6
              go_wp2_with fail
              refine (NA.out _).mono ?_
              rintro e w1 ⟨rfl, rfl⟩
              go_wp2
              go_ret
              exact ⟨ret_bool (by rw [rb.out (O1.out tn.out)]), hbV.out⟩
            · by_cases d3 : se < 0
              · have tn := Lib.hid (TN.out (.inr (by omega)))
                clear TN
                go_upto_region 5 with (fail)
                rw [← eV.out]
                have hq := hh.out
                obtain ⟨c0, f0⟩ := hq.one 0 rfl
                obtain ⟨c1, f1⟩ := hq.one 1 rfl
                obtain ⟨c2, f2⟩ := hq.one 2 rfl
                obtain ⟨c3, f3⟩ := hq.one 3 rfl
                obtain ⟨c4, f4⟩ := hq.one 4 rfl
                obtain ⟨c5, f5⟩ := hq.one 5 rfl
                obtain ⟨c6, f6⟩ := hq.one 6 rfl
                clear hq k0 k1 k2 k3 k4 k5 k6
                go_wp2_with fail
                refine (NA.out _).mono ?_
                rintro e w1 ⟨rfl, rfl⟩
                go_wp2
                go_ret
                exact ⟨ret_bool (by rw [rb.out (O1.out tn.out)]), hbV.out⟩
              · by_cases d4 : (100 : Int) < se
                · have tn := Lib.hid (TN.out (.inr (by omega)))
                  clear TN
                  go_upto_region 5 with (fail)
                  rw [← eV.out]
                  have hq := hh.out
                  obtain ⟨c0, f0⟩ := hq.one 0 rfl
                  obtain ⟨c1, f1⟩ := hq.one 1 rfl
                  obtain ⟨c2, f2⟩ := hq.one 2 rfl
                  obtain ⟨c3, f3⟩ := hq.one 3 rfl
                  obtain ⟨c4, f4⟩ := hq.one 4 rfl
                  obtain ⟨c5, f5⟩ := hq.one 5 rfl
                  obtain ⟨c6, f6⟩ := hq.one 6 rfl
                  clear hq k0 k1 k2 k3 k4 k5 k6
                  go_wp2_with fail
                  refine (NA.out _).mono ?_
                  rintro e w1 ⟨rfl, rfl⟩
                  go_wp2
                  go_ret
                  exact ⟨ret_bool (by rw [rb.out (O1.out tn.out)]), hbV.out⟩
                · by_cases d5 : ne < 1
                  · have tn := Lib.hid (TN.out (.inr (by omega)))
                    clear TN
                    go_upto_region 5 with (fail)
                    rw [← eV.out]
                    have hq := hh.out
                    obtain ⟨c0, f0⟩ := hq.one 0 rfl
                    obtain ⟨c1, f1⟩ := hq.one 1 rfl
                    obtain ⟨c2, f2⟩ := hq.one 2 rfl
                    obtain ⟨c3, f3⟩ := hq.one 3 rfl
                    obtain ⟨c4, f4⟩ := hq.one 4 rfl
                    obtain ⟨c5, f5⟩ := hq.one 5 rfl
                    obtain ⟨c6, f6⟩ := hq.one 6 rfl
                    clear hq k0 k1 k2 k3 k4 k5 k6
                    go_wp2_with fail
                    refine (NA.out _).mono ?_
                    rintro e w1 ⟨rfl, rfl⟩
                    go_wp2
                    go_ret
                    exact ⟨ret_bool (by rw [rb.out (O1.out tn.out)]), hbV.out⟩
                  · by_cases d6 : (100 : Int) < ne
                    · have tn := Lib.hid (TN.out (.inr (by omega)))
                      clear TN
                      go_upto_region 5 with (fail)
                      rw [← eV.out]
                      have hq := hh.out
                      obtain ⟨c0, f0⟩ := hq.one 0 rfl
                      obtain ⟨c1, f1⟩ := hq.one 1 rfl
                      obtain ⟨c2, f2⟩ := hq.one 2 rfl
                      obtain ⟨c3, f3⟩ := hq.one 3 rfl
                      obtain ⟨c4, f4⟩ := hq.one 4 rfl
                      obtain ⟨c5, f5⟩ := hq.one 5 rfl
                      obtain ⟨c6, f6⟩ := hq.one 6 rfl
                      clear hq k0 k1 k2 k3 k4 k5 k6
                      go_wp2_with fail
                      refine (NA.out _).mono ?_
                      rintro e w1 ⟨rfl, rfl⟩
                      go_wp2
                      go_ret
                      exact ⟨ret_bool (by rw [rb.out (O1.out tn.out)]), hbV.out⟩
                    · have w0 := wse.out (by omega) (by omega)
                      by_cases d7 : li < se + ne
                      · have tn := Lib.hid (TN.out (.inr (by omega)))
                        clear TN
                        go_upto_region 5 with (fail)
                        rw [← eV.out]
                        have hq := hh.out
                        obtain ⟨c0, f0⟩ := hq.one 0 rfl
                        obtain ⟨c1, f1⟩ := hq.one 1 rfl
                        obtain ⟨c2, f2⟩ := hq.one 2 rfl
                        obtain ⟨c3, f3⟩ := hq.one 3 rfl
                        obtain ⟨c4, f4⟩ := hq.one 4 rfl
                        obtain ⟨c5, f5⟩ := hq.one 5 rfl
                        obtain ⟨c6, f6⟩ := hq.one 6 rfl
                        clear hq k0 k1 k2 k3 k4 k5 k6
                        go_wp2_with fail
                        refine (NA.out _).mono ?_
                        rintro e w1 ⟨rfl, rfl⟩
                        go_wp2
                        go_ret
                        exact ⟨ret_bool (by rw [rb.out (O1.out tn.out)]), hbV.out⟩
                      · by_cases d8 : (1000 : Int) < li
                        · have tn := Lib.hid (TN.out (.inr (by omega)))
                          clear TN
                          go_upto_region 5 with (fail)
                          rw [← eV.out]
                          have hq := hh.out
                          obtain ⟨c0, f0⟩ := hq.one 0 rfl
                          obtain ⟨c1, f1⟩ := hq.one 1 rfl
                          obtain ⟨c2, f2⟩ := hq.one 2 rfl
                          obtain ⟨c3, f3⟩ := hq.one 3 rfl
                          obtain ⟨c4, f4⟩ := hq.one 4 rfl
                          obtain ⟨c5, f5⟩ := hq.one 5 rfl
                          obtain ⟨c6, f6⟩ := hq.one 6 rfl
                          clear hq k0 k1 k2 k3 k4 k5 k6
                          go_wp2_with fail
                          refine (NA.out _).mono ?_
                          rintro e w1 ⟨rfl, rfl⟩
                          go_wp2
                          go_ret
                          exact ⟨ret_bool (by rw [rb.out (O1.out tn.out)]), hbV.out⟩
                        · have ty := Lib.hid (TY.out (by omega))
                          clear TY TN
                          go_upto_region 5 with (fail)
                          rw [← eV.out]
                          have hq := hh.out
                          obtain ⟨c0, f0⟩ := hq.one 0 rfl
                          obtain ⟨c1, f1⟩ := hq.one 1 rfl
                          obtain ⟨c2, f2⟩ := hq.one 2 rfl
                          obtain ⟨c3, f3⟩ := hq.one 3 rfl
                          obtain ⟨c4, f4⟩ := hq.one 4 rfl
                          obtain ⟨c5, f5⟩ := hq.one 5 rfl
                          obtain ⟨c6, f6⟩ := hq.one 6 rfl
                          clear hq k0 k1 k2 k3 k4 k5 k6
                          go_wp2_with fail
                          refine (NA.out _).mono ?_
                          rintro e w1 ⟨rfl, rfl⟩
                          go_wp2
                          go_loopw [5] (fun i v => ∃ j : Nat, j ≤ k ∧ i = .int .i64 (j : Int) ∧ Hid (Below w.heap.size w v) ∧ Hid (Held wo.heap.size [.string nm, .int .i64 si, .int .i64 lo, .int .i64 hi, .int .i64 se, .int .i64 ne, .int .i64 li] v) ∧ Hid (dupB NM j nm = false)) (fun i _ => k - (intOf i).toNat)
                          case atStart => exact ⟨0, by omega, rfl, hbV, hh, Lib.hid rfl⟩
                          case round =>
                            clear hbV hh
                            obtain ⟨j, hj, rfl, hbV, hh, hD⟩ := hrel
                            have cc0 := (hh.out.one 0 rfl).1
                            by_cases hjk : j < k
                            · obtain ⟨b2, off2, ea2, hbb2, l0, -⟩ := (HH.out.below hbV.out).at (show j < n by omega)
                              injection ea2 with ea2
                              injection ea2 with e1 e2
                              subst e1 e2
                              have y1 : (j : Int) < (k : Int) := by omega
                              have y2 : IntKind.i64.wrap ((j : Int) + 1) = (j : Int) + 1 := by rw [IntKind.wrap_i64]; omega
                              have y3 : (j : Int) < (n : Int) := by omega
                              have DS := dupB_step NM j nm
                              rw [hD.out, Bool.false_or] at DS
                              have DH := Lib.hid (fun e => dupB_hit (NM := NM) (nm := nm) hjk e)
                              have us := Lib.hid (show sEq (NM j) nm = ((NM j).toList == nm.toList) from rfl)
                              generalize sEq (NM j) nm = q at *
                              generalize NM j = um at *
                              cases q
                              all_goals
                                replace us := us.out.symm
                                replace DS := Lib.hid DS
                                go_wp2_with fail
                                refine region_moves (fun u => u.cell? ⟨b, off + j * 7, none⟩ = some (.string um) ∧ u.cell? ⟨wo.heap.size, 0, none⟩ = some (.string nm)) [] [(.free, 0), (.free, 1), (.free, 2), (.free, 3), (.take, 4), (.free, 5), (.take, 6), (.free, 7)] _ (by kernel_rfl) (by kernel_rfl) (by kernel_rfl) (by kernel_rfl) (by decide) rfl (fun _ _ _ _ _ h => h) ?_
                                simp only [List.filterMap_cons, List.filterMap_nil, List.getElem?_toArray, List.getElem?_cons_zero, List.getElem?_cons_succ, Option.map_some]
                                iterate 4
                                  first
                                    | (refine mv_free ?_ (Or.inl ⟨by rfl, ?_⟩) (⟨l0, cc0⟩) ?_
                                       rotate_left 1
                                       · intro u
                                         go_simp
                                         try with_reducible rfl
                                       simp only [Act.put, List.setIfInBounds_toArray, List.set_cons_zero, List.set_cons_succ])
                                    | (refine mv_free _ (Or.inr ⟨by rfl, rfl⟩) (⟨l0, cc0⟩) ?_
                                       simp only [Act.put, List.setIfInBounds_toArray, List.set_cons_zero, List.set_cons_succ])
                                iterate 1
                                  first
                                    | (refine mv_take ?_ (Or.inl ⟨by rfl, ?_⟩) (⟨l0, cc0⟩) ?_
                                       rotate_left 1
                                       · intro u hu
                                         (try dsimp only at hu)
                                         go_simp
                                         try with_reducible rfl
                                       simp only [Act.put, List.setIfInBounds_toArray, List.set_cons_zero, List.set_cons_succ])
                                    | (refine mv_take _ (Or.inr ⟨by rfl, rfl⟩) (⟨l0, cc0⟩) ?_
                                       simp only [Act.put, List.setIfInBounds_toArray, List.set_cons_zero, List.set_cons_succ])
                                iterate 1
                                  first
                                    | (refine mv_free ?_ (Or.inl ⟨by rfl, ?_⟩) (⟨l0, cc0⟩) ?_
                                       rotate_left 1
                                       · intro u
                                         go_simp
                                         try with_reducible rfl
                                       simp only [Act.put, List.setIfInBounds_toArray, List.set_cons_zero, List.set_cons_succ])
                                    | (refine mv_free _ (Or.inr ⟨by rfl, rfl⟩) (⟨l0, cc0⟩) ?_
                                       simp only [Act.put, List.setIfInBounds_toArray, List.set_cons_zero, List.set_cons_succ])
                                iterate 1
                                  first
                                    | (refine mv_take ?_ (Or.inl ⟨by rfl, ?_⟩) (⟨l0, cc0⟩) ?_
                                       rotate_left 1
                                       · intro u hu
                                         (try dsimp only at hu)
                                         go_simp
                                         try with_reducible rfl
                                       simp only [Act.put, List.setIfInBounds_toArray, List.set_cons_zero, List.set_cons_succ])
                                    | (refine mv_take _ (Or.inr ⟨by rfl, rfl⟩) (⟨l0, cc0⟩) ?_
                                       simp only [Act.put, List.setIfInBounds_toArray, List.set_cons_zero, List.set_cons_succ])
                                iterate 1
                                  first
                                    | (refine mv_free ?_ (Or.inl ⟨by rfl, ?_⟩) (⟨l0, cc0⟩) ?_
                                       rotate_left 1
                                       · intro u
                                         go_simp
                                         try with_reducible rfl
                                       simp only [Act.put, List.setIfInBounds_toArray, List.set_cons_zero, List.set_cons_succ])
                                    | (refine mv_free _ (Or.inr ⟨by rfl, rfl⟩) (⟨l0, cc0⟩) ?_
                                       simp only [Act.put, List.setIfInBounds_toArray, List.set_cons_zero, List.set_cons_succ])
                                refine mv_done ?_
                              · go_wp2
                                go_roundw
                                case rel => exact ⟨j + 1, by omega, by first | rfl | go_num, Lib.hid hbV.out.drew, Lib.hid hh.out.drew, DS⟩
                                case measure => simp [intOf] <;> omega
                              · go_wp2
                                go_ret
                                exact ⟨ret_bool (rb.out (O2.out (DH.out (by trivial)))).symm, hbV.out.drew⟩
                            · obtain rfl : j = k := by omega
                              go_wp2
                              go_roundw
                              case rel => exact ⟨j + 1, by omega, by first | rfl | go_num, hbV, Lib.hid (ON.out (O3.out ty.out hD.out))⟩
                              case measure => simp [intOf] <;> omega
    · obtain rfl : k = n := by omega
      by_cases h1 : 1 ≤ k
      · by_cases h2 : k ≤ 20
        · have i1 : (0 : Int) < (k : Int) := by omega
          have i2 : (k : Int) < 21 := by omega
          go_wp2
          go_ret
          exact ⟨ret_bool (RG.out h1 h2 hO.out).symm, hb.out⟩
        · have i1 : (0 : Int) < (k : Int) := by omega
          have i2 : ¬ (k : Int) < 21 := by omega
          go_wp2
          go_ret
          exact ⟨ret_bool (by rw [RF.out (by omega)]), hb.out⟩
      · have i1 : ¬ (0 : Int) < (k : Int) := by omega
        go_wp2
        go_ret
        exact ⟨ret_bool (by rw [RF.out (by omega)]), hb.out⟩
end Go.Proofs.Ytecpmffmmiogfab
