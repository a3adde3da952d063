/- The law ClimbSteep; walked. -/
import Derived.Test.YtflcagcekhgjcaaClimb4
import Derived.Deep.Cut
namespace Go.Proofs.Ytflcagcekhgjcaa
open Go.ChangeShapes Go.WideShapes Go.ChangeAt Go.RowKit
set_option linter.unusedVariables false
set_option linter.unusedSimpArgs false

/-- The last heights of so many that came. -/
structure LsL (sz : Int) (H : List Int) (k : Nat) (L : List Int) : Prop where
  len : L.length = if (k : Int) ≤ sz + 1 then k else (sz + 1).toNat
  at' : ∀ i, i < L.length → L.getD i 0 = cmH (H.getD (k - L.length + i) 0)
theorem LsL.next {sz : Int} {H : List Int} {k : Nat} {L : List Int} (h : LsL sz H k L) (s1 : 1 ≤ sz) (s2 : sz ≤ 64) : LsL sz H (k + 1) (mtN sz L (H.getD k 0)) := by
  have hl := h.len
  have hln : (L.length : Int) ≤ sz + 1 := by rw [hl]; split <;> omega
  have hlk : L.length ≤ k := by rw [hl]; split <;> omega
  have e := mtN_len (H.getD k 0) s1 hln
  refine ⟨?_, fun i hi => ?_⟩
  · rw [e, hl]
    split <;> split <;> first | omega | (split <;> omega)
  · rw [mtN_at _ hi]
    by_cases hc : (L.length : Int) ≤ sz
    · rw [if_pos hc] at e
      rw [e] at hi ⊢
      split
      · rename_i hlt
        rw [h.at' _ hlt, show k - L.length + (i + (L.length + 1 - (sz.toNat + 1))) = k + 1 - (L.length + 1) + i by omega]
      · rename_i hlt
        rw [show k + 1 - (L.length + 1) + i = k by omega]
    · rw [if_neg hc] at e
      rw [e] at hi ⊢
      split
      · rename_i hlt
        rw [h.at' _ hlt, show k - L.length + (i + (L.length + 1 - (sz.toNat + 1))) = k + 1 - L.length + i by omega]
      · rename_i hlt
        rw [show k + 1 - L.length + i = k by omega]
theorem cmH_mono {x y : Int} (h : x ≤ y) : cmH x ≤ cmH y := by unfold cmH; omega
/-- The change is no more than as many of the steepest steps. -/
theorem steps_le {L : List Int} : ∀ k, k < L.length → L.getD k 0 - L.getD 0 0 ≤ stp L * (k : Int) ∧ L.getD 0 0 - L.getD k 0 ≤ stp L * (k : Int)
  | 0, _ => by simp
  | k + 1, h => by
    have ih := steps_le (L := L) k (by omega)
    have s := stN_ge (L := L) (j := k + 1) (by omega) L.length (by omega) (Nat.le_refl _)
    have s' : L.getD (k + 1) 0 - L.getD k 0 ≤ stp L ∧ L.getD k 0 - L.getD (k + 1) 0 ≤ stp L := s
    have e : stp L * ((k + 1 : Nat) : Int) = stp L * (k : Int) + stp L := by
      rw [show ((k + 1 : Nat) : Int) = (k : Int) + 1 from rfl, Int.mul_add, Int.mul_one]
    rw [e]
    omega
theorem rate_le {L : List Int} (h2 : 2 ≤ L.length) : cmD L * 50 / ((L.length : Int) - 1) ≤ 50 * stp L ∧ -(50 * stp L) ≤ cmD L * 50 / ((L.length : Int) - 1) := by
  have h := steps_le (L := L) (L.length - 1) (by omega)
  have e : ((L.length - 1 : Nat) : Int) = (L.length : Int) - 1 := by omega
  rw [e] at h
  unfold cmD
  obtain ⟨n, hn⟩ : ∃ n : Int, n = (L.length : Int) - 1 := ⟨_, rfl⟩
  have hn1 : 0 < n := by omega
  rw [← hn] at h ⊢
  have h' : L.getD (L.length - 1) 0 - L.getD 0 0 ≤ stp L * n ∧ -(L.getD (L.length - 1) 0 - L.getD 0 0) ≤ stp L * n := by omega
  generalize L.getD (L.length - 1) 0 - L.getD 0 0 = d at *
  generalize stp L = s at *
  constructor
  · refine Int.ediv_le_of_le_mul hn1 ?_
    rw [Int.mul_assoc]
    omega
  · refine Int.le_ediv_of_mul_le hn1 ?_
    rw [Int.neg_mul, Int.mul_assoc]
    omega
theorem rate_up {L : List Int} (h2 : 2 ≤ L.length) (h : L.getD 0 0 ≤ L.getD (L.length - 1) 0) : 0 ≤ cmD L * 50 / ((L.length : Int) - 1) := by
  unfold cmD
  exact Int.ediv_nonneg (by omega) (by omega)
theorem rate_down {L : List Int} (h2 : 2 ≤ L.length) (h : L.getD (L.length - 1) 0 ≤ L.getD 0 0) : cmD L * 50 / ((L.length : Int) - 1) ≤ 0 := by
  unfold cmD
  refine Int.ediv_le_of_le_mul (by omega) ?_
  rw [Int.zero_mul]
  omega
theorem rises {H : List Int} {n : Nat} (h : ∀ t, 1 ≤ t → t < n → H.getD (t - 1) 0 ≤ H.getD t 0) : ∀ j i, i ≤ j → j < n → H.getD i 0 ≤ H.getD j 0
  | 0, i, hi, _ => by rw [show i = 0 by omega]; exact Int.le_refl _
  | j + 1, i, hi, hj => by
    by_cases e : i = j + 1
    · rw [e]; exact Int.le_refl _
    · have a := rises h j i (by omega) (by omega)
      have b := h (j + 1) (by omega) hj
      have b' : H.getD j 0 ≤ H.getD (j + 1) 0 := b
      omega
theorem falls {H : List Int} {n : Nat} (h : ∀ t, 1 ≤ t → t < n → H.getD t 0 ≤ H.getD (t - 1) 0) : ∀ j i, i ≤ j → j < n → H.getD j 0 ≤ H.getD i 0
  | 0, i, hi, _ => by rw [show i = 0 by omega]; exact Int.le_refl _
  | j + 1, i, hi, hj => by
    by_cases e : i = j + 1
    · rw [e]; exact Int.le_refl _
    · have a := falls h j i (by omega) (by omega)
      have b := h (j + 1) (by omega) hj
      have b' : H.getD (j + 1) 0 ≤ H.getD j 0 := b
      omega
theorem LsL.ends {sz : Int} {H : List Int} {L : List Int} (h : LsL sz H H.length L) (h2 : 2 ≤ L.length) : L.getD 0 0 = cmH (H.getD (H.length - L.length) 0) ∧ L.getD (L.length - 1) 0 = cmH (H.getD (H.length - 1) 0) ∧ L.length ≤ H.length := by
  have hl := h.len
  have hlk : L.length ≤ H.length := by rw [hl]; split <;> omega
  refine ⟨by rw [h.at' 0 (by omega)]; rfl, ?_, hlk⟩
  rw [h.at' (L.length - 1) (by omega)]
  rw [show H.length - L.length + (L.length - 1) = H.length - 1 by omega]
set_option maxRecDepth 100000 in
set_option maxHeartbeats 8000000 in
theorem law_ClimbSteep (sz : Int) (a : Option Addr) (cap : Nat) (H : List Int) (w : World) (hr : RowIs .i64 w a H) (hL : H.length ≤ maxLen) : Calls Try.prog 13 #[.int .i64 sz, .slice a H.length cap] w fun e w' => e = .returned (.bool true) ∧ Below w.heap.size w w' := by
  have hL' : (H.length : Int) ≤ 9223372036854775807 := by unfold maxLen at hL; omega
  have LV := Lib.hid (fun u => lives27 u)
  rcases (show (sz < 1 ∨ 64 < sz) ∨ (1 ≤ sz ∧ sz ≤ 64) by omega) with g | ⟨g, g2⟩
  · have NW := Lib.hid (fun u => cmnew_no sz u g)
    clear g hr hL hL'
    go_enter Try.func13, Try.ntmps13
    go_wp2_with fail
    refine (NW.out _).mono ?_
    rintro e w1 ⟨rfl, rfl⟩
    go_wp2_with fail
    refine (LV.out _).mono ?_
    rintro e w20 ⟨rfl, hb20⟩
    have hb21 := Lib.hid ((Below.refl w.heap.size w).trans (hb20.mono ((Below.refl w.heap.size w)).size))
    clear hb20
    go_wp2
    go_ret
    exact ⟨rfl, hb21.out⟩
  have NW := Lib.hid (fun u => cmnew_ok sz u ⟨g, g2⟩)
  by_cases h150 : 150 < H.length
  · have d150 : (150 : Int) < (H.length : Int) := by omega
    clear hr hL hL' h150
    go_enter Try.func13, Try.ntmps13
    go_wp2_with fail
    refine (NW.out _).mono ?_
    rintro e w1 ⟨b, hbb, rfl, m1, hb1⟩
    go_wp2_with fail
    refine (LV.out _).mono ?_
    rintro e w20 ⟨rfl, hb20⟩
    have hb21 := Lib.hid (hb1.trans (hb20.mono (hb1).size))
    clear hb20
    go_wp2
    go_ret
    exact ⟨rfl, hb21.out⟩
  have d150 : (H.length : Int) ≤ 150 := by omega
  have RW := Lib.hid (fun u (h : Below w.heap.size w u) => hr.below h)
  have PT := Lib.hid (fun (b : Nat) (L : List Int) (h : Int) u (m : Mt b sz L u) => cmput h u m)
  have RF := Lib.hid (fun (b : Nat) (L : List Int) u (m : Mt b sz L u) (z : L.length < 2) => cmrate_few u m z)
  have RT := Lib.hid (fun (b : Nat) (L : List Int) u (m : Mt b sz L u) (z : 2 ≤ L.length) => cmrate u m z)
  have ST := Lib.hid (fun (b : Nat) (L : List Int) u (m : Mt b sz L u) => cmsteep u m)
  clear hr hL hL' h150
  go_enter Try.func13, Try.ntmps13
  go_wp2_with fail
  refine (NW.out _).mono ?_
  rintro e w1 ⟨b, hbb, rfl, m1, hb1⟩
  replace hbb := Lib.hid hbb
  have S0 := Lib.hid (show Mt b sz [] w1 ∧ LsL sz H 0 [] from ⟨m1, by rw [if_pos (by show (0 : Int) ≤ sz + 1; omega)]; rfl, fun i hi => absurd hi (Nat.not_lt_zero _)⟩)
  clear m1
  go_wp2_with fail
  go_loopw [7] (fun i v => ∃ (k : Nat) (L : List Int), k ≤ H.length ∧ i = .int .i64 (k : Int) ∧ Below w.heap.size w v ∧ Hid (Mt b sz L v ∧ LsL sz H k L)) (fun i _ => H.length - (intOf i).toNat)
  case atStart => exact ⟨0, [], by omega, rfl, hb1, S0⟩
  case round =>
    clear hb1 S0
    obtain ⟨k, L, hk, rfl, hb, hS⟩ := hrel
    by_cases hlt : k < H.length
    · have EN := Lib.hid (hS.out.2.next g g2)
      obtain ⟨br, or_, rfl, -, c1⟩ := (RW.out _ hb).at hlt
      have h1 : (k : Int) < (H.length : Int) := by omega
      have h0 : 0 ≤ (k : Int) := by omega
      generalize H.getD k 0 = x at *
      have hm := hS.out.1
      clear hS
      go_wp2_with fail
      refine (PT.out b L x _ hm).mono ?_
      rintro e w2 ⟨rfl, m2, bs2⟩
      have hb2 := below_put hb bs2 hbb.out
      replace m2 := Lib.hid m2
      clear hb bs2 hm c1
      go_wp2
      go_roundw
      case rel => exact ⟨k + 1, _, by omega, by go_num, hb2, Lib.hid ⟨m2.out, EN.out⟩⟩
      case measure => simp [intOf]; omega
    · have hge : (H.length : Int) ≤ (k : Int) := by omega
      have ek : k = H.length := by omega
      rw [ek] at hS
      replace ek := Lib.hid ek
      go_wp2_with fail
      generalize wr = v0 at *
      go_loopw [8, 9, 10] (fun u d i v => ∃ (u' d' : Bool) (t : Nat), 1 ≤ t ∧ (t ≤ H.length ∨ t = 1) ∧ u = .bool u' ∧ d = .bool d' ∧ i = .int .i64 (t : Int) ∧ Below w.heap.size w v ∧ Hid (Mt b sz L v ∧ LsL sz H H.length L) ∧ Hid ((u' = true → ∀ j, 1 ≤ j → j < t → H.getD (j - 1) 0 ≤ H.getD j 0) ∧ (d' = true → ∀ j, 1 ≤ j → j < t → H.getD j 0 ≤ H.getD (j - 1) 0))) (fun _ _ i _ => H.length - (intOf i).toNat)
      case atStart => exact ⟨true, true, 1, by omega, by omega, rfl, rfl, rfl, hb, hS, Lib.hid ⟨fun _ j h1 h2 => by omega, fun _ j h1 h2 => by omega⟩⟩
      case round =>
        clear hb hS hge hk
        obtain ⟨u, d, t, ht1, ht, rfl, rfl, rfl, hb, hS, hU⟩ := hrel
        by_cases hlt2 : t < H.length
        · have h1 : (t : Int) < (H.length : Int) := by omega
          have h0 : 0 ≤ (t : Int) := by omega
          rcases (RW.out _ hb) with rfl | ⟨br, or_, rfl, -, hc⟩
          · simp at hlt2
          have c1 := hc t hlt2
          have c2 := hc (t - 1) (by omega)
          obtain ⟨m, em⟩ : ∃ m, m = t - 1 := ⟨_, rfl⟩
          rw [← em] at c2
          have n1 : IntKind.i64.wrap ((t : Int) - 1) = (m : Int) := by rw [IntKind.wrap_i64]; omega
          have n4 : 0 ≤ (m : Int) := by omega
          have n5 : (m : Int) < (H.length : Int) := by omega
          have n6 : m < H.length := by omega
          have UP := Lib.hid (fun (hu : u = true) (hx : H.getD m 0 ≤ H.getD t 0) j (j1 : 1 ≤ j) (j2 : j < t + 1) => show H.getD (j - 1) 0 ≤ H.getD j 0 from by
            by_cases e : j = t
            · subst e; rw [← em]; exact hx
            · exact hU.out.1 hu j j1 (by omega))
          have DN := Lib.hid (fun (hu : d = true) (hx : H.getD t 0 ≤ H.getD m 0) j (j1 : 1 ≤ j) (j2 : j < t + 1) => show H.getD j 0 ≤ H.getD (j - 1) 0 from by
            by_cases e : j = t
            · subst e; rw [← em]; exact hx
            · exact hU.out.2 hu j j1 (by omega))
          have c1' := c1
          have c2' := c2
          generalize H.getD t 0 = y at *
          generalize H.getD m 0 = x at *
          clear hc em c1' c2' hU
          obtain ⟨p, hp⟩ : ∃ p, p = decide (x ≤ y) := ⟨_, rfl⟩
          obtain ⟨q, hq⟩ : ∃ q, q = decide (y ≤ x) := ⟨_, rfl⟩
          have d1 : decide (x ≤ y) = p := hp.symm
          have d2 : decide (y ≤ x) = q := hq.symm
          replace hp := Lib.hid hp
          replace hq := Lib.hid hq
          cases u <;> cases d
          · go_wp2_with fail
            refine region_moves (fun z => z.cell? ⟨br, or_ + t, none⟩ = some (.int .i64 y) ∧ z.cell? ⟨br, or_ + m, none⟩ = some (.int .i64 x)) [] [(.free, 0), (.free, 1), (.free, 2), (.free, 3), (.free, 4), (.take, 5), (.free, 6), (.free, 7), (.free, 8), (.free, 9), (.take, 10), (.free, 11), (.free, 12), (.free, 13)] _ (by kernel_rfl) (by kernel_rfl) (by kernel_rfl) (by kernel_rfl) (by decide) rfl (fun _ _ _ _ _ h => h) ?_
            simp only [List.filterMap_cons, List.filterMap_nil, List.getElem?_toArray, List.getElem?_cons_zero, List.getElem?_cons_succ, Option.map_some]
            iterate 5
              first
                | (refine mv_free ?_ (Or.inl ⟨by rfl, ?_⟩) (⟨c1, c2⟩) ?_
                   rotate_left 1
                   · intro u
                     go_simp
                     try simp only [d1]
                     try simp only [d2]
                     try simp only [d3]
                     try with_reducible rfl
                   simp only [Act.put, List.setIfInBounds_toArray, List.set_cons_zero, List.set_cons_succ])
                | (refine mv_free _ (Or.inr ⟨by rfl, rfl⟩) (⟨c1, c2⟩) ?_
                   simp only [Act.put, List.setIfInBounds_toArray, List.set_cons_zero, List.set_cons_succ])
            iterate 1
              first
                | (refine mv_take ?_ (Or.inl ⟨by rfl, ?_⟩) (⟨c1, c2⟩) ?_
                   rotate_left 1
                   · intro u hu
                     (try dsimp only at hu)
                     go_simp
                     try with_reducible rfl
                   simp only [Act.put, List.setIfInBounds_toArray, List.set_cons_zero, List.set_cons_succ])
                | (refine mv_take _ (Or.inr ⟨by rfl, rfl⟩) (⟨c1, c2⟩) ?_
                   simp only [Act.put, List.setIfInBounds_toArray, List.set_cons_zero, List.set_cons_succ])
            iterate 4
              first
                | (refine mv_free ?_ (Or.inl ⟨by rfl, ?_⟩) (⟨c1, c2⟩) ?_
                   rotate_left 1
                   · intro u
                     go_simp
                     try simp only [d1]
                     try simp only [d2]
                     try simp only [d3]
                     try with_reducible rfl
                   simp only [Act.put, List.setIfInBounds_toArray, List.set_cons_zero, List.set_cons_succ])
                | (refine mv_free _ (Or.inr ⟨by rfl, rfl⟩) (⟨c1, c2⟩) ?_
                   simp only [Act.put, List.setIfInBounds_toArray, List.set_cons_zero, List.set_cons_succ])
            iterate 1
              first
                | (refine mv_take ?_ (Or.inl ⟨by rfl, ?_⟩) (⟨c1, c2⟩) ?_
                   rotate_left 1
                   · intro u hu
                     (try dsimp only at hu)
                     go_simp
                     try with_reducible rfl
                   simp only [Act.put, List.setIfInBounds_toArray, List.set_cons_zero, List.set_cons_succ])
                | (refine mv_take _ (Or.inr ⟨by rfl, rfl⟩) (⟨c1, c2⟩) ?_
                   simp only [Act.put, List.setIfInBounds_toArray, List.set_cons_zero, List.set_cons_succ])
            iterate 3
              first
                | (refine mv_free ?_ (Or.inl ⟨by rfl, ?_⟩) (⟨c1, c2⟩) ?_
                   rotate_left 1
                   · intro u
                     go_simp
                     try simp only [d1]
                     try simp only [d2]
                     try simp only [d3]
                     try with_reducible rfl
                   simp only [Act.put, List.setIfInBounds_toArray, List.set_cons_zero, List.set_cons_succ])
                | (refine mv_free _ (Or.inr ⟨by rfl, rfl⟩) (⟨c1, c2⟩) ?_
                   simp only [Act.put, List.setIfInBounds_toArray, List.set_cons_zero, List.set_cons_succ])
            refine mv_done ?_
            go_wp2_with fail
            refine region_moves (fun z => z.cell? ⟨br, or_ + t, none⟩ = some (.int .i64 y) ∧ z.cell? ⟨br, or_ + m, none⟩ = some (.int .i64 x)) [] [(.free, 0), (.free, 1), (.free, 2), (.free, 3), (.free, 4), (.take, 5), (.free, 6), (.free, 7), (.free, 8), (.free, 9), (.take, 10), (.free, 11), (.free, 12), (.free, 13)] _ (by kernel_rfl) (by kernel_rfl) (by kernel_rfl) (by kernel_rfl) (by decide) rfl (fun _ _ _ _ _ h => h) ?_
            simp only [List.filterMap_cons, List.filterMap_nil, List.getElem?_toArray, List.getElem?_cons_zero, List.getElem?_cons_succ, Option.map_some]
            iterate 5
              first
                | (refine mv_free ?_ (Or.inl ⟨by rfl, ?_⟩) (⟨c1, c2⟩) ?_
                   rotate_left 1
                   · intro u
                     go_simp
                     try simp only [d1]
                     try simp only [d2]
                     try simp only [d3]
                     try with_reducible rfl
                   simp only [Act.put, List.setIfInBounds_toArray, List.set_cons_zero, List.set_cons_succ])
                | (refine mv_free _ (Or.inr ⟨by rfl, rfl⟩) (⟨c1, c2⟩) ?_
                   simp only [Act.put, List.setIfInBounds_toArray, List.set_cons_zero, List.set_cons_succ])
            iterate 1
              first
                | (refine mv_take ?_ (Or.inl ⟨by rfl, ?_⟩) (⟨c1, c2⟩) ?_
                   rotate_left 1
                   · intro u hu
                     (try dsimp only at hu)
                     go_simp
                     try with_reducible rfl
                   simp only [Act.put, List.setIfInBounds_toArray, List.set_cons_zero, List.set_cons_succ])
                | (refine mv_take _ (Or.inr ⟨by rfl, rfl⟩) (⟨c1, c2⟩) ?_
                   simp only [Act.put, List.setIfInBounds_toArray, List.set_cons_zero, List.set_cons_succ])
            iterate 4
              first
                | (refine mv_free ?_ (Or.inl ⟨by rfl, ?_⟩) (⟨c1, c2⟩) ?_
                   rotate_left 1
                   · intro u
                     go_simp
                     try simp only [d1]
                     try simp only [d2]
                     try simp only [d3]
                     try with_reducible rfl
                   simp only [Act.put, List.setIfInBounds_toArray, List.set_cons_zero, List.set_cons_succ])
                | (refine mv_free _ (Or.inr ⟨by rfl, rfl⟩) (⟨c1, c2⟩) ?_
                   simp only [Act.put, List.setIfInBounds_toArray, List.set_cons_zero, List.set_cons_succ])
            iterate 1
              first
                | (refine mv_take ?_ (Or.inl ⟨by rfl, ?_⟩) (⟨c1, c2⟩) ?_
                   rotate_left 1
                   · intro u hu
                     (try dsimp only at hu)
                     go_simp
                     try with_reducible rfl
                   simp only [Act.put, List.setIfInBounds_toArray, List.set_cons_zero, List.set_cons_succ])
                | (refine mv_take _ (Or.inr ⟨by rfl, rfl⟩) (⟨c1, c2⟩) ?_
                   simp only [Act.put, List.setIfInBounds_toArray, List.set_cons_zero, List.set_cons_succ])
            iterate 3
              first
                | (refine mv_free ?_ (Or.inl ⟨by rfl, ?_⟩) (⟨c1, c2⟩) ?_
                   rotate_left 1
                   · intro u
                     go_simp
                     try simp only [d1]
                     try simp only [d2]
                     try simp only [d3]
                     try with_reducible rfl
                   simp only [Act.put, List.setIfInBounds_toArray, List.set_cons_zero, List.set_cons_succ])
                | (refine mv_free _ (Or.inr ⟨by rfl, rfl⟩) (⟨c1, c2⟩) ?_
                   simp only [Act.put, List.setIfInBounds_toArray, List.set_cons_zero, List.set_cons_succ])
            refine mv_done ?_
            go_wp2
            go_roundw
            case rel => exact ⟨false, false, t + 1, by omega, by omega, by first | rfl | (congr 1; exact d1), by first | rfl | (congr 1; exact d2), by go_num, hb.drew.drew, Lib.hid ⟨hS.out.1.drew.drew, hS.out.2⟩, Lib.hid ⟨fun z => (by first | (cases z; done) | simp at z), fun z => (by first | (cases z; done) | simp at z)⟩⟩
            case measure => simp [intOf]; omega
          · go_wp2_with fail
            refine region_moves (fun z => z.cell? ⟨br, or_ + t, none⟩ = some (.int .i64 y) ∧ z.cell? ⟨br, or_ + m, none⟩ = some (.int .i64 x)) [] [(.free, 0), (.free, 1), (.free, 2), (.free, 3), (.free, 4), (.take, 5), (.free, 6), (.free, 7), (.free, 8), (.free, 9), (.take, 10), (.free, 11), (.free, 12), (.free, 13)] _ (by kernel_rfl) (by kernel_rfl) (by kernel_rfl) (by kernel_rfl) (by decide) rfl (fun _ _ _ _ _ h => h) ?_
            simp only [List.filterMap_cons, List.filterMap_nil, List.getElem?_toArray, List.getElem?_cons_zero, List.getElem?_cons_succ, Option.map_some]
            iterate 5
              first
                | (refine mv_free ?_ (Or.inl ⟨by rfl, ?_⟩) (⟨c1, c2⟩) ?_
                   rotate_left 1
                   · intro u
                     go_simp
                     try simp only [d1]
                     try simp only [d2]
                     try simp only [d3]
                     try with_reducible rfl
                   simp only [Act.put, List.setIfInBounds_toArray, List.set_cons_zero, List.set_cons_succ])
                | (refine mv_free _ (Or.inr ⟨by rfl, rfl⟩) (⟨c1, c2⟩) ?_
                   simp only [Act.put, List.setIfInBounds_toArray, List.set_cons_zero, List.set_cons_succ])
            iterate 1
              first
                | (refine mv_take ?_ (Or.inl ⟨by rfl, ?_⟩) (⟨c1, c2⟩) ?_
                   rotate_left 1
                   · intro u hu
                     (try dsimp only at hu)
                     go_simp
                     try with_reducible rfl
                   simp only [Act.put, List.setIfInBounds_toArray, List.set_cons_zero, List.set_cons_succ])
                | (refine mv_take _ (Or.inr ⟨by rfl, rfl⟩) (⟨c1, c2⟩) ?_
                   simp only [Act.put, List.setIfInBounds_toArray, List.set_cons_zero, List.set_cons_succ])
            iterate 4
              first
                | (refine mv_free ?_ (Or.inl ⟨by rfl, ?_⟩) (⟨c1, c2⟩) ?_
                   rotate_left 1
                   · intro u
                     go_simp
                     try simp only [d1]
                     try simp only [d2]
                     try simp only [d3]
                     try with_reducible rfl
                   simp only [Act.put, List.setIfInBounds_toArray, List.set_cons_zero, List.set_cons_succ])
                | (refine mv_free _ (Or.inr ⟨by rfl, rfl⟩) (⟨c1, c2⟩) ?_
                   simp only [Act.put, List.setIfInBounds_toArray, List.set_cons_zero, List.set_cons_succ])
            iterate 1
              first
                | (refine mv_take ?_ (Or.inl ⟨by rfl, ?_⟩) (⟨c1, c2⟩) ?_
                   rotate_left 1
                   · intro u hu
                     (try dsimp only at hu)
                     go_simp
                     try with_reducible rfl
                   simp only [Act.put, List.setIfInBounds_toArray, List.set_cons_zero, List.set_cons_succ])
                | (refine mv_take _ (Or.inr ⟨by rfl, rfl⟩) (⟨c1, c2⟩) ?_
                   simp only [Act.put, List.setIfInBounds_toArray, List.set_cons_zero, List.set_cons_succ])
            iterate 3
              first
                | (refine mv_free ?_ (Or.inl ⟨by rfl, ?_⟩) (⟨c1, c2⟩) ?_
                   rotate_left 1
                   · intro u
                     go_simp
                     try simp only [d1]
                     try simp only [d2]
                     try simp only [d3]
                     try with_reducible rfl
                   simp only [Act.put, List.setIfInBounds_toArray, List.set_cons_zero, List.set_cons_succ])
                | (refine mv_free _ (Or.inr ⟨by rfl, rfl⟩) (⟨c1, c2⟩) ?_
                   simp only [Act.put, List.setIfInBounds_toArray, List.set_cons_zero, List.set_cons_succ])
            refine mv_done ?_
            go_wp2_with fail
            refine region_moves (fun z => z.cell? ⟨br, or_ + t, none⟩ = some (.int .i64 y) ∧ z.cell? ⟨br, or_ + m, none⟩ = some (.int .i64 x)) [] [(.free, 0), (.free, 1), (.free, 2), (.free, 3), (.free, 4), (.take, 5), (.free, 6), (.free, 7), (.free, 8), (.free, 9), (.take, 10), (.free, 11), (.free, 12), (.free, 13)] _ (by kernel_rfl) (by kernel_rfl) (by kernel_rfl) (by kernel_rfl) (by decide) rfl (fun _ _ _ _ _ h => h) ?_
            simp only [List.filterMap_cons, List.filterMap_nil, List.getElem?_toArray, List.getElem?_cons_zero, List.getElem?_cons_succ, Option.map_some]
            iterate 5
              first
                | (refine mv_free ?_ (Or.inl ⟨by rfl, ?_⟩) (⟨c1, c2⟩) ?_
                   rotate_left 1
                   · intro u
                     go_simp
                     try simp only [d1]
                     try simp only [d2]
                     try simp only [d3]
                     try with_reducible rfl
                   simp only [Act.put, List.setIfInBounds_toArray, List.set_cons_zero, List.set_cons_succ])
                | (refine mv_free _ (Or.inr ⟨by rfl, rfl⟩) (⟨c1, c2⟩) ?_
                   simp only [Act.put, List.setIfInBounds_toArray, List.set_cons_zero, List.set_cons_succ])
            iterate 1
              first
                | (refine mv_take ?_ (Or.inl ⟨by rfl, ?_⟩) (⟨c1, c2⟩) ?_
                   rotate_left 1
                   · intro u hu
                     (try dsimp only at hu)
                     go_simp
                     try with_reducible rfl
                   simp only [Act.put, List.setIfInBounds_toArray, List.set_cons_zero, List.set_cons_succ])
                | (refine mv_take _ (Or.inr ⟨by rfl, rfl⟩) (⟨c1, c2⟩) ?_
                   simp only [Act.put, List.setIfInBounds_toArray, List.set_cons_zero, List.set_cons_succ])
            iterate 4
              first
                | (refine mv_free ?_ (Or.inl ⟨by rfl, ?_⟩) (⟨c1, c2⟩) ?_
                   rotate_left 1
                   · intro u
                     go_simp
                     try simp only [d1]
                     try simp only [d2]
                     try simp only [d3]
                     try with_reducible rfl
                   simp only [Act.put, List.setIfInBounds_toArray, List.set_cons_zero, List.set_cons_succ])
                | (refine mv_free _ (Or.inr ⟨by rfl, rfl⟩) (⟨c1, c2⟩) ?_
                   simp only [Act.put, List.setIfInBounds_toArray, List.set_cons_zero, List.set_cons_succ])
            iterate 1
              first
                | (refine mv_take ?_ (Or.inl ⟨by rfl, ?_⟩) (⟨c1, c2⟩) ?_
                   rotate_left 1
                   · intro u hu
                     (try dsimp only at hu)
                     go_simp
                     try with_reducible rfl
                   simp only [Act.put, List.setIfInBounds_toArray, List.set_cons_zero, List.set_cons_succ])
                | (refine mv_take _ (Or.inr ⟨by rfl, rfl⟩) (⟨c1, c2⟩) ?_
                   simp only [Act.put, List.setIfInBounds_toArray, List.set_cons_zero, List.set_cons_succ])
            iterate 3
              first
                | (refine mv_free ?_ (Or.inl ⟨by rfl, ?_⟩) (⟨c1, c2⟩) ?_
                   rotate_left 1
                   · intro u
                     go_simp
                     try simp only [d1]
                     try simp only [d2]
                     try simp only [d3]
                     try with_reducible rfl
                   simp only [Act.put, List.setIfInBounds_toArray, List.set_cons_zero, List.set_cons_succ])
                | (refine mv_free _ (Or.inr ⟨by rfl, rfl⟩) (⟨c1, c2⟩) ?_
                   simp only [Act.put, List.setIfInBounds_toArray, List.set_cons_zero, List.set_cons_succ])
            refine mv_done ?_
            go_wp2
            go_roundw
            case rel => exact ⟨false, q, t + 1, by omega, by omega, by first | rfl | (congr 1; exact d1), by first | rfl | (congr 1; exact d2), by go_num, hb.drew.drew, Lib.hid ⟨hS.out.1.drew.drew, hS.out.2⟩, Lib.hid ⟨fun z => (by first | (cases z; done) | simp at z), fun z => DN.out (by first | rfl | trivial) (of_decide_eq_true (hq.out.symm.trans z))⟩⟩
            case measure => simp [intOf]; omega
          · go_wp2_with fail
            refine region_moves (fun z => z.cell? ⟨br, or_ + t, none⟩ = some (.int .i64 y) ∧ z.cell? ⟨br, or_ + m, none⟩ = some (.int .i64 x)) [] [(.free, 0), (.free, 1), (.free, 2), (.free, 3), (.free, 4), (.take, 5), (.free, 6), (.free, 7), (.free, 8), (.free, 9), (.take, 10), (.free, 11), (.free, 12), (.free, 13)] _ (by kernel_rfl) (by kernel_rfl) (by kernel_rfl) (by kernel_rfl) (by decide) rfl (fun _ _ _ _ _ h => h) ?_
            simp only [List.filterMap_cons, List.filterMap_nil, List.getElem?_toArray, List.getElem?_cons_zero, List.getElem?_cons_succ, Option.map_some]
            iterate 5
              first
                | (refine mv_free ?_ (Or.inl ⟨by rfl, ?_⟩) (⟨c1, c2⟩) ?_
                   rotate_left 1
                   · intro u
                     go_simp
                     try simp only [d1]
                     try simp only [d2]
                     try simp only [d3]
                     try with_reducible rfl
                   simp only [Act.put, List.setIfInBounds_toArray, List.set_cons_zero, List.set_cons_succ])
                | (refine mv_free _ (Or.inr ⟨by rfl, rfl⟩) (⟨c1, c2⟩) ?_
                   simp only [Act.put, List.setIfInBounds_toArray, List.set_cons_zero, List.set_cons_succ])
            iterate 1
              first
                | (refine mv_take ?_ (Or.inl ⟨by rfl, ?_⟩) (⟨c1, c2⟩) ?_
                   rotate_left 1
                   · intro u hu
                     (try dsimp only at hu)
                     go_simp
                     try with_reducible rfl
                   simp only [Act.put, List.setIfInBounds_toArray, List.set_cons_zero, List.set_cons_succ])
                | (refine mv_take _ (Or.inr ⟨by rfl, rfl⟩) (⟨c1, c2⟩) ?_
                   simp only [Act.put, List.setIfInBounds_toArray, List.set_cons_zero, List.set_cons_succ])
            iterate 4
              first
                | (refine mv_free ?_ (Or.inl ⟨by rfl, ?_⟩) (⟨c1, c2⟩) ?_
                   rotate_left 1
                   · intro u
                     go_simp
                     try simp only [d1]
                     try simp only [d2]
                     try simp only [d3]
                     try with_reducible rfl
                   simp only [Act.put, List.setIfInBounds_toArray, List.set_cons_zero, List.set_cons_succ])
                | (refine mv_free _ (Or.inr ⟨by rfl, rfl⟩) (⟨c1, c2⟩) ?_
                   simp only [Act.put, List.setIfInBounds_toArray, List.set_cons_zero, List.set_cons_succ])
            iterate 1
              first
                | (refine mv_take ?_ (Or.inl ⟨by rfl, ?_⟩) (⟨c1, c2⟩) ?_
                   rotate_left 1
                   · intro u hu
                     (try dsimp only at hu)
                     go_simp
                     try with_reducible rfl
                   simp only [Act.put, List.setIfInBounds_toArray, List.set_cons_zero, List.set_cons_succ])
                | (refine mv_take _ (Or.inr ⟨by rfl, rfl⟩) (⟨c1, c2⟩) ?_
                   simp only [Act.put, List.setIfInBounds_toArray, List.set_cons_zero, List.set_cons_succ])
            iterate 3
              first
                | (refine mv_free ?_ (Or.inl ⟨by rfl, ?_⟩) (⟨c1, c2⟩) ?_
                   rotate_left 1
                   · intro u
                     go_simp
                     try simp only [d1]
                     try simp only [d2]
                     try simp only [d3]
                     try with_reducible rfl
                   simp only [Act.put, List.setIfInBounds_toArray, List.set_cons_zero, List.set_cons_succ])
                | (refine mv_free _ (Or.inr ⟨by rfl, rfl⟩) (⟨c1, c2⟩) ?_
                   simp only [Act.put, List.setIfInBounds_toArray, List.set_cons_zero, List.set_cons_succ])
            refine mv_done ?_
            go_wp2_with fail
            refine region_moves (fun z => z.cell? ⟨br, or_ + t, none⟩ = some (.int .i64 y) ∧ z.cell? ⟨br, or_ + m, none⟩ = some (.int .i64 x)) [] [(.free, 0), (.free, 1), (.free, 2), (.free, 3), (.free, 4), (.take, 5), (.free, 6), (.free, 7), (.free, 8), (.free, 9), (.take, 10), (.free, 11), (.free, 12), (.free, 13)] _ (by kernel_rfl) (by kernel_rfl) (by kernel_rfl) (by kernel_rfl) (by decide) rfl (fun _ _ _ _ _ h => h) ?_
            simp only [List.filterMap_cons, List.filterMap_nil, List.getElem?_toArray, List.getElem?_cons_zero, List.getElem?_cons_succ, Option.map_some]
            iterate 5
              first
                | (refine mv_free ?_ (Or.inl ⟨by rfl, ?_⟩) (⟨c1, c2⟩) ?_
                   rotate_left 1
                   · intro u
                     go_simp
                     try simp only [d1]
                     try simp only [d2]
                     try simp only [d3]
                     try with_reducible rfl
                   simp only [Act.put, List.setIfInBounds_toArray, List.set_cons_zero, List.set_cons_succ])
                | (refine mv_free _ (Or.inr ⟨by rfl, rfl⟩) (⟨c1, c2⟩) ?_
                   simp only [Act.put, List.setIfInBounds_toArray, List.set_cons_zero, List.set_cons_succ])
            iterate 1
              first
                | (refine mv_take ?_ (Or.inl ⟨by rfl, ?_⟩) (⟨c1, c2⟩) ?_
                   rotate_left 1
                   · intro u hu
                     (try dsimp only at hu)
                     go_simp
                     try with_reducible rfl
                   simp only [Act.put, List.setIfInBounds_toArray, List.set_cons_zero, List.set_cons_succ])
                | (refine mv_take _ (Or.inr ⟨by rfl, rfl⟩) (⟨c1, c2⟩) ?_
                   simp only [Act.put, List.setIfInBounds_toArray, List.set_cons_zero, List.set_cons_succ])
            iterate 4
              first
                | (refine mv_free ?_ (Or.inl ⟨by rfl, ?_⟩) (⟨c1, c2⟩) ?_
                   rotate_left 1
                   · intro u
                     go_simp
                     try simp only [d1]
                     try simp only [d2]
                     try simp only [d3]
                     try with_reducible rfl
                   simp only [Act.put, List.setIfInBounds_toArray, List.set_cons_zero, List.set_cons_succ])
                | (refine mv_free _ (Or.inr ⟨by rfl, rfl⟩) (⟨c1, c2⟩) ?_
                   simp only [Act.put, List.setIfInBounds_toArray, List.set_cons_zero, List.set_cons_succ])
            iterate 1
              first
                | (refine mv_take ?_ (Or.inl ⟨by rfl, ?_⟩) (⟨c1, c2⟩) ?_
                   rotate_left 1
                   · intro u hu
                     (try dsimp only at hu)
                     go_simp
                     try with_reducible rfl
                   simp only [Act.put, List.setIfInBounds_toArray, List.set_cons_zero, List.set_cons_succ])
                | (refine mv_take _ (Or.inr ⟨by rfl, rfl⟩) (⟨c1, c2⟩) ?_
                   simp only [Act.put, List.setIfInBounds_toArray, List.set_cons_zero, List.set_cons_succ])
            iterate 3
              first
                | (refine mv_free ?_ (Or.inl ⟨by rfl, ?_⟩) (⟨c1, c2⟩) ?_
                   rotate_left 1
                   · intro u
                     go_simp
                     try simp only [d1]
                     try simp only [d2]
                     try simp only [d3]
                     try with_reducible rfl
                   simp only [Act.put, List.setIfInBounds_toArray, List.set_cons_zero, List.set_cons_succ])
                | (refine mv_free _ (Or.inr ⟨by rfl, rfl⟩) (⟨c1, c2⟩) ?_
                   simp only [Act.put, List.setIfInBounds_toArray, List.set_cons_zero, List.set_cons_succ])
            refine mv_done ?_
            go_wp2
            go_roundw
            case rel => exact ⟨p, false, t + 1, by omega, by omega, by first | rfl | (congr 1; exact d1), by first | rfl | (congr 1; exact d2), by go_num, hb.drew.drew, Lib.hid ⟨hS.out.1.drew.drew, hS.out.2⟩, Lib.hid ⟨fun z => UP.out (by first | rfl | trivial) (of_decide_eq_true (hp.out.symm.trans z)), fun z => (by first | (cases z; done) | simp at z)⟩⟩
            case measure => simp [intOf]; omega
          · go_wp2_with fail
            refine region_moves (fun z => z.cell? ⟨br, or_ + t, none⟩ = some (.int .i64 y) ∧ z.cell? ⟨br, or_ + m, none⟩ = some (.int .i64 x)) [] [(.free, 0), (.free, 1), (.free, 2), (.free, 3), (.free, 4), (.take, 5), (.free, 6), (.free, 7), (.free, 8), (.free, 9), (.take, 10), (.free, 11), (.free, 12), (.free, 13)] _ (by kernel_rfl) (by kernel_rfl) (by kernel_rfl) (by kernel_rfl) (by decide) rfl (fun _ _ _ _ _ h => h) ?_
            simp only [List.filterMap_cons, List.filterMap_nil, List.getElem?_toArray, List.getElem?_cons_zero, List.getElem?_cons_succ, Option.map_some]
            iterate 5
              first
                | (refine mv_free ?_ (Or.inl ⟨by rfl, ?_⟩) (⟨c1, c2⟩) ?_
                   rotate_left 1
                   · intro u
                     go_simp
                     try simp only [d1]
                     try simp only [d2]
                     try simp only [d3]
                     try with_reducible rfl
                   simp only [Act.put, List.setIfInBounds_toArray, List.set_cons_zero, List.set_cons_succ])
                | (refine mv_free _ (Or.inr ⟨by rfl, rfl⟩) (⟨c1, c2⟩) ?_
                   simp only [Act.put, List.setIfInBounds_toArray, List.set_cons_zero, List.set_cons_succ])
            iterate 1
              first
                | (refine mv_take ?_ (Or.inl ⟨by rfl, ?_⟩) (⟨c1, c2⟩) ?_
                   rotate_left 1
                   · intro u hu
                     (try dsimp only at hu)
                     go_simp
                     try with_reducible rfl
                   simp only [Act.put, List.setIfInBounds_toArray, List.set_cons_zero, List.set_cons_succ])
                | (refine mv_take _ (Or.inr ⟨by rfl, rfl⟩) (⟨c1, c2⟩) ?_
                   simp only [Act.put, List.setIfInBounds_toArray, List.set_cons_zero, List.set_cons_succ])
            iterate 4
              first
                | (refine mv_free ?_ (Or.inl ⟨by rfl, ?_⟩) (⟨c1, c2⟩) ?_
                   rotate_left 1
                   · intro u
                     go_simp
                     try simp only [d1]
                     try simp only [d2]
                     try simp only [d3]
                     try with_reducible rfl
                   simp only [Act.put, List.setIfInBounds_toArray, List.set_cons_zero, List.set_cons_succ])
                | (refine mv_free _ (Or.inr ⟨by rfl, rfl⟩) (⟨c1, c2⟩) ?_
                   simp only [Act.put, List.setIfInBounds_toArray, List.set_cons_zero, List.set_cons_succ])
            iterate 1
              first
                | (refine mv_take ?_ (Or.inl ⟨by rfl, ?_⟩) (⟨c1, c2⟩) ?_
                   rotate_left 1
                   · intro u hu
                     (try dsimp only at hu)
                     go_simp
                     try with_reducible rfl
                   simp only [Act.put, List.setIfInBounds_toArray, List.set_cons_zero, List.set_cons_succ])
                | (refine mv_take _ (Or.inr ⟨by rfl, rfl⟩) (⟨c1, c2⟩) ?_
                   simp only [Act.put, List.setIfInBounds_toArray, List.set_cons_zero, List.set_cons_succ])
            iterate 3
              first
                | (refine mv_free ?_ (Or.inl ⟨by rfl, ?_⟩) (⟨c1, c2⟩) ?_
                   rotate_left 1
                   · intro u
                     go_simp
                     try simp only [d1]
                     try simp only [d2]
                     try simp only [d3]
                     try with_reducible rfl
                   simp only [Act.put, List.setIfInBounds_toArray, List.set_cons_zero, List.set_cons_succ])
                | (refine mv_free _ (Or.inr ⟨by rfl, rfl⟩) (⟨c1, c2⟩) ?_
                   simp only [Act.put, List.setIfInBounds_toArray, List.set_cons_zero, List.set_cons_succ])
            refine mv_done ?_
            go_wp2_with fail
            refine region_moves (fun z => z.cell? ⟨br, or_ + t, none⟩ = some (.int .i64 y) ∧ z.cell? ⟨br, or_ + m, none⟩ = some (.int .i64 x)) [] [(.free, 0), (.free, 1), (.free, 2), (.free, 3), (.free, 4), (.take, 5), (.free, 6), (.free, 7), (.free, 8), (.free, 9), (.take, 10), (.free, 11), (.free, 12), (.free, 13)] _ (by kernel_rfl) (by kernel_rfl) (by kernel_rfl) (by kernel_rfl) (by decide) rfl (fun _ _ _ _ _ h => h) ?_
            simp only [List.filterMap_cons, List.filterMap_nil, List.getElem?_toArray, List.getElem?_cons_zero, List.getElem?_cons_succ, Option.map_some]
            iterate 5
              first
                | (refine mv_free ?_ (Or.inl ⟨by rfl, ?_⟩) (⟨c1, c2⟩) ?_
                   rotate_left 1
                   · intro u
                     go_simp
                     try simp only [d1]
                     try simp only [d2]
                     try simp only [d3]
                     try with_reducible rfl
                   simp only [Act.put, List.setIfInBounds_toArray, List.set_cons_zero, List.set_cons_succ])
                | (refine mv_free _ (Or.inr ⟨by rfl, rfl⟩) (⟨c1, c2⟩) ?_
                   simp only [Act.put, List.setIfInBounds_toArray, List.set_cons_zero, List.set_cons_succ])
            iterate 1
              first
                | (refine mv_take ?_ (Or.inl ⟨by rfl, ?_⟩) (⟨c1, c2⟩) ?_
                   rotate_left 1
                   · intro u hu
                     (try dsimp only at hu)
                     go_simp
                     try with_reducible rfl
                   simp only [Act.put, List.setIfInBounds_toArray, List.set_cons_zero, List.set_cons_succ])
                | (refine mv_take _ (Or.inr ⟨by rfl, rfl⟩) (⟨c1, c2⟩) ?_
                   simp only [Act.put, List.setIfInBounds_toArray, List.set_cons_zero, List.set_cons_succ])
            iterate 4
              first
                | (refine mv_free ?_ (Or.inl ⟨by rfl, ?_⟩) (⟨c1, c2⟩) ?_
                   rotate_left 1
                   · intro u
                     go_simp
                     try simp only [d1]
                     try simp only [d2]
                     try simp only [d3]
                     try with_reducible rfl
                   simp only [Act.put, List.setIfInBounds_toArray, List.set_cons_zero, List.set_cons_succ])
                | (refine mv_free _ (Or.inr ⟨by rfl, rfl⟩) (⟨c1, c2⟩) ?_
                   simp only [Act.put, List.setIfInBounds_toArray, List.set_cons_zero, List.set_cons_succ])
            iterate 1
              first
                | (refine mv_take ?_ (Or.inl ⟨by rfl, ?_⟩) (⟨c1, c2⟩) ?_
                   rotate_left 1
                   · intro u hu
                     (try dsimp only at hu)
                     go_simp
                     try with_reducible rfl
                   simp only [Act.put, List.setIfInBounds_toArray, List.set_cons_zero, List.set_cons_succ])
                | (refine mv_take _ (Or.inr ⟨by rfl, rfl⟩) (⟨c1, c2⟩) ?_
                   simp only [Act.put, List.setIfInBounds_toArray, List.set_cons_zero, List.set_cons_succ])
            iterate 3
              first
                | (refine mv_free ?_ (Or.inl ⟨by rfl, ?_⟩) (⟨c1, c2⟩) ?_
                   rotate_left 1
                   · intro u
                     go_simp
                     try simp only [d1]
                     try simp only [d2]
                     try simp only [d3]
                     try with_reducible rfl
                   simp only [Act.put, List.setIfInBounds_toArray, List.set_cons_zero, List.set_cons_succ])
                | (refine mv_free _ (Or.inr ⟨by rfl, rfl⟩) (⟨c1, c2⟩) ?_
                   simp only [Act.put, List.setIfInBounds_toArray, List.set_cons_zero, List.set_cons_succ])
            refine mv_done ?_
            go_wp2
            go_roundw
            case rel => exact ⟨p, q, t + 1, by omega, by omega, by first | rfl | (congr 1; exact d1), by first | rfl | (congr 1; exact d2), by go_num, hb.drew.drew, Lib.hid ⟨hS.out.1.drew.drew, hS.out.2⟩, Lib.hid ⟨fun z => UP.out (by first | rfl | trivial) (of_decide_eq_true (hp.out.symm.trans z)), fun z => DN.out (by first | rfl | trivial) (of_decide_eq_true (hq.out.symm.trans z))⟩⟩
            case measure => simp [intOf]; omega
        · have hge : (H.length : Int) ≤ (t : Int) := by omega
          have hm := hS.out.1
          have hls := hS.out.2
          by_cases h2 : L.length < 2
          · have R := Lib.hid (RF.out b L _ hm h2)
            clear hS hU hm hls h2
            go_wp2_with fail
            refine R.out.mono ?_
            rintro e w3 ⟨rfl, rfl⟩
            go_wp2_with fail
            refine (LV.out _).mono ?_
            rintro e w20 ⟨rfl, hb20⟩
            have hb21 := Lib.hid (hb.trans (hb20.mono (hb).size))
            clear hb20
            go_wp2
            go_ret
            exact ⟨rfl, hb21.out⟩
          · have h2' : 2 ≤ L.length := by omega
            have R := RT.out b L _ hm h2'
            have rl := rate_le h2'
            obtain ⟨e1, e2, e3⟩ := hls.ends h2'
            have ru : u = true → 0 ≤ cmD L * 50 / ((L.length : Int) - 1) := fun hu => rate_up h2' (by
              rw [e1, e2]
              exact cmH_mono (rises (hU.out.1 hu) _ _ (by omega) (by omega)))
            have rd : d = true → cmD L * 50 / ((L.length : Int) - 1) ≤ 0 := fun hu => rate_down h2' (by
              rw [e1, e2]
              exact cmH_mono (falls (hU.out.2 hu) _ _ (by omega) (by omega)))
            have sb := stN_bd hm.bd L.length (Nat.le_refl _)
            have sb' : 0 ≤ stp L ∧ stp L ≤ 200000000 := sb
            have n1 : IntKind.i64.wrap (50 * stp L) = 50 * stp L := by rw [IntKind.wrap_i64]; omega
            have n2 : IntKind.i64.wrap (-(50 * stp L)) = -(50 * stp L) := by rw [IntKind.wrap_i64]; omega
            have SS := Lib.hid (fun u m => ST.out b L u m)
            generalize cmD L * 50 / ((L.length : Int) - 1) = r at *
            generalize stp L = s at *
            obtain ⟨rl1, rl2⟩ := rl
            replace R := Lib.hid R
            replace hS := Lib.hid hm
            clear e1 e2 e3 hU sb sb' hls hm h2 h2'
            go_wp2_with fail
            refine R.out.mono ?_
            rintro e w3 ⟨rfl, hb3⟩
            have m3 := Lib.hid (hS.out.bel hb3)
            have hb4 := hb.trans (hb3.mono hb.size)
            clear hb hb3 hS
            go_wp2_with fail
            refine (SS.out _ m3.out).mono ?_
            rintro e w5 ⟨rfl, hb5⟩
            have hb6 := hb4.trans (hb5.mono hb4.size)
            clear hb4 hb5 m3
            cases u <;> cases d
            · clear ru rd
              go_wp2_with fail
              refine (LV.out _).mono ?_
              rintro e w20 ⟨rfl, hb20⟩
              have hb21 := Lib.hid (hb6.trans (hb20.mono (hb6).size))
              clear hb20
              go_wp2
              go_ret
              exact ⟨rfl, hb21.out⟩
            · have r2 := rd (by first | rfl | trivial)
              clear ru rd
              go_wp2_with fail
              refine (LV.out _).mono ?_
              rintro e w20 ⟨rfl, hb20⟩
              have hb21 := Lib.hid (hb6.trans (hb20.mono (hb6).size))
              clear hb20
              go_wp2
              go_ret
              exact ⟨rfl, hb21.out⟩
            · have r1 := ru (by first | rfl | trivial)
              clear ru rd
              go_wp2_with fail
              refine (LV.out _).mono ?_
              rintro e w20 ⟨rfl, hb20⟩
              have hb21 := Lib.hid (hb6.trans (hb20.mono (hb6).size))
              clear hb20
              go_wp2
              go_ret
              exact ⟨rfl, hb21.out⟩
            · have r1 := ru (by first | rfl | trivial)
              have r2 := rd (by first | rfl | trivial)
              clear ru rd
              go_wp2_with fail
              refine (LV.out _).mono ?_
              rintro e w20 ⟨rfl, hb20⟩
              have hb21 := Lib.hid (hb6.trans (hb20.mono (hb6).size))
              clear hb20
              go_wp2
              go_ret
              exact ⟨rfl, hb21.out⟩
end Go.Proofs.Ytflcagcekhgjcaa
