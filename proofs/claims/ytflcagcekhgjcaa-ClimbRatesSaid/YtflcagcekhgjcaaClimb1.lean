/- A meter of heights: its object and its methods; walked. -/
import Derived.Test.YtflcagcekhgjcaaWide3
import Derived.Test.YtflcagcekhgjcaaHb
import Derived.Test.YtflcagcekhgjcaaReg
import Derived.Test.YtflcagcekhgjcaaClip09
import Derived.ArgAppend
import Derived.Deep.Cut
import Derived.Deep.AppendLies
import Derived.Laws.OwnMore
namespace Go.Proofs.Ytflcagcekhgjcaa
open Go.ChangeShapes Go.WideShapes Go.ChangeAt Go.RowKit
set_option linter.unusedVariables false
set_option linter.unusedSimpArgs false

theorem cwq_pos {a b c : Int} (hc : 0 < c) : wq a b c = a * b / c := by
  unfold wq wN mag
  rw [if_neg (by omega), if_neg (by omega)]
theorem cfl_pos {a b c : Int} (hc : 0 < c) (h1 : -1099511627775 ≤ a * b / c) (h2 : a * b / c ≤ 1099511627775) : flB a b c = true ∧ flV a b c = a * b / c := by
  have e : flB a b c = true := by
    unfold flB wIn
    rw [cwq_pos hc]
    simp
    exact ⟨by omega, h1, h2⟩
  exact ⟨e, by unfold flV; rw [if_pos e, cwq_pos hc]⟩
def hvals (l : List Int) : List Value := l.map (Value.int .i64)
theorem hvals_at {l : List Int} {k : Nat} (h : k < l.length) : (hvals l)[k]? = some (.int .i64 (l.getD k 0)) := by simp [hvals, List.getD, h]
theorem hvals_snoc (l : List Int) (n : Int) : hvals l ++ [.int .i64 n] = hvals (l ++ [n]) := by simp [hvals]
theorem addr_off (b off j : Nat) : (⟨b, off, none⟩ : Addr).add j = ⟨b, off + j, none⟩ := by
  unfold Addr.add; split
  · subst_vars; rfl
  · rfl
/-- A meter of so many heights at most, with these. -/
structure Mt (b : Nat) (sz : Int) (L : List Int) (w : World) : Prop where
  ex : ∃ ao : Option Addr, Held b [.int .i64 sz, .slice ao L.length L.length] w ∧ RowIs .i64 w ao L ∧ (ao = none → L = [])
  len : (L.length : Int) ≤ sz + 1
  s1 : 1 ≤ sz
  s2 : sz ≤ 64
  bd : ∀ i, i < L.length → -100000000 ≤ L.getD i 0 ∧ L.getD i 0 ≤ 100000000
theorem Mt.bel {b : Nat} {sz : Int} {L : List Int} {w w' : World} (h : Mt b sz L w) (k : Below w.heap.size w w') : Mt b sz L w' := by
  obtain ⟨ao, hh, hr, hn⟩ := h.ex
  exact ⟨⟨ao, hh.bel k, hr.below k, hn⟩, h.len, h.s1, h.s2, h.bd⟩
theorem Mt.lt {b : Nat} {sz : Int} {L : List Int} {w : World} (h : Mt b sz L w) : b < w.heap.size := by
  obtain ⟨ao, hh, _⟩ := h.ex
  exact hh.lt
theorem Mt.drew {b : Nat} {sz : Int} {L : List Int} {w : World} (h : Mt b sz L w) : Mt b sz L w.drew := by
  obtain ⟨ao, hh, hr, hn⟩ := h.ex
  exact ⟨⟨ao, hh.drew, hr, hn⟩, h.len, h.s1, h.s2, h.bd⟩
set_option maxRecDepth 100000 in
set_option maxHeartbeats 8000000 in
theorem cmnew_no (sz : Int) (w : World) (h : sz < 1 ∨ 64 < sz) : Calls Try.prog 35 #[.int .i64 sz] w fun e w' => e = .returned (.tuple #[.pointer none, .int .i64 2]) ∧ w = w' := by
  rcases (show sz < 1 ∨ (1 ≤ sz ∧ 64 < sz) by omega) with g | ⟨g, g2⟩
  all_goals
    clear h
    go_enter Try.func35, Try.ntmps35
    go_wp2
    go_ret2
    exact ⟨rfl, rfl⟩
set_option maxRecDepth 100000 in
set_option maxHeartbeats 8000000 in
theorem cmnew_ok (sz : Int) (w : World) (h : 1 ≤ sz ∧ sz ≤ 64) : Calls Try.prog 35 #[.int .i64 sz] w fun e w' => ∃ b, w.heap.size ≤ b ∧ e = .returned (.tuple #[.pointer (some ⟨b, 0, none⟩), .int .i64 0]) ∧ Mt b sz [] w' ∧ Below w.heap.size w w' := by
  obtain ⟨g, g2⟩ := h
  go_enter Try.func35, Try.ntmps35
  go_wp2
  go_ret2
  exact ⟨w.heap.size, Nat.le_refl _, rfl, ⟨⟨none, Held.new w [.int .i64 sz, .slice none 0 0] _, .inl rfl, fun _ => rfl⟩, by show (0 : Int) ≤ sz + 1; omega, g, g2, fun i hi => absurd hi (Nat.not_lt_zero _)⟩, (by repeat (first | exact Below.refl _ _ | assumption | apply Below.drew | apply below_drewN | (refine Below.alloc ?_ (by first | exact Nat.le_refl _ | omega | (simp <;> omega)) _) | (refine Below.setCell ?_ (by first | exact Nat.le_refl _ | omega | (simp <;> omega)) _)))⟩
theorem cmlen {b : Nat} {sz : Int} {L : List Int} (w : World) (h : Mt b sz L w) : Calls Try.prog 40 #[.pointer (some ⟨b, 0, none⟩)] w fun e w' => e = .returned (.int .i64 (L.length : Int)) ∧ w = w' := by
  obtain ⟨ao, hh, hr, hn⟩ := h.ex
  have c1 := hh.c 1 _ rfl
  clear hh hr hn h
  go_enter Try.func40, Try.ntmps40
  go_wp2
  go_ret
  exact ⟨rfl, rfl⟩
theorem cmlen_nil (w : World) : Calls Try.prog 40 #[.pointer none] w fun e w' => e = .returned (.int .i64 0) ∧ w = w' := by
  go_enter Try.func40, Try.ntmps40
  go_wp2
  go_ret
  exact ⟨rfl, rfl⟩
/-- The change, and how many steps lie between. -/
def cmD (L : List Int) : Int := L.getD (L.length - 1) 0 - L.getD 0 0
theorem cmchange_no (b : Option Nat) (n : Int) (hn : n < 2) (P : Value) (w : World) (LN : ∀ u, u = w → Calls Try.prog 40 #[P] u fun e w' => e = .returned (.int .i64 n) ∧ u = w') : Calls Try.prog 50 #[P] w fun e w' => e = .returned (.tuple #[.int .i64 0, .int .i64 0, .bool false]) ∧ w = w' := by
  replace LN := Lib.hid (LN _ rfl)
  go_enter Try.func50, Try.ntmps50
  go_wp2_with fail
  refine LN.out.mono ?_
  rintro e w1 ⟨rfl, rfl⟩
  go_wp2
  go_ret3
  exact ⟨rfl, rfl⟩
set_option maxRecDepth 100000 in
set_option maxHeartbeats 8000000 in
theorem cmchange {b : Nat} {sz : Int} {L : List Int} (w : World) (h : Mt b sz L w) (h2 : 2 ≤ L.length) : Calls Try.prog 50 #[.pointer (some ⟨b, 0, none⟩)] w fun e w' => e = .returned (.tuple #[.int .i64 (cmD L), .int .i64 ((L.length : Int) - 1), .bool true]) ∧ w' = w.drew := by
  have LN := Lib.hid (cmlen w h)
  have hl := h.len
  have h64 := h.s2
  have bd0 := h.bd 0 (by omega)
  have bdn := h.bd (L.length - 1) (by omega)
  obtain ⟨ao, hh, hr, hn⟩ := h.ex
  have c1 := hh.c 1 _ rfl
  rcases hr with rfl | ⟨g, off, rfl, hlt, hc⟩
  · simp at h2
  have r0 := hc 0 (by omega)
  have rn := hc (L.length - 1) (by omega)
  rw [Nat.add_zero] at r0
  unfold cmD
  generalize L.getD (L.length - 1) 0 = y at *
  generalize L.getD 0 0 = x at *
  obtain ⟨n, hn'⟩ : ∃ n, n = L.length := ⟨_, rfl⟩
  rw [← hn'] at c1 LN h2 hl ⊢
  obtain ⟨m, hm⟩ : ∃ m, m = n - 1 := ⟨_, rfl⟩
  rw [← hn', ← hm] at rn
  rw [show (n : Int) - 1 = (m : Int) by omega]
  have n1 : IntKind.i64.wrap ((n : Int) - 1) = (m : Int) := by rw [IntKind.wrap_i64]; omega
  have n2 : IntKind.i64.wrap (y - x) = y - x := by rw [IntKind.wrap_i64]; omega
  have n4 : 0 ≤ (m : Int) := by omega
  have n5 : (m : Int) < (n : Int) := by omega
  have n9 : m < n := by omega
  have n6 : (2 : Int) ≤ (n : Int) := by omega
  have n7 : (0 : Int) < (n : Int) := by omega
  have n8 : 0 < n := by omega
  clear hh hn h hc hl h64 bd0 bdn hn' hlt hm
  go_enter Try.func50, Try.ntmps50
  go_wp2_with fail
  refine LN.out.mono ?_
  rintro e w1 ⟨rfl, rfl⟩
  go_wp2_with fail
  refine region_moves (fun u => u.cell? ⟨b, 1, none⟩ = some (.slice (some ⟨g, off, none⟩) n n) ∧ u.cell? ⟨g, off, none⟩ = some (.int .i64 x) ∧ u.cell? ⟨g, off + m, none⟩ = some (.int .i64 y)) [] [(.free, 0), (.free, 1), (.free, 2), (.take, 3), (.free, 4), (.free, 5), (.free, 6), (.take, 7), (.free, 8), (.free, 9), (.free, 10), (.take, 11), (.free, 12), (.take, 13), (.free, 14), (.free, 15), (.free, 16), (.free, 17), (.free, 18), (.free, 19)] _ (by kernel_rfl) (by kernel_rfl) (by kernel_rfl) (by kernel_rfl) (by decide) rfl (fun _ _ _ _ _ h => h) ?_
  simp only [List.filterMap_cons, List.filterMap_nil, List.getElem?_toArray, List.getElem?_cons_zero, List.getElem?_cons_succ, Option.map_some]
  iterate 3
    first
      | (refine mv_free ?_ (Or.inl ⟨by rfl, ?_⟩) (⟨c1, r0, rn⟩) ?_
         rotate_left 1
         · intro u
           go_simp
           try simp only [d1]
           try simp only [d2]
           try simp only [d3]
           try with_reducible rfl
         simp only [Act.put, List.setIfInBounds_toArray, List.set_cons_zero, List.set_cons_succ])
      | (refine mv_free _ (Or.inr ⟨by rfl, rfl⟩) (⟨c1, r0, rn⟩) ?_
         simp only [Act.put, List.setIfInBounds_toArray, List.set_cons_zero, List.set_cons_succ])
  iterate 1
    first
      | (refine mv_take ?_ (Or.inl ⟨by rfl, ?_⟩) (⟨c1, r0, rn⟩) ?_
         rotate_left 1
         · intro u hu
           (try dsimp only at hu)
           go_simp
           try with_reducible rfl
         simp only [Act.put, List.setIfInBounds_toArray, List.set_cons_zero, List.set_cons_succ])
      | (refine mv_take _ (Or.inr ⟨by rfl, rfl⟩) (⟨c1, r0, rn⟩) ?_
         simp only [Act.put, List.setIfInBounds_toArray, List.set_cons_zero, List.set_cons_succ])
  iterate 3
    first
      | (refine mv_free ?_ (Or.inl ⟨by rfl, ?_⟩) (⟨c1, r0, rn⟩) ?_
         rotate_left 1
         · intro u
           go_simp
           try simp only [d1]
           try simp only [d2]
           try simp only [d3]
           try with_reducible rfl
         simp only [Act.put, List.setIfInBounds_toArray, List.set_cons_zero, List.set_cons_succ])
      | (refine mv_free _ (Or.inr ⟨by rfl, rfl⟩) (⟨c1, r0, rn⟩) ?_
         simp only [Act.put, List.setIfInBounds_toArray, List.set_cons_zero, List.set_cons_succ])
  iterate 1
    first
      | (refine mv_take ?_ (Or.inl ⟨by rfl, ?_⟩) (⟨c1, r0, rn⟩) ?_
         rotate_left 1
         · intro u hu
           (try dsimp only at hu)
           go_simp
           try with_reducible rfl
         simp only [Act.put, List.setIfInBounds_toArray, List.set_cons_zero, List.set_cons_succ])
      | (refine mv_take _ (Or.inr ⟨by rfl, rfl⟩) (⟨c1, r0, rn⟩) ?_
         simp only [Act.put, List.setIfInBounds_toArray, List.set_cons_zero, List.set_cons_succ])
  iterate 3
    first
      | (refine mv_free ?_ (Or.inl ⟨by rfl, ?_⟩) (⟨c1, r0, rn⟩) ?_
         rotate_left 1
         · intro u
           go_simp
           try simp only [d1]
           try simp only [d2]
           try simp only [d3]
           try with_reducible rfl
         simp only [Act.put, List.setIfInBounds_toArray, List.set_cons_zero, List.set_cons_succ])
      | (refine mv_free _ (Or.inr ⟨by rfl, rfl⟩) (⟨c1, r0, rn⟩) ?_
         simp only [Act.put, List.setIfInBounds_toArray, List.set_cons_zero, List.set_cons_succ])
  iterate 1
    first
      | (refine mv_take ?_ (Or.inl ⟨by rfl, ?_⟩) (⟨c1, r0, rn⟩) ?_
         rotate_left 1
         · intro u hu
           (try dsimp only at hu)
           go_simp
           try with_reducible rfl
         simp only [Act.put, List.setIfInBounds_toArray, List.set_cons_zero, List.set_cons_succ])
      | (refine mv_take _ (Or.inr ⟨by rfl, rfl⟩) (⟨c1, r0, rn⟩) ?_
         simp only [Act.put, List.setIfInBounds_toArray, List.set_cons_zero, List.set_cons_succ])
  iterate 1
    first
      | (refine mv_free ?_ (Or.inl ⟨by rfl, ?_⟩) (⟨c1, r0, rn⟩) ?_
         rotate_left 1
         · intro u
           go_simp
           try simp only [d1]
           try simp only [d2]
           try simp only [d3]
           try with_reducible rfl
         simp only [Act.put, List.setIfInBounds_toArray, List.set_cons_zero, List.set_cons_succ])
      | (refine mv_free _ (Or.inr ⟨by rfl, rfl⟩) (⟨c1, r0, rn⟩) ?_
         simp only [Act.put, List.setIfInBounds_toArray, List.set_cons_zero, List.set_cons_succ])
  iterate 1
    first
      | (refine mv_take ?_ (Or.inl ⟨by rfl, ?_⟩) (⟨c1, r0, rn⟩) ?_
         rotate_left 1
         · intro u hu
           (try dsimp only at hu)
           go_simp
           try with_reducible rfl
         simp only [Act.put, List.setIfInBounds_toArray, List.set_cons_zero, List.set_cons_succ])
      | (refine mv_take _ (Or.inr ⟨by rfl, rfl⟩) (⟨c1, r0, rn⟩) ?_
         simp only [Act.put, List.setIfInBounds_toArray, List.set_cons_zero, List.set_cons_succ])
  iterate 6
    first
      | (refine mv_free ?_ (Or.inl ⟨by rfl, ?_⟩) (⟨c1, r0, rn⟩) ?_
         rotate_left 1
         · intro u
           go_simp
           try simp only [d1]
           try simp only [d2]
           try simp only [d3]
           try with_reducible rfl
         simp only [Act.put, List.setIfInBounds_toArray, List.set_cons_zero, List.set_cons_succ])
      | (refine mv_free _ (Or.inr ⟨by rfl, rfl⟩) (⟨c1, r0, rn⟩) ?_
         simp only [Act.put, List.setIfInBounds_toArray, List.set_cons_zero, List.set_cons_succ])
  refine mv_done ?_
  go_wp2
  go_ret3
  exact ⟨rfl, rfl⟩
set_option maxRecDepth 100000 in
set_option maxHeartbeats 8000000 in
theorem cmrate_no (P : Value) (w : World) (CH : Calls Try.prog 50 #[P] w fun e w' => e = .returned (.tuple #[.int .i64 0, .int .i64 0, .bool false]) ∧ w = w') : Calls Try.prog 38 #[P] w fun e w' => e = .returned (.tuple #[.int .i64 0, .bool false]) ∧ w = w' := by
  replace CH := Lib.hid CH
  go_enter Try.func38, Try.ntmps38
  go_wp2_with fail
  refine CH.out.mono ?_
  rintro e w1 ⟨rfl, rfl⟩
  go_wp2
  go_ret2
  exact ⟨rfl, rfl⟩
set_option maxRecDepth 100000 in
set_option maxHeartbeats 8000000 in
theorem cmrate {b : Nat} {sz : Int} {L : List Int} (w : World) (h : Mt b sz L w) (h2 : 2 ≤ L.length) : Calls Try.prog 38 #[.pointer (some ⟨b, 0, none⟩)] w fun e w' => e = .returned (.tuple #[.int .i64 (cmD L * 50 / (((L.length : Int) - 1))), .bool true]) ∧ Below w.heap.size w w' := by
  have CH := cmchange w h h2
  have hl := h.len
  have h64 := h.s2
  have bd0 := h.bd 0 (by omega)
  have bdn := h.bd (L.length - 1) (by omega)
  have hd : -200000000 ≤ cmD L ∧ cmD L ≤ 200000000 := by unfold cmD; omega
  clear bd0 bdn
  have hq : -1099511627775 ≤ cmD L * 50 / (((L.length : Int) - 1)) ∧ cmD L * 50 / (((L.length : Int) - 1)) ≤ 1099511627775 := by
    generalize cmD L = d at *
    obtain ⟨n, hn⟩ : ∃ n : Int, n = (L.length : Int) - 1 := ⟨_, rfl⟩
    rw [← hn]
    have hn1 : 1 ≤ n := by omega
    have p : 0 < n := by omega
    have a1 : d * 50 / (n) ≤ 10000000000 := by
      refine Int.ediv_le_of_le_mul p ?_
      omega
    have a2 : -10000000000 ≤ d * 50 / (n) := by
      refine Int.le_ediv_of_mul_le p ?_
      omega
    omega
  obtain ⟨f1, f2⟩ := cfl_pos (a := cmD L) (b := 50) (c := ((L.length : Int) - 1)) (by omega) hq.1 hq.2
  have FL := fun u => floor_any (cmD L) 50 (((L.length : Int) - 1)) u (by omega) (by omega) (by omega) (by omega) (by omega) (by omega)
  rw [f1, f2] at FL
  have n1 : IntKind.i64.wrap (3048 * ((L.length : Int) - 1)) = 3048 * ((L.length : Int) - 1) := by rw [IntKind.wrap_i64]; omega
  clear f1 f2 hq hl h64
  generalize cmD L * 50 / (((L.length : Int) - 1)) = r at *
  generalize cmD L = d at *
  generalize (L.length : Int) - 1 = n at *
  replace FL := Lib.hid FL
  replace CH := Lib.hid CH
  clear h hd
  go_enter Try.func38, Try.ntmps38
  go_wp2_with fail
  refine CH.out.mono ?_
  rintro e w1 ⟨rfl, rfl⟩
  go_wp2_with fail
  refine (FL.out _).mono ?_
  rintro e w2 ⟨rfl, hb2⟩
  have hb3 := Lib.hid (show Below w.heap.size w w2 from (Below.refl w.heap.size w).drew.trans hb2)
  clear hb2
  go_wp2
  go_ret2
  exact ⟨rfl, hb3.out⟩
set_option maxRecDepth 100000 in
set_option maxHeartbeats 8000000 in
theorem cmminute_no (P : Value) (w : World) (CH : Calls Try.prog 50 #[P] w fun e w' => e = .returned (.tuple #[.int .i64 0, .int .i64 0, .bool false]) ∧ w = w') : Calls Try.prog 39 #[P] w fun e w' => e = .returned (.tuple #[.int .i64 0, .bool false]) ∧ w = w' := by
  replace CH := Lib.hid CH
  go_enter Try.func39, Try.ntmps39
  go_wp2_with fail
  refine CH.out.mono ?_
  rintro e w1 ⟨rfl, rfl⟩
  go_wp2
  go_ret2
  exact ⟨rfl, rfl⟩
set_option maxRecDepth 100000 in
set_option maxHeartbeats 8000000 in
theorem cmminute {b : Nat} {sz : Int} {L : List Int} (w : World) (h : Mt b sz L w) (h2 : 2 ≤ L.length) : Calls Try.prog 39 #[.pointer (some ⟨b, 0, none⟩)] w fun e w' => e = .returned (.tuple #[.int .i64 (cmD L * 300000 / (3048 * ((L.length : Int) - 1))), .bool true]) ∧ Below w.heap.size w w' := by
  have CH := cmchange w h h2
  have hl := h.len
  have h64 := h.s2
  have bd0 := h.bd 0 (by omega)
  have bdn := h.bd (L.length - 1) (by omega)
  have hd : -200000000 ≤ cmD L ∧ cmD L ≤ 200000000 := by unfold cmD; omega
  clear bd0 bdn
  have hq : -1099511627775 ≤ cmD L * 300000 / (3048 * ((L.length : Int) - 1)) ∧ cmD L * 300000 / (3048 * ((L.length : Int) - 1)) ≤ 1099511627775 := by
    generalize cmD L = d at *
    obtain ⟨n, hn⟩ : ∃ n : Int, n = (L.length : Int) - 1 := ⟨_, rfl⟩
    rw [← hn]
    have hn1 : 1 ≤ n := by omega
    have p : 0 < 3048 * n := by omega
    have a1 : d * 300000 / (3048 * n) ≤ 1000000000000 := by
      refine Int.ediv_le_of_le_mul p ?_
      omega
    have a2 : -1000000000000 ≤ d * 300000 / (3048 * n) := by
      refine Int.le_ediv_of_mul_le p ?_
      omega
    omega
  obtain ⟨f1, f2⟩ := cfl_pos (a := cmD L) (b := 300000) (c := 3048 * ((L.length : Int) - 1)) (by omega) hq.1 hq.2
  have FL := fun u => floor_any (cmD L) 300000 (3048 * ((L.length : Int) - 1)) u (by omega) (by omega) (by omega) (by omega) (by omega) (by omega)
  rw [f1, f2] at FL
  have n1 : IntKind.i64.wrap (3048 * ((L.length : Int) - 1)) = 3048 * ((L.length : Int) - 1) := by rw [IntKind.wrap_i64]; omega
  clear f1 f2 hq hl h64
  generalize cmD L * 300000 / (3048 * ((L.length : Int) - 1)) = r at *
  generalize cmD L = d at *
  generalize (L.length : Int) - 1 = n at *
  replace FL := Lib.hid FL
  replace CH := Lib.hid CH
  clear h hd
  go_enter Try.func39, Try.ntmps39
  go_wp2_with fail
  refine CH.out.mono ?_
  rintro e w1 ⟨rfl, rfl⟩
  go_wp2_with fail
  refine (FL.out _).mono ?_
  rintro e w2 ⟨rfl, hb2⟩
  have hb3 := Lib.hid (show Below w.heap.size w w2 from (Below.refl w.heap.size w).drew.trans hb2)
  clear hb2
  go_wp2
  go_ret2
  exact ⟨rfl, hb3.out⟩
end Go.Proofs.Ytflcagcekhgjcaa
