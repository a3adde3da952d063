/- Package bus: a new watcher with all it knows; plain facts on what a step knows. -/
import Derived.Test.YtcpmdgbogdikiaaBus10
namespace Go.Proofs.Ytcpmdgbogdikiaa
open Go.ChangeShapes Go.WideShapes Go.ChangeAt Go.RowKit
set_option linter.unusedVariables false
set_option linter.unusedSimpArgs false
/-- A new watcher: its three blocks are new. -/
structure NewX (p q g tc n : Nat) (N P F : Nat → Int) (pa : Int) (w u : World) : Prop where
  r : Wt p q g tc n N P F pa 0 (fun _ => 0) (fun _ => false) (fun _ => 0) u
  b : Below w.heap.size w u
  lp : w.heap.size ≤ p
  lq : w.heap.size ≤ q
  lg : w.heap.size ≤ g
theorem NewX.drew {p q g tc n : Nat} {N P F : Nat → Int} {pa : Int} {w u : World} (h : NewX p q g tc n N P F pa w u) : NewX p q g tc n N P F pa w u.drew := ⟨h.r.bel (Below.refl _ _).drew, h.b.drew, h.lp, h.lq, h.lg⟩
theorem rec_c {V : World} {q n : Nat} (h : V.heap[q]? = some (.cells (madeCells #[.int .u32 0, .bool false, .int .i64 0] (n * 3)) 64 (0, 0))) : (∀ i, i < n → V.cell? ⟨q, i * 3, none⟩ = some (.int .u32 0) ∧ V.cell? ⟨q, i * 3 + 1, none⟩ = some (.bool false) ∧ V.cell? ⟨q, i * 3 + 2, none⟩ = some (.int .i64 0)) ∧ ∀ j, V.frozen? ⟨q, j, none⟩ = false := by
  refine ⟨fun i hi => ?_, fun j => frozen_of_row V q j _ _ h⟩
  refine ⟨?_, ?_, ?_⟩
  · rw [cell_of_row _ q _ _ _ _ h]
    unfold madeCells
    rw [Array.getElem?_map, Array.getElem?_range, if_pos (by omega)]
    show some ((#[Value.int .u32 0, .bool false, .int .i64 0] : Array Value)[(i * 3) % 3]!) = _
    rw [show (i * 3) % 3 = 0 by omega]
    rfl
  · rw [cell_of_row _ q _ _ _ _ h]
    unfold madeCells
    rw [Array.getElem?_map, Array.getElem?_range, if_pos (by omega)]
    show some ((#[Value.int .u32 0, .bool false, .int .i64 0] : Array Value)[(i * 3 + 1) % 3]!) = _
    rw [show (i * 3 + 1) % 3 = 1 by omega]
    rfl
  · rw [cell_of_row _ q _ _ _ _ h]
    unfold madeCells
    rw [Array.getElem?_map, Array.getElem?_range, if_pos (by omega)]
    show some ((#[Value.int .u32 0, .bool false, .int .i64 0] : Array Value)[(i * 3 + 2) % 3]!) = _
    rw [show (i * 3 + 2) % 3 = 2 by omega]
    rfl
theorem NewX.mk' {g q tc n : Nat} {N P F : Nat → Int} {pa : Int} {w V : World} (hb : Below w.heap.size w V) (hl : Pl V (some ⟨g, 0, none⟩) n N P F) (hc : V.heap[q]? = some (.cells (madeCells #[.int .u32 0, .bool false, .int .i64 0] (n * 3)) 64 (0, 0))) (hq : q < V.heap.size) (hg : g < V.heap.size) (hqg : q ≠ g) (lq : w.heap.size ≤ q) (lg : w.heap.size ≤ g) : NewX V.heap.size q g tc n N P F pa w (V.alloc (.cells #[.slice (some ⟨g, 0, none⟩) n tc, .int .i64 pa, .int .i64 0, .slice (some ⟨q, 0, none⟩) n n] 62)) := by
  have ha : Below V.heap.size V (V.alloc (.cells #[.slice (some ⟨g, 0, none⟩) n tc, .int .i64 pa, .int .i64 0, .slice (some ⟨q, 0, none⟩) n n] 62)) := (Below.refl _ _).alloc (Nat.le_refl _) _
  obtain ⟨r1, r2⟩ := rec_c hc
  exact ⟨⟨Held.new V [.slice (some ⟨g, 0, none⟩) n tc, .int .i64 pa, .int .i64 0, .slice (some ⟨q, 0, none⟩) n n] _, hl.below ha, fun i hi => ⟨(ha.cell (p := ⟨q, i * 3, none⟩) hq).trans (r1 i hi).1, (ha.cell (p := ⟨q, i * 3 + 1, none⟩) hq).trans (r1 i hi).2.1, (ha.cell (p := ⟨q, i * 3 + 2, none⟩) hq).trans (r1 i hi).2.2⟩, fun j => (ha.frozen (p := ⟨q, j, none⟩) hq).trans (r2 j), Nat.lt_of_lt_of_le hq ha.size, Nat.lt_of_lt_of_le hg ha.size, by omega, by omega, hqg⟩, hb.trans (ha.mono hb.size), hb.size, lq, lg⟩
set_option maxRecDepth 100000 in
set_option maxHeartbeats 8000000 in
theorem bnewx (b off cap n : Nat) (N P F : Nat → Int) (pa : Int) (w : World) (h : Pl w (some ⟨b, off, none⟩) n N P F) (hcap : n ≤ cap) (hr : rtB n N P F = true) (hp : 1 ≤ pa ∧ pa ≤ 10) : Calls Try.prog 16 #[.slice (some ⟨b, off, none⟩) n cap, .int .i64 pa] w fun e w' => ∃ p q g tc, e = .returned (.tuple #[.pointer (some ⟨p, 0, none⟩), .int .i64 0]) ∧ NewX p q g tc n N P F pa w w' := by
  have hr2 := of_decide_eq_true hr
  have n1 : 1 ≤ n := by omega
  have hn : n ≤ 32 := by omega
  have RT := bright _ cap n N P F w h hcap (by unfold maxLen; omega)
  rw [hr] at RT
  replace RT := Lib.hid RT
  have CL := Lib.hid (fun u (k : Below w.heap.size w u) => bclone b off n cap N P F u (h.below k) n1 (by omega))
  have mk := fun u => mk_rec n (by omega) u
  have z1 : (0 : Int) < (n : Int) := by omega
  have y1 : decide (pa < 1) = false := decide_eq_false (by omega)
  have y2 : decide (10 < pa) = false := decide_eq_false (by omega)
  clear hr hr2 h
  go_enter Try.func16, Try.ntmps16
  go_wp2_with fail
  refine RT.out.mono ?_
  rintro e w1 ⟨rfl, hb1⟩
  replace hb1 := Lib.hid hb1
  go_upto_region 5 with (fail)
  go_region_with (go_at_call 26; refine (CL.out _ (by first | exact hb1.out | exact hb1.out.drew | exact (hb1.out.alloc hb1.out.size _) | exact (hb1.out.drew.alloc hb1.out.size _) | exact (hb1.out.alloc hb1.out.size _).drew)).mono ?_; rintro e w2 ⟨g, tc, rfl, hg, hg2, ht, hb2⟩)
  · have hs : w.heap.size ≤ w1.heap.size := hb1.out.size
    replace hg : w1.heap.size ≤ g := hg
    have hbA : Below w.heap.size w w2 := hb1.out.drew.trans (hb2.mono hb1.out.drew.size)
    have hal := (Below.refl w2.heap.size w2).alloc (Nat.le_refl _) (.cells (madeCells #[.int .u32 0, .bool false, .int .i64 0] (n * 3)) 64)
    have s2 := hbA.size
    have K := NewX.mk' (tc := tc) (n := n) (w := w) (pa := pa) (F := F) (N := N) (P := P) (V := w2.alloc (.cells (madeCells #[.int .u32 0, .bool false, .int .i64 0] (n * 3)) 64)) (q := w2.heap.size) (hbA.alloc hbA.size _) (ht.below hal) (heap_alloc_new w2 _) (by simp) (by simp; omega) (by omega) s2 (by omega)
    rw [show (w2.alloc (.cells (madeCells #[.int .u32 0, .bool false, .int .i64 0] (n * 3)) 64)).heap.size = w2.heap.size + 1 by simp] at K
    clear hal
    go_wp2
    go_ret2
    exact ⟨_, _, _, _, rfl, by first | exact K | exact K.drew⟩
  · have hs : w.heap.size ≤ w1.heap.size := hb1.out.size
    have hz : (w1.alloc (.cells (madeCells #[.int .u32 0, .bool false, .int .i64 0] (n * 3)) 64)).drew.heap.size = w1.heap.size + 1 := by show (w1.alloc (.cells (madeCells #[.int .u32 0, .bool false, .int .i64 0] (n * 3)) 64)).heap.size = _; simp
    rw [hz] at hg
    have hbB : Below w.heap.size w (w1.alloc (.cells (madeCells #[.int .u32 0, .bool false, .int .i64 0] (n * 3)) 64)).drew := (hb1.out.alloc hb1.out.size _).drew
    have hbA : Below w.heap.size w w2 := hbB.trans (hb2.mono hbB.size)
    have s2 := hb2.size
    rw [hz] at s2
    have K := NewX.mk' (tc := tc) (n := n) (w := w) (pa := pa) (F := F) (N := N) (P := P) (V := w2) (q := w1.heap.size) hbA ht ((hb2.block w1.heap.size (by rw [hz]; omega)).trans (heap_alloc_new w1 _)) (by omega) hg2 (by omega) hs (by omega)
    clear hbB
    go_wp2
    go_ret2
    exact ⟨_, _, _, _, rfl, by first | exact K | exact K.drew⟩
/-- Behind the first j slots: what the document's last word of slot i is. -/
def ltW (N : Nat → Int) (x : Int) (j : Nat) (d : Int) (W : Nat → Int) (i : Nat) : Int := if i < j ∧ N i = x % 256 ∧ odB x = true then d else W i
def ltB (N : Nat → Int) (x : Int) (j : Nat) : Bool := (List.range j).any fun i => N i == x % 256 && odB x
theorem ltB_zero (N : Nat → Int) (x : Int) : ltB N x 0 = false := rfl
theorem ltB_succ (N : Nat → Int) (x : Int) (j : Nat) : ltB N x (j + 1) = (ltB N x j || (N j == x % 256 && odB x)) := by
  unfold ltB
  rw [List.range_succ, List.any_append]
  simp
theorem ltW_zero (N : Nat → Int) (x d : Int) (W : Nat → Int) : ltW N x 0 d W = W := by
  funext i
  unfold ltW
  rw [if_neg (by omega)]
theorem ltW_yes {N : Nat → Int} {x : Int} {j : Nat} (d : Int) (W : Nat → Int) (h1 : N j = x % 256) (h2 : odB x = true) : ltW N x (j + 1) d W = fun i => if i = j then d else ltW N x j d W i := by
  funext i
  unfold ltW
  by_cases z : i = j
  · subst z; rw [if_pos ⟨by omega, h1, h2⟩, if_pos rfl]
  · rw [if_neg z]
    by_cases y : i < j ∧ N i = x % 256 ∧ odB x = true
    · rw [if_pos y, if_pos ⟨by omega, y.2⟩]
    · rw [if_neg y, if_neg (fun h => y ⟨by omega, h.2⟩)]
theorem ltW_no {N : Nat → Int} {x : Int} {j : Nat} (d : Int) (W : Nat → Int) (h : ¬ (N j = x % 256 ∧ odB x = true)) : ltW N x (j + 1) d W = ltW N x j d W := by
  funext i
  unfold ltW
  by_cases y : i < j ∧ N i = x % 256 ∧ odB x = true
  · rw [if_pos y, if_pos ⟨by omega, y.2⟩]
  · rw [if_neg y, if_neg (fun q => y ?_)]
    rcases Nat.lt_or_ge i j with z | z
    · exact ⟨z, q.2⟩
    · have e : i = j := by omega
      subst e
      exact absurd q.2 h
/-- A step by the document's way. -/
theorem st1_lt {N P F : Nat → Int} {n : Nat} (hr : rtB n N P F = true) (c : Int) (s : WS) (x : Int) : (st1 N n c s x).W = ltW N x n x s.W ∧ (st1 N n c s x).T = ltW N x n c s.T ∧ (st1 N n c s x).m = s.m + (if ltB N x n = true then 0 else 1) := by
  have h := (of_decide_eq_true hr).2.2
  have uq : ∀ i j, i < n → j < n → N i = N j → i = j := fun i j hi hj e => by
    rcases Nat.lt_trichotomy i j with q | q | q
    · exact absurd e ((h j hj).2 i q)
    · exact q
    · exact absurd e.symm ((h i hi).2 j q)
  unfold st1
  cases e : fdJ N n (x % 256) with
  | some j =>
    unfold fdJ at e
    rw [List.find?_range_eq_some] at e
    obtain ⟨e1, e2, e3⟩ := e
    have e1 : N j = x % 256 := by simpa using e1
    have e2 : j < n := List.mem_range.1 e2
    by_cases o : odB x = true
    · have hb : ltB N x n = true := by
        unfold ltB
        rw [List.any_eq_true]
        exact ⟨j, List.mem_range.2 e2, by simp [e1, o]⟩
      show (if odB x = true then _ else _ : WS).W = _ ∧ (if odB x = true then _ else _ : WS).T = _ ∧ (if odB x = true then _ else _ : WS).m = _
      rw [if_pos o, hb]
      refine ⟨?_, ?_, rfl⟩ <;>
      · funext i
        show (if i = j then _ else _) = _
        unfold ltW
        by_cases z : i = j
        · subst z; rw [if_pos rfl, if_pos ⟨e2, e1, o⟩]
        · rw [if_neg z, if_neg (fun q => z (uq i j q.1 e2 (by rw [q.2.1, e1])))]
    · have hb : ltB N x n = false := by
        unfold ltB
        rw [Bool.eq_false_iff]
        intro q
        rw [List.any_eq_true] at q
        obtain ⟨i, -, q⟩ := q
        simp at q
        exact o q.2
      show (if odB x = true then _ else _ : WS).W = _ ∧ (if odB x = true then _ else _ : WS).T = _ ∧ (if odB x = true then _ else _ : WS).m = _
      rw [if_neg o, hb]
      refine ⟨?_, ?_, rfl⟩ <;>
      · funext i
        unfold ltW
        rw [if_neg (fun q => o q.2.2)]
  | none =>
    unfold fdJ at e
    rw [List.find?_range_eq_none] at e
    have e : ∀ i, i < n → N i ≠ x % 256 := fun i hi => by simpa using e i hi
    have hb : ltB N x n = false := by
      unfold ltB
      rw [Bool.eq_false_iff]
      intro q
      rw [List.any_eq_true] at q
      obtain ⟨i, hi, q⟩ := q
      simp at q
      exact e i (List.mem_range.1 hi) q.1
    rw [hb]
    refine ⟨?_, ?_, rfl⟩ <;>
    · funext i
      unfold ltW
      rw [if_neg (fun q => e i q.1 q.2.1)]
theorem st1_K (N : Nat → Int) (n : Nat) (c : Int) (s : WS) (x : Int) (hc : 0 < c) (h : ∀ i, s.K i = decide (0 < s.T i)) (h2 : ∀ i, 0 ≤ s.T i ∧ s.T i ≤ c) : (∀ i, (st1 N n c s x).K i = decide (0 < (st1 N n c s x).T i)) ∧ ∀ i, 0 ≤ (st1 N n c s x).T i ∧ (st1 N n c s x).T i ≤ c := by
  unfold st1
  cases fdJ N n (x % 256) with
  | none => exact ⟨h, h2⟩
  | some j =>
    show (∀ i, (if odB x = true then _ else _ : WS).K i = decide (0 < (if odB x = true then _ else _ : WS).T i)) ∧ ∀ i, 0 ≤ (if odB x = true then _ else _ : WS).T i ∧ (if odB x = true then _ else _ : WS).T i ≤ c
    by_cases o : odB x = true
    · rw [if_pos o]
      refine ⟨fun i => ?_, fun i => ?_⟩
      · show (if i = j then true else s.K i) = decide (0 < if i = j then c else s.T i)
        by_cases z : i = j
        · rw [if_pos z, if_pos z]; exact (decide_eq_true hc).symm
        · rw [if_neg z, if_neg z]; exact h i
      · show 0 ≤ (if i = j then c else s.T i) ∧ (if i = j then c else s.T i) ≤ c
        by_cases z : i = j
        · rw [if_pos z]; omega
        · rw [if_neg z]; exact h2 i
    · rw [if_neg o]
      exact ⟨h, h2⟩
theorem fold_K (N : Nat → Int) (n : Nat) (c : Int) (hc : 0 < c) : ∀ (L : List Int) (s : WS), (∀ i, s.K i = decide (0 < s.T i)) → (∀ i, 0 ≤ s.T i ∧ s.T i ≤ c) → (∀ i, (L.foldl (st1 N n c) s).K i = decide (0 < (L.foldl (st1 N n c) s).T i)) ∧ ∀ i, 0 ≤ (L.foldl (st1 N n c) s).T i ∧ (L.foldl (st1 N n c) s).T i ≤ c
  | [], s, h, h2 => ⟨h, h2⟩
  | x :: L, s, h, h2 => by
    obtain ⟨g1, g2⟩ := st1_K N n c s x hc h h2
    exact fold_K N n c hc L _ g1 g2
theorem msL_mono (N P : Nat → Int) (pa c : Int) (T : Nat → Int) (j : Nat) : ∀ k, j ≤ k → ∃ Z, msL N P pa c T k = msL N P pa c T j ++ Z
  | 0, h => ⟨[], by obtain rfl : j = 0 := by omega
                    simp⟩
  | k + 1, h => by
    by_cases z : j = k + 1
    · subst z; exact ⟨[], by simp⟩
    · obtain ⟨Z, e⟩ := msL_mono N P pa c T j k (by omega)
      rw [msL]
      split
      · exact ⟨Z ++ [N k], by rw [e]; simp⟩
      · exact ⟨Z, e⟩
theorem msL_get {N P : Nat → Int} {pa c : Int} {T : Nat → Int} {j k : Nat} (hj : j < k) (h : pa * P j ≤ c - T j) : (msL N P pa c T k)[(msL N P pa c T j).length]? = some (N j) ∧ (msL N P pa c T j).length < (msL N P pa c T k).length := by
  obtain ⟨Z, e⟩ := msL_mono N P pa c T (j + 1) k (by omega)
  rw [msL, if_pos h] at e
  rw [e]
  constructor
  · rw [List.append_assoc, List.getElem?_append_right (Nat.le_refl _)]; simp
  · simp
end Go.Proofs.Ytcpmdgbogdikiaa
