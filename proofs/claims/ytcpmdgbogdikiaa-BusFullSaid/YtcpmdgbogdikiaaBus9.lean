/- Package bus: a watcher with all it knows; Word, Missing, Tick; walked. -/
import Derived.Test.YtcpmdgbogdikiaaBus7
namespace Go.Proofs.Ytcpmdgbogdikiaa
open Go.ChangeShapes Go.WideShapes Go.ChangeAt Go.RowKit
set_option linter.unusedVariables false
set_option linter.unusedSimpArgs false
/-- A watcher in tick c: of slot i it has the word W i, if K i, which came in tick T i. -/
structure Wt (p q g tc n : Nat) (N P F : Nat → Int) (pa c : Int) (W : Nat → Int) (K : Nat → Bool) (T : Nat → Int) (u : World) : Prop where
  h : Held p [.slice (some ⟨g, 0, none⟩) n tc, .int .i64 pa, .int .i64 c, .slice (some ⟨q, 0, none⟩) n n] u
  l : Pl u (some ⟨g, 0, none⟩) n N P F
  r : ∀ i, i < n → u.cell? ⟨q, i * 3, none⟩ = some (.int .u32 (W i)) ∧ u.cell? ⟨q, i * 3 + 1, none⟩ = some (.bool (K i)) ∧ u.cell? ⟨q, i * 3 + 2, none⟩ = some (.int .i64 (T i))
  fz : ∀ j, u.frozen? ⟨q, j, none⟩ = false
  qz : q < u.heap.size
  gz : g < u.heap.size
  pq : p ≠ q
  pg : p ≠ g
  qg : q ≠ g
theorem Wt.bel {p q g tc n : Nat} {N P F : Nat → Int} {pa c : Int} {W : Nat → Int} {K : Nat → Bool} {T : Nat → Int} {u u' : World} (h : Wt p q g tc n N P F pa c W K T u) (k : Below u.heap.size u u') : Wt p q g tc n N P F pa c W K T u' :=
  ⟨h.h.bel k, h.l.below k, fun i hi => ⟨(k.cell (p := ⟨q, i * 3, none⟩) h.qz).trans (h.r i hi).1, (k.cell (p := ⟨q, i * 3 + 1, none⟩) h.qz).trans (h.r i hi).2.1, (k.cell (p := ⟨q, i * 3 + 2, none⟩) h.qz).trans (h.r i hi).2.2⟩, fun j => (k.frozen (p := ⟨q, j, none⟩) h.qz).trans (h.fz j), Nat.lt_of_lt_of_le h.qz k.size, Nat.lt_of_lt_of_le h.gz k.size, h.pq, h.pg, h.qg⟩
set_option maxRecDepth 100000 in
set_option maxHeartbeats 8000000 in
theorem wtick {p q g tc n : Nat} {N P F : Nat → Int} {pa c : Int} {W : Nat → Int} {K : Nat → Bool} {T : Nat → Int} (w : World) (h : Wt p q g tc n N P F pa c W K T w) : Calls Try.prog 20 #[.pointer (some ⟨p, 0, none⟩)] w fun e w' => e = .returned (.int .i64 c) ∧ w = w' := by
  have hh := h.h
  obtain ⟨c0, f0⟩ := hh.one 0 rfl
  obtain ⟨c1, f1⟩ := hh.one 1 rfl
  obtain ⟨c2, f2⟩ := hh.one 2 rfl
  obtain ⟨c3, f3⟩ := hh.one 3 rfl
  go_enter Try.func20, Try.ntmps20
  go_wp2
  go_ret
  exact ⟨rfl, rfl⟩
set_option maxRecDepth 100000 in
set_option maxHeartbeats 8000000 in
theorem wword {p q g tc n : Nat} {N P F : Nat → Int} {pa c : Int} {W : Nat → Int} {K : Nat → Bool} {T : Nat → Int} (x : Int) (w : World) (h : Wt p q g tc n N P F pa c W K T w) (hn : n ≤ 32) : Calls Try.prog 17 #[.pointer (some ⟨p, 0, none⟩), .int .i64 x] w fun e w' => Below w.heap.size w w' ∧ ((∃ j : Nat, j < n ∧ N j = x ∧ (∀ i, i < j → N i ≠ x) ∧ e = .returned (.tuple #[.int .u32 (W j), .bool (K j)])) ∨ ((∀ j, j < n → N j ≠ x) ∧ e = .returned (.tuple #[.int .u32 0, .bool false]))) := by
  have HH := Lib.hid (fun u (k : Below w.heap.size w u) => h.bel k)
  have hh := h.h
  obtain ⟨c0, f0⟩ := hh.one 0 rfl
  obtain ⟨c1, f1⟩ := hh.one 1 rfl
  obtain ⟨c2, f2⟩ := hh.one 2 rfl
  obtain ⟨c3, f3⟩ := hh.one 3 rfl
  have FD := Lib.hid (bfind (some ⟨g, 0, none⟩) tc n N P F x w h.l (by omega))
  clear h hh
  go_enter Try.func17, Try.ntmps17
  go_wp2_with fail
  refine FD.out.mono ?_
  rintro e w1 ⟨r, rfl, hr, hb⟩
  clear c0 c1 c2 c3 f0 f1 f2 f3
  have R := HH.out w1 hb
  have hv := R.h
  obtain ⟨d0, g0⟩ := hv.one 0 rfl
  obtain ⟨d1, g1⟩ := hv.one 1 rfl
  obtain ⟨d2, g2⟩ := hv.one 2 rfl
  obtain ⟨d3, g3⟩ := hv.one 3 rfl
  have hb1 := Lib.hid (show Below w.heap.size w w1.drew from hb.drew)
  have hb := Lib.hid hb
  rcases hr with ⟨j, hj, rfl, h1, h2⟩ | ⟨rfl, h2⟩
  · have j0 : ¬ (j : Int) < 0 := by omega
    have j1 : (0 : Int) ≤ (j : Int) := by omega
    have j2 : (j : Int) < (n : Int) := by omega
    obtain ⟨k0, k1, k2⟩ := R.r j hj
    have FIN := Lib.hid (show N j = x ∧ ∀ i, i < j → N i ≠ x from ⟨h1, h2⟩)
    clear R hv h1 h2
    go_upto_region 6 with (fail)
    refine region_moves (fun u => u.cell? ⟨p, 3, none⟩ = some (.slice (some ⟨q, 0, none⟩) n n) ∧ u.cell? ⟨q, j * 3, none⟩ = some (.int .u32 (W j)) ∧ u.cell? ⟨q, j * 3 + 1, none⟩ = some (.bool (K j))) [] [(.free, 0), (.free, 1), (.free, 2), (.take, 3), (.free, 4), (.free, 5), (.free, 6), (.take, 7), (.free, 8), (.free, 9), (.free, 10), (.take, 11), (.free, 12), (.free, 13), (.free, 14), (.take, 15), (.free, 16), (.free, 17)] _ (by kernel_rfl) (by kernel_rfl) (by kernel_rfl) (by kernel_rfl) (by decide) rfl (fun _ _ _ _ _ h => h) ?_
    simp only [List.filterMap_cons, List.filterMap_nil, List.getElem?_toArray, List.getElem?_cons_zero, List.getElem?_cons_succ, Option.map_some]
    iterate 3
      first
        | (refine mv_free ?_ (Or.inl ⟨by rfl, ?_⟩) (⟨d3, k0, k1⟩) ?_
           rotate_left 1
           · intro u
             go_simp
             try simp only [d1]
             try simp only [d2]
             try simp only [d3]
             try simp only [d1]
             try simp only [d2]
             try simp only [d3]
             try with_reducible rfl
           simp only [Act.put, List.setIfInBounds_toArray, List.set_cons_zero, List.set_cons_succ])
        | (refine mv_free _ (Or.inr ⟨by rfl, rfl⟩) (⟨d3, k0, k1⟩) ?_
           simp only [Act.put, List.setIfInBounds_toArray, List.set_cons_zero, List.set_cons_succ])
    iterate 1
      first
        | (refine mv_take ?_ (Or.inl ⟨by rfl, ?_⟩) (⟨d3, k0, k1⟩) ?_
           rotate_left 1
           · intro u hu
             (try dsimp only at hu)
             go_simp
             try with_reducible rfl
           simp only [Act.put, List.setIfInBounds_toArray, List.set_cons_zero, List.set_cons_succ])
        | (refine mv_take _ (Or.inr ⟨by rfl, rfl⟩) (⟨d3, k0, k1⟩) ?_
           simp only [Act.put, List.setIfInBounds_toArray, List.set_cons_zero, List.set_cons_succ])
    iterate 3
      first
        | (refine mv_free ?_ (Or.inl ⟨by rfl, ?_⟩) (⟨d3, k0, k1⟩) ?_
           rotate_left 1
           · intro u
             go_simp
             try simp only [d1]
             try simp only [d2]
             try simp only [d3]
             try simp only [d1]
             try simp only [d2]
             try simp only [d3]
             try with_reducible rfl
           simp only [Act.put, List.setIfInBounds_toArray, List.set_cons_zero, List.set_cons_succ])
        | (refine mv_free _ (Or.inr ⟨by rfl, rfl⟩) (⟨d3, k0, k1⟩) ?_
           simp only [Act.put, List.setIfInBounds_toArray, List.set_cons_zero, List.set_cons_succ])
    iterate 1
      first
        | (refine mv_take ?_ (Or.inl ⟨by rfl, ?_⟩) (⟨d3, k0, k1⟩) ?_
           rotate_left 1
           · intro u hu
             (try dsimp only at hu)
             go_simp
             try with_reducible rfl
           simp only [Act.put, List.setIfInBounds_toArray, List.set_cons_zero, List.set_cons_succ])
        | (refine mv_take _ (Or.inr ⟨by rfl, rfl⟩) (⟨d3, k0, k1⟩) ?_
           simp only [Act.put, List.setIfInBounds_toArray, List.set_cons_zero, List.set_cons_succ])
    iterate 3
      first
        | (refine mv_free ?_ (Or.inl ⟨by rfl, ?_⟩) (⟨d3, k0, k1⟩) ?_
           rotate_left 1
           · intro u
             go_simp
             try simp only [d1]
             try simp only [d2]
             try simp only [d3]
             try simp only [d1]
             try simp only [d2]
             try simp only [d3]
             try with_reducible rfl
           simp only [Act.put, List.setIfInBounds_toArray, List.set_cons_zero, List.set_cons_succ])
        | (refine mv_free _ (Or.inr ⟨by rfl, rfl⟩) (⟨d3, k0, k1⟩) ?_
           simp only [Act.put, List.setIfInBounds_toArray, List.set_cons_zero, List.set_cons_succ])
    iterate 1
      first
        | (refine mv_take ?_ (Or.inl ⟨by rfl, ?_⟩) (⟨d3, k0, k1⟩) ?_
           rotate_left 1
           · intro u hu
             (try dsimp only at hu)
             go_simp
             try with_reducible rfl
           simp only [Act.put, List.setIfInBounds_toArray, List.set_cons_zero, List.set_cons_succ])
        | (refine mv_take _ (Or.inr ⟨by rfl, rfl⟩) (⟨d3, k0, k1⟩) ?_
           simp only [Act.put, List.setIfInBounds_toArray, List.set_cons_zero, List.set_cons_succ])
    iterate 3
      first
        | (refine mv_free ?_ (Or.inl ⟨by rfl, ?_⟩) (⟨d3, k0, k1⟩) ?_
           rotate_left 1
           · intro u
             go_simp
             try simp only [d1]
             try simp only [d2]
             try simp only [d3]
             try simp only [d1]
             try simp only [d2]
             try simp only [d3]
             try with_reducible rfl
           simp only [Act.put, List.setIfInBounds_toArray, List.set_cons_zero, List.set_cons_succ])
        | (refine mv_free _ (Or.inr ⟨by rfl, rfl⟩) (⟨d3, k0, k1⟩) ?_
           simp only [Act.put, List.setIfInBounds_toArray, List.set_cons_zero, List.set_cons_succ])
    iterate 1
      first
        | (refine mv_take ?_ (Or.inl ⟨by rfl, ?_⟩) (⟨d3, k0, k1⟩) ?_
           rotate_left 1
           · intro u hu
             (try dsimp only at hu)
             go_simp
             try with_reducible rfl
           simp only [Act.put, List.setIfInBounds_toArray, List.set_cons_zero, List.set_cons_succ])
        | (refine mv_take _ (Or.inr ⟨by rfl, rfl⟩) (⟨d3, k0, k1⟩) ?_
           simp only [Act.put, List.setIfInBounds_toArray, List.set_cons_zero, List.set_cons_succ])
    iterate 2
      first
        | (refine mv_free ?_ (Or.inl ⟨by rfl, ?_⟩) (⟨d3, k0, k1⟩) ?_
           rotate_left 1
           · intro u
             go_simp
             try simp only [d1]
             try simp only [d2]
             try simp only [d3]
             try simp only [d1]
             try simp only [d2]
             try simp only [d3]
             try with_reducible rfl
           simp only [Act.put, List.setIfInBounds_toArray, List.set_cons_zero, List.set_cons_succ])
        | (refine mv_free _ (Or.inr ⟨by rfl, rfl⟩) (⟨d3, k0, k1⟩) ?_
           simp only [Act.put, List.setIfInBounds_toArray, List.set_cons_zero, List.set_cons_succ])
    refine mv_done ?_
    go_wp2
    go_ret2
    exact ⟨hb1.out, .inl ⟨j, hj, FIN.out.1, FIN.out.2, rfl⟩⟩
  · have h2 := Lib.hid h2
    clear R hv
    go_wp2
    go_ret2
    exact ⟨hb.out, .inr ⟨h2.out, rfl⟩⟩
/-- Who is missing. -/
def msL (N P : Nat → Int) (pa c : Int) (T : Nat → Int) : Nat → List Int
  | 0 => []
  | k + 1 => if pa * P k ≤ c - T k then msL N P pa c T k ++ [N k] else msL N P pa c T k
theorem msL_len (N P : Nat → Int) (pa c : Int) (T : Nat → Int) : ∀ k, (msL N P pa c T k).length ≤ k
  | 0 => by simp [msL]
  | k + 1 => by
    have := msL_len N P pa c T k
    unfold msL
    split
    · simp; omega
    · omega
set_option maxRecDepth 100000 in
set_option maxHeartbeats 8000000 in
theorem wmiss {p q g tc n : Nat} {N P F : Nat → Int} {pa c : Int} {W : Nat → Int} {K : Nat → Bool} {T : Nat → Int} (w : World) (h : Wt p q g tc n N P F pa c W K T w) (hn : n ≤ 32) (hp : 1 ≤ pa ∧ pa ≤ 10) (hc : 0 ≤ c ∧ c ≤ 1000000) (hS : ∀ i, i < n → srB (N i) (P i) (F i) = true) (hT : ∀ i, i < n → 0 ≤ T i ∧ T i ≤ c) : Calls Try.prog 19 #[.pointer (some ⟨p, 0, none⟩)] w fun e w' => ∃ x', e = .returned x' ∧ Og 3 w.heap.size x' (nvals .i64 (msL N P pa c T n)) w' ∧ Below w.heap.size w w' := by
  have HH := Lib.hid (fun u (k : Below w.heap.size w u) => h.bel k)
  have hh := h.h
  obtain ⟨c0, f0⟩ := hh.one 0 rfl
  obtain ⟨c1, f1⟩ := hh.one 1 rfl
  obtain ⟨c2, f2⟩ := hh.one 2 rfl
  obtain ⟨c3, f3⟩ := hh.one 3 rfl
  have HS := Lib.hid hS
  have HT := Lib.hid hT
  have ML := Lib.hid (msL_len N P pa c T)
  clear h hh hS hT
  go_enter Try.func19, Try.ntmps19
  go_wp2_with fail
  go_loopw [3, 13] (fun y i v => ∃ (k : Nat) (x' : Value), k ≤ n ∧ y = x' ∧ i = .int .i64 (k : Int) ∧ Hid (Below w.heap.size w v) ∧ Hid (Og 3 w.heap.size x' (nvals .i64 (msL N P pa c T k)) v)) (fun _ i _ => n - (intOf i).toNat)
  case atStart => exact ⟨0, _, by omega, rfl, rfl, Lib.hid (Below.refl _ _), Lib.hid (Og.nil _ _ _)⟩
  case round =>
    clear c0 c1 c2 c3 f0 f1 f2 f3
    obtain ⟨k, x', hk, rfl, rfl, hb, hO⟩ := hrel
    generalize wr = v at *
    by_cases hlt : k < n
    · have R := HH.out v hb.out
      obtain ⟨b, off, ea, hbb, k0, k1, k2⟩ := R.l.at hlt
      injection ea with ea
      injection ea with ea1 ea2
      subst ea1 ea2
      rw [Nat.zero_add] at k0 k1 k2
      have j1 : (k : Int) < (n : Int) := by omega
      have j2 : IntKind.i64.wrap ((k : Int) + 1) = (k : Int) + 1 := by rw [IntKind.wrap_i64]; omega
      have j3 : 0 ≤ (k : Int) := by omega
      have hs := of_decide_eq_true (HS.out k hlt)
      have ht := HT.out k hlt
      have m1 : 0 ≤ pa * P k ∧ pa * P k ≤ 10000 := by
        have e1 := Int.mul_le_mul_of_nonneg_right hp.2 (show 0 ≤ P k by omega)
        have e2 := Int.mul_nonneg (show 0 ≤ pa by omega) (show 0 ≤ P k by omega)
        omega
      have w1 : IntKind.i64.wrap (c - T k) = c - T k := by rw [IntKind.wrap_i64]; omega
      have w2 : IntKind.i64.wrap (pa * P k) = pa * P k := by rw [IntKind.wrap_i64]; omega
      obtain ⟨V, eV, hbV, hzV, s0, s1, s2⟩ := sl_box v (N k) (P k) (F k)
      replace eV := Lib.hid eV
      obtain ⟨B, eB⟩ : ∃ B, v.heap.size = B := ⟨_, rfl⟩
      have RV := R.bel (by exact hbV)
      have hv := RV.h
      obtain ⟨d0, g0⟩ := hv.one 0 rfl
      obtain ⟨d1, g1⟩ := hv.one 1 rfl
      obtain ⟨d2, g2⟩ := hv.one 2 rfl
      obtain ⟨d3, g3⟩ := hv.one 3 rfl
      obtain ⟨-, -, tk⟩ := RV.r k hlt
      have hOV := Lib.hid (hO.out.bel hbV).drew
      rw [eB] at hbV hzV s0 s1 s2
      have hbw := Lib.hid (show Below w.heap.size w V.drew from (hb.out.trans (hbV.mono (by have := hb.out.size; omega))).drew)
      clear hbb hbV hb RV hv R hs ht m1 hO
      go_upto_region 7 with (fail)
      rw [← eV.out]
      try rw [eB]
      clear eB eV k0 k1 k2
      refine region_moves (fun u => (u.cell? ⟨p, 2, none⟩ = some (.int .i64 c) ∧ u.cell? ⟨p, 3, none⟩ = some (.slice (some ⟨q, 0, none⟩) n n)) ∧ (u.cell? ⟨q, k * 3 + 2, none⟩ = some (.int .i64 (T k)) ∧ u.cell? ⟨p, 1, none⟩ = some (.int .i64 pa)) ∧ u.cell? ⟨B, 1, none⟩ = some (.int .i64 (P k))) [] [(.free, 0), (.free, 1), (.free, 2), (.take, 3), (.free, 4), (.free, 5), (.free, 6), (.take, 7), (.free, 8), (.free, 9), (.free, 10), (.take, 11), (.free, 12), (.free, 13), (.free, 14), (.free, 15), (.take, 16), (.free, 17), (.take, 18), (.free, 19), (.free, 20)] _ (by kernel_rfl) (by kernel_rfl) (by kernel_rfl) (by kernel_rfl) (by decide) rfl (fun _ _ _ _ _ h => h) ?_
      simp only [List.filterMap_cons, List.filterMap_nil, List.getElem?_toArray, List.getElem?_cons_zero, List.getElem?_cons_succ, Option.map_some]
      iterate 3
        first
          | (refine mv_free ?_ (Or.inl ⟨by rfl, ?_⟩) (⟨⟨d2, d3⟩, ⟨tk, d1⟩, s1⟩) ?_
             rotate_left 1
             · intro u
               go_simp
               try simp only [d1]
               try simp only [d2]
               try simp only [d3]
               try simp only [d1]
               try simp only [d2]
               try simp only [d3]
               try with_reducible rfl
             simp only [Act.put, List.setIfInBounds_toArray, List.set_cons_zero, List.set_cons_succ])
          | (refine mv_free _ (Or.inr ⟨by rfl, rfl⟩) (⟨⟨d2, d3⟩, ⟨tk, d1⟩, s1⟩) ?_
             simp only [Act.put, List.setIfInBounds_toArray, List.set_cons_zero, List.set_cons_succ])
      iterate 1
        first
          | (refine mv_take ?_ (Or.inl ⟨by rfl, ?_⟩) (⟨⟨d2, d3⟩, ⟨tk, d1⟩, s1⟩) ?_
             rotate_left 1
             · intro u hu
               (try dsimp only at hu)
               go_simp
               try with_reducible rfl
             simp only [Act.put, List.setIfInBounds_toArray, List.set_cons_zero, List.set_cons_succ])
          | (refine mv_take _ (Or.inr ⟨by rfl, rfl⟩) (⟨⟨d2, d3⟩, ⟨tk, d1⟩, s1⟩) ?_
             simp only [Act.put, List.setIfInBounds_toArray, List.set_cons_zero, List.set_cons_succ])
      iterate 3
        first
          | (refine mv_free ?_ (Or.inl ⟨by rfl, ?_⟩) (⟨⟨d2, d3⟩, ⟨tk, d1⟩, s1⟩) ?_
             rotate_left 1
             · intro u
               go_simp
               try simp only [d1]
               try simp only [d2]
               try simp only [d3]
               try simp only [d1]
               try simp only [d2]
               try simp only [d3]
               try with_reducible rfl
             simp only [Act.put, List.setIfInBounds_toArray, List.set_cons_zero, List.set_cons_succ])
          | (refine mv_free _ (Or.inr ⟨by rfl, rfl⟩) (⟨⟨d2, d3⟩, ⟨tk, d1⟩, s1⟩) ?_
             simp only [Act.put, List.setIfInBounds_toArray, List.set_cons_zero, List.set_cons_succ])
      iterate 1
        first
          | (refine mv_take ?_ (Or.inl ⟨by rfl, ?_⟩) (⟨⟨d2, d3⟩, ⟨tk, d1⟩, s1⟩) ?_
             rotate_left 1
             · intro u hu
               (try dsimp only at hu)
               go_simp
               try with_reducible rfl
             simp only [Act.put, List.setIfInBounds_toArray, List.set_cons_zero, List.set_cons_succ])
          | (refine mv_take _ (Or.inr ⟨by rfl, rfl⟩) (⟨⟨d2, d3⟩, ⟨tk, d1⟩, s1⟩) ?_
             simp only [Act.put, List.setIfInBounds_toArray, List.set_cons_zero, List.set_cons_succ])
      iterate 3
        first
          | (refine mv_free ?_ (Or.inl ⟨by rfl, ?_⟩) (⟨⟨d2, d3⟩, ⟨tk, d1⟩, s1⟩) ?_
             rotate_left 1
             · intro u
               go_simp
               try simp only [d1]
               try simp only [d2]
               try simp only [d3]
               try simp only [d1]
               try simp only [d2]
               try simp only [d3]
               try with_reducible rfl
             simp only [Act.put, List.setIfInBounds_toArray, List.set_cons_zero, List.set_cons_succ])
          | (refine mv_free _ (Or.inr ⟨by rfl, rfl⟩) (⟨⟨d2, d3⟩, ⟨tk, d1⟩, s1⟩) ?_
             simp only [Act.put, List.setIfInBounds_toArray, List.set_cons_zero, List.set_cons_succ])
      iterate 1
        first
          | (refine mv_take ?_ (Or.inl ⟨by rfl, ?_⟩) (⟨⟨d2, d3⟩, ⟨tk, d1⟩, s1⟩) ?_
             rotate_left 1
             · intro u hu
               (try dsimp only at hu)
               go_simp
               try with_reducible rfl
             simp only [Act.put, List.setIfInBounds_toArray, List.set_cons_zero, List.set_cons_succ])
          | (refine mv_take _ (Or.inr ⟨by rfl, rfl⟩) (⟨⟨d2, d3⟩, ⟨tk, d1⟩, s1⟩) ?_
             simp only [Act.put, List.setIfInBounds_toArray, List.set_cons_zero, List.set_cons_succ])
      iterate 4
        first
          | (refine mv_free ?_ (Or.inl ⟨by rfl, ?_⟩) (⟨⟨d2, d3⟩, ⟨tk, d1⟩, s1⟩) ?_
             rotate_left 1
             · intro u
               go_simp
               try simp only [d1]
               try simp only [d2]
               try simp only [d3]
               try simp only [d1]
               try simp only [d2]
               try simp only [d3]
               try with_reducible rfl
             simp only [Act.put, List.setIfInBounds_toArray, List.set_cons_zero, List.set_cons_succ])
          | (refine mv_free _ (Or.inr ⟨by rfl, rfl⟩) (⟨⟨d2, d3⟩, ⟨tk, d1⟩, s1⟩) ?_
             simp only [Act.put, List.setIfInBounds_toArray, List.set_cons_zero, List.set_cons_succ])
      iterate 1
        first
          | (refine mv_take ?_ (Or.inl ⟨by rfl, ?_⟩) (⟨⟨d2, d3⟩, ⟨tk, d1⟩, s1⟩) ?_
             rotate_left 1
             · intro u hu
               (try dsimp only at hu)
               go_simp
               try with_reducible rfl
             simp only [Act.put, List.setIfInBounds_toArray, List.set_cons_zero, List.set_cons_succ])
          | (refine mv_take _ (Or.inr ⟨by rfl, rfl⟩) (⟨⟨d2, d3⟩, ⟨tk, d1⟩, s1⟩) ?_
             simp only [Act.put, List.setIfInBounds_toArray, List.set_cons_zero, List.set_cons_succ])
      iterate 1
        first
          | (refine mv_free ?_ (Or.inl ⟨by rfl, ?_⟩) (⟨⟨d2, d3⟩, ⟨tk, d1⟩, s1⟩) ?_
             rotate_left 1
             · intro u
               go_simp
               try simp only [d1]
               try simp only [d2]
               try simp only [d3]
               try simp only [d1]
               try simp only [d2]
               try simp only [d3]
               try with_reducible rfl
             simp only [Act.put, List.setIfInBounds_toArray, List.set_cons_zero, List.set_cons_succ])
          | (refine mv_free _ (Or.inr ⟨by rfl, rfl⟩) (⟨⟨d2, d3⟩, ⟨tk, d1⟩, s1⟩) ?_
             simp only [Act.put, List.setIfInBounds_toArray, List.set_cons_zero, List.set_cons_succ])
      iterate 1
        first
          | (refine mv_take ?_ (Or.inl ⟨by rfl, ?_⟩) (⟨⟨d2, d3⟩, ⟨tk, d1⟩, s1⟩) ?_
             rotate_left 1
             · intro u hu
               (try dsimp only at hu)
               go_simp
               try with_reducible rfl
             simp only [Act.put, List.setIfInBounds_toArray, List.set_cons_zero, List.set_cons_succ])
          | (refine mv_take _ (Or.inr ⟨by rfl, rfl⟩) (⟨⟨d2, d3⟩, ⟨tk, d1⟩, s1⟩) ?_
             simp only [Act.put, List.setIfInBounds_toArray, List.set_cons_zero, List.set_cons_succ])
      iterate 2
        first
          | (refine mv_free ?_ (Or.inl ⟨by rfl, ?_⟩) (⟨⟨d2, d3⟩, ⟨tk, d1⟩, s1⟩) ?_
             rotate_left 1
             · intro u
               go_simp
               try simp only [d1]
               try simp only [d2]
               try simp only [d3]
               try simp only [d1]
               try simp only [d2]
               try simp only [d3]
               try with_reducible rfl
             simp only [Act.put, List.setIfInBounds_toArray, List.set_cons_zero, List.set_cons_succ])
          | (refine mv_free _ (Or.inr ⟨by rfl, rfl⟩) (⟨⟨d2, d3⟩, ⟨tk, d1⟩, s1⟩) ?_
             simp only [Act.put, List.setIfInBounds_toArray, List.set_cons_zero, List.set_cons_succ])
      refine mv_done ?_
      clear d0 d1 d2 d3 g0 g1 g2 g3 tk s1 s2
      have s0 : V.drew.cell? ⟨B, 0, none⟩ = some (.int .i64 (N k)) := s0
      clear hzV
      generalize V.drew = X at *
      by_cases y : pa * P k ≤ c - T k
      · have y1 : decide (pa * P k ≤ c - T k) = true := decide_eq_true y
        have MS := Lib.hid (show msL N P pa c T (k + 1) = msL N P pa c T k ++ [N k] from if_pos y)
        have SR := Lib.hid (src_new 24 3 3 Try.underlying24 X [.int .i64 (N k)] (fun u hu => by simp at hu; subst hu; rfl))
        have A1 := Lib.hid ((Below.refl X.heap.size X).alloc (Nat.le_refl _) (.cells #[.int .i64 (N k)] 3))
        have hO3 := Lib.hid (hOV.out.bel A1.out)
        have hz3 := Lib.hid (show w.heap.size ≤ (X.alloc (.cells #[.int .i64 (N k)] 3)).heap.size from Nat.le_trans hbw.out.size A1.out.size)
        have GL := Lib.hid (show (nvals .i64 (msL N P pa c T k)).length + 1 ≤ 100 by rw [nvals_len]; have := ML.out k; omega)
        go_wp2_with (first | (at_builtin; go_loud (refine wpList_append_og _ rfl (.tmp 39) (.tmp 42) 24 24 rfl 3 (.int .i64 0) 8 Try.underlying24 (by kernel_rfl) rfl w.heap.size _ _ rfl hO3.out hz3.out _ 1 _ rfl SR.out (by have := GL.out; unfold maxLen; omega) (by have := GL.out; omega) ?_; intro x7 w7 hO7 hK7 hN7)) | fail)
        have r1 := Lib.hid (show Og 3 w.heap.size x7 (nvals .i64 (msL N P pa c T (k + 1))) w7 by rw [MS.out, nvals_app]; exact hO7)
        have r2 := Lib.hid (show Below w.heap.size w w7 from hbw.out.trans ((A1.out.mono hbw.out.size).trans (hK7.below hO3.out hz3.out)))
        clear hO7 hK7 hN7 SR A1 hO3 hz3 hOV hbw
        exact ⟨⟨k + 1, x7, by omega, rfl, by first | rfl | go_num, r2, r1⟩, by simp [intOf]; omega⟩
      · have y1 : decide (pa * P k ≤ c - T k) = false := decide_eq_false y
        have MS := Lib.hid (show msL N P pa c T (k + 1) = msL N P pa c T k from if_neg y)
        go_wp2
        go_roundw
        case rel => exact ⟨k + 1, _, by omega, rfl, by first | rfl | go_num, hbw, by rw [MS.out]; exact hOV⟩
        case measure => simp [intOf]; omega
    · obtain rfl : k = n := by omega
      have j1 : ¬ (k : Int) < (k : Int) := by omega
      go_wp2
      go_ret
      exact ⟨_, rfl, hO.out, hb.out⟩
end Go.Proofs.Ytcpmdgbogdikiaa
