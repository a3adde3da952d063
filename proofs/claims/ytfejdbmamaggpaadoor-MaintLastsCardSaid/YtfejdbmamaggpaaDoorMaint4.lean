/- Package maint: how long each mode lasted; walked. -/
import Derived.Test.YtfejdbmamaggpaaDoorMaint3
namespace Go.Proofs.YtfejdbmamaggpaaDoor
open Go.ChangeShapes Go.WideShapes Go.ChangeAt Go.RowKit
set_option linter.unusedVariables false
set_option linter.unusedSimpArgs false
/-- Six numbers in a block. -/
def a6 (X : Int → Int) : List Value := [.int .i64 (X 0), .int .i64 (X 1), .int .i64 (X 2), .int .i64 (X 3), .int .i64 (X 4), .int .i64 (X 5)]
theorem a6_at (X : Int → Int) {K : Nat} (h : K < 6) : (a6 X)[K]? = some (.int .i64 (X (K : Int))) := by
  match K, h with
  | 0, _ => rfl
  | 1, _ => rfl
  | 2, _ => rfl
  | 3, _ => rfl
  | 4, _ => rfl
  | 5, _ => rfl
  | k + 6, h => omega
theorem a6_set (X : Int → Int) (v : Int) {K : Nat} (h : K < 6) : (a6 X).set K (.int .i64 v) = a6 (fun m => if m = (K : Int) then v else X m) := by
  match K, h with
  | 0, _ => simp [a6]
  | 1, _ => simp [a6]
  | 2, _ => simp [a6]
  | 3, _ => simp [a6]
  | 4, _ => simp [a6]
  | 5, _ => simp [a6]
  | k + 6, h => omega
def agg6 (X : Int → Int) : Value := .agg #[.int .i64 (X 0), .int .i64 (X 1), .int .i64 (X 2), .int .i64 (X 3), .int .i64 (X 4), .int .i64 (X 5)]
theorem Sl.setc {B n : Nat} {x : Value} {N P F : Nat → Int} {u : World} (h : Sl B x n N P F u) {p : Addr} (hp : p.block < B) (y : Value) : Sl B x n N P F (u.setCell p y) := ownsRow_setCell_below h hp y
theorem two_six (w : World) : ∃ V, V = (w.alloc (.cells #[.int .i64 0, .int .i64 0, .int .i64 0, .int .i64 0, .int .i64 0, .int .i64 0] 75)).alloc (.cells #[.int .i64 0, .int .i64 0, .int .i64 0, .int .i64 0, .int .i64 0, .int .i64 0] 75) ∧ Below w.heap.size w V ∧ V.heap.size = w.heap.size + 2 ∧ Held w.heap.size (a6 fun _ => 0) V ∧ Held (w.heap.size + 1) (a6 fun _ => 0) V := by
  have h1 := Held.new w (a6 fun _ => 0) 75
  have h2 := Held.new (w.alloc (.cells #[.int .i64 0, .int .i64 0, .int .i64 0, .int .i64 0, .int .i64 0, .int .i64 0] 75)) (a6 fun _ => 0) 75
  rw [show (w.alloc (.cells #[.int .i64 0, .int .i64 0, .int .i64 0, .int .i64 0, .int .i64 0, .int .i64 0] 75)).heap.size = w.heap.size + 1 by simp] at h2
  exact ⟨_, rfl, ((Below.refl _ _).alloc (Nat.le_refl _) _).alloc (by simp) _, by simp, h1.alloc _, h2⟩
set_option maxRecDepth 100000 in
set_option maxHeartbeats 8000000 in
theorem mlast (a : Option Addr) (n cap : Nat) (c e : Int) (q : Nat) (tF cF aF : Nat → Int) (w : World) (MC : ∀ u, Below w.heap.size w u → Calls Tryd.prog 99 #[.slice a n cap, .int .i64 c] u fun e w' => ∃ x, e = .returned x ∧ Sl u.heap.size x q tF cF aF w' ∧ Below u.heap.size u w') (hq : q ≤ 1000) (ha : ∀ p, p < q → 0 ≤ aF p ∧ aF p < 6) (hT : ∀ p, p < q → 0 ≤ tF p ∧ tF p ≤ 1000000) (ht : ∀ p, p + 1 < q → tF p ≤ tF (p + 1)) (he : -1000000000 ≤ e ∧ e ≤ 1000000000) : Calls Tryd.prog 47 #[.slice a n cap, .int .i64 c, .int .i64 e] w fun r w' => r = .returned (agg6 (lsZ tF aF q e)) ∧ Below w.heap.size w w' := by
  obtain ⟨V, eV, hbV, hsV, HZ, HX⟩ := two_six w
  have MV := Lib.hid (MC V hbV)
  obtain ⟨B, eB⟩ : ∃ B, w.heap.size = B := ⟨_, rfl⟩
  rw [eB] at hbV hsV HZ HX
  have XZ := Lib.hid (lsX_Z tF aF q e)
  have ha := Lib.hid ha
  have hT := Lib.hid hT
  have ht := Lib.hid ht
  have XB := Lib.hid (show ∀ k, k ≤ q → ∀ m, 0 ≤ lsX tF aF q e k m ∧ lsX tF aF q e k m ≤ 1001000000 from fun k hk m => by
    rcases Nat.eq_zero_or_pos k with z | z
    · subst z; rw [lsX]; omega
    · obtain ⟨j, rfl⟩ : ∃ j, k = j + 1 := ⟨k - 1, by omega⟩
      have t0 := hT.out 0 (by omega)
      by_cases y : j + 1 < q
      · rw [lsX_Y (j + 1) y, show j + 1 + 1 = (j + 1) + 1 from rfl]
        have h1 := (lsY_ok ha.out ht.out (j + 1) y).1 m
        have h2 := hT.out (j + 1) y
        omega
      · obtain rfl : q = j + 1 := by omega
        rw [lsX_Z]
        have h1 := (lsZ_ok e ha.out ht.out (by omega)).1 m
        have h2 := hT.out (j + 1 - 1) (by omega)
        omega)
  have hbV := Lib.hid hbV
  have HZ := Lib.hid HZ
  have HX := Lib.hid HX
  replace eV := Lib.hid eV
  have XS := Lib.hid (fun k => show lsX tF aF q e (k + 1) = (fun m => lsX tF aF q e k m + if m = aF k then (if k + 1 < q then tF (k + 1) else max e (tF k)) - tF k else 0) from by funext m; rw [lsX])
  rw [eB]
  clear MC
  go_enter Tryd.func47, Tryd.ntmps47
  go_upto_region 2 with (fail)
  try rw [eB]
  rw [← eV.out]
  go_wp2_with fail
  refine MV.out.mono ?_
  rintro r u1 ⟨x, rfl, hS, hb⟩
  obtain ⟨ax, cx, ex, hcx, -⟩ := hS.pl
  subst ex
  have hb1 := Lib.hid (show Below B w u1 from hbV.out.trans (hb.mono (by omega)))
  have hS1 := Lib.hid (show Sl (B + 2) (.slice ax q cx) q tF cF aF u1 by rw [← hsV]; exact hS)
  have HZ1 := Lib.hid (HZ.out.bel hb)
  have HX1 := Lib.hid (HX.out.bel hb)
  have hz1 := Lib.hid (show B + 2 ≤ u1.heap.size by have := hb.size; omega)
  clear hb hS MV eV HZ HX hbV
  go_wp2_with fail
  go_loopw [17] (fun i v => ∃ k : Nat, k ≤ q ∧ i = .int .i64 (k : Int) ∧ Hid (Below B w v) ∧ Hid (Sl (B + 2) (.slice ax q cx) q tF cF aF v) ∧ Hid (Held B (a6 fun _ => 0) v) ∧ Hid (Held (B + 1) (a6 (lsX tF aF q e k)) v) ∧ Hid (B + 2 ≤ v.heap.size)) (fun i _ => q - (intOf i).toNat)
  case atStart => exact ⟨0, by omega, rfl, hb1, hS1, HZ1, HX1, hz1⟩
  case round =>
    obtain ⟨k, hk, rfl, hb, hS, HZ, HX, hz⟩ := hrel
    generalize wr = v at *
    by_cases hlt : k < q
    · obtain ⟨a0, c0', e0, -, hP⟩ := hS.out.pl
      injection e0 with e0 e0' e0''
      subst e0 e0''
      clear e0'
      obtain ⟨b, off, ea, hbb, p0, p1, p2⟩ := hP.at hlt
      have NXT := Lib.hid (fun (h : k + 1 < q) => hP.at h)
      subst ea
      clear hP
      have j1 : (k : Int) < (q : Int) := by omega
      have j2 : IntKind.i64.wrap ((k : Int) + 1) = (k : Int) + 1 := by rw [IntKind.wrap_i64]; omega
      have j3 : 0 ≤ (k : Int) := by omega
      have t0 := hT.out k hlt
      obtain ⟨K, hK⟩ : ∃ K : Nat, aF k = (K : Int) := ⟨(aF k).toNat, by have := ha.out k hlt; omega⟩
      have hK6 : K < 6 := by have := ha.out k hlt; omega
      have hxb := XB.out k hk (aF k)
      have hxb2 := XB.out (k + 1) hlt (aF k)
      have XSk := XS.out k
      obtain ⟨xc, xf⟩ := HX.out.one K (a6_at _ hK6)
      rw [← hK] at xc
      obtain ⟨U, hU⟩ : ∃ U, (if k + 1 < q then tF (k + 1) else max e (tF k)) = U := ⟨_, rfl⟩
      rw [hU] at XSk
      have hsum : lsX tF aF q e (k + 1) (aF k) = lsX tF aF q e k (aF k) + (U - tF k) := by rw [XSk]; simp
      rw [hsum] at hxb2
      have hUb : -1000000000 ≤ U ∧ U ≤ 1000000000 := by
        rw [← hU]
        split
        · have := hT.out (k + 1) (by omega); omega
        · omega
      have HX' := Lib.hid (show ∀ W, Held (B + 1) (a6 (lsX tF aF q e k)) W → Held (B + 1) (a6 (lsX tF aF q e (k + 1))) (W.setCell ⟨B + 1, K, none⟩ (.int .i64 (lsX tF aF q e k (aF k) + (U - tF k)))) from fun W hW => by
        have h1 := hW.set K (.int .i64 (lsX tF aF q e k (aF k) + (U - tF k))) (by simp [a6]; omega)
        rw [a6_set _ _ hK6] at h1
        have h2 : (fun m => if m = (K : Int) then lsX tF aF q e k (aF k) + (U - tF k) else lsX tF aF q e k m) = lsX tF aF q e (k + 1) := by
          rw [XSk]
          funext m
          rw [← hK]
          by_cases z : m = aF k
          · rw [if_pos z, if_pos z, z]
          · rw [if_neg z, if_neg z]; omega
        rw [h2] at h1
        exact h1)
      obtain ⟨V2, eV2, hbV2, HV⟩ := ev_box v (tF k) (cF k) (aF k)
      obtain ⟨D, eD⟩ : ∃ D, v.heap.size = D := ⟨_, rfl⟩
      have hbw := Lib.hid (show Below B w V2 from hb.out.trans (hbV2.mono (by have := hz.out; omega)))
      have hS2 := Lib.hid (hS.out.bel hbV2)
      have HZ2 := Lib.hid (HZ.out.bel hbV2)
      have HX2 := Lib.hid (HX.out.bel hbV2)
      have hz2 := Lib.hid (show B + 2 ≤ V2.heap.size by have := hbV2.size; have := hz.out; omega)
      have xc2 := (hbV2.cell (p := ⟨B + 1, K, none⟩) (by show B + 1 < _; have := hz.out; omega)).trans xc
      have xf2 : V2.frozen? ⟨B + 1, K, none⟩ = false := (hbV2.frozen (p := ⟨B + 1, K, none⟩) (by show B + 1 < _; have := hz.out; omega)).trans xf
      have NX2 := Lib.hid (fun (h : k + 1 < q) => (show V2.cell? ⟨b, off + (k + 1) * 3, none⟩ = some (.int .i64 (tF (k + 1))) by
        obtain ⟨b', o', ea, hbb', r0, -, -⟩ := NXT.out h
        injection ea with ea
        injection ea with e1 e2
        subst e1 e2
        exact (bc hbV2 hbb').trans r0))
      rw [eD] at HV
      obtain ⟨c0, c1, c2⟩ := HV V2 (Below.refl _ _)
      replace eV2 := Lib.hid eV2
      obtain ⟨XK, eXK⟩ : ∃ z, lsX tF aF q e k (aF k) = z := ⟨_, rfl⟩
      rw [eXK] at xc2 hxb hxb2 HX'
      have w1 : IntKind.i64.wrap (U - tF k) = U - tF k := by rw [IntKind.wrap_i64]; omega
      have w2 : IntKind.i64.wrap (XK + (U - tF k)) = XK + (U - tF k) := by rw [IntKind.wrap_i64]; omega
      have hU := Lib.hid hU
      rw [hK] at c2
      have k6 : (K : Int) < 6 := by omega
      have k0 : 0 ≤ (K : Int) := by omega
      clear hb hS HZ HX hbV2 HV hxb hxb2 XSk hsum hUb xc xf hK eXK NXT
      go_upto_region 6 with (fail)
      try rw [eD]
      rw [← eV2.out]
      by_cases zz : k + 1 < q
      · have y1 : (k : Int) + 1 < (q : Int) := by omega
        have y2 : decide ((k : Int) + 1 < (q : Int)) = true := decide_eq_true y1
        have y3 : 0 ≤ (k : Int) + 1 := by omega
        have hUU : U = tF (k + 1) := by rw [← hU.out, if_pos zz]
        have n0 := NX2.out zz
        rw [← hUU] at n0
        clear hUU
        go_upto_region 9 with (fail)
        refine region_moves (fun y => y.cell? ⟨D, 2, none⟩ = some (.int .i64 (K : Int)) ∧ y.cell? ⟨D, 0, none⟩ = some (.int .i64 (tF k)) ∧ y.cell? ⟨B + 1, K, none⟩ = some (.int .i64 XK)) [(10, [(9, 10), (8, 10), (0, 10), (1, 10), (2, 10), (3, 10), (4, 10), (5, 10), (6, 10), (7, 10)])] [(.free, 0), (.take, 1), (.free, 2), (.take, 3), (.free, 4), (.free, 5), (.take, 6), (.free, 7), (.free, 8), (.free, 9), (.late, 10)] _ (by kernel_rfl) (by kernel_rfl) (by kernel_rfl) (by kernel_rfl) (by decide) rfl (fun _ _ _ _ _ h => h) ?_
        simp only [List.filterMap_cons, List.filterMap_nil, List.getElem?_toArray, List.getElem?_cons_zero, List.getElem?_cons_succ, Option.map_some]
        iterate 1
          first
            | (refine mv_free ?_ (Or.inl ⟨by rfl, ?_⟩) (⟨c2, c0, xc2⟩) ?_
               rotate_left 1
               · intro u
                 go_simp
                 try simp only [d1]
                 try simp only [d2]
                 try simp only [d3]
                 try with_reducible rfl
               simp only [Act.put, List.setIfInBounds_toArray, List.set_cons_zero, List.set_cons_succ])
            | (refine mv_free _ (Or.inr ⟨by rfl, rfl⟩) (⟨c2, c0, xc2⟩) ?_
               simp only [Act.put, List.setIfInBounds_toArray, List.set_cons_zero, List.set_cons_succ])
        iterate 1
          first
            | (refine mv_take ?_ (Or.inl ⟨by rfl, ?_⟩) (⟨c2, c0, xc2⟩) ?_
               rotate_left 1
               · intro u hu
                 (try dsimp only at hu)
                 go_simp
                 try with_reducible rfl
               simp only [Act.put, List.setIfInBounds_toArray, List.set_cons_zero, List.set_cons_succ])
            | (refine mv_take _ (Or.inr ⟨by rfl, rfl⟩) (⟨c2, c0, xc2⟩) ?_
               simp only [Act.put, List.setIfInBounds_toArray, List.set_cons_zero, List.set_cons_succ])
        iterate 1
          first
            | (refine mv_free ?_ (Or.inl ⟨by rfl, ?_⟩) (⟨c2, c0, xc2⟩) ?_
               rotate_left 1
               · intro u
                 go_simp
                 try simp only [d1]
                 try simp only [d2]
                 try simp only [d3]
                 try with_reducible rfl
               simp only [Act.put, List.setIfInBounds_toArray, List.set_cons_zero, List.set_cons_succ])
            | (refine mv_free _ (Or.inr ⟨by rfl, rfl⟩) (⟨c2, c0, xc2⟩) ?_
               simp only [Act.put, List.setIfInBounds_toArray, List.set_cons_zero, List.set_cons_succ])
        iterate 1
          first
            | (refine mv_take ?_ (Or.inl ⟨by rfl, ?_⟩) (⟨c2, c0, xc2⟩) ?_
               rotate_left 1
               · intro u hu
                 (try dsimp only at hu)
                 go_simp
                 try with_reducible rfl
               simp only [Act.put, List.setIfInBounds_toArray, List.set_cons_zero, List.set_cons_succ])
            | (refine mv_take _ (Or.inr ⟨by rfl, rfl⟩) (⟨c2, c0, xc2⟩) ?_
               simp only [Act.put, List.setIfInBounds_toArray, List.set_cons_zero, List.set_cons_succ])
        iterate 2
          first
            | (refine mv_free ?_ (Or.inl ⟨by rfl, ?_⟩) (⟨c2, c0, xc2⟩) ?_
               rotate_left 1
               · intro u
                 go_simp
                 try simp only [d1]
                 try simp only [d2]
                 try simp only [d3]
                 try with_reducible rfl
               simp only [Act.put, List.setIfInBounds_toArray, List.set_cons_zero, List.set_cons_succ])
            | (refine mv_free _ (Or.inr ⟨by rfl, rfl⟩) (⟨c2, c0, xc2⟩) ?_
               simp only [Act.put, List.setIfInBounds_toArray, List.set_cons_zero, List.set_cons_succ])
        iterate 1
          first
            | (refine mv_take ?_ (Or.inl ⟨by rfl, ?_⟩) (⟨c2, c0, xc2⟩) ?_
               rotate_left 1
               · intro u hu
                 (try dsimp only at hu)
                 go_simp
                 try with_reducible rfl
               simp only [Act.put, List.setIfInBounds_toArray, List.set_cons_zero, List.set_cons_succ])
            | (refine mv_take _ (Or.inr ⟨by rfl, rfl⟩) (⟨c2, c0, xc2⟩) ?_
               simp only [Act.put, List.setIfInBounds_toArray, List.set_cons_zero, List.set_cons_succ])
        iterate 3
          first
            | (refine mv_free ?_ (Or.inl ⟨by rfl, ?_⟩) (⟨c2, c0, xc2⟩) ?_
               rotate_left 1
               · intro u
                 go_simp
                 try simp only [d1]
                 try simp only [d2]
                 try simp only [d3]
                 try with_reducible rfl
               simp only [Act.put, List.setIfInBounds_toArray, List.set_cons_zero, List.set_cons_succ])
            | (refine mv_free _ (Or.inr ⟨by rfl, rfl⟩) (⟨c2, c0, xc2⟩) ?_
               simp only [Act.put, List.setIfInBounds_toArray, List.set_cons_zero, List.set_cons_succ])
        have hX9 := Lib.hid (HX'.out V2.drew HX2.out.drew)
        have hZ8 : Held B (a6 fun _ => 0) V2.drew := HZ2.out.drew
        have hS8 : Sl (B + 2) _ q tF cF aF V2.drew := hS2.out.bel (Below.refl _ _).drew
        have hb8 : Below B w V2.drew := hbw.out.drew
        have hz8 : B + 2 ≤ V2.drew.heap.size := hz2.out
        have xc8 : V2.drew.cell? ⟨B + 1, K, none⟩ = some (.int .i64 XK) := xc2
        have xf8 : V2.drew.frozen? ⟨B + 1, K, none⟩ = false := xf2
        generalize V2.drew = V3 at *
        have hZ9 := Lib.hid (show Held B (a6 fun _ => 0) (V3.setCell ⟨B + 1, K, none⟩ (.int .i64 (XK + (U - tF k)))) from hZ8.only ((Only.refl (B + 1) V3).setCell (p := ⟨B + 1, K, none⟩) _) (show B ≠ B + 1 by omega))
        have hS9 := Lib.hid (hS8.setc (p := ⟨B + 1, K, none⟩) (by show B + 1 < B + 2; omega) (.int .i64 (XK + (U - tF k))))
        have hb9 := Lib.hid (hb8.setCell (p := ⟨B + 1, K, none⟩) (Nat.le_succ B) (.int .i64 (XK + (U - tF k))))
        have hz9 := Lib.hid (show B + 2 ≤ (V3.setCell ⟨B + 1, K, none⟩ (.int .i64 (XK + (U - tF k)))).heap.size by simpa using hz8)
        clear hZ8 hS8 hb8 hz8
        refine mv_late (fun K hK => ?_)
        go_simp
        refine hK.out (fun _ => True) _ _ ?_
        clear hK K
        refine mv_done ?_
        generalize V3.setCell ⟨B + 1, K, none⟩ (.int .i64 (XK + (U - tF k))) = V4 at *
        go_wp2
        go_roundw
        case rel => first | exact ⟨k + 1, by omega, by first | rfl | go_num, hb9, hS9, hZ9, hX9, hz9⟩ | exact ⟨_, _, _, _, ⟨k + 1, by omega, by first | rfl | go_num, hb9, hS9, hZ9, hX9, hz9⟩, rfl, rfl, rfl, rfl⟩ | exact ⟨_, _, _, .int .i64 ((k : Int) + 1), ⟨k + 1, by omega, by first | rfl | go_num, hb9, hS9, hZ9, hX9, hz9⟩, rfl, rfl, rfl, rfl⟩
        case measure => simp [intOf]; omega
      · have y1 : ¬ (k : Int) + 1 < (q : Int) := by omega
        have y2 : decide ((k : Int) + 1 < (q : Int)) = false := decide_eq_false y1
        have hM : (if e < tF k then tF k else e) = U := by rw [← hU.out, if_neg zz]; split <;> omega
        go_upto_region 9 with (fail)
        refine region_moves (fun y => y.cell? ⟨D, 2, none⟩ = some (.int .i64 (K : Int)) ∧ y.cell? ⟨D, 0, none⟩ = some (.int .i64 (tF k)) ∧ y.cell? ⟨B + 1, K, none⟩ = some (.int .i64 XK)) [(10, [(9, 10), (8, 10), (0, 10), (1, 10), (2, 10), (3, 10), (4, 10), (5, 10), (6, 10), (7, 10)])] [(.free, 0), (.take, 1), (.free, 2), (.take, 3), (.free, 4), (.free, 5), (.take, 6), (.free, 7), (.free, 8), (.free, 9), (.late, 10)] _ (by kernel_rfl) (by kernel_rfl) (by kernel_rfl) (by kernel_rfl) (by decide) rfl (fun _ _ _ _ _ h => h) ?_
        simp only [List.filterMap_cons, List.filterMap_nil, List.getElem?_toArray, List.getElem?_cons_zero, List.getElem?_cons_succ, Option.map_some]
        iterate 1
          first
            | (refine mv_free ?_ (Or.inl ⟨by rfl, ?_⟩) (⟨c2, c0, xc2⟩) ?_
               rotate_left 1
               · intro u
                 go_simp
                 try simp only [d1]
                 try simp only [d2]
                 try simp only [d3]
                 try with_reducible rfl
               simp only [Act.put, List.setIfInBounds_toArray, List.set_cons_zero, List.set_cons_succ])
            | (refine mv_free _ (Or.inr ⟨by rfl, rfl⟩) (⟨c2, c0, xc2⟩) ?_
               simp only [Act.put, List.setIfInBounds_toArray, List.set_cons_zero, List.set_cons_succ])
        iterate 1
          first
            | (refine mv_take ?_ (Or.inl ⟨by rfl, ?_⟩) (⟨c2, c0, xc2⟩) ?_
               rotate_left 1
               · intro u hu
                 (try dsimp only at hu)
                 go_simp
                 try with_reducible rfl
               simp only [Act.put, List.setIfInBounds_toArray, List.set_cons_zero, List.set_cons_succ])
            | (refine mv_take _ (Or.inr ⟨by rfl, rfl⟩) (⟨c2, c0, xc2⟩) ?_
               simp only [Act.put, List.setIfInBounds_toArray, List.set_cons_zero, List.set_cons_succ])
        iterate 1
          first
            | (refine mv_free ?_ (Or.inl ⟨by rfl, ?_⟩) (⟨c2, c0, xc2⟩) ?_
               rotate_left 1
               · intro u
                 go_simp
                 try simp only [d1]
                 try simp only [d2]
                 try simp only [d3]
                 try with_reducible rfl
               simp only [Act.put, List.setIfInBounds_toArray, List.set_cons_zero, List.set_cons_succ])
            | (refine mv_free _ (Or.inr ⟨by rfl, rfl⟩) (⟨c2, c0, xc2⟩) ?_
               simp only [Act.put, List.setIfInBounds_toArray, List.set_cons_zero, List.set_cons_succ])
        iterate 1
          first
            | (refine mv_take ?_ (Or.inl ⟨by rfl, ?_⟩) (⟨c2, c0, xc2⟩) ?_
               rotate_left 1
               · intro u hu
                 (try dsimp only at hu)
                 go_simp
                 try with_reducible rfl
               simp only [Act.put, List.setIfInBounds_toArray, List.set_cons_zero, List.set_cons_succ])
            | (refine mv_take _ (Or.inr ⟨by rfl, rfl⟩) (⟨c2, c0, xc2⟩) ?_
               simp only [Act.put, List.setIfInBounds_toArray, List.set_cons_zero, List.set_cons_succ])
        iterate 2
          first
            | (refine mv_free ?_ (Or.inl ⟨by rfl, ?_⟩) (⟨c2, c0, xc2⟩) ?_
               rotate_left 1
               · intro u
                 go_simp
                 try simp only [d1]
                 try simp only [d2]
                 try simp only [d3]
                 try with_reducible rfl
               simp only [Act.put, List.setIfInBounds_toArray, List.set_cons_zero, List.set_cons_succ])
            | (refine mv_free _ (Or.inr ⟨by rfl, rfl⟩) (⟨c2, c0, xc2⟩) ?_
               simp only [Act.put, List.setIfInBounds_toArray, List.set_cons_zero, List.set_cons_succ])
        iterate 1
          first
            | (refine mv_take ?_ (Or.inl ⟨by rfl, ?_⟩) (⟨c2, c0, xc2⟩) ?_
               rotate_left 1
               · intro u hu
                 (try dsimp only at hu)
                 go_simp
                 try with_reducible rfl
               simp only [Act.put, List.setIfInBounds_toArray, List.set_cons_zero, List.set_cons_succ])
            | (refine mv_take _ (Or.inr ⟨by rfl, rfl⟩) (⟨c2, c0, xc2⟩) ?_
               simp only [Act.put, List.setIfInBounds_toArray, List.set_cons_zero, List.set_cons_succ])
        iterate 3
          first
            | (refine mv_free ?_ (Or.inl ⟨by rfl, ?_⟩) (⟨c2, c0, xc2⟩) ?_
               rotate_left 1
               · intro u
                 go_simp
                 try simp only [d1]
                 try simp only [d2]
                 try simp only [d3]
                 try with_reducible rfl
               simp only [Act.put, List.setIfInBounds_toArray, List.set_cons_zero, List.set_cons_succ])
            | (refine mv_free _ (Or.inr ⟨by rfl, rfl⟩) (⟨c2, c0, xc2⟩) ?_
               simp only [Act.put, List.setIfInBounds_toArray, List.set_cons_zero, List.set_cons_succ])
        have hX9 := Lib.hid (HX'.out V2.drew HX2.out.drew)
        have hZ8 : Held B (a6 fun _ => 0) V2.drew := HZ2.out.drew
        have hS8 : Sl (B + 2) _ q tF cF aF V2.drew := hS2.out.bel (Below.refl _ _).drew
        have hb8 : Below B w V2.drew := hbw.out.drew
        have hz8 : B + 2 ≤ V2.drew.heap.size := hz2.out
        have xc8 : V2.drew.cell? ⟨B + 1, K, none⟩ = some (.int .i64 XK) := xc2
        have xf8 : V2.drew.frozen? ⟨B + 1, K, none⟩ = false := xf2
        generalize V2.drew = V3 at *
        have hZ9 := Lib.hid (show Held B (a6 fun _ => 0) (V3.setCell ⟨B + 1, K, none⟩ (.int .i64 (XK + (U - tF k)))) from hZ8.only ((Only.refl (B + 1) V3).setCell (p := ⟨B + 1, K, none⟩) _) (show B ≠ B + 1 by omega))
        have hS9 := Lib.hid (hS8.setc (p := ⟨B + 1, K, none⟩) (by show B + 1 < B + 2; omega) (.int .i64 (XK + (U - tF k))))
        have hb9 := Lib.hid (hb8.setCell (p := ⟨B + 1, K, none⟩) (Nat.le_succ B) (.int .i64 (XK + (U - tF k))))
        have hz9 := Lib.hid (show B + 2 ≤ (V3.setCell ⟨B + 1, K, none⟩ (.int .i64 (XK + (U - tF k)))).heap.size by simpa using hz8)
        clear hZ8 hS8 hb8 hz8
        refine mv_late (fun K hK => ?_)
        go_simp
        refine hK.out (fun _ => True) _ _ ?_
        clear hK K
        refine mv_done ?_
        generalize V3.setCell ⟨B + 1, K, none⟩ (.int .i64 (XK + (U - tF k))) = V4 at *
        go_wp2
        go_roundw
        case rel => first | exact ⟨k + 1, by omega, by first | rfl | go_num, hb9, hS9, hZ9, hX9, hz9⟩ | exact ⟨_, _, _, _, ⟨k + 1, by omega, by first | rfl | go_num, hb9, hS9, hZ9, hX9, hz9⟩, rfl, rfl, rfl, rfl⟩ | exact ⟨_, _, _, .int .i64 ((k : Int) + 1), ⟨k + 1, by omega, by first | rfl | go_num, hb9, hS9, hZ9, hX9, hz9⟩, rfl, rfl, rfl, rfl⟩
        case measure => simp [intOf]; omega
    · obtain rfl : k = q := by omega
      have j1 : ¬ (k : Int) < (k : Int) := by omega
      have HXZ := HX.out
      rw [show lsX tF aF k e k = lsZ tF aF k e from funext XZ.out] at HXZ
      obtain ⟨Z, eZ⟩ : ∃ Z, lsZ tF aF k e = Z := ⟨_, rfl⟩
      rw [eZ] at HXZ
      have EZ := Lib.hid eZ
      clear eZ
      have x0 := (HXZ.one 0 rfl).1
      obtain ⟨z0, f0⟩ := HZ.out.one 0 rfl
      have x1 := (HXZ.one 1 rfl).1
      obtain ⟨z1, f1⟩ := HZ.out.one 1 rfl
      have x2 := (HXZ.one 2 rfl).1
      obtain ⟨z2, f2⟩ := HZ.out.one 2 rfl
      have x3 := (HXZ.one 3 rfl).1
      obtain ⟨z3, f3⟩ := HZ.out.one 3 rfl
      have x4 := (HXZ.one 4 rfl).1
      obtain ⟨z4, f4⟩ := HZ.out.one 4 rfl
      have x5 := (HXZ.one 5 rfl).1
      obtain ⟨z5, f5⟩ := HZ.out.one 5 rfl
      clear HXZ HX hS
      go_wp2
      have hF := (((((HZ.out.set 0 (.int .i64 (Z 0)) (by simp [a6])).set 1 (.int .i64 (Z 1)) (by simp [a6])).set 2 (.int .i64 (Z 2)) (by simp [a6])).set 3 (.int .i64 (Z 3)) (by simp [a6])).set 4 (.int .i64 (Z 4)) (by simp [a6])).set 5 (.int .i64 (Z 5)) (by simp [a6])
      have hL := Lib.hid ((((((hb.out.setCell (p := ⟨B, 0, none⟩) (Nat.le_refl B) (.int .i64 (Z 0))).setCell (p := ⟨B, 1, none⟩) (Nat.le_refl B) (.int .i64 (Z 1))).setCell (p := ⟨B, 2, none⟩) (Nat.le_refl B) (.int .i64 (Z 2))).setCell (p := ⟨B, 3, none⟩) (Nat.le_refl B) (.int .i64 (Z 3))).setCell (p := ⟨B, 4, none⟩) (Nat.le_refl B) (.int .i64 (Z 4))).setCell (p := ⟨B, 5, none⟩) (Nat.le_refl B) (.int .i64 (Z 5)))
      generalize (((((v.setCell ⟨B, 0, none⟩ (.int .i64 (Z 0))).setCell ⟨B, 1, none⟩ (.int .i64 (Z 1))).setCell ⟨B, 2, none⟩ (.int .i64 (Z 2))).setCell ⟨B, 3, none⟩ (.int .i64 (Z 3))).setCell ⟨B, 4, none⟩ (.int .i64 (Z 4))).setCell ⟨B, 5, none⟩ (.int .i64 (Z 5)) = uF at *
      have d0 := (hF.one 0 rfl).1
      have d1 := (hF.one 1 rfl).1
      have d2 := (hF.one 2 rfl).1
      have d3 := (hF.one 3 rfl).1
      have d4 := (hF.one 4 rfl).1
      have d5 := (hF.one 5 rfl).1
      refine bodyPost_ret (v := agg6 Z) (by simp [results, Tryd.results47, go_sem, d0, d1, d2, d3, d4, d5, agg6]) rfl ⟨by rw [EZ.out], ?_⟩
      exact hL.out
end Go.Proofs.YtfejdbmamaggpaaDoor
