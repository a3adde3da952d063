/- The law FadeSteps, walked. -/
import Derived.Test.YtkchacjlddddjaaFade5
namespace Go.Proofs.Ytkchacjlddddjaa
open Go.ChangeShapes Go.WideShapes Go.ChangeAt Go.RowKit
set_option linter.unusedVariables false
set_option linter.unusedSimpArgs false

set_option maxRecDepth 100000 in
set_option maxHeartbeats 4000000 in
theorem law_FadeSteps (len : Int) (t : Option Addr) (cap : Nat) (rows : List (List Value)) (w : World) (ht : Tab [some .i64, none] w t rows) (hl : rows.length ≤ maxLen) :
    Calls Try.prog 13 #[.int .i64 len, .slice t rows.length cap] w fun e w' => e = .returned (.bool true) ∧ Below w.heap.size w w' := by
  unfold maxLen at hl
  by_cases hp : 0 ≤ len ∧ len ≤ 1000
  · obtain ⟨p1, p2⟩ := hp
    go_enter Try.func13, Try.ntmps13
    go_wp2_with fail
    refine (fnew_ok len _ p1 p2).mono ?_
    rintro e w1 ⟨b, hb, rfl, h1, hb1⟩
    by_cases hbig : 200 < rows.length
    · go_wp2_with (go_at_call 49; refine (lives26 _).mono ?_; rintro e w1 ⟨rfl, hb2⟩)
      go_ret
      exact ⟨rfl, hb1.trans (hb2.mono hb1.size)⟩
    · go_wp2_with fail
      obtain ⟨bm, ebm⟩ : ∃ bm, w1.heap.size = bm := ⟨_, rfl⟩
      have hbm : b ≠ bm := by have := h1.lt; omega
      have hwm : w.heap.size ≤ bm := by have := hb1.size; omega
      rw [ebm]
      go_loopw [8] (fun i u => ∃ (k : Nat) (out lf : Int) (kn : Bool), k ≤ rows.length ∧ i = .int .i64 k ∧ 0 ≤ lf ∧ lf ≤ len ∧ -549755813887 ≤ out ∧ out ≤ 549755813887 ∧ Held b (fdC len out kn lf) u ∧ Held bm (rfC len lf out kn) u ∧ Below w.heap.size w u) (fun i _ => rows.length - (intOf i).toNat)
      case atStart =>
        refine ⟨0, 0, 0, false, Nat.zero_le _, rfl, by omega, by omega, by omega, by omega, h1.alloc _, ?_, hb1.alloc hb1.size _⟩
        rw [← ebm]
        exact Held.new w1 (rfC len 0 0 false) _
      case round =>
        clear h1 hb1
        obtain ⟨k, out, lf, kn, hk, rfl, l0, l1, o1, o2, hh, hm, hbel⟩ := hrel
        by_cases hlt : k < rows.length
        · obtain ⟨tb, off, x, ch, rfl, htb, hcells⟩ := ib_at ht hlt
          obtain ⟨k0, k1⟩ := hcells wr hbel
          have hcells := Lib.hid hcells
          clear ht
          have ST := Lib.hid (fun u (hu : Held b (fdC len out kn lf) u) => fstep_any b x ch u hu l0 l1 p2 o1 o2)
          have RT := Lib.hid (fun u (hu : Held bm (rfC len lf out kn) u) => rfstep_any bm x ch u hu l0 l1 p2 o1 o2)
          have vb := clq_bd x
          have Lb := fdL_bd kn ch l0 l1
          have nb := fdN_bd Lb.1 Lb.2
          have vbd := fdV_between (fdL len kn ch lf) out (clq x)
          generalize fdV (fdL len kn ch lf) out (clq x) = n at *
          generalize fdN (fdL len kn ch lf) = lf' at *
          generalize clq x = v at *
          clear Lb
          go_wp2_with fail
          refine region_moves (fun u => u.cell? ⟨tb, off + k * 2, none⟩ = some (.int .i64 x) ∧ u.cell? ⟨tb, off + k * 2 + 1, none⟩ = some (.bool ch)) [(true, 0), (true, 1), (true, 2), (true, 3), (true, 4), (true, 5), (true, 6), (true, 7), (true, 8), (true, 9), (true, 10), (true, 12), (true, 13), (true, 14), (true, 15), (true, 16), (true, 17), (true, 18), (true, 19), (true, 20), (true, 21), (false, 11), (false, 22), (true, 23), (true, 24), (true, 25), (true, 27), (true, 28), (false, 26), (true, 29), (true, 30)] _ (by kernel_rfl) (by kernel_rfl) (by kernel_rfl) (by decide) rfl (fun _ _ _ _ _ h => h) ?_
          simp only [List.filterMap_cons, List.filterMap_nil, List.getElem?_toArray, List.getElem?_cons_zero, List.getElem?_cons_succ, Option.map_some]
          iterate 21
            first
              | (refine mv_take ?_ (Or.inl ⟨by rfl, ?_⟩) (⟨k0, k1⟩) ?_
                 rotate_left 1
                 · intro u hu
                   (try dsimp only at hu)
                   go_simp
                   try with_reducible rfl
                 simp only [Act.put, List.setIfInBounds_toArray, List.set_cons_zero, List.set_cons_succ])
              | (refine mv_take _ (Or.inr ⟨by rfl, rfl⟩) (⟨k0, k1⟩) ?_
                 simp only [Act.put, List.setIfInBounds_toArray, List.set_cons_zero, List.set_cons_succ])
          refine mv_step (fun K hK => ?_)
          go_simp
          refine (ST.out _ hh.drew).mono ?_
          rintro e w2 ⟨rfl, hh2, ob2⟩
          go_wp2_with fail
          have hb2 := Below.beside (w := w) hbel.drew ob2 (by omega)
          obtain ⟨k0, k1⟩ := hcells.out _ hb2
          have hm2 := Held.beside (b := bm) hm.drew ob2 (by omega)
          clear hh hm hbel ST
          refine hK.out _ _ _ (fun u hu => hu) (⟨k0, k1⟩) ?_
          clear hK K
          refine mv_step (fun K hK => ?_)
          go_simp
          refine (RT.out _ hm2).mono ?_
          rintro e w3 ⟨rfl, hm3, ob3⟩
          go_wp2_with fail
          have hb3 := Below.beside (w := w) hb2 ob3 (by omega)
          obtain ⟨k0, k1⟩ := hcells.out _ hb3
          have hh3 := Held.beside (b := b) hh2 ob3 (by omega)
          clear hh2 hm2 hb2 RT
          obtain ⟨c0, f0⟩ := hm3.one 0 rfl
          obtain ⟨c1, f1⟩ := hm3.one 1 rfl
          obtain ⟨c2, f2⟩ := hm3.one 2 rfl
          obtain ⟨c3, f3⟩ := hm3.one 3 rfl
          refine hK.out (fun u => u = w3) _ _ (fun u hu => by subst hu; exact ⟨k0, k1⟩) (rfl) ?_
          clear hK K
          iterate 5
            first
              | (refine mv_take ?_ (Or.inl ⟨by rfl, ?_⟩) (rfl) ?_
                 rotate_left 1
                 · intro u hu
                   (try dsimp only at hu)
                   go_simp
                   try with_reducible rfl
                 simp only [Act.put, List.setIfInBounds_toArray, List.set_cons_zero, List.set_cons_succ])
              | (refine mv_take _ (Or.inr ⟨by rfl, rfl⟩) (rfl) ?_
                 simp only [Act.put, List.setIfInBounds_toArray, List.set_cons_zero, List.set_cons_succ])
          refine mv_step (fun K hK => ?_)
          go_simp
          refine (fleft_any b _ hh3).mono ?_
          rintro e w' ⟨rfl, rfl⟩
          go_wp2_with fail
          refine hK.out _ _ _ (fun u hu => hu) (rfl) ?_
          clear hK K
          iterate 2
            first
              | (refine mv_take ?_ (Or.inl ⟨by rfl, ?_⟩) (rfl) ?_
                 rotate_left 1
                 · intro u hu
                   (try dsimp only at hu)
                   go_simp
                   try with_reducible rfl
                 simp only [Act.put, List.setIfInBounds_toArray, List.set_cons_zero, List.set_cons_succ])
              | (refine mv_take _ (Or.inr ⟨by rfl, rfl⟩) (rfl) ?_
                 simp only [Act.put, List.setIfInBounds_toArray, List.set_cons_zero, List.set_cons_succ])
          refine mv_done ?_
          go_wp2_with fail
          refine (fout_any b _ hh3).mono ?_
          rintro e w4 ⟨rfl, hb4⟩
          have hh4 := hh3.bel hb4
          have hm4 := hm3.bel hb4
          have hb5 := hb3.trans (hb4.mono hb3.size)
          clear c0 c1 c2 c3 f0 f1 f2 f3 hh3 hm3 hb3
          obtain ⟨c0, f0⟩ := hm4.one 0 rfl
          obtain ⟨c1, f1⟩ := hm4.one 1 rfl
          obtain ⟨c2, f2⟩ := hm4.one 2 rfl
          obtain ⟨c3, f3⟩ := hm4.one 3 rfl
          go_wp2
          go_roundw
          case rel => exact ⟨k + 1, n, lf', true, by omega, by go_num, nb.1, nb.2, by omega, by omega, hh4, hm4, hb5⟩
          case measure => simp [intOf]; omega
        · go_wp2_with fail
          refine (freset_any b _ hh).mono ?_
          rintro e w2 ⟨rfl, hh2, ob2⟩
          have hb2 := hbel.trans (ob2.below hb)
          go_wp2_with fail
          refine (fout_any b _ hh2).mono ?_
          rintro e w3 ⟨rfl, hb3⟩
          have hh3 := hh2.bel hb3
          have hb4 := hb2.trans (hb3.mono hb2.size)
          go_wp2_with (first | (go_at_call 48; refine (fleft_any b _ hh3).mono ?_; rintro e w1 ⟨rfl, rfl⟩) | (go_at_call 49; refine (lives26 _).mono ?_; rintro e w1 ⟨rfl, hb5⟩))
          go_ret
          exact ⟨rfl, hb4.trans (hb5.mono hb4.size)⟩
  · go_enter Try.func13, Try.ntmps13
    go_wp2_with (first | (go_at_call 44; refine (fnew_no len _ hp).mono ?_; rintro e w1 ⟨rfl, rfl⟩) | (go_at_call 49; refine (lives26 _).mono ?_; rintro e w1 ⟨rfl, hb3⟩))
    go_ret
    exact ⟨rfl, hb3⟩
end Go.Proofs.Ytkchacjlddddjaa
