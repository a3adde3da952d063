/- Package label: Read of what was put; Words refused; walked. -/
import Derived.Test.YtffhhdjcodapjaaLabel3
namespace Go.Proofs.Ytffhhdjcodapjaa
open Go.ChangeShapes Go.WideShapes Go.ChangeAt Go.RowKit
set_option linter.unusedVariables false
set_option linter.unusedSimpArgs false
theorem mk_i64 (n : Nat) (hn : n ≤ 1000000) (w : World) : (Instr.makeSlice 51 (.int .i64 (n : Int)) (.int .i64 (n : Int))).run Try.prog w = .ok (.slice (some ⟨w.heap.size, 0, none⟩) n n) (w.alloc (.cells (madeCells #[.int .i64 0] n) 2)) :=
  run_make_row' 51 2 (.int .i64 0) 8 Try.underlying51 (by kernel_rfl) rfl .i64 .i64 n (by omega) (by omega) w
theorem mk_int (n : Nat) (hn : n ≤ 1000000) (w : World) : (Instr.makeSlice 52 (.int .i64 (n : Int)) (.int .i64 (n : Int))).run Try.prog w = .ok (.slice (some ⟨w.heap.size, 0, none⟩) n n) (w.alloc (.cells (madeCells #[.int .i64 0] n) 3)) :=
  run_make_row' 52 3 (.int .i64 0) 8 Try.underlying52 (by kernel_rfl) rfl .i64 .i64 n (by omega) (by omega) w
/-- What is read. -/
def lRv (BI SC : Nat → Int) (SG : Nat → Bool) (VL : List Int) (i : Nat) : Int := qN (SG i) (BI i) (SC i) (VL.getD i 0) * SC i
set_option maxRecDepth 100000 in
set_option maxHeartbeats 8000000 in
theorem lbread_ok (a : Option Addr) (cap n : Nat) (NU BI SC : Nat → Int) (SG : Nat → Bool) (VL SL : List Int) (gw : Nat) (w : World) (h : Labs w a n NU BI SC SG) (hl : n ≤ maxLen) (hc : n ≤ cap)
    (hB : labB n NU BI SC = true) (hw : w.rowIs gw 78 n (fun i => .int .u32 (lPw NU BI SC SG VL SL i))) (st : ∀ i, i < n → 0 ≤ SL.getD i 0 ∧ SL.getD i 0 ≤ 3) :
    Calls Try.prog 25 #[.slice a n cap, .slice (some ⟨gw, 0, none⟩) n n] w fun e w' => ∃ g1 g2, e = .returned (.tuple #[.slice (some ⟨g1, 0, none⟩) n n, .slice (some ⟨g2, 0, none⟩) n n, .int .i64 0]) ∧ LbW g1 g2 n 2 3 (fun i => .int .i64 (lRv BI SC SG VL i)) (fun i => .int .i64 (SL.getD i 0)) w w' := by
  have RT := fun u (k : Below w.heap.size w u) => lbright a cap n NU BI SC SG u (h.below k) hl hc
  rw [hB] at RT
  replace RT := Lib.hid RT
  obtain ⟨n1, n2, nB⟩ := labB_ok hB
  clear hB
  have HL := Lib.hid h
  have HW := Lib.hid hw
  have hgw := Lib.hid hw.lt
  clear h hw
  have mk1 := fun u => mk_i64 n (by omega) u
  have mk2 := fun u => mk_int n (by omega) u
  go_enter Try.func25, Try.ntmps25
  go_wp2_with (go_at_call 51; refine (RT.out _ (Below.refl _ _)).mono ?_; rintro e w1 ⟨rfl, hb1⟩)
  go_upto_region 5 with (fail)
  go_cut [7, 8] from 13 (fun s9 s10 u => ∃ g1 g2, s9 = .slice (some ⟨g1, 0, none⟩) n n ∧ s10 = .slice (some ⟨g2, 0, none⟩) n n ∧ Hid (LbW g1 g2 n 2 3 (fun _ => .int .i64 0) (fun _ => .int .i64 0) w u))
  case first =>
    go_region
    all_goals
      go_wp2_with fail
      go_meet
    case rel => exact ⟨_, _, rfl, rfl, Lib.hid (LbW.made hb1 n _ _ _ _)⟩
    case rel => exact ⟨_, _, rfl, rfl, Lib.hid (LbW.made2 hb1 n _ _ _ _)⟩
  case rest =>
    obtain ⟨g1, g2, rfl, rfl, hR⟩ := hcut
    clear mk1 mk2 hb1
    go_wp2
    go_loopw [30] (fun i u => ∃ k : Nat, k ≤ n ∧ i = .int .i64 (k : Int) ∧ Hid (LbW g1 g2 n 2 3 (upF (fun i => .int .i64 (lRv BI SC SG VL i)) (.int .i64 0) k) (upF (fun i => .int .i64 (SL.getD i 0)) (.int .i64 0) k) w u)) (fun i _ => n - (intOf i).toNat)
    case atStart => exact ⟨0, by omega, rfl, hR⟩
    case round =>
      clear hR
      obtain ⟨k, hk, rfl, hR⟩ := hrel
      by_cases hlt : k < n
      · have hl1 := nB k hlt
        obtain ⟨s0, s3⟩ := st k hlt
        have PT := Lib.hid (fun u => wtake_put (NU k) (BI k) (SC k) (SG k) 0 (VL.getD k 0) (SL.getD k 0) hl1 (by omega) (by omega) s0 s3 u)
        have eP := Lib.hid (show lPw NU BI SC SG VL SL k = parW (wV (NU k) 0 (tW (SG k) (BI k) (SC k) (VL.getD k 0) % 524288) (SL.getD k 0)) from rfl)
        have eC := Lib.hid (show lRv BI SC SG VL k = qN (SG k) (BI k) (SC k) (VL.getD k 0) * SC k from rfl)
        obtain ⟨b, off, ea, hbb, k0, k1, k2, k3⟩ := (HL.out.below hR.out.bel).at hlt
        subst ea
        have j1 : (k : Int) < (n : Int) := by omega
        have j2 : IntKind.i64.wrap ((k : Int) + 1) = (k : Int) + 1 := by rw [IntKind.wrap_i64]; omega
        obtain ⟨V, eV, hm0, hz, hcs⟩ := wlb_box wr (NU k) (BI k) (SC k) (SG k)
        have hR2 := Lib.hid (hR.out.next hm0)
        have F6 := fun u (q : Below V.heap.size V u) => (⟨hcs u (q.mono (by omega)), (rowIs_bel HW.out ((hR2.out.next q).bel)).cell hlt⟩ : (u.cell? ⟨wr.heap.size, 0, none⟩ = some (.int .i64 (NU k)) ∧ u.cell? ⟨wr.heap.size, 1, none⟩ = some (.int .i64 (BI k)) ∧ u.cell? ⟨wr.heap.size, 2, none⟩ = some (.int .i64 (SC k)) ∧ u.cell? ⟨wr.heap.size, 3, none⟩ = some (.bool (SG k))) ∧ u.cell? ⟨gw, k, none⟩ = some (.int .u32 (lPw NU BI SC SG VL SL k)))
        have hst := Lib.hid (fun u (q : LbW g1 g2 n 2 3 (upF (fun i => .int .i64 (lRv BI SC SG VL i)) (.int .i64 0) k) (upF (fun i => .int .i64 (SL.getD i 0)) (.int .i64 0) k) w u) => q.put (G1 := upF (fun i => .int .i64 (lRv BI SC SG VL i)) (.int .i64 0) (k + 1)) (G2 := upF (fun i => .int .i64 (SL.getD i 0)) (.int .i64 0) (k + 1)) k (.int .i64 (lRv BI SC SG VL k)) (.int .i64 (SL.getD k 0)) (fun i hi => upF_step _ _ k i) (fun i hi => upF_step _ _ k i))
        rw [← eP.out, ← eC.out] at PT
        generalize lPw NU BI SC SG VL SL k = P at *
        generalize lRv BI SC SG VL k = C at *
        clear eP eC hcs
        generalize NU k = x at *
        generalize BI k = y at *
        generalize SC k = z at *
        generalize SG k = s at *
        generalize SL.getD k 0 = t at *
        replace F6 := Lib.hid F6
        obtain ⟨⟨m0, m1, m2, m3⟩, m4⟩ := F6.out _ (Below.refl _ _)
        replace eV := Lib.hid eV
        replace hz := Lib.hid hz
        clear hm0 hl1 nB HL HW hbb s0 s3
        go_upto_region 10 with (fail)
        rw [← eV.out]
        clear k0 k1 k2 k3
        refine region_moves (fun u => u.cell? ⟨wr.heap.size, 0, none⟩ = some (.int .i64 x) ∧ u.cell? ⟨wr.heap.size, 1, none⟩ = some (.int .i64 y) ∧ u.cell? ⟨wr.heap.size, 2, none⟩ = some (.int .i64 z) ∧ u.cell? ⟨wr.heap.size, 3, none⟩ = some (.bool s) ∧ u.cell? ⟨gw, k, none⟩ = some (.int .u32 P)) [(16, [(15, 16), (11, 16), (9, 16), (0, 16), (1, 16), (4, 16), (5, 16), (6, 16), (7, 16), (8, 16), (10, 16)]), (18, [(17, 18), (13, 18), (16, 18), (0, 18), (1, 18), (2, 18), (3, 18), (4, 18), (5, 18), (6, 18), (7, 18), (8, 18), (9, 18), (10, 18), (11, 18), (12, 18), (15, 18)])] [(.free, 0), (.free, 1), (.free, 2), (.free, 3), (.take, 4), (.free, 5), (.free, 6), (.free, 7), (.take, 8), (.step, 9), (.free, 10), (.free, 11), (.free, 12), (.free, 13), (.free, 14), (.free, 15), (.late, 16), (.free, 17), (.late, 18), (.free, 19)] _ (by kernel_rfl) (by kernel_rfl) (by kernel_rfl) (by kernel_rfl) (by decide) rfl (fun _ _ _ _ _ h => h) ?_
        simp only [List.filterMap_cons, List.filterMap_nil, List.getElem?_toArray, List.getElem?_cons_zero, List.getElem?_cons_succ, Option.map_some]
        iterate 4
          first
            | (refine mv_free ?_ (Or.inl ⟨by rfl, ?_⟩) (⟨m0, m1, m2, m3, m4⟩) ?_
               rotate_left 1
               · intro u
                 go_simp
                 try with_reducible rfl
               simp only [Act.put, List.setIfInBounds_toArray, List.set_cons_zero, List.set_cons_succ])
            | (refine mv_free _ (Or.inr ⟨by rfl, rfl⟩) (⟨m0, m1, m2, m3, m4⟩) ?_
               simp only [Act.put, List.setIfInBounds_toArray, List.set_cons_zero, List.set_cons_succ])
        iterate 1
          first
            | (refine mv_take ?_ (Or.inl ⟨by rfl, ?_⟩) (⟨m0, m1, m2, m3, m4⟩) ?_
               rotate_left 1
               · intro u hu
                 (try dsimp only at hu)
                 go_simp
                 try with_reducible rfl
               simp only [Act.put, List.setIfInBounds_toArray, List.set_cons_zero, List.set_cons_succ])
            | (refine mv_take _ (Or.inr ⟨by rfl, rfl⟩) (⟨m0, m1, m2, m3, m4⟩) ?_
               simp only [Act.put, List.setIfInBounds_toArray, List.set_cons_zero, List.set_cons_succ])
        iterate 3
          first
            | (refine mv_free ?_ (Or.inl ⟨by rfl, ?_⟩) (⟨m0, m1, m2, m3, m4⟩) ?_
               rotate_left 1
               · intro u
                 go_simp
                 try with_reducible rfl
               simp only [Act.put, List.setIfInBounds_toArray, List.set_cons_zero, List.set_cons_succ])
            | (refine mv_free _ (Or.inr ⟨by rfl, rfl⟩) (⟨m0, m1, m2, m3, m4⟩) ?_
               simp only [Act.put, List.setIfInBounds_toArray, List.set_cons_zero, List.set_cons_succ])
        iterate 1
          first
            | (refine mv_take ?_ (Or.inl ⟨by rfl, ?_⟩) (⟨m0, m1, m2, m3, m4⟩) ?_
               rotate_left 1
               · intro u hu
                 (try dsimp only at hu)
                 go_simp
                 try with_reducible rfl
               simp only [Act.put, List.setIfInBounds_toArray, List.set_cons_zero, List.set_cons_succ])
            | (refine mv_take _ (Or.inr ⟨by rfl, rfl⟩) (⟨m0, m1, m2, m3, m4⟩) ?_
               simp only [Act.put, List.setIfInBounds_toArray, List.set_cons_zero, List.set_cons_succ])
        refine mv_step (fun K hK => ?_)
        go_simp
        refine (PT.out _).mono ?_
        rintro e w2 ⟨rfl, hb2⟩
        have hR3 := Lib.hid ((hR2.out.next (Below.refl _ _).drew).next hb2)
        have g1c := hR3.out.r1.cell hlt
        have g1f := hR3.out.r1.frozen k
        have g2c := hR3.out.r2.cell hlt
        have g2f := hR3.out.r2.frozen k
        have gne := Lib.hid hR3.out.ne
        obtain ⟨⟨m0, m1, m2, m3⟩, m4⟩ := F6.out w2 ((Below.refl _ _).drew.trans hb2)
        go_wp2_with fail
        refine hK.out _ _ _ (fun u hu => hu) (⟨m0, m1, m2, m3, m4⟩) ?_
        clear hK K
        iterate 6
          first
            | (refine mv_free ?_ (Or.inl ⟨by rfl, ?_⟩) (⟨m0, m1, m2, m3, m4⟩) ?_
               rotate_left 1
               · intro u
                 go_simp
                 try with_reducible rfl
               simp only [Act.put, List.setIfInBounds_toArray, List.set_cons_zero, List.set_cons_succ])
            | (refine mv_free _ (Or.inr ⟨by rfl, rfl⟩) (⟨m0, m1, m2, m3, m4⟩) ?_
               simp only [Act.put, List.setIfInBounds_toArray, List.set_cons_zero, List.set_cons_succ])
        refine mv_late (fun K hK => ?_)
        go_simp
        refine hK.out (fun _ => True) _ _ ?_
        clear hK K
        iterate 1
          first
            | (refine mv_free ?_ (Or.inl ⟨by rfl, ?_⟩) (trivial) ?_
               rotate_left 1
               · intro u
                 go_simp
                 try with_reducible rfl
               simp only [Act.put, List.setIfInBounds_toArray, List.set_cons_zero, List.set_cons_succ])
            | (refine mv_free _ (Or.inr ⟨by rfl, rfl⟩) (trivial) ?_
               simp only [Act.put, List.setIfInBounds_toArray, List.set_cons_zero, List.set_cons_succ])
        have r2' := hR3.out.r2.setOther (a := ⟨g1, k, none⟩) (Ne.symm gne.out) (.int .i64 C)
        have g2c' := r2'.cell hlt
        have g2f' := r2'.frozen k
        clear r2'
        refine mv_late (fun K hK => ?_)
        go_simp
        refine hK.out (fun _ => True) _ _ ?_
        clear hK K
        iterate 1
          first
            | (refine mv_free ?_ (Or.inl ⟨by rfl, ?_⟩) (trivial) ?_
               rotate_left 1
               · intro u
                 go_simp
                 try with_reducible rfl
               simp only [Act.put, List.setIfInBounds_toArray, List.set_cons_zero, List.set_cons_succ])
            | (refine mv_free _ (Or.inr ⟨by rfl, rfl⟩) (trivial) ?_
               simp only [Act.put, List.setIfInBounds_toArray, List.set_cons_zero, List.set_cons_succ])
        refine mv_done ?_
        have hR4 := Lib.hid (hst.out _ hR3.out)
        clear hst hR3 hR2 hR F6
        go_wp2_with fail
        generalize (w2.setCell ⟨g1, k, none⟩ (.int .i64 C)).setCell ⟨g2, k, none⟩ (.int .i64 t) = w4 at *
        go_roundw
        case rel => exact ⟨k + 1, by omega, by first | rfl | go_num, hR4⟩
        case measure => simp [intOf] <;> omega
      · obtain rfl : k = n := by omega
        go_wp2
        go_ret3
        refine ⟨g1, g2, rfl, ?_⟩
        have := hR.out
        exact ⟨this.r1.congr (fun i hi => upF_all _ _ _ _ hi), this.r2.congr (fun i hi => upF_all _ _ _ _ hi), this.ne, this.h1, this.h2, this.bel⟩
set_option maxRecDepth 100000 in
set_option maxHeartbeats 8000000 in
theorem lbwords_no (a : Option Addr) (cap n : Nat) (NU BI SC : Nat → Int) (SG : Nat → Bool) (av sa : Option Addr) (cv cs : Nat) (lv ls : Nat) (w : World) (h : Labs w a n NU BI SC SG) (hl : n ≤ maxLen) (hc : n ≤ cap)
    (hB : labB n NU BI SC = false) : Calls Try.prog 24 #[.slice a n cap, .slice av lv cv, .slice sa ls cs] w fun e w' => e = .returned (.tuple #[.slice none 0 0, .slice none 0 0, .int .i64 1]) ∧ Below w.heap.size w w' := by
  have RT := fun u (k : Below w.heap.size w u) => lbright a cap n NU BI SC SG u (h.below k) hl hc
  rw [hB] at RT
  replace RT := Lib.hid RT
  clear hB h
  go_enter Try.func24, Try.ntmps24
  go_wp2_with (go_at_call 51; refine (RT.out _ (Below.refl _ _)).mono ?_; rintro e w1 ⟨rfl, hb1⟩)
  go_ret3
  exact ⟨rfl, hb1⟩
set_option maxRecDepth 100000 in
set_option maxHeartbeats 8000000 in
theorem lbwords_len (a : Option Addr) (cap n : Nat) (NU BI SC : Nat → Int) (SG : Nat → Bool) (av sa : Option Addr) (cv cs : Nat) (lv ls : Nat) (w : World) (h : Labs w a n NU BI SC SG) (hl : n ≤ maxLen) (hc : n ≤ cap)
    (hB : labB n NU BI SC = true) (hd : lv ≠ n ∨ ls ≠ n) : Calls Try.prog 24 #[.slice a n cap, .slice av lv cv, .slice sa ls cs] w fun e w' => e = .returned (.tuple #[.slice none 0 0, .slice none 0 0, .int .i64 12]) ∧ Below w.heap.size w w' := by
  have RT := fun u (k : Below w.heap.size w u) => lbright a cap n NU BI SC SG u (h.below k) hl hc
  rw [hB] at RT
  replace RT := Lib.hid RT
  clear hB h
  by_cases h1 : lv = n
  · subst h1
    have h2 : ((ls : Int) == (lv : Int)) = false := by
      rw [beq_eq_false_iff_ne]
      omega
    have h3 : ¬ (ls : Int) = (lv : Int) := by omega
    clear hd
    go_enter Try.func24, Try.ntmps24
    go_wp2_with (go_at_call 51; refine (RT.out _ (Below.refl _ _)).mono ?_; rintro e w1 ⟨rfl, hb1⟩)
    go_ret3
    exact ⟨rfl, hb1⟩
  · have h2 : ((lv : Int) == (n : Int)) = false := by
      rw [beq_eq_false_iff_ne]
      omega
    have h3 : ¬ (lv : Int) = (n : Int) := by omega
    clear hd
    go_enter Try.func24, Try.ntmps24
    go_wp2_with (go_at_call 51; refine (RT.out _ (Below.refl _ _)).mono ?_; rintro e w1 ⟨rfl, hb1⟩)
    go_ret3
    exact ⟨rfl, hb1⟩
end Go.Proofs.Ytffhhdjcodapjaa
