/- Steps of a turner; the law TurnSteps; walked. -/
import Derived.Test.YtiibgblpbjdpaaaTurn12
import Derived.Deep.AppendLies
import Derived.Deep.Cut
namespace Go.Proofs.Ytiibgblpbjdpaaa
open Go.ChangeShapes Go.WideShapes Go.ChangeAt Go.RowKit
set_option linter.unusedVariables false
set_option linter.unusedSimpArgs false
set_option maxRecDepth 100000 in
set_option maxHeartbeats 8000000 in
theorem tsteps_nil (w : World) : Calls Try.prog 14 #[.pointer none] w fun e w' => e = .returned (.tuple #[.slice none 0 0, .slice none 0 0]) ∧ w = w' := by
  go_enter Try.func14, Try.ntmps14
  go_wp2
  go_ret2
  exact ⟨rfl, rfl⟩
theorem row_laid {u : World} {B g cap : Nat} {L : List Int} (h : u.ownsRow B 2 1 (.slice (some ⟨g, 0, none⟩) (0 + 14) cap) (0 + 14) ([] ++ ovals L)) (hL : L.length = 14) : B ≤ g ∧ g < u.heap.size ∧ ∀ i, i < 14 → u.cell? ⟨g, 0 + i, none⟩ = some (.int .i64 (L.getD i 0)) := by
  rcases h.2 with ⟨_, e⟩ | ⟨g', cap', cur, e, hb, hgg, hle, hm, hsz, ht⟩
  · omega
  · injection e with e1 e2 e3
    injection e1 with e1
    injection e1 with e1 e4
    subst e1
    refine ⟨hb, ?_, fun i hi => ?_⟩
    · rcases Nat.lt_or_ge g u.heap.size with q | q
      · exact q
      · rw [Array.getElem?_eq_none q] at hgg; cases hgg
    · have q := ovals_at (l := L) (k := i) (by omega)
      rw [List.nil_append] at ht
      rw [← ht, List.getElem?_take, if_pos (by omega)] at q
      rw [Nat.zero_add, cell_of_row u g i cur _ (0, 0) hgg]
      simpa using q
theorem news_at {u : World} {b o : Nat} {L : List Int} (h : ∀ i, i < L.length → u.cell? ⟨b, o + i, none⟩ = some (.int .i64 (L.getD i 0))) : ∀ j v, (ovals L)[j]? = some v → u.cell? ((⟨b, o, none⟩ : Addr).add j) = some v := fun j v hv => by
  have hj : j < L.length := by
    obtain ⟨q, _⟩ := List.getElem?_eq_some_iff.1 hv
    simpa [ovals] using q
  rw [ovals_at hj] at hv
  rw [show (⟨b, o, none⟩ : Addr).add j = ⟨b, o + j, none⟩ from by
    unfold Addr.add; split
    · subst_vars; rfl
    · rfl]
  rw [h j hj, hv]
theorem ovals_one (L : List Int) : ∀ u ∈ ovals L, u.oneCell' = true := fun u hu => by
  simp [ovals] at hu
  obtain ⟨a, _, rfl⟩ := hu
  rfl
set_option maxRecDepth 100000 in
set_option maxHeartbeats 8000000 in
theorem tsteps (b : Nat) (X : List Value) (w : World) (h : TurR b X w) : Calls Try.prog 14 #[.pointer (some ⟨b, 0, none⟩)] w fun e w' => ∃ g1 c1 g2 c2, e = .returned (.tuple #[.slice (some ⟨g1, 0, none⟩) 14 c1, .slice (some ⟨g2, 0, none⟩) 14 c2]) ∧ StT g1 0 g2 0 w' ∧ TurO b 1 0 tG X w' ∧ Beside b w w' ∧ w.heap.size ≤ g1 ∧ w.heap.size ≤ g2 := by
  have PR := Lib.hid (tprep b X w h)
  obtain ⟨i0, hi, hz0, hz1, hz2⟩ := ow_parts ow_info
  replace hi := Lib.hid hi
  replace hz0 := Lib.hid hz0
  replace hz1 := Lib.hid hz1
  replace hz2 := Lib.hid hz2
  clear h
  go_enter Try.func14, Try.ntmps14
  go_wp2_with fail
  refine PR.out.mono ?_
  rintro e w1 ⟨rfl, h1, bs1⟩
  have n1 := Lib.hid (news_at (u := w1) (b := b) (o := 3) (L := tcR 14) (fun i hi => by rw [tcR_len] at hi; rw [tcR_at hi]; exact h1.cos i hi))
  replace h1 := Lib.hid h1
  replace bs1 := Lib.hid bs1
  go_wp2_with fail
  refine region_moves (fun _ => True) [] [(.free, 0), (.free, 1), (.free, 2), (.free, 3), (.free, 4), (.free, 6), (.free, 7), (.free, 8), (.free, 9), (.free, 10), (.step, 5), (.step, 11), (.free, 12), (.free, 13)] _ (by kernel_rfl) (by kernel_rfl) (by kernel_rfl) (by kernel_rfl) (by decide) rfl (fun _ _ _ _ _ h => h) ?_
  simp only [List.filterMap_cons, List.filterMap_nil, List.getElem?_toArray, List.getElem?_cons_zero, List.getElem?_cons_succ, Option.map_some]
  iterate 10
    first
      | (refine mv_free ?_ (Or.inl ⟨by rfl, ?_⟩) (trivial) ?_
         rotate_left 1
         · intro u
           go_simp
           try simp only [d1]
           try simp only [d2]
           try with_reducible rfl
         simp only [Act.put, List.setIfInBounds_toArray, List.set_cons_zero, List.set_cons_succ])
      | (refine mv_free _ (Or.inr ⟨by rfl, rfl⟩) (trivial) ?_
         simp only [Act.put, List.setIfInBounds_toArray, List.set_cons_zero, List.set_cons_succ])
  refine mv_step (fun K hK => ?_)
  refine step_append_lies (w1.drew) rfl (.tmp 8) (.tmp 12) _ rfl (w1.heap.size) 2 i0 (.int .i64 0) 1 8 Try.underlying23 hi.out hz0.out hz1.out hz2.out rfl (by decide) (.slice none 0 0) 0 [] rfl (World.ownsRow_nil _ _ _ _) ⟨b, 3, none⟩ 14 14 (ovals (tcR 14)) rfl (by simp [ovals, tcR_len, tsR_len]) (n1.out) (ovals_one _) (by decide) (by decide) (by decide) (Nat.le_refl _) _ rfl ?_
  intro g1 cap1 w2 ho1 hg1 hb1 hlt1
  have k1 : Below w1.heap.size w1 w2 := ⟨hg1.os, hg1.tape, hg1.output, hg1.size, fun k hk => hg1.block k hk (by simp [Value.ownBlock])⟩
  obtain ⟨a1, a2, a3⟩ := row_laid ho1 (tcR_len 14)
  replace h1 := Lib.hid (h1.out.bel k1)
  have n2 := Lib.hid (news_at (u := w2) (b := b) (o := 17) (L := tsR 14) (fun i hi => by rw [tsR_len] at hi; rw [tsR_at hi]; exact h1.out.sin i hi))
  have z1 := bs1.out.size
  replace bs1 := Lib.hid (bs1.out.trans (.of_below k1))
  replace a3 := Lib.hid a3
  clear ho1 hg1 hb1 hlt1 k1 n1
  refine hK.out (fun _ => True) _ _ (fun _ _ => trivial) (trivial) ?_
  clear hK K
  refine mv_step (fun K hK => ?_)
  refine step_append_lies (w2) rfl (.tmp 14) (.tmp 18) _ rfl (w2.heap.size) 2 i0 (.int .i64 0) 1 8 Try.underlying23 hi.out hz0.out hz1.out hz2.out rfl (by decide) (.slice none 0 0) 0 [] rfl (World.ownsRow_nil _ _ _ _) ⟨b, 17, none⟩ 14 14 (ovals (tsR 14)) rfl (by simp [ovals, tcR_len, tsR_len]) (n2.out) (ovals_one _) (by decide) (by decide) (by decide) (Nat.le_refl _) _ rfl ?_
  intro g2 cap2 w3 ho2 hg2 hb2 hlt2
  have k2 : Below w2.heap.size w2 w3 := ⟨hg2.os, hg2.tape, hg2.output, hg2.size, fun k hk => hg2.block k hk (by simp [Value.ownBlock])⟩
  obtain ⟨e1, e2, e3⟩ := row_laid ho2 (tsR_len 14)
  replace h1 := Lib.hid (h1.out.bel k2)
  have z2 := bs1.out.size
  replace bs1 := Lib.hid (bs1.out.trans (.of_below k2))
  have st := Lib.hid (show StT g1 0 g2 0 w3 from ⟨Nat.lt_of_lt_of_le a2 k2.size, e2, fun i hi => ((k2.cell (p := ⟨g1, 0 + i, none⟩) a2).trans (a3.out i hi)).trans (by rw [tcR_at hi]), fun i hi => (e3 i hi).trans (by rw [tsR_at hi])⟩)
  clear ho2 hg2 hb2 hlt2 k2 e3 a3 n2
  refine hK.out (fun _ => True) _ _ (fun _ _ => trivial) (trivial) ?_
  clear hK K
  iterate 2
    first
      | (refine mv_free ?_ (Or.inl ⟨by rfl, ?_⟩) (trivial) ?_
         rotate_left 1
         · intro u
           go_simp
           try simp only [d1]
           try simp only [d2]
           try with_reducible rfl
         simp only [Act.put, List.setIfInBounds_toArray, List.set_cons_zero, List.set_cons_succ])
      | (refine mv_free _ (Or.inr ⟨by rfl, rfl⟩) (trivial) ?_
         simp only [Act.put, List.setIfInBounds_toArray, List.set_cons_zero, List.set_cons_succ])
  refine mv_done ?_
  go_wp2
  go_ret2
  exact ⟨g1, cap1, g2, cap2, rfl, st.out, h1.out, bs1.out, by omega, by omega⟩
set_option maxRecDepth 100000 in
set_option maxHeartbeats 8000000 in
theorem law_TurnSteps (times a : Int) (w : World) : Calls Try.prog 3 #[.int .i64 times, .int .u16 a] w fun e w' => e = .returned (.bool true) ∧ Below w.heap.size w w' := by
  have RS := Lib.hid (rstepsT w w (Below.refl _ _))
  have LV := Lib.hid (fun u => lives04 u)
  have TS := Lib.hid (fun t u (m : TurW t w u) => tsteps t [] u m.r)
  have N0 := Lib.hid (fun u => tsteps_nil u)
  have N1 := Lib.hid (fun u => tat_nil a u)
  have N2 := Lib.hid (fun u => tang_nil 1 1 u)
  go_enter Try.func3, Try.ntmps3
  go_wp2_with fail
  refine RS.out.mono ?_
  rintro e w1 ⟨g1, o1, c1, g2, o2, c2, rfl, s1, hb1⟩
  obtain ⟨Z, V, hz, eV, hbV, mV⟩ := TurW.new w w1 hb1
  have mT := TelW.mk' s1 hbV mV
  clear s1 hb1 hbV mV RS
  go_wp2_with fail
  rw [← eV]
  clear eV
  generalize w1.heap.size = t at *
  replace mT := Lib.hid mT
  go_loopw [9] (fun i v => ∃ n : Nat, n ≤ 5 ∧ i = .int .i64 (n : Int) ∧ Hid (TelW t g1 o1 g2 o2 w v)) (fun i _ => 5 - (intOf i).toNat)
  case atStart => exact ⟨0, by omega, rfl, mT⟩
  case round =>
    clear mT
    obtain ⟨n, hn, rfl, mT⟩ := hrel
    generalize wr = v0 at *
    by_cases hgo : n = 0 ∨ ((n : Int) < times ∧ n < 5)
    · have n5 : n < 5 := by omega
      have i2 : IntKind.i64.wrap ((n : Int) + 1) = (n : Int) + 1 := by rw [IntKind.wrap_i64]; omega
      have go1 : ((n : Int) == 0 || (decide ((n : Int) < times) && decide ((n : Int) < 5))) = true := by
        rcases hgo with h | ⟨h, h'⟩
        · subst h; rfl
        · have : (n : Int) < 5 := by omega
          simp [h, this]
      rcases (show n = 0 ∨ (n ≠ 0 ∧ (n : Int) < times) by omega) with h0 | ⟨h0, h1⟩
      · subst h0
        clear hgo go1
        go_wp2_with fail
        refine (TS.out t _ mT.out.m).mono ?_
        rintro e w2 ⟨a1, e1, a2, e2, rfl, st, tO, bs, f1, f2⟩
        have ltt := mT.out.m.r.lt
        have na1 : a1 ≠ t := by omega
        have na2 : a2 ≠ t := by omega
        replace mT := Lib.hid (mT.out.step (mT.out.m.step tO bs) bs)
        replace st := Lib.hid st
        clear tO bs f1 f2 ltt na1 na2
        go_wp2_with fail
        go_loopw [12] (fun i v => ∃ k : Nat, k ≤ 14 ∧ i = .int .i64 (k : Int) ∧ Hid (TelW t g1 o1 g2 o2 w v) ∧ Hid (StT a1 0 a2 0 v)) (fun i _ => 14 - (intOf i).toNat)
        case atStart => exact ⟨0, by omega, rfl, mT, st⟩
        case round =>
          clear mT st
          obtain ⟨k, hk, rfl, mT, st⟩ := hrel
          generalize wr = v1 at *
          by_cases hlt : k < 14
          · have x1 := mT.out.s.c k hlt
            have x2 := mT.out.s.s k hlt
            have y1 := st.out.c k hlt
            have y2 := st.out.s k hlt
            rw [Nat.zero_add] at y1 y2
            generalize tC k = C at *
            generalize tS k = Sx at *
            have d1 : (C != C) = false := by simp
            have d2 : (Sx != Sx) = false := by simp
            have i1 : (k : Int) < 14 := by omega
            have i0 : 0 ≤ (k : Int) := by omega
            have i3 : IntKind.i64.wrap ((k : Int) + 1) = (k : Int) + 1 := by rw [IntKind.wrap_i64]; omega
            go_wp2_with fail
            refine region_moves (fun u => u.cell? ⟨g1, o1 + k, none⟩ = some (.int .i64 C) ∧ u.cell? ⟨g2, o2 + k, none⟩ = some (.int .i64 Sx) ∧ u.cell? ⟨a1, k, none⟩ = some (.int .i64 C) ∧ u.cell? ⟨a2, k, none⟩ = some (.int .i64 Sx)) [] [(.free, 0), (.free, 1), (.free, 2), (.take, 3), (.free, 4), (.free, 5), (.free, 6), (.take, 7), (.free, 8), (.free, 9), (.free, 10), (.free, 11), (.free, 12), (.take, 13), (.free, 14), (.free, 15), (.free, 16), (.take, 17), (.free, 18), (.free, 19)] _ (by kernel_rfl) (by kernel_rfl) (by kernel_rfl) (by kernel_rfl) (by decide) rfl (fun _ _ _ _ _ h => h) ?_
            simp only [List.filterMap_cons, List.filterMap_nil, List.getElem?_toArray, List.getElem?_cons_zero, List.getElem?_cons_succ, Option.map_some]
            iterate 3
              first
                | (refine mv_free ?_ (Or.inl ⟨by rfl, ?_⟩) (⟨x1, x2, y1, y2⟩) ?_
                   rotate_left 1
                   · intro u
                     go_simp
                     try simp only [d1]
                     try simp only [d2]
                     try with_reducible rfl
                   simp only [Act.put, List.setIfInBounds_toArray, List.set_cons_zero, List.set_cons_succ])
                | (refine mv_free _ (Or.inr ⟨by rfl, rfl⟩) (⟨x1, x2, y1, y2⟩) ?_
                   simp only [Act.put, List.setIfInBounds_toArray, List.set_cons_zero, List.set_cons_succ])
            iterate 1
              first
                | (refine mv_take ?_ (Or.inl ⟨by rfl, ?_⟩) (⟨x1, x2, y1, y2⟩) ?_
                   rotate_left 1
                   · intro u hu
                     (try dsimp only at hu)
                     go_simp
                     try with_reducible rfl
                   simp only [Act.put, List.setIfInBounds_toArray, List.set_cons_zero, List.set_cons_succ])
                | (refine mv_take _ (Or.inr ⟨by rfl, rfl⟩) (⟨x1, x2, y1, y2⟩) ?_
                   simp only [Act.put, List.setIfInBounds_toArray, List.set_cons_zero, List.set_cons_succ])
            iterate 3
              first
                | (refine mv_free ?_ (Or.inl ⟨by rfl, ?_⟩) (⟨x1, x2, y1, y2⟩) ?_
                   rotate_left 1
                   · intro u
                     go_simp
                     try simp only [d1]
                     try simp only [d2]
                     try with_reducible rfl
                   simp only [Act.put, List.setIfInBounds_toArray, List.set_cons_zero, List.set_cons_succ])
                | (refine mv_free _ (Or.inr ⟨by rfl, rfl⟩) (⟨x1, x2, y1, y2⟩) ?_
                   simp only [Act.put, List.setIfInBounds_toArray, List.set_cons_zero, List.set_cons_succ])
            iterate 1
              first
                | (refine mv_take ?_ (Or.inl ⟨by rfl, ?_⟩) (⟨x1, x2, y1, y2⟩) ?_
                   rotate_left 1
                   · intro u hu
                     (try dsimp only at hu)
                     go_simp
                     try with_reducible rfl
                   simp only [Act.put, List.setIfInBounds_toArray, List.set_cons_zero, List.set_cons_succ])
                | (refine mv_take _ (Or.inr ⟨by rfl, rfl⟩) (⟨x1, x2, y1, y2⟩) ?_
                   simp only [Act.put, List.setIfInBounds_toArray, List.set_cons_zero, List.set_cons_succ])
            iterate 5
              first
                | (refine mv_free ?_ (Or.inl ⟨by rfl, ?_⟩) (⟨x1, x2, y1, y2⟩) ?_
                   rotate_left 1
                   · intro u
                     go_simp
                     try simp only [d1]
                     try simp only [d2]
                     try with_reducible rfl
                   simp only [Act.put, List.setIfInBounds_toArray, List.set_cons_zero, List.set_cons_succ])
                | (refine mv_free _ (Or.inr ⟨by rfl, rfl⟩) (⟨x1, x2, y1, y2⟩) ?_
                   simp only [Act.put, List.setIfInBounds_toArray, List.set_cons_zero, List.set_cons_succ])
            iterate 1
              first
                | (refine mv_take ?_ (Or.inl ⟨by rfl, ?_⟩) (⟨x1, x2, y1, y2⟩) ?_
                   rotate_left 1
                   · intro u hu
                     (try dsimp only at hu)
                     go_simp
                     try with_reducible rfl
                   simp only [Act.put, List.setIfInBounds_toArray, List.set_cons_zero, List.set_cons_succ])
                | (refine mv_take _ (Or.inr ⟨by rfl, rfl⟩) (⟨x1, x2, y1, y2⟩) ?_
                   simp only [Act.put, List.setIfInBounds_toArray, List.set_cons_zero, List.set_cons_succ])
            iterate 3
              first
                | (refine mv_free ?_ (Or.inl ⟨by rfl, ?_⟩) (⟨x1, x2, y1, y2⟩) ?_
                   rotate_left 1
                   · intro u
                     go_simp
                     try simp only [d1]
                     try simp only [d2]
                     try with_reducible rfl
                   simp only [Act.put, List.setIfInBounds_toArray, List.set_cons_zero, List.set_cons_succ])
                | (refine mv_free _ (Or.inr ⟨by rfl, rfl⟩) (⟨x1, x2, y1, y2⟩) ?_
                   simp only [Act.put, List.setIfInBounds_toArray, List.set_cons_zero, List.set_cons_succ])
            iterate 1
              first
                | (refine mv_take ?_ (Or.inl ⟨by rfl, ?_⟩) (⟨x1, x2, y1, y2⟩) ?_
                   rotate_left 1
                   · intro u hu
                     (try dsimp only at hu)
                     go_simp
                     try with_reducible rfl
                   simp only [Act.put, List.setIfInBounds_toArray, List.set_cons_zero, List.set_cons_succ])
                | (refine mv_take _ (Or.inr ⟨by rfl, rfl⟩) (⟨x1, x2, y1, y2⟩) ?_
                   simp only [Act.put, List.setIfInBounds_toArray, List.set_cons_zero, List.set_cons_succ])
            iterate 2
              first
                | (refine mv_free ?_ (Or.inl ⟨by rfl, ?_⟩) (⟨x1, x2, y1, y2⟩) ?_
                   rotate_left 1
                   · intro u
                     go_simp
                     try simp only [d1]
                     try simp only [d2]
                     try with_reducible rfl
                   simp only [Act.put, List.setIfInBounds_toArray, List.set_cons_zero, List.set_cons_succ])
                | (refine mv_free _ (Or.inr ⟨by rfl, rfl⟩) (⟨x1, x2, y1, y2⟩) ?_
                   simp only [Act.put, List.setIfInBounds_toArray, List.set_cons_zero, List.set_cons_succ])
            refine mv_done ?_
            replace mT := Lib.hid mT.out.drew
            replace st := Lib.hid (st.out.bel (Below.refl _ _).drew)
            go_wp2
            go_roundw
            case rel => exact ⟨k + 1, by omega, by first | rfl | go_num, mT, st⟩
            case measure => simp [intOf] <;> omega
          · obtain rfl : k = 14 := by omega
            go_wp2
            go_roundw
            case rel => exact ⟨0 + 1, by omega, by first | rfl | go_num, mT⟩
            case measure => simp [intOf] <;> omega
      · have z0 : ((n : Int) == 0) = false := by rw [beq_eq_false_iff_ne]; omega
        have z0' : ¬ (n : Int) = 0 := by omega
        have z1 : (n : Int) < times := h1
        have z2 : (n : Int) < 5 := by omega
        clear hgo go1
        go_wp2_with fail
        refine (TS.out t _ mT.out.m).mono ?_
        rintro e w2 ⟨a1, e1, a2, e2, rfl, st, tO, bs, f1, f2⟩
        have ltt := mT.out.m.r.lt
        have na1 : a1 ≠ t := by omega
        have na2 : a2 ≠ t := by omega
        replace mT := Lib.hid (mT.out.step (mT.out.m.step tO bs) bs)
        replace st := Lib.hid st
        clear tO bs f1 f2 ltt na1 na2
        go_wp2_with fail
        go_loopw [12] (fun i v => ∃ k : Nat, k ≤ 14 ∧ i = .int .i64 (k : Int) ∧ Hid (TelW t g1 o1 g2 o2 w v) ∧ Hid (StT a1 0 a2 0 v)) (fun i _ => 14 - (intOf i).toNat)
        case atStart => exact ⟨0, by omega, rfl, mT, st⟩
        case round =>
          clear mT st
          obtain ⟨k, hk, rfl, mT, st⟩ := hrel
          generalize wr = v1 at *
          by_cases hlt : k < 14
          · have x1 := mT.out.s.c k hlt
            have x2 := mT.out.s.s k hlt
            have y1 := st.out.c k hlt
            have y2 := st.out.s k hlt
            rw [Nat.zero_add] at y1 y2
            generalize tC k = C at *
            generalize tS k = Sx at *
            have d1 : (C != C) = false := by simp
            have d2 : (Sx != Sx) = false := by simp
            have i1 : (k : Int) < 14 := by omega
            have i0 : 0 ≤ (k : Int) := by omega
            have i3 : IntKind.i64.wrap ((k : Int) + 1) = (k : Int) + 1 := by rw [IntKind.wrap_i64]; omega
            go_wp2_with fail
            refine region_moves (fun u => u.cell? ⟨g1, o1 + k, none⟩ = some (.int .i64 C) ∧ u.cell? ⟨g2, o2 + k, none⟩ = some (.int .i64 Sx) ∧ u.cell? ⟨a1, k, none⟩ = some (.int .i64 C) ∧ u.cell? ⟨a2, k, none⟩ = some (.int .i64 Sx)) [] [(.free, 0), (.free, 1), (.free, 2), (.take, 3), (.free, 4), (.free, 5), (.free, 6), (.take, 7), (.free, 8), (.free, 9), (.free, 10), (.free, 11), (.free, 12), (.take, 13), (.free, 14), (.free, 15), (.free, 16), (.take, 17), (.free, 18), (.free, 19)] _ (by kernel_rfl) (by kernel_rfl) (by kernel_rfl) (by kernel_rfl) (by decide) rfl (fun _ _ _ _ _ h => h) ?_
            simp only [List.filterMap_cons, List.filterMap_nil, List.getElem?_toArray, List.getElem?_cons_zero, List.getElem?_cons_succ, Option.map_some]
            iterate 3
              first
                | (refine mv_free ?_ (Or.inl ⟨by rfl, ?_⟩) (⟨x1, x2, y1, y2⟩) ?_
                   rotate_left 1
                   · intro u
                     go_simp
                     try simp only [d1]
                     try simp only [d2]
                     try with_reducible rfl
                   simp only [Act.put, List.setIfInBounds_toArray, List.set_cons_zero, List.set_cons_succ])
                | (refine mv_free _ (Or.inr ⟨by rfl, rfl⟩) (⟨x1, x2, y1, y2⟩) ?_
                   simp only [Act.put, List.setIfInBounds_toArray, List.set_cons_zero, List.set_cons_succ])
            iterate 1
              first
                | (refine mv_take ?_ (Or.inl ⟨by rfl, ?_⟩) (⟨x1, x2, y1, y2⟩) ?_
                   rotate_left 1
                   · intro u hu
                     (try dsimp only at hu)
                     go_simp
                     try with_reducible rfl
                   simp only [Act.put, List.setIfInBounds_toArray, List.set_cons_zero, List.set_cons_succ])
                | (refine mv_take _ (Or.inr ⟨by rfl, rfl⟩) (⟨x1, x2, y1, y2⟩) ?_
                   simp only [Act.put, List.setIfInBounds_toArray, List.set_cons_zero, List.set_cons_succ])
            iterate 3
              first
                | (refine mv_free ?_ (Or.inl ⟨by rfl, ?_⟩) (⟨x1, x2, y1, y2⟩) ?_
                   rotate_left 1
                   · intro u
                     go_simp
                     try simp only [d1]
                     try simp only [d2]
                     try with_reducible rfl
                   simp only [Act.put, List.setIfInBounds_toArray, List.set_cons_zero, List.set_cons_succ])
                | (refine mv_free _ (Or.inr ⟨by rfl, rfl⟩) (⟨x1, x2, y1, y2⟩) ?_
                   simp only [Act.put, List.setIfInBounds_toArray, List.set_cons_zero, List.set_cons_succ])
            iterate 1
              first
                | (refine mv_take ?_ (Or.inl ⟨by rfl, ?_⟩) (⟨x1, x2, y1, y2⟩) ?_
                   rotate_left 1
                   · intro u hu
                     (try dsimp only at hu)
                     go_simp
                     try with_reducible rfl
                   simp only [Act.put, List.setIfInBounds_toArray, List.set_cons_zero, List.set_cons_succ])
                | (refine mv_take _ (Or.inr ⟨by rfl, rfl⟩) (⟨x1, x2, y1, y2⟩) ?_
                   simp only [Act.put, List.setIfInBounds_toArray, List.set_cons_zero, List.set_cons_succ])
            iterate 5
              first
                | (refine mv_free ?_ (Or.inl ⟨by rfl, ?_⟩) (⟨x1, x2, y1, y2⟩) ?_
                   rotate_left 1
                   · intro u
                     go_simp
                     try simp only [d1]
                     try simp only [d2]
                     try with_reducible rfl
                   simp only [Act.put, List.setIfInBounds_toArray, List.set_cons_zero, List.set_cons_succ])
                | (refine mv_free _ (Or.inr ⟨by rfl, rfl⟩) (⟨x1, x2, y1, y2⟩) ?_
                   simp only [Act.put, List.setIfInBounds_toArray, List.set_cons_zero, List.set_cons_succ])
            iterate 1
              first
                | (refine mv_take ?_ (Or.inl ⟨by rfl, ?_⟩) (⟨x1, x2, y1, y2⟩) ?_
                   rotate_left 1
                   · intro u hu
                     (try dsimp only at hu)
                     go_simp
                     try with_reducible rfl
                   simp only [Act.put, List.setIfInBounds_toArray, List.set_cons_zero, List.set_cons_succ])
                | (refine mv_take _ (Or.inr ⟨by rfl, rfl⟩) (⟨x1, x2, y1, y2⟩) ?_
                   simp only [Act.put, List.setIfInBounds_toArray, List.set_cons_zero, List.set_cons_succ])
            iterate 3
              first
                | (refine mv_free ?_ (Or.inl ⟨by rfl, ?_⟩) (⟨x1, x2, y1, y2⟩) ?_
                   rotate_left 1
                   · intro u
                     go_simp
                     try simp only [d1]
                     try simp only [d2]
                     try with_reducible rfl
                   simp only [Act.put, List.setIfInBounds_toArray, List.set_cons_zero, List.set_cons_succ])
                | (refine mv_free _ (Or.inr ⟨by rfl, rfl⟩) (⟨x1, x2, y1, y2⟩) ?_
                   simp only [Act.put, List.setIfInBounds_toArray, List.set_cons_zero, List.set_cons_succ])
            iterate 1
              first
                | (refine mv_take ?_ (Or.inl ⟨by rfl, ?_⟩) (⟨x1, x2, y1, y2⟩) ?_
                   rotate_left 1
                   · intro u hu
                     (try dsimp only at hu)
                     go_simp
                     try with_reducible rfl
                   simp only [Act.put, List.setIfInBounds_toArray, List.set_cons_zero, List.set_cons_succ])
                | (refine mv_take _ (Or.inr ⟨by rfl, rfl⟩) (⟨x1, x2, y1, y2⟩) ?_
                   simp only [Act.put, List.setIfInBounds_toArray, List.set_cons_zero, List.set_cons_succ])
            iterate 2
              first
                | (refine mv_free ?_ (Or.inl ⟨by rfl, ?_⟩) (⟨x1, x2, y1, y2⟩) ?_
                   rotate_left 1
                   · intro u
                     go_simp
                     try simp only [d1]
                     try simp only [d2]
                     try with_reducible rfl
                   simp only [Act.put, List.setIfInBounds_toArray, List.set_cons_zero, List.set_cons_succ])
                | (refine mv_free _ (Or.inr ⟨by rfl, rfl⟩) (⟨x1, x2, y1, y2⟩) ?_
                   simp only [Act.put, List.setIfInBounds_toArray, List.set_cons_zero, List.set_cons_succ])
            refine mv_done ?_
            replace mT := Lib.hid mT.out.drew
            replace st := Lib.hid (st.out.bel (Below.refl _ _).drew)
            go_wp2
            go_roundw
            case rel => exact ⟨k + 1, by omega, by first | rfl | go_num, mT, st⟩
            case measure => simp [intOf] <;> omega
          · obtain rfl : k = 14 := by omega
            go_wp2
            go_roundw
            case rel => exact ⟨n + 1, by omega, by first | rfl | go_num, mT⟩
            case measure => simp [intOf] <;> omega
    · have z0 : ((n : Int) == 0) = false := by rw [beq_eq_false_iff_ne]; omega
      have z0' : ¬ (n : Int) = 0 := by omega
      have z3 : ¬ ((n : Int) < times ∧ (n : Int) < 5) := by omega
      clear hgo
      by_cases z1 : (n : Int) < times
      · have z2 : ¬ (n : Int) < 5 := by omega
        go_wp2_with fail
        refine (N0.out _).mono ?_
        rintro e w2 ⟨rfl, rfl⟩
        go_wp2_with fail
        refine (N1.out _).mono ?_
        rintro e w2 ⟨rfl, rfl⟩
        go_wp2_with fail
        refine (N2.out _).mono ?_
        rintro e w2 ⟨rfl, hb2⟩
        replace mT := Lib.hid (mT.out.bel hb2)
        clear hb2
        go_wp2_with fail
        refine (LV.out _).mono ?_
        rintro e w3 ⟨rfl, hb3⟩
        go_wp2
        go_ret
        exact ⟨rfl, (mT.out.bel hb3).m.b⟩
      · have z2 : times ≤ (n : Int) := by omega
        go_wp2_with fail
        refine (N0.out _).mono ?_
        rintro e w2 ⟨rfl, rfl⟩
        go_wp2_with fail
        refine (N1.out _).mono ?_
        rintro e w2 ⟨rfl, rfl⟩
        go_wp2_with fail
        refine (N2.out _).mono ?_
        rintro e w2 ⟨rfl, hb2⟩
        replace mT := Lib.hid (mT.out.bel hb2)
        clear hb2
        go_wp2_with fail
        refine (LV.out _).mono ?_
        rintro e w3 ⟨rfl, hb3⟩
        go_wp2
        go_ret
        exact ⟨rfl, (mT.out.bel hb3).m.b⟩
end Go.Proofs.Ytiibgblpbjdpaaa
