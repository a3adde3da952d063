/- slices.Delete of a row's first number, as an Ow row; walked. -/
import Derived.Test.YticecjjlafmclaaTrend2
import Derived.Deep.RegionLaw
import Derived.Lib.SliceRun
namespace Go.Proofs.Yticecjjlafmclaa
open Go.ChangeShapes Go.WideShapes Go.ChangeAt Go.RowKit
set_option linter.unusedVariables false
set_option linter.unusedSimpArgs false

/-- Some cells of a block laid anew. -/
theorem heap_setCells_at (g : Nat) (t : TypeId) : ∀ (vs : List Value) (o : Nat) (w : World) (cur : Array Value), w.heap[g]? = some (.cells cur t (0, 0)) → o + vs.length ≤ cur.size → ∃ cur', (w.setCells g o vs).heap[g]? = some (.cells cur' t (0, 0)) ∧ cur'.size = cur.size ∧ (∀ j, j < vs.length → cur'[o + j]? = vs[j]?) ∧ ∀ k, (k < o ∨ o + vs.length ≤ k) → cur'[k]? = cur[k]?
  | [], o, w, cur, h, _ => ⟨cur, h, rfl, fun j hj => absurd hj (Nat.not_lt_zero _), fun _ _ => rfl⟩
  | v :: vs, o, w, cur, h, hs => by
    have hs' : o + (vs.length + 1) ≤ cur.size := hs
    obtain ⟨cur', h1, h2, h3, h4⟩ := heap_setCells_at g t vs (o + 1) (w.setCell ⟨g, o, none⟩ v) (cur.setIfInBounds o v) (heap_setCell_same w g o cur t v h) (by simp; omega)
    refine ⟨cur', h1, by rw [h2]; simp, fun j hj => ?_, fun k hk => ?_⟩
    · rcases j with _ | j
      · rw [Nat.add_zero, h4 o (.inl (by omega))]
        simp [show o < cur.size by omega]
      · have hj' : j < vs.length := by
          have : j + 1 < vs.length + 1 := hj
          omega
        rw [show o + (j + 1) = o + 1 + j by omega, h3 j hj']
        simp
    · have hk' : k < o ∨ o + (vs.length + 1) ≤ k := hk
      rw [h4 k (by omega)]
      simp [Array.getElem?_setIfInBounds_ne, show o ≠ k by omega]
theorem heap_setCells_ne (g : Nat) : ∀ (vs : List Value) (o : Nat) (w : World) {k : Nat}, k ≠ g → (w.setCells g o vs).heap[k]? = w.heap[k]? ∧ (w.setCells g o vs).heap.size = w.heap.size ∧ (w.setCells g o vs).os = w.os ∧ (w.setCells g o vs).tape = w.tape ∧ (w.setCells g o vs).output = w.output
  | [], o, w, k, _ => ⟨rfl, rfl, rfl, rfl, rfl⟩
  | v :: vs, o, w, k, h => by
    obtain ⟨h1, h2, h3, h4, h5⟩ := heap_setCells_ne g vs (o + 1) (w.setCell ⟨g, o, none⟩ v) h
    exact ⟨h1.trans (Below.heap_setCell _ _ _ _ h), h2.trans (by simp), h3, h4, h5⟩
set_option maxRecDepth 100000 in
set_option maxHeartbeats 8000000 in
theorem trdel {B : Nat} {x : Value} {L : List Int} (w : World) (hO : Ow B x L w) (hL : 2 ≤ L.length) (hl : L.length ≤ 100) : Calls Try.prog 38 #[x, .int .i64 0, .int .i64 1] w fun e w' => ∃ x', e = .returned x' ∧ Ow B x' (L.drop 1) w' ∧ OwK x w w' ∧ owB x' = owB x := by
  obtain ⟨i0, hi0, hz0, hz1, hz2⟩ := ow_parts ow_info
  rcases hO with ⟨rfl, rfl⟩ | ⟨g, off, cap, cur, rfl, hB, hg, hcap, hsz, hx⟩
  · exact absurd hL (by decide)
  obtain ⟨n, en⟩ : ∃ n, n = L.length - 1 := ⟨_, rfl⟩
  have eL : L.length = n + 1 := by omega
  obtain ⟨news, hnews⟩ : ∃ news, news = ovals (L.drop 1) := ⟨_, rfl⟩
  have hlen : news.length = n := by rw [hnews]; simp [ovals]; omega
  have hget : ∀ t, t < n → news[t]? = some (.int .i64 (L.getD (t + 1) 0)) := by
    intro t ht
    rw [hnews, ovals_at (by simp; omega)]
    simp [List.getD, Nat.add_comm]
  have hgd : w.drew.heap[g]? = some (.cells cur 2 (0, 0)) := hg
  obtain ⟨cur1, q1, z1, in1, out1⟩ := heap_setCells_at g 2 news (off + 0 * 1) w.drew cur hgd (by rw [hlen]; omega)
  obtain ⟨W1, hW1⟩ : ∃ W1, W1 = w.drew.setCells g (off + 0 * 1) news := ⟨_, rfl⟩
  have k1 := fun k (hk : k ≠ g) => heap_setCells_ne g news (off + 0 * 1) w.drew hk
  rw [← hW1] at q1
  have hsrc : ∀ t u, news[t]? = some u → w.drew.cell? ((⟨g, off + 1, none⟩ : Addr).add t) = some u := by
    intro t u hu
    have ht : t < n := by
      have := (List.getElem?_eq_some_iff.1 hu).1
      rwa [hlen] at this
    rw [hget t ht] at hu
    rw [Addr.add_lit, ← hu]
    show w.cell? _ = _
    rw [cell_of_row w g (off + 1 + t) cur _ (0, 0) hg, show off + 1 + t = off + (t + 1) by omega, hx (t + 1) (by omega)]
  have s2 : ∀ u ∈ news, u.oneCell' = true := by
    intro u hu
    rw [hnews] at hu
    obtain ⟨z, _, rfl⟩ := List.mem_map.1 hu
    rfl
  have s3 : ∀ t, t < news.length → (w.drew.cell? ⟨g, off + 0 * 1 + t, none⟩).isSome = true ∧ w.drew.frozen? ⟨g, off + 0 * 1 + t, none⟩ = false := by
    intro t ht
    rw [hlen] at ht
    refine ⟨?_, frozen_of_row w.drew g _ cur _ hgd⟩
    rw [cell_of_row w.drew g _ cur _ (0, 0) hgd, show off + 0 * 1 + t = off + t by omega, hx t (by omega)]
    rfl
  have hcl : ∀ ty, (Builtin.clear_ #[23] ty #[.slice (some ⟨g, off + n, none⟩) 1 (cap - n)]).run Try.prog W1 = .ok (.tuple #[]) (W1.setCells g (off + n) [.int .i64 0]) :=
    fun ty => Lib.run_clear_slice W1 _ _ ty _ Try.underlying23 Try.zeroValue2 rfl rfl g (off + n) 1 _ (by omega) (fun t ht => by
      rw [cell_of_row W1 g _ cur1 _ (0, 0) q1, Array.getElem?_eq_getElem (show off + n + t < cur1.size by omega)]
      rfl) (fun t ht => frozen_of_row W1 g _ cur1 _ q1)
  obtain ⟨cur2, q2, z2, in2, out2⟩ := heap_setCells_at g 2 [.int .i64 0] (off + n) W1 cur1 q1 (by show off + n + 1 ≤ _; omega)
  have k2 := fun k (hk : k ≠ g) => heap_setCells_ne g [.int .i64 0] (off + n) W1 hk
  have hK : Hid (OwK (.slice (some ⟨g, off, none⟩) (n + 1) cap) w (W1.setCells g (off + n) [.int .i64 0])) := by
    have e1 := k1 (g + 1) (by omega)
    have e2 := k2 (g + 1) (by omega)
    rw [← hW1] at e1
    refine ⟨e2.2.2.1.trans e1.2.2.1, e2.2.2.2.1.trans e1.2.2.2.1, e2.2.2.2.2.trans e1.2.2.2.2, Nat.le_of_eq (e2.2.1.trans e1.2.1).symm, fun k _ hne => ?_⟩
    have hk : k ≠ g := fun e => hne (by rw [e]; rfl)
    have f1 := (k1 k hk).1
    rw [← hW1] at f1
    exact (k2 k hk).1.trans f1
  have hR : Hid (Ow B (.slice (some ⟨g, off, none⟩) n cap) (L.drop 1) (W1.setCells g (off + n) [.int .i64 0])) := by
    have ed : (L.drop 1).length = n := by simp; omega
    refine .inr ⟨g, off, cap, cur2, by rw [ed], hB, q2, by omega, by omega, fun i hi => ?_⟩
    rw [ed] at hi
    rw [out2 _ (.inl (by omega))]
    have := in1 i (by omega)
    rw [show off + 0 * 1 + i = off + i by omega] at this
    rw [this, hget i hi]
    simp [List.getD, Nat.add_comm]
  have s1 : Hid (news.length = n * 1) := Lib.hid (by omega)
  replace hsrc := Lib.hid hsrc
  replace s2 := Lib.hid s2
  replace s3 := Lib.hid s3
  replace hW1 := Lib.hid hW1
  have c1 : cap ≠ 1 := by omega
  have hc1 : 1 ≤ cap := by omega
  have hn1 : 1 ≤ n := by omega
  have hp1 : (1 : Int) ≤ (n : Int) + 1 := by omega
  have hn2 : n ≤ 100 := by omega
  have hcn : n + 1 ≤ cap := by omega
  rw [eL]
  clear q1 z1 in1 out1 k1 q2 z2 in2 out2 k2 hgd hget hlen hnews hx hg hsz hB hL hl en eL hcap
  go_enter Try.func38, Try.ntmps38
  go_wp2_with fail
  go_region_law (refine step_append_room rfl (.tmp 22) (.tmp 25) 23 rfl 2 i0 1 Try.underlying23 hi0 hz1 g off 0 cap (by simp [Act.eval, Act.put]) ⟨g, off + 1, none⟩ n (cap - 1) news (by simp [Act.eval, Act.put]) s1.out hsrc.out s2.out (by omega) s3.out ?_; rw [← hW1.out])
  go_wp2
  go_ret
  exact ⟨_, rfl, hR.out, hK.out, rfl⟩
theorem Held.ow {b : Nat} {vs : List Value} {w w' : World} {x : Value} (h : Held b vs w) (k : OwK x w w') (hn : owB x ≠ some b) : Held b vs w' := by
  have e := k.block b h.lt hn
  exact ⟨Nat.lt_of_lt_of_le h.lt k.size, fun i v hv => (World.cell?_of_block (a := ⟨b, i, none⟩) e).trans (h.c i v hv), fun i hi => (World.frozen?_of_block (a := ⟨b, i, none⟩) e).trans (h.f i hi)⟩
set_option maxRecDepth 100000 in
set_option maxHeartbeats 8000000 in
theorem trput_full {B b : Nat} {sz : Int} {L : List Int} (h : Int) (w : World) (hT : Tr B b sz L w) (hl : (L.length : Int) = sz) : Calls Try.prog 17 #[.pointer (some ⟨b, 0, none⟩), .int .i64 h] w fun e w' => e = .returned (.tuple #[]) ∧ Tr B b sz ((L ++ [trH h]).drop 1) w' ∧ Below B w w' := by
  have s1 := hT.s1
  have s2 := hT.s2
  have hbd := hT.bd
  have hlen := hT.len
  have hBB := hT.hB
  obtain ⟨x, hh, ho, hn⟩ := hT.ex
  have hlt := hh.lt
  obtain ⟨m, em⟩ : ∃ m, m = (if h < -100000000 then (-100000000 : Int) else h) := ⟨_, rfl⟩
  obtain ⟨c, ec⟩ : ∃ c, c = trH h := ⟨_, rfl⟩
  have w1 : (if h < -100000000 then (-100000000 : Int) else h) = m := em.symm
  have w2 : (if 100000000 < m then (100000000 : Int) else m) = c := by rw [ec]; unfold trH; omega
  have hcb : -100000000 ≤ c ∧ c ≤ 100000000 := by rw [ec]; exact trH_bd h
  rw [← ec]
  have NB := Lib.hid (show ∀ i, i < (L ++ [c]).length → -100000000 ≤ (L ++ [c]).getD i 0 ∧ (L ++ [c]).getD i 0 ≤ 100000000 from fun i hi => by
    by_cases hi' : i < L.length
    · rw [show (L ++ [c]).getD i 0 = L.getD i 0 from by simp [List.getD, List.getElem?_append_left hi']]
      exact hbd i hi'
    · have e : i = L.length := by simp at hi; omega
      rw [show (L ++ [c]).getD i 0 = c from by simp [List.getD, e]]
      exact hcb)
  have hln : ((L ++ [c]).length : Int) = (L.length : Int) + 1 := by simp
  have hll : (L ++ [c]).length = L.length + 1 := by simp
  have hbA := (Below.refl w.heap.size w).alloc (Nat.le_refl _) (.cells #[.int .i64 c] 2)
  have hOA := Lib.hid (ho.bel hbA)
  have hBA := Lib.hid (show B ≤ (w.alloc (.cells #[.int .i64 c] 2)).heap.size from by simp; omega)
  have HK := Lib.hid (fun w9 (k : OwK x (w.alloc (.cells #[.int .i64 c] 2)) w9) => show Held b [.int .i64 sz, x] w9 ∧ Below B w w9 ∧ b < w9.heap.size from by
    have e : w9.heap[b]? = w.heap[b]? := (k.block b (by simp; omega) hn).trans (hbA.block b hlt)
    have hz : w.heap.size ≤ w9.heap.size := Nat.le_trans (by simp) k.size
    exact ⟨⟨by omega, fun i v hv => (World.cell?_of_block (a := ⟨b, i, none⟩) e).trans (hh.c i v hv), fun i hi => (World.frozen?_of_block (a := ⟨b, i, none⟩) e).trans (hh.f i hi)⟩, (hbA.mono hBB.2).trans (k.below hOA.out hBA.out), by omega⟩)
  have NE := Lib.hid (fun x2 (q : owB x2 = owB x ∨ ∃ g, owB x2 = some g ∧ (w.alloc (.cells #[.int .i64 c] 2)).heap.size ≤ g) => show owB x2 ≠ some b from by
    rcases q with e | ⟨g, e, hg⟩
    · rw [e]; exact hn
    · rw [e]
      intro e2
      injection e2 with e2
      simp at hg
      omega)
  have hc1 := hh.c 1 _ rfl
  clear em ec hbd hcb ho hT hh hlt hn hbA
  replace hBB := Lib.hid hBB
  go_enter Try.func17, Try.ntmps17
  go_upto_region 2 with (first | (at_builtin; refine wpList_append_ow _ rfl (.tmp 10) (.tmp 14) rfl B x L c rfl hOA.out hBA.out _ rfl (by go_simp) (by omega) ?_; intro x2 w9 hO9 hk9 hx9; obtain ⟨ao, cap, rfl, -, -⟩ := hO9.row; rw [hll] at hO9 hx9; obtain ⟨hH9, hb9, hl9⟩ := HK.out _ hk9; have g1 := hH9.f 1 (by simp); have k1 := hH9.c 1 _ rfl; have k0 := hH9.c 0 _ rfl))
  have hne2 := NE.out (.slice ao (L.length + 1) cap) hx9
  obtain ⟨U, eU, hHU, hOU⟩ : ∃ U, U = w9.setCell ⟨b, 1, none⟩ (.slice ao (L.length + 1) cap) ∧ Held b [.int .i64 sz, (.slice ao (L.length + 1) cap)] U ∧ Only b w9 U := ⟨_, rfl, hH9.set 1 (.slice ao (L.length + 1) cap) (by simp), (Only.refl b w9).setCell (p := ⟨b, 1, none⟩) (.slice ao (L.length + 1) cap)⟩
  have hO10 := hO9.kept (w' := U) (fun g q hg => hOU.block g (fun e => hne2 (by rw [q, e])))
  have hb10 := hb9.trans (hOU.below hBB.out.1)
  have hBU : B ≤ U.heap.size := Nat.le_trans hBB.out.2 hb10.size
  have hDH := Lib.hid hHU.drew
  have hDO := Lib.hid (show Ow B (.slice ao (L.length + 1) cap) (L ++ [c]) U.drew from hO10)
  have hDN := Lib.hid hne2
  have hDB := Lib.hid (show Below B w U.drew ∧ B ≤ U.drew.heap.size from ⟨hb10.drew, hBU⟩)
  have DL := Lib.hid (trdel U.drew hDO.out (by omega) (by omega))
  have q0 := hHU.c 0 _ rfl
  have q1 := hHU.c 1 _ rfl
  rw [← eU]
  replace eU := Lib.hid eU
  clear hb10 hBU
  clear hk9 hx9 hO9 hH9 hb9 hl9 g1 k1 k0 hne2 hHU hOU hO10
  have d1 : decide (sz < ((L ++ [c]).length : Int)) = true := by simp only [hln]; simp; omega
  have d2 : sz < ((L ++ [c]).length : Int) := by omega
  have d3 : decide (sz < (L.length : Int) + 1) = true := by simp; omega
  go_wp2_with fail
  refine region_moves (fun u => u.cell? ⟨b, 0, none⟩ = some (.int .i64 sz) ∧ u.cell? ⟨b, 1, none⟩ = some (.slice ao (L.length + 1) cap)) [] [(.free, 0), (.free, 1), (.free, 2), (.take, 3), (.free, 4), (.free, 5), (.free, 6), (.free, 7), (.take, 8), (.free, 9)] _ (by kernel_rfl) (by kernel_rfl) (by kernel_rfl) (by kernel_rfl) (by decide) rfl (fun _ _ _ _ _ h => h) ?_
  simp only [List.filterMap_cons, List.filterMap_nil, List.getElem?_toArray, List.getElem?_cons_zero, List.getElem?_cons_succ, Option.map_some]
  iterate 3
    first
      | (refine mv_free ?_ (Or.inl ⟨by rfl, ?_⟩) (⟨q0, q1⟩) ?_
         rotate_left 1
         · intro u
           go_simp
           try simp only [d1]
           try simp only [d2]
           try simp only [d3]
           try with_reducible rfl
         simp only [Act.put, List.setIfInBounds_toArray, List.set_cons_zero, List.set_cons_succ])
      | (refine mv_free _ (Or.inr ⟨by rfl, rfl⟩) (⟨q0, q1⟩) ?_
         simp only [Act.put, List.setIfInBounds_toArray, List.set_cons_zero, List.set_cons_succ])
  iterate 1
    first
      | (refine mv_take ?_ (Or.inl ⟨by rfl, ?_⟩) (⟨q0, q1⟩) ?_
         rotate_left 1
         · intro u hu
           (try dsimp only at hu)
           go_simp
           try with_reducible rfl
         simp only [Act.put, List.setIfInBounds_toArray, List.set_cons_zero, List.set_cons_succ])
      | (refine mv_take _ (Or.inr ⟨by rfl, rfl⟩) (⟨q0, q1⟩) ?_
         simp only [Act.put, List.setIfInBounds_toArray, List.set_cons_zero, List.set_cons_succ])
  iterate 4
    first
      | (refine mv_free ?_ (Or.inl ⟨by rfl, ?_⟩) (⟨q0, q1⟩) ?_
         rotate_left 1
         · intro u
           go_simp
           try simp only [d1]
           try simp only [d2]
           try simp only [d3]
           try with_reducible rfl
         simp only [Act.put, List.setIfInBounds_toArray, List.set_cons_zero, List.set_cons_succ])
      | (refine mv_free _ (Or.inr ⟨by rfl, rfl⟩) (⟨q0, q1⟩) ?_
         simp only [Act.put, List.setIfInBounds_toArray, List.set_cons_zero, List.set_cons_succ])
  iterate 1
    first
      | (refine mv_take ?_ (Or.inl ⟨by rfl, ?_⟩) (⟨q0, q1⟩) ?_
         rotate_left 1
         · intro u hu
           (try dsimp only at hu)
           go_simp
           try with_reducible rfl
         simp only [Act.put, List.setIfInBounds_toArray, List.set_cons_zero, List.set_cons_succ])
      | (refine mv_take _ (Or.inr ⟨by rfl, rfl⟩) (⟨q0, q1⟩) ?_
         simp only [Act.put, List.setIfInBounds_toArray, List.set_cons_zero, List.set_cons_succ])
  iterate 1
    first
      | (refine mv_free ?_ (Or.inl ⟨by rfl, ?_⟩) (⟨q0, q1⟩) ?_
         rotate_left 1
         · intro u
           go_simp
           try simp only [d1]
           try simp only [d2]
           try simp only [d3]
           try with_reducible rfl
         simp only [Act.put, List.setIfInBounds_toArray, List.set_cons_zero, List.set_cons_succ])
      | (refine mv_free _ (Or.inr ⟨by rfl, rfl⟩) (⟨q0, q1⟩) ?_
         simp only [Act.put, List.setIfInBounds_toArray, List.set_cons_zero, List.set_cons_succ])
  refine mv_done ?_
  go_wp2_with fail
  refine DL.out.mono ?_
  rintro e w11 ⟨x3, rfl, hO11, hk11, hx11⟩
  have hl2 : ((L ++ [c]).drop 1).length = L.length := by simp
  obtain ⟨ao3, cap3, rfl, -, -⟩ := hO11.row
  rw [hl2] at hO11 hx11
  have hH11 := hDH.out.ow hk11 hDN.out
  have hne3 : owB (.slice ao3 L.length cap3) ≠ some b := by rw [hx11]; exact hDN.out
  have hb11 := hDB.out.1.trans (hk11.below hDO.out hDB.out.2)
  obtain ⟨r1, r2⟩ := hH11.one 1 rfl
  obtain ⟨U2, eU2, hHU2, hOU2⟩ : ∃ U2, U2 = w11.setCell ⟨b, 1, none⟩ (.slice ao3 L.length cap3) ∧ Held b [.int .i64 sz, (.slice ao3 L.length cap3)] U2 ∧ Only b w11 U2 := ⟨_, rfl, hH11.set 1 (.slice ao3 L.length cap3) (by simp), (Only.refl b w11).setCell (p := ⟨b, 1, none⟩) (.slice ao3 L.length cap3)⟩
  have hO12 := hO11.kept (w' := U2) (fun g q hg => hOU2.block g (fun e => hne3 (by rw [q, e])))
  have hb12 := hb11.trans (hOU2.below hBB.out.1)
  have hT := Lib.hid (show Tr B b sz ((L ++ [c]).drop 1) U2 from ⟨⟨_, hHU2, hO12, hne3⟩, ⟨hBB.out.1, Nat.le_trans hBB.out.2 hb12.size⟩, s1, s2, by rw [hl2]; omega, fun i hi => by
    have e : ((L ++ [c]).drop 1).getD i 0 = (L ++ [c]).getD (i + 1) 0 := by simp only [List.getD, List.getElem?_drop, Nat.add_comm]
    rw [e]
    exact NB.out (i + 1) (by rw [hl2] at hi; omega)⟩)
  replace eU2 := Lib.hid eU2
  replace hb12 := Lib.hid hb12
  clear hHU2 hOU2 hO12 hb11 hO11 hk11 hx11 hH11 hne3
  go_wp2
  try rw [← eU2.out]
  go_end0
  exact ⟨rfl, hT.out, hb12.out⟩
/-- The numbers behind another one. -/
def trN (sz : Int) (L : List Int) (h : Int) : List Int := if (L.length : Int) < sz then L ++ [trH h] else (L ++ [trH h]).drop 1
theorem trN_len {sz : Int} {L : List Int} (h : Int) : (trN sz L h).length = if (L.length : Int) < sz then L.length + 1 else L.length := by
  unfold trN
  split <;> simp
theorem trput_all {B b : Nat} {sz : Int} {L : List Int} (h : Int) (w : World) (hT : Tr B b sz L w) : Calls Try.prog 17 #[.pointer (some ⟨b, 0, none⟩), .int .i64 h] w fun e w' => e = .returned (.tuple #[]) ∧ Tr B b sz (trN sz L h) w' ∧ Below B w w' := by
  have hl := hT.len
  unfold trN
  split
  · exact trput h w hT (by omega)
  · exact trput_full h w hT (by omega)
end Go.Proofs.Yticecjjlafmclaa
