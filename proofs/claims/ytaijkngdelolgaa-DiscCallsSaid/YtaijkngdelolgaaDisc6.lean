/- The law DiscBack; walked. -/
import Derived.Test.YtaijkngdelolgaaDisc5
namespace Go.Proofs.Ytaijkngdelolgaa
open Go.ChangeShapes Go.WideShapes Go.ChangeAt Go.RowKit
set_option linter.unusedVariables false
set_option linter.unusedSimpArgs false
theorem run_loadVar_part {P : Program} (w : World) (g off : Nat) (ty : TypeId) (cs : Array Value) (d : TypeDesc) (hg : ∀ j v, cs[j]? = some v → w.cell? ⟨g, off + j, none⟩ = some v)
    (hu : P.underlying ty = some d) (hd : (match d with | .struct _ | .array _ _ => true | _ => false) = true) (hi : (P.info? ty).map (·.size) = some cs.size) :
    (loadVar ty ⟨g, off, none⟩).run P w = .ok (.agg cs) w := by
  have hl : (loadCells ⟨g, off, none⟩ cs.toList.length).run P w = .ok cs.toList.toArray w :=
    run_loadCells_list (P := P) w ⟨g, off, none⟩ cs.toList (fun j v hv => by
      have hadd : (⟨g, off, none⟩ : Addr).add j = ⟨g, off + j, none⟩ := by unfold Addr.add; split <;> simp_all
      rw [hadd]
      exact hg j v (by simpa using hv))
  cases hq : P.info? ty with
  | none => simp [hq] at hi
  | some i =>
    have hs : i.size = cs.size := by simpa [hq] using hi
    have hagg : (isAgg ty).run P w = .ok true w := by
      unfold isAgg
      rw [Sem.run_bind, run_underlying hu w]
      cases d <;> simp_all
    simp only [Array.length_toList, Array.toArray_toList] at hl
    simp [loadVar, Sem.run_bind, hagg, sizeOf, typeInfo, hq, hs, hl]
theorem wpList_wanted {P : Program} {ops : Array Oper} {rest : List Oper} {o : Oper} {a : Act} {w : World} {Q : Exit → Act → World → Prop} (hw : Region.wanted o (yielded ops a.tmps) = true)
    (h : ∀ K : Act → World → Prop, (∀ a w, wpList P ops Q rest a w → K a w) → o.wp P a w K Q) : wpList P ops Q (o :: rest) a w :=
  wpList_step fun K hK => by simp only [hw, if_true]; exact h K hK
theorem wpList_load_part {P : Program} {ops : Array Oper} {rest : List Oper} {o : Oper} {a : Act} {w : World} {Q : Exit → Act → World → Prop} (hw : Region.wanted o (yielded ops a.tmps) = true) (ty : TypeId) (x : Operand) (ho : o.op = .load ty x)
    (g off : Nat) (hx : a.eval x = .pointer (some ⟨g, off, none⟩)) (cs : Array Value) (d : TypeDesc) (hg : ∀ j v, cs[j]? = some v → w.cell? ⟨g, off + j, none⟩ = some v)
    (hu : P.underlying ty = some d) (hd : (match d with | .struct _ | .array _ _ => true | _ => false) = true) (hi : (P.info? ty).map (·.size) = some cs.size)
    (h : wpList P ops Q rest (a.put o.dst (.agg cs)) w) : wpList P ops Q (o :: rest) a w :=
  wpList_wanted hw fun _ hK => by
    unfold Oper.wp execOp
    simp only [ho, hx, Instr.loadAt, Instr.sureAddr, Sem.run_bind, Sem.run_pure, Result.andThen_ok, run_loadVar_part w g off ty cs d hg hu hd hi]
    exact hK _ _ h
theorem two_bd (k : Nat) (h : k ≤ 31) : 1 ≤ (2 : Int) ^ k ∧ (2 : Int) ^ k ≤ 2147483648 := by
  have e : (2 : Nat) ^ k ≤ 2 ^ 31 := Nat.pow_le_pow_right (by decide) h
  have p := pow_pos' k
  rw [show ((2 : Int) ^ k) = ((2 ^ k : Nat) : Int) by simp]
  omega
/-- The bits of a sum. -/
theorem mkS_bit (M : Nat → Bool) : ∀ k i, i < k → mkS M k / 2 ^ i % 2 = if M i then 1 else 0
  | 0, i, h => by omega
  | k + 1, i, h => by
    have hp := pow_pos' i
    by_cases e : i = k
    · subst e
      have hl := mkS_lt M i
      show (mkS M i + (if M i then 2 ^ i else 0)) / 2 ^ i % 2 = _
      by_cases m : M i = true
      · rw [if_pos m, if_pos m, Nat.add_div_right _ hp, Nat.div_eq_of_lt hl]
      · rw [if_neg m, if_neg m, Nat.add_zero, Nat.div_eq_of_lt hl]
    · have ih := mkS_bit M k i (by omega)
      show (mkS M k + (if M k then 2 ^ k else 0)) / 2 ^ i % 2 = _
      rw [← ih]
      by_cases m : M k = true
      · rw [if_pos m, show k = i + (1 + (k - i - 1)) by omega, Nat.pow_add, Nat.pow_add, Nat.add_mul_div_left _ _ hp, show i + (1 + (k - i - 1)) = k by omega]
        omega
      · rw [if_neg m, Nat.add_zero]
theorem mkS_ext {M N : Nat → Bool} : ∀ k, (∀ i, i < k → M i = N i) → mkS M k = mkS N k
  | 0, _ => rfl
  | k + 1, h => by
    show mkS M k + _ = mkS N k + _
    rw [mkS_ext k (fun i hi => h i (by omega)), h k (by omega)]
/-- The flags of the word that they were put into. -/
theorem mkW_tk (n st : Nat) (M : Nat → Bool) (hn : n ≤ 255) (hs : st ≤ 3) (i : Nat) (hi : i < 19) : tkM (parW ((mkW n st M 19 : Nat) : Int)) i = M i := by
  have hW := mkW_bd n st M 19 hn hs (by omega)
  have pl := parW_low ((mkW n st M 19 : Nat) : Int)
  have pb := parW_bd ((mkW n st M 19 : Nat) : Int)
  have hb := mkS_bit M 19 i hi
  have hS := mkS_19 M
  have eW : mkW n st M 19 = n + st * 536870912 + 1024 * mkS M 19 := rfl
  generalize parW ((mkW n st M 19 : Nat) : Int) = x at *
  obtain ⟨X, rfl⟩ := Int.eq_ofNat_of_zero_le pb.1
  rw [eW] at pl hW
  generalize mkS M 19 = S at *
  have hX : X / 1024 = S + 524288 * (X / 536870912) := by omega
  have hx2 : X / 2 ^ (10 + i) % 2 = S / 2 ^ i % 2 := by
    rw [Nat.pow_add, ← Nat.div_div_eq_div_mul, show (2 : Nat) ^ 10 = 1024 from rfl, hX]
    obtain ⟨j, hj⟩ : ∃ j, 19 = i + (1 + j) := ⟨18 - i, by omega⟩
    rw [show (524288 : Nat) = 2 ^ 19 from rfl, hj, Nat.pow_add, Nat.mul_assoc, Nat.add_mul_div_left _ _ (pow_pos' i), Nat.pow_add, Nat.mul_assoc]
    omega
  have e : ((X : Nat) : Int) / 2 ^ (10 + i) % 2 = ((X / 2 ^ (10 + i) % 2 : Nat) : Int) := by simp
  unfold tkM
  rw [e, hx2, hb]
  cases M i <;> rfl
theorem mkW_lo (n st : Nat) (M : Nat → Bool) (hn : n ≤ 255) (hs : st ≤ 3) : parW ((mkW n st M 19 : Nat) : Int) % 256 = n ∧ parW ((mkW n st M 19 : Nat) : Int) / 256 % 4 = 0 ∧ parW ((mkW n st M 19 : Nat) : Int) / 536870912 % 4 = st := by
  have hW := mkW_bd n st M 19 hn hs (by omega)
  have pl := parW_low ((mkW n st M 19 : Nat) : Int)
  have pb := parW_bd ((mkW n st M 19 : Nat) : Int)
  have hS := mkS_19 M
  have eW : mkW n st M 19 = n + st * 536870912 + 1024 * mkS M 19 := rfl
  generalize parW ((mkW n st M 19 : Nat) : Int) = x at *
  rw [eW] at pl hW
  generalize mkS M 19 = S at *
  omega
theorem mkW_eq (n st : Nat) (f g : Nat → Bool) (hn : n ≤ 255) (hs : st ≤ 3) : (parW ((mkW n st f 19 : Nat) : Int) == parW ((mkW n st g 19 : Nat) : Int)) = meB f g := by
  cases h : meB f g
  · rw [beq_eq_false_iff_ne]
    intro e
    rw [(meB_iff f g).2 (fun i hi => by rw [← mkW_tk n st f hn hs i hi, e, mkW_tk n st g hn hs i hi])] at h
    exact Bool.noConfusion h
  · rw [show mkW n st f 19 = mkW n st g 19 from by unfold mkW; rw [mkS_ext 19 ((meB_iff f g).1 h)]]
    simp
theorem xs_eq (f g : Nat → Bool) : (#[.bool (f 0), .bool (f 1), .bool (f 2), .bool (f 3), .bool (f 4), .bool (f 5), .bool (f 6), .bool (f 7), .bool (f 8), .bool (f 9), .bool (f 10), .bool (f 11), .bool (f 12), .bool (f 13), .bool (f 14), .bool (f 15), .bool (f 16), .bool (f 17), .bool (f 18), .bool (g 0), .bool (g 1), .bool (g 2), .bool (g 3), .bool (g 4), .bool (g 5), .bool (g 6), .bool (g 7), .bool (g 8), .bool (g 9), .bool (g 10), .bool (g 11), .bool (g 12), .bool (g 13), .bool (g 14), .bool (g 15), .bool (g 16), .bool (g 17), .bool (g 18)] : Array Value) = mkC f ++ mkC g := by kernel_rfl
theorem bk_box (f g : Nat → Bool) (y0 y1 : Int) (w : World) : ∃ V, V = (w.alloc (.cells #[.bool (f 0), .bool (f 1), .bool (f 2), .bool (f 3), .bool (f 4), .bool (f 5), .bool (f 6), .bool (f 7), .bool (f 8), .bool (f 9), .bool (f 10), .bool (f 11), .bool (f 12), .bool (f 13), .bool (f 14), .bool (f 15), .bool (f 16), .bool (f 17), .bool (f 18), .bool (g 0), .bool (g 1), .bool (g 2), .bool (g 3), .bool (g 4), .bool (g 5), .bool (g 6), .bool (g 7), .bool (g 8), .bool (g 9), .bool (g 10), .bool (g 11), .bool (g 12), .bool (g 13), .bool (g 14), .bool (g 15), .bool (g 16), .bool (g 17), .bool (g 18)] 43)).alloc (.cells #[.int .i64 y0, .int .i64 y1] 44) ∧ Below w.heap.size w V ∧ V.heap.size = w.heap.size + 2 ∧ (∀ u, Below V.heap.size V u → (∀ j v, (mkC f)[j]? = some v → u.cell? ⟨w.heap.size, 0 + j, none⟩ = some v) ∧ (∀ j v, (mkC g)[j]? = some v → u.cell? ⟨w.heap.size, 19 + j, none⟩ = some v) ∧ u.cell? ⟨w.heap.size + 1, 0, none⟩ = some (.int .i64 y0) ∧ u.cell? ⟨w.heap.size + 1, 1, none⟩ = some (.int .i64 y1)) := by
  rw [xs_eq f g]
  have zf := mkC_size f
  generalize mkC f = FC at *
  generalize mkC g = GC at *
  obtain ⟨V1, e1⟩ : ∃ V1, V1 = w.alloc (.cells (FC ++ GC) 43) := ⟨_, rfl⟩
  have b1 : Below w.heap.size w V1 := by rw [e1]; exact (by repeat (first | exact Below.refl _ _ | assumption | apply Below.drew | apply below_drewN | (refine Below.alloc ?_ (by first | exact Nat.le_refl _ | omega | (simp <;> omega)) _) | (refine Below.setCell ?_ (by first | exact Nat.le_refl _ | omega | (simp <;> omega)) _)))
  have g1 : V1.heap[w.heap.size]? = some (.cells (FC ++ GC) 43 (0, 0)) := by rw [e1]; exact alloc_get _ _
  have z1 : V1.heap.size = w.heap.size + 1 := by rw [e1]; simp
  rw [← e1]
  obtain ⟨V2, e2⟩ : ∃ V2, V2 = V1.alloc (.cells #[.int .i64 y0, .int .i64 y1] 44) := ⟨_, rfl⟩
  have b2 : Below V1.heap.size V1 V2 := by rw [e2]; exact (by repeat (first | exact Below.refl _ _ | assumption | apply Below.drew | apply below_drewN | (refine Below.alloc ?_ (by first | exact Nat.le_refl _ | omega | (simp <;> omega)) _) | (refine Below.setCell ?_ (by first | exact Nat.le_refl _ | omega | (simp <;> omega)) _)))
  have g2 : V2.heap[V1.heap.size]? = some (.cells #[.int .i64 y0, .int .i64 y1] 44 (0, 0)) := by rw [e2]; exact alloc_get _ _
  have z2 : V2.heap.size = V1.heap.size + 1 := by rw [e2]; simp
  rw [z1] at b2 g2 z2
  refine ⟨V2, e2, b1.trans (b2.mono (by omega)), by omega, fun u hu => ?_⟩
  have k1 : u.heap[w.heap.size]? = some (.cells (FC ++ GC) 43 (0, 0)) := (hu.block w.heap.size (by omega)).trans ((b2.block w.heap.size (by omega)).trans g1)
  have k2 : u.heap[w.heap.size + 1]? = some (.cells #[.int .i64 y0, .int .i64 y1] 44 (0, 0)) := (hu.block _ (by omega)).trans g2
  refine ⟨fun j v hj => ?_, fun j v hj => ?_, ?_, ?_⟩
  · have h19 : j < FC.size := by
      rcases Nat.lt_or_ge j FC.size with h | h
      · exact h
      · rw [Array.getElem?_eq_none h] at hj; cases hj
    rw [cell_of_row u w.heap.size (0 + j) _ _ _ k1, Nat.zero_add, Array.getElem?_append_left h19, hj]
  · rw [cell_of_row u w.heap.size (19 + j) _ _ _ k1, Array.getElem?_append_right (by omega), zf, Nat.add_sub_cancel_left, hj]
  · rw [cell_of_row u (w.heap.size + 1) 0 _ _ _ k2]; rfl
  · rw [cell_of_row u (w.heap.size + 1) 1 _ _ _ k2]; rfl
set_option maxRecDepth 100000 in
set_option maxHeartbeats 8000000 in
theorem bk_no (n : Int) (f g : Nat → Bool) (s : Int) (y1 : Int) (w : World) (hR : ¬ (0 ≤ n ∧ n ≤ 255 ∧ 0 ≤ s ∧ s ≤ 3)) : Calls Try.prog 6 #[.int .i64 n, .agg #[.bool (f 0), .bool (f 1), .bool (f 2), .bool (f 3), .bool (f 4), .bool (f 5), .bool (f 6), .bool (f 7), .bool (f 8), .bool (f 9), .bool (f 10), .bool (f 11), .bool (f 12), .bool (f 13), .bool (f 14), .bool (f 15), .bool (f 16), .bool (f 17), .bool (f 18), .bool (g 0), .bool (g 1), .bool (g 2), .bool (g 3), .bool (g 4), .bool (g 5), .bool (g 6), .bool (g 7), .bool (g 8), .bool (g 9), .bool (g 10), .bool (g 11), .bool (g 12), .bool (g 13), .bool (g 14), .bool (g 15), .bool (g 16), .bool (g 17), .bool (g 18)], .agg #[.int .i64 s, .int .i64 y1]] w fun e w' => e = .returned (.bool true) ∧ Below w.heap.size w w' := by
  obtain ⟨V, eV, hb0, zV, CE⟩ := bk_box f g s y1 w
  have LV := Lib.hid (fun u => lives29 u)
  replace CE := Lib.hid CE
  replace hb0 := Lib.hid hb0
  have zw := Lib.hid (show w.heap.size ≤ V.heap.size from by omega)
  have PF := Lib.hid (fun u => dput_no n s f u hR)
  have PG := Lib.hid (fun u => dput_no n s g u hR)
  clear hR
  go_enter Try.func6, Try.ntmps6
  go_upto_region 1 with (fail)
  rw [← eV]
  clear eV
  have CE2 := CE
  replace CE := Lib.hid (fun u (h : Below V.heap.size V u) => CE2.out u h)
  clear CE2
  have hbV := Lib.hid (Below.refl V.heap.size V)
  generalize w.heap.size + 1 = p1 at *
  obtain ⟨p, ep⟩ : ∃ p, p = w.heap.size := ⟨_, rfl⟩
  rw [← ep] at CE ⊢
  replace ep := Lib.hid ep
  obtain ⟨x01, x11, y01, y11⟩ := CE.out _ hbV.out
  go_wp2_with (first | (refine wpList_load_part (by rfl) 23 _ rfl p 0 rfl (mkC f) _ x01 Try.underlying23 rfl (by kernel_rfl) ?_) | (refine wpList_load_part (by rfl) 23 _ rfl p 19 rfl (mkC g) _ x11 Try.underlying23 rfl (by kernel_rfl) ?_))
  refine (PF.out _).mono ?_
  rintro e w1 ⟨rfl, hb1⟩
  replace hbV := Lib.hid (hbV.out.trans (hb1.mono hbV.out.size))
  clear hb1
  clear x01 x11 y01 y11
  obtain ⟨x02, x12, y02, y12⟩ := CE.out _ hbV.out
  go_wp2_with (first | (refine wpList_load_part (by rfl) 23 _ rfl p 0 rfl (mkC f) _ x02 Try.underlying23 rfl (by kernel_rfl) ?_) | (refine wpList_load_part (by rfl) 23 _ rfl p 19 rfl (mkC g) _ x12 Try.underlying23 rfl (by kernel_rfl) ?_))
  refine (PG.out _).mono ?_
  rintro e w2 ⟨rfl, hb2⟩
  replace hbV := Lib.hid (hbV.out.trans (hb2.mono hbV.out.size))
  clear hb2
  clear x02 x12 y02 y12
  go_wp2_with fail
  refine (LV.out _).mono ?_
  rintro e w9 ⟨rfl, hb9⟩
  replace hbV := Lib.hid (hbV.out.trans (hb9.mono hbV.out.size))
  go_wp2
  go_ret
  exact ⟨rfl, hb0.out.trans (hbV.out.mono zw.out)⟩
set_option maxRecDepth 100000 in
set_option maxHeartbeats 8000000 in
theorem bk_n (a st : Nat) (f g : Nat → Bool) (y1 : Int) (w : World) (ha : a ≤ 255) (hs : st ≤ 3) (hK : y1 < 0) : Calls Try.prog 6 #[.int .i64 (a : Int), .agg #[.bool (f 0), .bool (f 1), .bool (f 2), .bool (f 3), .bool (f 4), .bool (f 5), .bool (f 6), .bool (f 7), .bool (f 8), .bool (f 9), .bool (f 10), .bool (f 11), .bool (f 12), .bool (f 13), .bool (f 14), .bool (f 15), .bool (f 16), .bool (f 17), .bool (f 18), .bool (g 0), .bool (g 1), .bool (g 2), .bool (g 3), .bool (g 4), .bool (g 5), .bool (g 6), .bool (g 7), .bool (g 8), .bool (g 9), .bool (g 10), .bool (g 11), .bool (g 12), .bool (g 13), .bool (g 14), .bool (g 15), .bool (g 16), .bool (g 17), .bool (g 18)], .agg #[.int .i64 (st : Int), .int .i64 y1]] w fun e w' => e = .returned (.bool true) ∧ Below w.heap.size w w' := by
  obtain ⟨V, eV, hb0, zV, CE⟩ := bk_box f g (st : Int) y1 w
  have LV := Lib.hid (fun u => lives29 u)
  replace CE := Lib.hid CE
  replace hb0 := Lib.hid hb0
  have zw := Lib.hid (show w.heap.size ≤ V.heap.size from by omega)
  obtain ⟨l1, l2, l3⟩ := mkW_lo a st f ha hs
  have pa := parW_bd ((mkW a st f 19 : Nat) : Int)
  have po := parW_odd ((mkW a st f 19 : Nat) : Int)
  have PF := Lib.hid (fun u => dput_ok a st f u ha hs)
  have PG := Lib.hid (fun u => dput_ok a st g u ha hs)
  have TK := fun u => dtake_ok (a : Int) (parW ((mkW a st f 19 : Nat) : Int)) u pa.1 pa.2 (by omega) po l1 l2
  rw [l3, mkC_ext (fun i hi => mkW_tk a st f ha hs i hi)] at TK
  replace TK := Lib.hid TK
  have ME := mkW_eq a st f g ha hs
  have k1 : y1 < 0 := hK
  clear l1 l2 l3 po pa
  generalize parW ((mkW a st f 19 : Nat) : Int) = A at *
  generalize parW ((mkW a st g 19 : Nat) : Int) = B at *
  have EF := meq19 f f
  rw [meB_refl] at EF
  have EG := meq19 f g
  generalize meB f g = me at *
  clear ha hs
  go_enter Try.func6, Try.ntmps6
  go_upto_region 1 with (fail)
  rw [← eV]
  clear eV
  have CE2 := CE
  replace CE := Lib.hid (fun u (h : Below V.heap.size V u) => CE2.out u h)
  clear CE2
  have hbV := Lib.hid (Below.refl V.heap.size V)
  generalize w.heap.size + 1 = p1 at *
  obtain ⟨p, ep⟩ : ∃ p, p = w.heap.size := ⟨_, rfl⟩
  rw [← ep] at CE ⊢
  replace ep := Lib.hid ep
  obtain ⟨x01, x11, y01, y11⟩ := CE.out _ hbV.out
  go_wp2_with (first | (refine wpList_load_part (by rfl) 23 _ rfl p 0 rfl (mkC f) _ x01 Try.underlying23 rfl (by kernel_rfl) ?_) | (refine wpList_load_part (by rfl) 23 _ rfl p 19 rfl (mkC g) _ x11 Try.underlying23 rfl (by kernel_rfl) ?_))
  refine (PF.out _).mono ?_
  rintro e w1 ⟨rfl, hb1⟩
  replace hbV := Lib.hid (hbV.out.trans (hb1.mono hbV.out.size))
  clear hb1
  clear x01 x11 y01 y11
  obtain ⟨x02, x12, y02, y12⟩ := CE.out _ hbV.out
  go_wp2_with (first | (refine wpList_load_part (by rfl) 23 _ rfl p 0 rfl (mkC f) _ x02 Try.underlying23 rfl (by kernel_rfl) ?_) | (refine wpList_load_part (by rfl) 23 _ rfl p 19 rfl (mkC g) _ x12 Try.underlying23 rfl (by kernel_rfl) ?_))
  refine (PG.out _).mono ?_
  rintro e w2 ⟨rfl, hb2⟩
  replace hbV := Lib.hid (hbV.out.trans (hb2.mono hbV.out.size))
  clear hb2
  clear x02 x12 y02 y12
  go_wp2_with fail
  refine (TK.out _).mono ?_
  rintro e w3 ⟨rfl, hb3⟩
  obtain ⟨V3, e3, hb4, hg3⟩ := mbox w3 f
  go_upto_region 6 with (refine wpList_store_row rfl 23 _ _ rfl w3.heap.size (mkC f) rfl rfl 23 _ (alloc_get _ _) (by kernel_rfl) rfl (by kernel_rfl) ?_)
  rw [← e3]
  clear e3
  replace hbV := Lib.hid (hbV.out.trans (hb3.mono hbV.out.size))
  clear hb3
  replace hbV := Lib.hid (hbV.out.trans (hb4.mono hbV.out.size))
  clear hb4
  generalize w3.heap.size = q at *
  have QC : ∀ j v, (mkC f)[j]? = some v → V3.cell? ⟨q, 0 + j, none⟩ = some v := fun j v h => by rw [Nat.zero_add]; exact (cell_of_row V3 q j _ _ _ hg3).trans h
  clear hg3
  obtain ⟨x04, x14, y04, y14⟩ := CE.out _ hbV.out
  cases me
  · go_wp2_with (first | (refine wpList_load_part (by rfl) 23 _ rfl q 0 rfl (mkC f) _ QC Try.underlying23 rfl (by kernel_rfl) ?_) | (refine wpList_load_part (by rfl) 23 _ rfl p 0 rfl (mkC f) _ x04 Try.underlying23 rfl (by kernel_rfl) ?_) | (refine wpList_load_part (by rfl) 23 _ rfl p 19 rfl (mkC g) _ x14 Try.underlying23 rfl (by kernel_rfl) ?_))
    refine (LV.out _).mono ?_
    rintro e w9 ⟨rfl, hb9⟩
    replace hbV := Lib.hid (hbV.out.trans (hb9.mono hbV.out.size))
    go_wp2
    go_ret
    exact ⟨rfl, hb0.out.trans (hbV.out.mono zw.out)⟩
  · go_wp2_with (first | (refine wpList_load_part (by rfl) 23 _ rfl q 0 rfl (mkC f) _ QC Try.underlying23 rfl (by kernel_rfl) ?_) | (refine wpList_load_part (by rfl) 23 _ rfl p 0 rfl (mkC f) _ x04 Try.underlying23 rfl (by kernel_rfl) ?_) | (refine wpList_load_part (by rfl) 23 _ rfl p 19 rfl (mkC g) _ x14 Try.underlying23 rfl (by kernel_rfl) ?_))
    refine (LV.out _).mono ?_
    rintro e w9 ⟨rfl, hb9⟩
    replace hbV := Lib.hid (hbV.out.trans (hb9.mono hbV.out.size))
    go_wp2
    go_ret
    exact ⟨rfl, hb0.out.trans (hbV.out.mono zw.out)⟩
set_option maxRecDepth 100000 in
set_option maxHeartbeats 8000000 in
theorem bk_b (a st : Nat) (f g : Nat → Bool) (y1 : Int) (w : World) (ha : a ≤ 255) (hs : st ≤ 3) (hK : 31 < y1) : Calls Try.prog 6 #[.int .i64 (a : Int), .agg #[.bool (f 0), .bool (f 1), .bool (f 2), .bool (f 3), .bool (f 4), .bool (f 5), .bool (f 6), .bool (f 7), .bool (f 8), .bool (f 9), .bool (f 10), .bool (f 11), .bool (f 12), .bool (f 13), .bool (f 14), .bool (f 15), .bool (f 16), .bool (f 17), .bool (f 18), .bool (g 0), .bool (g 1), .bool (g 2), .bool (g 3), .bool (g 4), .bool (g 5), .bool (g 6), .bool (g 7), .bool (g 8), .bool (g 9), .bool (g 10), .bool (g 11), .bool (g 12), .bool (g 13), .bool (g 14), .bool (g 15), .bool (g 16), .bool (g 17), .bool (g 18)], .agg #[.int .i64 (st : Int), .int .i64 y1]] w fun e w' => e = .returned (.bool true) ∧ Below w.heap.size w w' := by
  obtain ⟨V, eV, hb0, zV, CE⟩ := bk_box f g (st : Int) y1 w
  have LV := Lib.hid (fun u => lives29 u)
  replace CE := Lib.hid CE
  replace hb0 := Lib.hid hb0
  have zw := Lib.hid (show w.heap.size ≤ V.heap.size from by omega)
  obtain ⟨l1, l2, l3⟩ := mkW_lo a st f ha hs
  have pa := parW_bd ((mkW a st f 19 : Nat) : Int)
  have po := parW_odd ((mkW a st f 19 : Nat) : Int)
  have PF := Lib.hid (fun u => dput_ok a st f u ha hs)
  have PG := Lib.hid (fun u => dput_ok a st g u ha hs)
  have TK := fun u => dtake_ok (a : Int) (parW ((mkW a st f 19 : Nat) : Int)) u pa.1 pa.2 (by omega) po l1 l2
  rw [l3, mkC_ext (fun i hi => mkW_tk a st f ha hs i hi)] at TK
  replace TK := Lib.hid TK
  have ME := mkW_eq a st f g ha hs
  have k1 : ¬ y1 < 0 := by omega
  have k2 : 31 < y1 := hK
  clear l1 l2 l3 po pa
  generalize parW ((mkW a st f 19 : Nat) : Int) = A at *
  generalize parW ((mkW a st g 19 : Nat) : Int) = B at *
  have EF := meq19 f f
  rw [meB_refl] at EF
  have EG := meq19 f g
  generalize meB f g = me at *
  clear ha hs
  go_enter Try.func6, Try.ntmps6
  go_upto_region 1 with (fail)
  rw [← eV]
  clear eV
  have CE2 := CE
  replace CE := Lib.hid (fun u (h : Below V.heap.size V u) => CE2.out u h)
  clear CE2
  have hbV := Lib.hid (Below.refl V.heap.size V)
  generalize w.heap.size + 1 = p1 at *
  obtain ⟨p, ep⟩ : ∃ p, p = w.heap.size := ⟨_, rfl⟩
  rw [← ep] at CE ⊢
  replace ep := Lib.hid ep
  obtain ⟨x01, x11, y01, y11⟩ := CE.out _ hbV.out
  go_wp2_with (first | (refine wpList_load_part (by rfl) 23 _ rfl p 0 rfl (mkC f) _ x01 Try.underlying23 rfl (by kernel_rfl) ?_) | (refine wpList_load_part (by rfl) 23 _ rfl p 19 rfl (mkC g) _ x11 Try.underlying23 rfl (by kernel_rfl) ?_))
  refine (PF.out _).mono ?_
  rintro e w1 ⟨rfl, hb1⟩
  replace hbV := Lib.hid (hbV.out.trans (hb1.mono hbV.out.size))
  clear hb1
  clear x01 x11 y01 y11
  obtain ⟨x02, x12, y02, y12⟩ := CE.out _ hbV.out
  go_wp2_with (first | (refine wpList_load_part (by rfl) 23 _ rfl p 0 rfl (mkC f) _ x02 Try.underlying23 rfl (by kernel_rfl) ?_) | (refine wpList_load_part (by rfl) 23 _ rfl p 19 rfl (mkC g) _ x12 Try.underlying23 rfl (by kernel_rfl) ?_))
  refine (PG.out _).mono ?_
  rintro e w2 ⟨rfl, hb2⟩
  replace hbV := Lib.hid (hbV.out.trans (hb2.mono hbV.out.size))
  clear hb2
  clear x02 x12 y02 y12
  go_wp2_with fail
  refine (TK.out _).mono ?_
  rintro e w3 ⟨rfl, hb3⟩
  obtain ⟨V3, e3, hb4, hg3⟩ := mbox w3 f
  go_upto_region 6 with (refine wpList_store_row rfl 23 _ _ rfl w3.heap.size (mkC f) rfl rfl 23 _ (alloc_get _ _) (by kernel_rfl) rfl (by kernel_rfl) ?_)
  rw [← e3]
  clear e3
  replace hbV := Lib.hid (hbV.out.trans (hb3.mono hbV.out.size))
  clear hb3
  replace hbV := Lib.hid (hbV.out.trans (hb4.mono hbV.out.size))
  clear hb4
  generalize w3.heap.size = q at *
  have QC : ∀ j v, (mkC f)[j]? = some v → V3.cell? ⟨q, 0 + j, none⟩ = some v := fun j v h => by rw [Nat.zero_add]; exact (cell_of_row V3 q j _ _ _ hg3).trans h
  clear hg3
  obtain ⟨x04, x14, y04, y14⟩ := CE.out _ hbV.out
  cases me
  · go_wp2_with (first | (refine wpList_load_part (by rfl) 23 _ rfl q 0 rfl (mkC f) _ QC Try.underlying23 rfl (by kernel_rfl) ?_) | (refine wpList_load_part (by rfl) 23 _ rfl p 0 rfl (mkC f) _ x04 Try.underlying23 rfl (by kernel_rfl) ?_) | (refine wpList_load_part (by rfl) 23 _ rfl p 19 rfl (mkC g) _ x14 Try.underlying23 rfl (by kernel_rfl) ?_))
    refine (LV.out _).mono ?_
    rintro e w9 ⟨rfl, hb9⟩
    replace hbV := Lib.hid (hbV.out.trans (hb9.mono hbV.out.size))
    go_wp2
    go_ret
    exact ⟨rfl, hb0.out.trans (hbV.out.mono zw.out)⟩
  · go_wp2_with (first | (refine wpList_load_part (by rfl) 23 _ rfl q 0 rfl (mkC f) _ QC Try.underlying23 rfl (by kernel_rfl) ?_) | (refine wpList_load_part (by rfl) 23 _ rfl p 0 rfl (mkC f) _ x04 Try.underlying23 rfl (by kernel_rfl) ?_) | (refine wpList_load_part (by rfl) 23 _ rfl p 19 rfl (mkC g) _ x14 Try.underlying23 rfl (by kernel_rfl) ?_))
    refine (LV.out _).mono ?_
    rintro e w9 ⟨rfl, hb9⟩
    replace hbV := Lib.hid (hbV.out.trans (hb9.mono hbV.out.size))
    go_wp2
    go_ret
    exact ⟨rfl, hb0.out.trans (hbV.out.mono zw.out)⟩
set_option maxRecDepth 100000 in
set_option maxHeartbeats 8000000 in
theorem bk_k (a st : Nat) (f g : Nat → Bool) (k : Nat) (w : World) (ha : a ≤ 255) (hs : st ≤ 3) (hK : k < 32) : Calls Try.prog 6 #[.int .i64 (a : Int), .agg #[.bool (f 0), .bool (f 1), .bool (f 2), .bool (f 3), .bool (f 4), .bool (f 5), .bool (f 6), .bool (f 7), .bool (f 8), .bool (f 9), .bool (f 10), .bool (f 11), .bool (f 12), .bool (f 13), .bool (f 14), .bool (f 15), .bool (f 16), .bool (f 17), .bool (f 18), .bool (g 0), .bool (g 1), .bool (g 2), .bool (g 3), .bool (g 4), .bool (g 5), .bool (g 6), .bool (g 7), .bool (g 8), .bool (g 9), .bool (g 10), .bool (g 11), .bool (g 12), .bool (g 13), .bool (g 14), .bool (g 15), .bool (g 16), .bool (g 17), .bool (g 18)], .agg #[.int .i64 (st : Int), .int .i64 (k : Int)]] w fun e w' => e = .returned (.bool true) ∧ Below w.heap.size w w' := by
  obtain ⟨V, eV, hb0, zV, CE⟩ := bk_box f g (st : Int) (k : Int) w
  have LV := Lib.hid (fun u => lives29 u)
  replace CE := Lib.hid CE
  replace hb0 := Lib.hid hb0
  have zw := Lib.hid (show w.heap.size ≤ V.heap.size from by omega)
  obtain ⟨l1, l2, l3⟩ := mkW_lo a st f ha hs
  have pa := parW_bd ((mkW a st f 19 : Nat) : Int)
  have po := parW_odd ((mkW a st f 19 : Nat) : Int)
  have PF := Lib.hid (fun u => dput_ok a st f u ha hs)
  have PG := Lib.hid (fun u => dput_ok a st g u ha hs)
  have TK := fun u => dtake_ok (a : Int) (parW ((mkW a st f 19 : Nat) : Int)) u pa.1 pa.2 (by omega) po l1 l2
  rw [l3, mkC_ext (fun i hi => mkW_tk a st f ha hs i hi)] at TK
  replace TK := Lib.hid TK
  have ME := mkW_eq a st f g ha hs
  obtain ⟨z0, z1, zo⟩ := xor_flip pa.1 pa.2 k (by omega) po
  have T2 := Lib.hid (fun u => dtake_sum (a : Int) (bits .xor .u32 (parW ((mkW a st f 19 : Nat) : Int)) (2 ^ k)) u z0 z1 (by omega) zo)
  clear zo z0 z1
  have km : min k 32 = k := by omega
  have kb : 1 ≤ (2 : Int) ^ k ∧ (2 : Int) ^ k ≤ 2147483648 := two_bd k (by omega)
  have ek : (2 : Int) ^ k % 4294967296 = 2 ^ k := by omega
  have ku : IntKind.u64.wrap (k : Int) = (k : Int) := by rw [IntKind.wrap_u64]; omega
  have k1 : ¬ (k : Int) < 0 := by omega
  have k2 : ¬ 31 < (k : Int) := by omega
  have kt : (k : Int).toNat = k := by omega
  have k3 : 0 ≤ (k : Int) := by omega
  have ek2 : IntKind.u32.wrap ((2 : Int) ^ k) = 2 ^ k := by rw [IntKind.wrap_u32]; exact ek
  clear l1 l2 l3 po pa
  generalize parW ((mkW a st f 19 : Nat) : Int) = A at *
  generalize parW ((mkW a st g 19 : Nat) : Int) = B at *
  generalize hZ : bits .xor .u32 A (2 ^ k) = X at *
  skip
  have EF := meq19 f f
  rw [meB_refl] at EF
  have EG := meq19 f g
  generalize meB f g = me at *
  clear ha hs
  go_enter Try.func6, Try.ntmps6
  go_upto_region 1 with (fail)
  rw [← eV]
  clear eV
  have CE2 := CE
  replace CE := Lib.hid (fun u (h : Below V.heap.size V u) => CE2.out u h)
  clear CE2
  have hbV := Lib.hid (Below.refl V.heap.size V)
  generalize w.heap.size + 1 = p1 at *
  obtain ⟨p, ep⟩ : ∃ p, p = w.heap.size := ⟨_, rfl⟩
  rw [← ep] at CE ⊢
  replace ep := Lib.hid ep
  obtain ⟨x01, x11, y01, y11⟩ := CE.out _ hbV.out
  go_wp2_with (first | (refine wpList_load_part (by rfl) 23 _ rfl p 0 rfl (mkC f) _ x01 Try.underlying23 rfl (by kernel_rfl) ?_) | (refine wpList_load_part (by rfl) 23 _ rfl p 19 rfl (mkC g) _ x11 Try.underlying23 rfl (by kernel_rfl) ?_))
  refine (PF.out _).mono ?_
  rintro e w1 ⟨rfl, hb1⟩
  replace hbV := Lib.hid (hbV.out.trans (hb1.mono hbV.out.size))
  clear hb1
  clear x01 x11 y01 y11
  obtain ⟨x02, x12, y02, y12⟩ := CE.out _ hbV.out
  go_wp2_with (first | (refine wpList_load_part (by rfl) 23 _ rfl p 0 rfl (mkC f) _ x02 Try.underlying23 rfl (by kernel_rfl) ?_) | (refine wpList_load_part (by rfl) 23 _ rfl p 19 rfl (mkC g) _ x12 Try.underlying23 rfl (by kernel_rfl) ?_))
  refine (PG.out _).mono ?_
  rintro e w2 ⟨rfl, hb2⟩
  replace hbV := Lib.hid (hbV.out.trans (hb2.mono hbV.out.size))
  clear hb2
  clear x02 x12 y02 y12
  go_wp2_with fail
  refine (TK.out _).mono ?_
  rintro e w3 ⟨rfl, hb3⟩
  obtain ⟨V3, e3, hb4, hg3⟩ := mbox w3 f
  go_upto_region 6 with (refine wpList_store_row rfl 23 _ _ rfl w3.heap.size (mkC f) rfl rfl 23 _ (alloc_get _ _) (by kernel_rfl) rfl (by kernel_rfl) ?_)
  rw [← e3]
  clear e3
  replace hbV := Lib.hid (hbV.out.trans (hb3.mono hbV.out.size))
  clear hb3
  replace hbV := Lib.hid (hbV.out.trans (hb4.mono hbV.out.size))
  clear hb4
  generalize w3.heap.size = q at *
  have QC : ∀ j v, (mkC f)[j]? = some v → V3.cell? ⟨q, 0 + j, none⟩ = some v := fun j v h => by rw [Nat.zero_add]; exact (cell_of_row V3 q j _ _ _ hg3).trans h
  clear hg3
  obtain ⟨x04, x14, y04, y14⟩ := CE.out _ hbV.out
  cases me
  · go_wp2_with (first | (refine wpList_load_part (by rfl) 23 _ rfl q 0 rfl (mkC f) _ QC Try.underlying23 rfl (by kernel_rfl) ?_) | (refine wpList_load_part (by rfl) 23 _ rfl p 0 rfl (mkC f) _ x04 Try.underlying23 rfl (by kernel_rfl) ?_) | (refine wpList_load_part (by rfl) 23 _ rfl p 19 rfl (mkC g) _ x14 Try.underlying23 rfl (by kernel_rfl) ?_))
    refine (T2.out _).mono ?_
    rintro e w5 ⟨rfl, hb5⟩
    obtain ⟨V5, e5, hb6, hg5⟩ := mbox w5 (fun _ => false)
    go_upto_region 11 with (refine wpList_store_row rfl 23 _ _ rfl w5.heap.size (mkC fun _ => false) rfl rfl 23 _ (alloc_get _ _) (by kernel_rfl) rfl (by kernel_rfl) ?_)
    rw [← e5]
    clear e5
    replace hbV := Lib.hid (hbV.out.trans (hb5.mono hbV.out.size))
    clear hb5
    replace hbV := Lib.hid (hbV.out.trans (hb6.mono hbV.out.size))
    clear hb6 hg5
    go_wp2_with fail
    refine (LV.out _).mono ?_
    rintro e w9 ⟨rfl, hb9⟩
    replace hbV := Lib.hid (hbV.out.trans (hb9.mono hbV.out.size))
    go_wp2
    go_ret
    exact ⟨rfl, hb0.out.trans (hbV.out.mono zw.out)⟩
  · go_wp2_with (first | (refine wpList_load_part (by rfl) 23 _ rfl q 0 rfl (mkC f) _ QC Try.underlying23 rfl (by kernel_rfl) ?_) | (refine wpList_load_part (by rfl) 23 _ rfl p 0 rfl (mkC f) _ x04 Try.underlying23 rfl (by kernel_rfl) ?_) | (refine wpList_load_part (by rfl) 23 _ rfl p 19 rfl (mkC g) _ x14 Try.underlying23 rfl (by kernel_rfl) ?_))
    refine (T2.out _).mono ?_
    rintro e w5 ⟨rfl, hb5⟩
    obtain ⟨V5, e5, hb6, hg5⟩ := mbox w5 (fun _ => false)
    go_upto_region 11 with (refine wpList_store_row rfl 23 _ _ rfl w5.heap.size (mkC fun _ => false) rfl rfl 23 _ (alloc_get _ _) (by kernel_rfl) rfl (by kernel_rfl) ?_)
    rw [← e5]
    clear e5
    replace hbV := Lib.hid (hbV.out.trans (hb5.mono hbV.out.size))
    clear hb5
    replace hbV := Lib.hid (hbV.out.trans (hb6.mono hbV.out.size))
    clear hb6 hg5
    go_wp2_with fail
    refine (LV.out _).mono ?_
    rintro e w9 ⟨rfl, hb9⟩
    replace hbV := Lib.hid (hbV.out.trans (hb9.mono hbV.out.size))
    go_wp2
    go_ret
    exact ⟨rfl, hb0.out.trans (hbV.out.mono zw.out)⟩
set_option maxRecDepth 100000 in
set_option maxHeartbeats 8000000 in
theorem law_DiscBack (n : Int) (f g : Nat → Bool) (s : Int) (y1 : Int) (w : World)  : Calls Try.prog 6 #[.int .i64 n, .agg #[.bool (f 0), .bool (f 1), .bool (f 2), .bool (f 3), .bool (f 4), .bool (f 5), .bool (f 6), .bool (f 7), .bool (f 8), .bool (f 9), .bool (f 10), .bool (f 11), .bool (f 12), .bool (f 13), .bool (f 14), .bool (f 15), .bool (f 16), .bool (f 17), .bool (f 18), .bool (g 0), .bool (g 1), .bool (g 2), .bool (g 3), .bool (g 4), .bool (g 5), .bool (g 6), .bool (g 7), .bool (g 8), .bool (g 9), .bool (g 10), .bool (g 11), .bool (g 12), .bool (g 13), .bool (g 14), .bool (g 15), .bool (g 16), .bool (g 17), .bool (g 18)], .agg #[.int .i64 s, .int .i64 y1]] w fun e w' => e = .returned (.bool true) ∧ Below w.heap.size w w' := by
  by_cases hR : 0 ≤ n ∧ n ≤ 255 ∧ 0 ≤ s ∧ s ≤ 3
  · obtain ⟨h0, h1, h2, h3⟩ := hR
    obtain ⟨a, rfl⟩ := Int.eq_ofNat_of_zero_le h0
    obtain ⟨st, rfl⟩ := Int.eq_ofNat_of_zero_le h2
    rcases (show y1 < 0 ∨ 31 < y1 ∨ (0 ≤ y1 ∧ y1 < 32) from by omega) with hK | hK | ⟨k0, k1⟩
    · exact bk_n a st f g y1 w (by omega) (by omega) hK
    · exact bk_b a st f g y1 w (by omega) (by omega) hK
    · obtain ⟨k, rfl⟩ := Int.eq_ofNat_of_zero_le k0
      exact bk_k a st f g k w (by omega) (by omega) (by omega)
  · exact bk_no n f g s y1 w hR
end Go.Proofs.Ytaijkngdelolgaa
