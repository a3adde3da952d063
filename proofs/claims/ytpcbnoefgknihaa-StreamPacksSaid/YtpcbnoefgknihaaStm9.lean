/- The law StreamPacks; walked. -/
import Derived.Test.YtpcbnoefgknihaaStm8
import Derived.Test.YtpcbnoefgknihaaGridb
namespace Go.Proofs.Ytpcbnoefgknihaa
open Go.ChangeShapes Go.WideShapes Go.ChangeAt Go.RowKit
set_option linter.unusedVariables false
set_option linter.unusedSimpArgs false
def okB (b : List Int) : Bool := decide (1 ≤ b.length ∧ b.length ≤ 64)
def alB (Z : List (List Int)) : Nat → List Int
  | 0 => []
  | k + 1 => alB Z k ++ (if okB (Z.getD k []) = true then pkL (Z.getD k []) else [])
theorem alB_len (Z : List (List Int)) : ∀ k, (alB Z k).length ≤ 134 * k
  | 0 => by simp [alB]
  | k + 1 => by
    have := alB_len Z k
    unfold alB
    rw [List.length_append]
    split
    · rename_i h
      have h := of_decide_eq_true h
      have := pkL_len (Z.getD k [])
      omega
    · simp; omega
theorem alB_row (Z : List (List Int)) : ∀ k, k ≤ Z.length → (∀ j, j < k → okB (Z.getD j []) = true) → alB Z k = rowL (Z.take k)
  | 0, _, _ => rfl
  | k + 1, h, g => by
    rw [rowL_snoc (by omega), ← alB_row Z k (by omega) (fun j hj => g j (by omega))]
    show alB Z k ++ _ = _
    rw [if_pos (g k (by omega))]
def fnB (Z : List (List Int)) (k : Nat) : Bool := decide (∀ j, j < k → okB (Z.getD j []) = true)
theorem fnB_step (Z : List (List Int)) (k : Nat) : fnB Z (k + 1) = (fnB Z k && okB (Z.getD k [])) := by
  unfold fnB
  by_cases h : okB (Z.getD k []) = true
  · rw [h, Bool.and_true]
    congr 1
    exact propext ⟨fun q j hj => q j (by omega), fun q j hj => by
      by_cases e : j = k
      · subst e; exact h
      · exact q j (by omega)⟩
  · rw [Bool.eq_false_iff.2 h, Bool.and_false]
    exact decide_eq_false fun q => h (q k (by omega))
set_option maxRecDepth 100000 in
set_option maxHeartbeats 8000000 in
theorem law_StreamPacks (a : Option Addr) (A : Nat → Option Addr) (C : Nat → Nat) (Z : List (List Int)) (cap : Nat) (w : World) (hG : GridIs .u8 w a A C Z) (hZ : Z.length ≤ maxLen) (hv : ∀ i, i < Z.length → (Z.getD i []).length ≤ maxLen ∧ ∀ n ∈ Z.getD i [], (Lit.int .u8 n).wf = true) : Calls Try.prog 9 #[.slice a Z.length cap] w fun e w' => e = .returned (.bool true) ∧ Below w.heap.size w w' := by
  have LV := Lib.hid (fun u => lives47 u)
  have hR : ∀ i, i < Z.length → (Z.getD i []).length ≤ maxLen := fun i hi => (hv i hi).1
  have hB : ∀ i, i < Z.length → BYL (Z.getD i []) := fun i hi b hb => by have := (hv i hi).2 b hb; simp [Lit.wf, IntKind.min, IntKind.max, IntKind.signed, IntKind.bits] at this; omega
  have GT := lgreat47 a A C Z cap w hG hZ hR
  by_cases hg : gr47 Z = true
  · rw [hg] at GT
    replace GT := Lib.hid GT
    clear hG hv hR hg hB
    go_enter Try.func9, Try.ntmps9
    go_wp2_with fail
    refine GT.out.mono ?_
    rintro e w1 ⟨rfl, rfl⟩
    go_wp2_with fail
    refine (LV.out _).mono ?_
    rintro e w1 ⟨rfl, hb⟩
    go_wp2
    go_ret
    exact ⟨rfl, hb⟩
  · have g1 : Z.length ≤ 50 := by
      by_cases q : Z.length ≤ 50
      · exact q
      · exact absurd (show gr47 Z = true by unfold gr47; rw [decide_eq_true (show 50 < Z.length by omega), Bool.true_or]) hg
    rw [Bool.eq_false_iff.2 hg] at GT
    replace GT := Lib.hid GT
    have HG := Lib.hid (fun u (k : Below w.heap.size w u) => hG.below k)
    have RW := Lib.hid (fun u (k : Below w.heap.size w u) => srow a A C Z cap u (hG.below k) (by omega) hR hB)
    have HB := Lib.hid hB
    have HR := Lib.hid hR
    obtain ⟨n, en⟩ : ∃ n, Z.length = n := ⟨_, rfl⟩
    have EN := Lib.hid en
    have hn : (n : Int) ≤ 50 := by omega
    have HN := Lib.hid (show n ≤ 50 by omega)
    rw [en] at GT RW ⊢
    replace RW := Lib.hid RW.out
    replace GT := Lib.hid GT.out
    clear hG hv hR hB hg g1 hZ en
    go_enter Try.func9, Try.ntmps9
    go_wp2_with fail
    refine GT.out.mono ?_
    rintro e w1 ⟨rfl, rfl⟩
    clear GT
    go_wp2_with fail
    go_loopw [3, 4, 5] (fun y fb i v => ∃ (k : Nat) (x' : Value), k ≤ n ∧ y = x' ∧ fb = .bool (fnB Z k) ∧ i = .int .i64 (k : Int) ∧ Hid (Og 5 w.heap.size x' (nvals .u8 (alB Z k)) v) ∧ Hid (Below w.heap.size w v)) (fun _ _ i _ => n - (intOf i).toNat)
    case atStart => exact ⟨0, _, by omega, rfl, by simp [fnB], rfl, Lib.hid (Og.nil _ _ _), Lib.hid (Below.refl _ _)⟩
    case round =>
      obtain ⟨k, x', hk, rfl, rfl, rfl, hO, hK⟩ := hrel
      generalize wr = v at *
      by_cases hlt : k < n
      · have hkl : k < Z.length := by rw [EN.out]; exact hlt
        have h1 : (k : Int) < (n : Int) := by omega
        have h0 : 0 ≤ (k : Int) := by omega
        have G1 := HG.out v hK.out
        obtain ⟨b, off, ea, hlb, hc⟩ := G1.at hkl
        have GC := Lib.hid (fun u (g : Below v.heap.size v u) => (g.cell (p := ⟨b, off + k, none⟩) hlb).trans hc)
        have rk := G1.rows k hkl
        have bk := HB.out k hkl
        have lk := HR.out k hkl
        have FS := Lib.hid (fnB_step Z k)
        have AS := Lib.hid (show alB Z (k + 1) = alB Z k ++ (if okB (Z.getD k []) = true then pkL (Z.getD k []) else []) from rfl)
        have AL := Lib.hid (alB_len Z k)
        have PLN := Lib.hid (pkL_len (Z.getD k []))
        generalize fnB Z k = fk at *
        by_cases hok : 1 ≤ (Z.getD k []).length ∧ (Z.getD k []).length ≤ 64
        · have okt : okB (Z.getD k []) = true := decide_eq_true hok
          rw [okt] at FS AS
          have FS2 := Lib.hid (show fnB Z (k + 1) = fk by rw [FS.out, Bool.and_true])
          have AS2 := Lib.hid (show alB Z (k + 1) = alB Z k ++ pkL (Z.getD k []) by rw [AS.out, if_pos rfl])
          have PKC := Lib.hid (spack (A k) (C k) (Z.getD k []) v rk hok.1 hok.2 bk)
          have RPC := Lib.hid (fun u (g : Below v.heap.size v u) => rpack (A k) (C k) (Z.getD k []) u (rk.below g) hok.2 bk)
          have LEN := Lib.hid (show (nvals .u8 (alB Z k)).length + (nvals .u8 (pkL (Z.getD k []))).length ≤ 1000000 by rw [nvals_len, nvals_len]; have := AL.out; have := PLN.out; have := HN.out; omega)
          have l1 : (1 : Int) ≤ ((Z.getD k []).length : Int) := by omega
          have l2 : ((Z.getD k []).length : Int) ≤ 64 := by omega
          clear G1 rk bk lk hok hkl FS AS AL PLN okt
          generalize (Z.getD k []).length = zl at *
          generalize pkL (Z.getD k []) = PKB at *
          generalize A k = ak at *
          generalize C k = ck at *
          subst ea
          go_wp2_with fail
          refine PKC.out.mono ?_
          rintro e w1 ⟨x1, rfl, hO1, hb1⟩
          clear PKC
          obtain ⟨a1, c1, rfl, -, r1, -, -⟩ := hO1.rowIs
          have hc1 := GC.out w1 hb1
          have R1 := Lib.hid r1
          have RP1 := Lib.hid (fun u (g : Below w1.heap.size w1 u) => RPC.out u (hb1.trans (g.mono hb1.size)))
          have HB1 := Lib.hid hb1
          have GC1 := Lib.hid (fun u (g : Below w1.heap.size w1 u) => GC.out u (hb1.trans (g.mono hb1.size)))
          have hO2 := Lib.hid (hO.out.bel hb1)
          have hK2 := Lib.hid (hK.out.trans (hb1.mono hK.out.size))
          have cv1 := row_str (r1.below (Below.refl _ _).drew) c1
          clear hO1 hb1 r1 hO hK RPC GC hc
          go_wp2_with fail
          refine region_moves (fun u => u.cell? ⟨b, off + k, none⟩ = some (.slice ak zl ck) ∧ (convert 22 9 (.slice a1 PKB.length c1)).run Try.prog u = .ok (.string (strOfNums PKB)) u) [] [(.free, 0), (.free, 1), (.free, 2), (.free, 3), (.free, 4), (.free, 5), (.free, 6), (.free, 7), (.free, 8), (.free, 9), (.free, 10), (.free, 11), (.free, 12), (.free, 13), (.free, 14), (.free, 15), (.free, 16), (.free, 17), (.free, 18), (.free, 19), (.free, 20), (.take, 21), (.free, 22), (.free, 23), (.free, 24), (.take, 25), (.step, 26), (.take, 27), (.free, 28), (.free, 29), (.free, 30)] _ (by kernel_rfl) (by kernel_rfl) (by kernel_rfl) (by kernel_rfl) (by decide) rfl (fun _ _ _ _ _ h => h) ?_
          simp only [List.filterMap_cons, List.filterMap_nil, List.getElem?_toArray, List.getElem?_cons_zero, List.getElem?_cons_succ, Option.map_some]
          iterate 21
            first
              | (refine mv_free ?_ (Or.inl ⟨by rfl, ?_⟩) (⟨hc1, cv1⟩) ?_
                 rotate_left 1
                 · intro u
                   go_simp
                   try simp only [d1]
                   try simp only [d2]
                   try simp only [d3]
                   try with_reducible rfl
                 simp only [Act.put, List.setIfInBounds_toArray, List.set_cons_zero, List.set_cons_succ])
              | (refine mv_free _ (Or.inr ⟨by rfl, rfl⟩) (⟨hc1, cv1⟩) ?_
                 simp only [Act.put, List.setIfInBounds_toArray, List.set_cons_zero, List.set_cons_succ])
          iterate 1
            first
              | (refine mv_take ?_ (Or.inl ⟨by rfl, ?_⟩) (⟨hc1, cv1⟩) ?_
                 rotate_left 1
                 · intro u hu
                   (try dsimp only at hu)
                   go_simp
                   try with_reducible rfl
                 simp only [Act.put, List.setIfInBounds_toArray, List.set_cons_zero, List.set_cons_succ])
              | (refine mv_take _ (Or.inr ⟨by rfl, rfl⟩) (⟨hc1, cv1⟩) ?_
                 simp only [Act.put, List.setIfInBounds_toArray, List.set_cons_zero, List.set_cons_succ])
          iterate 3
            first
              | (refine mv_free ?_ (Or.inl ⟨by rfl, ?_⟩) (⟨hc1, cv1⟩) ?_
                 rotate_left 1
                 · intro u
                   go_simp
                   try simp only [d1]
                   try simp only [d2]
                   try simp only [d3]
                   try with_reducible rfl
                 simp only [Act.put, List.setIfInBounds_toArray, List.set_cons_zero, List.set_cons_succ])
              | (refine mv_free _ (Or.inr ⟨by rfl, rfl⟩) (⟨hc1, cv1⟩) ?_
                 simp only [Act.put, List.setIfInBounds_toArray, List.set_cons_zero, List.set_cons_succ])
          iterate 1
            first
              | (refine mv_take ?_ (Or.inl ⟨by rfl, ?_⟩) (⟨hc1, cv1⟩) ?_
                 rotate_left 1
                 · intro u hu
                   (try dsimp only at hu)
                   go_simp
                   try with_reducible rfl
                 simp only [Act.put, List.setIfInBounds_toArray, List.set_cons_zero, List.set_cons_succ])
              | (refine mv_take _ (Or.inr ⟨by rfl, rfl⟩) (⟨hc1, cv1⟩) ?_
                 simp only [Act.put, List.setIfInBounds_toArray, List.set_cons_zero, List.set_cons_succ])
          refine mv_step (fun K hK => ?_)
          go_simp
          refine (RP1.out _ (Below.refl _ _).drew).mono ?_
          rintro e w2 ⟨x2, rfl, hP2, hb2⟩
          obtain ⟨a2, c2, rfl, -, r2, -, -⟩ := hP2.rowIs
          have cv2 := row_str r2 c2
          have hbw := Lib.hid (show Below w1.heap.size w1 w2 from (Below.refl _ _).drew.trans hb2)
          have cv1b := row_str (R1.out.below hbw.out) c1
          have hc2 := GC1.out w2 hbw.out
          clear hP2 hb2 r2 cv1 hc1
          go_wp2_with fail
          refine hK.out (fun u => u.cell? ⟨b, off + k, none⟩ = some (.slice ak zl ck) ∧ (convert 22 9 (.slice a1 PKB.length c1)).run Try.prog u = .ok (.string (strOfNums PKB)) u ∧ (convert 22 9 (.slice a2 PKB.length c2)).run Try.prog u = .ok (.string (strOfNums PKB)) u) _ _ (fun u hu => ⟨hu.1, hu.2.1⟩) (⟨hc2, cv1b, cv2⟩) ?_
          clear hK K
          iterate 1
            first
              | (refine mv_take ?_ (Or.inl ⟨by rfl, ?_⟩) (⟨hc2, cv1b, cv2⟩) ?_
                 rotate_left 1
                 · intro u hu
                   (try dsimp only at hu)
                   go_simp
                   try with_reducible rfl
                 simp only [Act.put, List.setIfInBounds_toArray, List.set_cons_zero, List.set_cons_succ])
              | (refine mv_take _ (Or.inr ⟨by rfl, rfl⟩) (⟨hc2, cv1b, cv2⟩) ?_
                 simp only [Act.put, List.setIfInBounds_toArray, List.set_cons_zero, List.set_cons_succ])
          iterate 3
            first
              | (refine mv_free ?_ (Or.inl ⟨by rfl, ?_⟩) (⟨hc2, cv1b, cv2⟩) ?_
                 rotate_left 1
                 · intro u
                   go_simp
                   try simp only [d1]
                   try simp only [d2]
                   try simp only [d3]
                   try with_reducible rfl
                 simp only [Act.put, List.setIfInBounds_toArray, List.set_cons_zero, List.set_cons_succ])
              | (refine mv_free _ (Or.inr ⟨by rfl, rfl⟩) (⟨hc2, cv1b, cv2⟩) ?_
                 simp only [Act.put, List.setIfInBounds_toArray, List.set_cons_zero, List.set_cons_succ])
          refine mv_done ?_
          have hO3 := Lib.hid (hO2.out.bel hbw.out)
          have hK3 := Lib.hid (hK2.out.trans (hbw.out.mono hK2.out.size))
          have hz3 := Lib.hid (show w.heap.size ≤ w2.heap.size from hK3.out.size)
          have SR := Lib.hid ((R1.out.below hbw.out).src (t := 22) Try.underlying22 c1)
          clear hO2 hK2 cv1b cv2 hc2 R1 RP1 GC1 hbw HB1
          rw [nvals_len, nvals_len] at LEN
          replace LEN := Lib.hid LEN.out
          cases fk with
          | true =>
            go_upto_region 7 with (first | (at_builtin; refine wpList_append_og _ rfl (.tmp 77) (.tmp 78) 22 22 rfl 5 (.int .u8 0) 1 Try.underlying22 (by kernel_rfl) rfl w.heap.size u3 _ rfl hO3.out hz3.out _ _ _ rfl SR.out (by rw [nvals_len]; have := LEN.out; unfold maxLen; omega) (by rw [nvals_len]; have := LEN.out; omega) ?_; intro x7 w7 hO7 hK7 hN7))
            have hO8 := Lib.hid (show Og 5 w.heap.size x7 (nvals .u8 (alB Z (k + 1))) w7 by rw [AS2.out, nvals_app]; exact hO7)
            have hK8 := Lib.hid (hK3.out.trans (hK7.below hO3.out hz3.out))
            clear hO7 hK7 hN7 hO3 hz3 SR hK3
            go_wp2
            go_roundw
            case rel => exact ⟨k + 1, x7, by omega, rfl, by simp [FS2.out], by first | rfl | go_num, hO8, hK8⟩
            case measure => simp [intOf]; omega
          | false =>
            go_upto_region 7 with (first | (at_builtin; refine wpList_append_og _ rfl (.tmp 77) (.tmp 78) 22 22 rfl 5 (.int .u8 0) 1 Try.underlying22 (by kernel_rfl) rfl w.heap.size u3 _ rfl hO3.out hz3.out _ _ _ rfl SR.out (by rw [nvals_len]; have := LEN.out; unfold maxLen; omega) (by rw [nvals_len]; have := LEN.out; omega) ?_; intro x7 w7 hO7 hK7 hN7))
            have hO8 := Lib.hid (show Og 5 w.heap.size x7 (nvals .u8 (alB Z (k + 1))) w7 by rw [AS2.out, nvals_app]; exact hO7)
            have hK8 := Lib.hid (hK3.out.trans (hK7.below hO3.out hz3.out))
            clear hO7 hK7 hN7 hO3 hz3 SR hK3
            go_wp2
            go_roundw
            case rel => exact ⟨k + 1, x7, by omega, rfl, by simp [FS2.out], by first | rfl | go_num, hO8, hK8⟩
            case measure => simp [intOf]; omega
        · have okt : okB (Z.getD k []) = false := decide_eq_false hok
          rw [okt] at FS AS
          have FS2 := Lib.hid (show fnB Z (k + 1) = false by rw [FS.out, Bool.and_false])
          have AS2 := Lib.hid (show alB Z (k + 1) = alB Z k by rw [AS.out, if_neg (by decide), List.append_nil])
          have PN := Lib.hid (spack_no (A k) (Z.getD k []).length (C k) v (by omega) lk)
          have LEN := Lib.hid (show (nvals .u8 (alB Z k)).length ≤ 1000000 by rw [nvals_len]; have := AL.out; have := HN.out; omega)
          have lc : (¬ (1 : Int) ≤ ((Z.getD k []).length : Int)) ∨ ((1 : Int) ≤ ((Z.getD k []).length : Int) ∧ ¬ ((Z.getD k []).length : Int) ≤ 64) := by omega
          have lm : ((Z.getD k []).length : Int) ≤ 9223372036854775807 := by unfold maxLen at lk; omega
          clear G1 rk bk lk hok hkl FS AS AL PLN okt GC
          generalize (Z.getD k []).length = zl at *
          generalize A k = ak at *
          generalize C k = ck at *
          subst ea
          have hz3 := Lib.hid (show w.heap.size ≤ v.heap.size from hK.out.size)
          have SR := Lib.hid ((Og.nil 5 w.heap.size v).src (t := 22) Try.underlying22 (fun u hu => by cases hu))
          cases fk with
          | true =>
            rcases lc with l1 | ⟨l1, l2⟩
            · have l3 : decide ((1 : Int) ≤ (zl : Int)) = false := decide_eq_false l1
              go_wp2_with fail
              refine PN.out.mono ?_
              rintro e w1 ⟨rfl, rfl⟩
              clear PN
              go_wp2_with fail
              refine region_moves (fun u => u.cell? ⟨b, off + k, none⟩ = some (.slice ak zl ck)) [] [(.free, 0), (.free, 1), (.free, 2), (.free, 3), (.free, 4), (.free, 5), (.free, 6), (.free, 7), (.free, 8), (.free, 9), (.free, 10), (.free, 11), (.free, 12), (.free, 13), (.free, 14), (.free, 15), (.free, 16), (.free, 17), (.free, 18), (.free, 19), (.free, 20), (.take, 21), (.free, 22), (.free, 23), (.free, 24), (.take, 25), (.step, 26), (.take, 27), (.free, 28), (.free, 29), (.free, 30)] _ (by kernel_rfl) (by kernel_rfl) (by kernel_rfl) (by kernel_rfl) (by decide) rfl (fun _ _ _ _ _ h => h) ?_
              simp only [List.filterMap_cons, List.filterMap_nil, List.getElem?_toArray, List.getElem?_cons_zero, List.getElem?_cons_succ, Option.map_some]
              iterate 21
                first
                  | (refine mv_free ?_ (Or.inl ⟨by rfl, ?_⟩) (hc) ?_
                     rotate_left 1
                     · intro u
                       go_simp
                       try simp only [d1]
                       try simp only [d2]
                       try simp only [d3]
                       try with_reducible rfl
                     simp only [Act.put, List.setIfInBounds_toArray, List.set_cons_zero, List.set_cons_succ])
                  | (refine mv_free _ (Or.inr ⟨by rfl, rfl⟩) (hc) ?_
                     simp only [Act.put, List.setIfInBounds_toArray, List.set_cons_zero, List.set_cons_succ])
              iterate 1
                first
                  | (refine mv_take ?_ (Or.inl ⟨by rfl, ?_⟩) (hc) ?_
                     rotate_left 1
                     · intro u hu
                       (try dsimp only at hu)
                       go_simp
                       try with_reducible rfl
                     simp only [Act.put, List.setIfInBounds_toArray, List.set_cons_zero, List.set_cons_succ])
                  | (refine mv_take _ (Or.inr ⟨by rfl, rfl⟩) (hc) ?_
                     simp only [Act.put, List.setIfInBounds_toArray, List.set_cons_zero, List.set_cons_succ])
              iterate 3
                first
                  | (refine mv_free ?_ (Or.inl ⟨by rfl, ?_⟩) (hc) ?_
                     rotate_left 1
                     · intro u
                       go_simp
                       try simp only [d1]
                       try simp only [d2]
                       try simp only [d3]
                       try with_reducible rfl
                     simp only [Act.put, List.setIfInBounds_toArray, List.set_cons_zero, List.set_cons_succ])
                  | (refine mv_free _ (Or.inr ⟨by rfl, rfl⟩) (hc) ?_
                     simp only [Act.put, List.setIfInBounds_toArray, List.set_cons_zero, List.set_cons_succ])
              iterate 1
                first
                  | (refine mv_take ?_ (Or.inl ⟨by rfl, ?_⟩) (hc) ?_
                     rotate_left 1
                     · intro u hu
                       (try dsimp only at hu)
                       go_simp
                       try with_reducible rfl
                     simp only [Act.put, List.setIfInBounds_toArray, List.set_cons_zero, List.set_cons_succ])
                  | (refine mv_take _ (Or.inr ⟨by rfl, rfl⟩) (hc) ?_
                     simp only [Act.put, List.setIfInBounds_toArray, List.set_cons_zero, List.set_cons_succ])
              refine mv_step (fun K hK => ?_)
              go_simp
              go_wp2_with fail
              refine hK.out _ _ _ (fun u hu => hu) (hc) ?_
              clear hK K
              iterate 1
                first
                  | (refine mv_take ?_ (Or.inl ⟨by rfl, ?_⟩) (hc) ?_
                     rotate_left 1
                     · intro u hu
                       (try dsimp only at hu)
                       go_simp
                       try with_reducible rfl
                     simp only [Act.put, List.setIfInBounds_toArray, List.set_cons_zero, List.set_cons_succ])
                  | (refine mv_take _ (Or.inr ⟨by rfl, rfl⟩) (hc) ?_
                     simp only [Act.put, List.setIfInBounds_toArray, List.set_cons_zero, List.set_cons_succ])
              iterate 3
                first
                  | (refine mv_free ?_ (Or.inl ⟨by rfl, ?_⟩) (hc) ?_
                     rotate_left 1
                     · intro u
                       go_simp
                       try simp only [d1]
                       try simp only [d2]
                       try simp only [d3]
                       try with_reducible rfl
                     simp only [Act.put, List.setIfInBounds_toArray, List.set_cons_zero, List.set_cons_succ])
                  | (refine mv_free _ (Or.inr ⟨by rfl, rfl⟩) (hc) ?_
                     simp only [Act.put, List.setIfInBounds_toArray, List.set_cons_zero, List.set_cons_succ])
              refine mv_done ?_
              have hO3 := Lib.hid (hO.out.drew)
              have hz4 := Lib.hid (show w.heap.size ≤ v.drew.heap.size from hz3.out)
              have SR2 := Lib.hid ((Og.nil 5 w.heap.size v.drew).src (t := 22) Try.underlying22 (fun u hu => by cases hu))
              go_upto_region 7 with (first | (at_builtin; refine wpList_append_og _ rfl (.tmp 77) (.tmp 78) 22 22 rfl 5 (.int .u8 0) 1 Try.underlying22 (by kernel_rfl) rfl w.heap.size u3 _ rfl hO3.out hz4.out _ _ _ rfl SR2.out (by have := LEN.out; simp; unfold maxLen; omega) (by have := LEN.out; simp; omega) ?_; intro x7 w7 hO7 hK7 hN7))
              have hO8 := Lib.hid (show Og 5 w.heap.size x7 (nvals .u8 (alB Z (k + 1))) w7 by rw [AS2.out]; simpa using hO7)
              have hK8 := Lib.hid (hK.out.drew.trans (hK7.below hO3.out hz4.out))
              clear hO7 hK7 hN7 hO3 hz3 SR hK hz4 SR2
              go_wp2
              go_roundw
              case rel => exact ⟨k + 1, x7, by omega, rfl, by simp [FS2.out], by first | rfl | go_num, hO8, hK8⟩
              case measure => simp [intOf]; omega
            · have l3 : decide ((zl : Int) ≤ 64) = false := decide_eq_false l2
              go_wp2_with fail
              refine PN.out.mono ?_
              rintro e w1 ⟨rfl, rfl⟩
              clear PN
              go_wp2_with fail
              refine region_moves (fun u => u.cell? ⟨b, off + k, none⟩ = some (.slice ak zl ck)) [] [(.free, 0), (.free, 1), (.free, 2), (.free, 3), (.free, 4), (.free, 5), (.free, 6), (.free, 7), (.free, 8), (.free, 9), (.free, 10), (.free, 11), (.free, 12), (.free, 13), (.free, 14), (.free, 15), (.free, 16), (.free, 17), (.free, 18), (.free, 19), (.free, 20), (.take, 21), (.free, 22), (.free, 23), (.free, 24), (.take, 25), (.step, 26), (.take, 27), (.free, 28), (.free, 29), (.free, 30)] _ (by kernel_rfl) (by kernel_rfl) (by kernel_rfl) (by kernel_rfl) (by decide) rfl (fun _ _ _ _ _ h => h) ?_
              simp only [List.filterMap_cons, List.filterMap_nil, List.getElem?_toArray, List.getElem?_cons_zero, List.getElem?_cons_succ, Option.map_some]
              iterate 21
                first
                  | (refine mv_free ?_ (Or.inl ⟨by rfl, ?_⟩) (hc) ?_
                     rotate_left 1
                     · intro u
                       go_simp
                       try simp only [d1]
                       try simp only [d2]
                       try simp only [d3]
                       try with_reducible rfl
                     simp only [Act.put, List.setIfInBounds_toArray, List.set_cons_zero, List.set_cons_succ])
                  | (refine mv_free _ (Or.inr ⟨by rfl, rfl⟩) (hc) ?_
                     simp only [Act.put, List.setIfInBounds_toArray, List.set_cons_zero, List.set_cons_succ])
              iterate 1
                first
                  | (refine mv_take ?_ (Or.inl ⟨by rfl, ?_⟩) (hc) ?_
                     rotate_left 1
                     · intro u hu
                       (try dsimp only at hu)
                       go_simp
                       try with_reducible rfl
                     simp only [Act.put, List.setIfInBounds_toArray, List.set_cons_zero, List.set_cons_succ])
                  | (refine mv_take _ (Or.inr ⟨by rfl, rfl⟩) (hc) ?_
                     simp only [Act.put, List.setIfInBounds_toArray, List.set_cons_zero, List.set_cons_succ])
              iterate 3
                first
                  | (refine mv_free ?_ (Or.inl ⟨by rfl, ?_⟩) (hc) ?_
                     rotate_left 1
                     · intro u
                       go_simp
                       try simp only [d1]
                       try simp only [d2]
                       try simp only [d3]
                       try with_reducible rfl
                     simp only [Act.put, List.setIfInBounds_toArray, List.set_cons_zero, List.set_cons_succ])
                  | (refine mv_free _ (Or.inr ⟨by rfl, rfl⟩) (hc) ?_
                     simp only [Act.put, List.setIfInBounds_toArray, List.set_cons_zero, List.set_cons_succ])
              iterate 1
                first
                  | (refine mv_take ?_ (Or.inl ⟨by rfl, ?_⟩) (hc) ?_
                     rotate_left 1
                     · intro u hu
                       (try dsimp only at hu)
                       go_simp
                       try with_reducible rfl
                     simp only [Act.put, List.setIfInBounds_toArray, List.set_cons_zero, List.set_cons_succ])
                  | (refine mv_take _ (Or.inr ⟨by rfl, rfl⟩) (hc) ?_
                     simp only [Act.put, List.setIfInBounds_toArray, List.set_cons_zero, List.set_cons_succ])
              refine mv_step (fun K hK => ?_)
              go_simp
              go_wp2_with fail
              refine hK.out _ _ _ (fun u hu => hu) (hc) ?_
              clear hK K
              iterate 1
                first
                  | (refine mv_take ?_ (Or.inl ⟨by rfl, ?_⟩) (hc) ?_
                     rotate_left 1
                     · intro u hu
                       (try dsimp only at hu)
                       go_simp
                       try with_reducible rfl
                     simp only [Act.put, List.setIfInBounds_toArray, List.set_cons_zero, List.set_cons_succ])
                  | (refine mv_take _ (Or.inr ⟨by rfl, rfl⟩) (hc) ?_
                     simp only [Act.put, List.setIfInBounds_toArray, List.set_cons_zero, List.set_cons_succ])
              iterate 3
                first
                  | (refine mv_free ?_ (Or.inl ⟨by rfl, ?_⟩) (hc) ?_
                     rotate_left 1
                     · intro u
                       go_simp
                       try simp only [d1]
                       try simp only [d2]
                       try simp only [d3]
                       try with_reducible rfl
                     simp only [Act.put, List.setIfInBounds_toArray, List.set_cons_zero, List.set_cons_succ])
                  | (refine mv_free _ (Or.inr ⟨by rfl, rfl⟩) (hc) ?_
                     simp only [Act.put, List.setIfInBounds_toArray, List.set_cons_zero, List.set_cons_succ])
              refine mv_done ?_
              have hO3 := Lib.hid (hO.out.drew)
              have hz4 := Lib.hid (show w.heap.size ≤ v.drew.heap.size from hz3.out)
              have SR2 := Lib.hid ((Og.nil 5 w.heap.size v.drew).src (t := 22) Try.underlying22 (fun u hu => by cases hu))
              go_upto_region 7 with (first | (at_builtin; refine wpList_append_og _ rfl (.tmp 77) (.tmp 78) 22 22 rfl 5 (.int .u8 0) 1 Try.underlying22 (by kernel_rfl) rfl w.heap.size u3 _ rfl hO3.out hz4.out _ _ _ rfl SR2.out (by have := LEN.out; simp; unfold maxLen; omega) (by have := LEN.out; simp; omega) ?_; intro x7 w7 hO7 hK7 hN7))
              have hO8 := Lib.hid (show Og 5 w.heap.size x7 (nvals .u8 (alB Z (k + 1))) w7 by rw [AS2.out]; simpa using hO7)
              have hK8 := Lib.hid (hK.out.drew.trans (hK7.below hO3.out hz4.out))
              clear hO7 hK7 hN7 hO3 hz3 SR hK hz4 SR2
              go_wp2
              go_roundw
              case rel => exact ⟨k + 1, x7, by omega, rfl, by simp [FS2.out], by first | rfl | go_num, hO8, hK8⟩
              case measure => simp [intOf]; omega
          | false =>
            rcases lc with l1 | ⟨l1, l2⟩
            · have l3 : decide ((1 : Int) ≤ (zl : Int)) = false := decide_eq_false l1
              go_wp2_with fail
              refine PN.out.mono ?_
              rintro e w1 ⟨rfl, rfl⟩
              clear PN
              go_wp2_with fail
              refine region_moves (fun u => u.cell? ⟨b, off + k, none⟩ = some (.slice ak zl ck)) [] [(.free, 0), (.free, 1), (.free, 2), (.free, 3), (.free, 4), (.free, 5), (.free, 6), (.free, 7), (.free, 8), (.free, 9), (.free, 10), (.free, 11), (.free, 12), (.free, 13), (.free, 14), (.free, 15), (.free, 16), (.free, 17), (.free, 18), (.free, 19), (.free, 20), (.take, 21), (.free, 22), (.free, 23), (.free, 24), (.take, 25), (.step, 26), (.take, 27), (.free, 28), (.free, 29), (.free, 30)] _ (by kernel_rfl) (by kernel_rfl) (by kernel_rfl) (by kernel_rfl) (by decide) rfl (fun _ _ _ _ _ h => h) ?_
              simp only [List.filterMap_cons, List.filterMap_nil, List.getElem?_toArray, List.getElem?_cons_zero, List.getElem?_cons_succ, Option.map_some]
              iterate 21
                first
                  | (refine mv_free ?_ (Or.inl ⟨by rfl, ?_⟩) (hc) ?_
                     rotate_left 1
                     · intro u
                       go_simp
                       try simp only [d1]
                       try simp only [d2]
                       try simp only [d3]
                       try with_reducible rfl
                     simp only [Act.put, List.setIfInBounds_toArray, List.set_cons_zero, List.set_cons_succ])
                  | (refine mv_free _ (Or.inr ⟨by rfl, rfl⟩) (hc) ?_
                     simp only [Act.put, List.setIfInBounds_toArray, List.set_cons_zero, List.set_cons_succ])
              iterate 1
                first
                  | (refine mv_take ?_ (Or.inl ⟨by rfl, ?_⟩) (hc) ?_
                     rotate_left 1
                     · intro u hu
                       (try dsimp only at hu)
                       go_simp
                       try with_reducible rfl
                     simp only [Act.put, List.setIfInBounds_toArray, List.set_cons_zero, List.set_cons_succ])
                  | (refine mv_take _ (Or.inr ⟨by rfl, rfl⟩) (hc) ?_
                     simp only [Act.put, List.setIfInBounds_toArray, List.set_cons_zero, List.set_cons_succ])
              iterate 3
                first
                  | (refine mv_free ?_ (Or.inl ⟨by rfl, ?_⟩) (hc) ?_
                     rotate_left 1
                     · intro u
                       go_simp
                       try simp only [d1]
                       try simp only [d2]
                       try simp only [d3]
                       try with_reducible rfl
                     simp only [Act.put, List.setIfInBounds_toArray, List.set_cons_zero, List.set_cons_succ])
                  | (refine mv_free _ (Or.inr ⟨by rfl, rfl⟩) (hc) ?_
                     simp only [Act.put, List.setIfInBounds_toArray, List.set_cons_zero, List.set_cons_succ])
              iterate 1
                first
                  | (refine mv_take ?_ (Or.inl ⟨by rfl, ?_⟩) (hc) ?_
                     rotate_left 1
                     · intro u hu
                       (try dsimp only at hu)
                       go_simp
                       try with_reducible rfl
                     simp only [Act.put, List.setIfInBounds_toArray, List.set_cons_zero, List.set_cons_succ])
                  | (refine mv_take _ (Or.inr ⟨by rfl, rfl⟩) (hc) ?_
                     simp only [Act.put, List.setIfInBounds_toArray, List.set_cons_zero, List.set_cons_succ])
              refine mv_step (fun K hK => ?_)
              go_simp
              go_wp2_with fail
              refine hK.out _ _ _ (fun u hu => hu) (hc) ?_
              clear hK K
              iterate 1
                first
                  | (refine mv_take ?_ (Or.inl ⟨by rfl, ?_⟩) (hc) ?_
                     rotate_left 1
                     · intro u hu
                       (try dsimp only at hu)
                       go_simp
                       try with_reducible rfl
                     simp only [Act.put, List.setIfInBounds_toArray, List.set_cons_zero, List.set_cons_succ])
                  | (refine mv_take _ (Or.inr ⟨by rfl, rfl⟩) (hc) ?_
                     simp only [Act.put, List.setIfInBounds_toArray, List.set_cons_zero, List.set_cons_succ])
              iterate 3
                first
                  | (refine mv_free ?_ (Or.inl ⟨by rfl, ?_⟩) (hc) ?_
                     rotate_left 1
                     · intro u
                       go_simp
                       try simp only [d1]
                       try simp only [d2]
                       try simp only [d3]
                       try with_reducible rfl
                     simp only [Act.put, List.setIfInBounds_toArray, List.set_cons_zero, List.set_cons_succ])
                  | (refine mv_free _ (Or.inr ⟨by rfl, rfl⟩) (hc) ?_
                     simp only [Act.put, List.setIfInBounds_toArray, List.set_cons_zero, List.set_cons_succ])
              refine mv_done ?_
              have hO3 := Lib.hid (hO.out.drew)
              have hz4 := Lib.hid (show w.heap.size ≤ v.drew.heap.size from hz3.out)
              have SR2 := Lib.hid ((Og.nil 5 w.heap.size v.drew).src (t := 22) Try.underlying22 (fun u hu => by cases hu))
              go_upto_region 7 with (first | (at_builtin; refine wpList_append_og _ rfl (.tmp 77) (.tmp 78) 22 22 rfl 5 (.int .u8 0) 1 Try.underlying22 (by kernel_rfl) rfl w.heap.size u3 _ rfl hO3.out hz4.out _ _ _ rfl SR2.out (by have := LEN.out; simp; unfold maxLen; omega) (by have := LEN.out; simp; omega) ?_; intro x7 w7 hO7 hK7 hN7))
              have hO8 := Lib.hid (show Og 5 w.heap.size x7 (nvals .u8 (alB Z (k + 1))) w7 by rw [AS2.out]; simpa using hO7)
              have hK8 := Lib.hid (hK.out.drew.trans (hK7.below hO3.out hz4.out))
              clear hO7 hK7 hN7 hO3 hz3 SR hK hz4 SR2
              go_wp2
              go_roundw
              case rel => exact ⟨k + 1, x7, by omega, rfl, by simp [FS2.out], by first | rfl | go_num, hO8, hK8⟩
              case measure => simp [intOf]; omega
            · have l3 : decide ((zl : Int) ≤ 64) = false := decide_eq_false l2
              go_wp2_with fail
              refine PN.out.mono ?_
              rintro e w1 ⟨rfl, rfl⟩
              clear PN
              go_wp2_with fail
              refine region_moves (fun u => u.cell? ⟨b, off + k, none⟩ = some (.slice ak zl ck)) [] [(.free, 0), (.free, 1), (.free, 2), (.free, 3), (.free, 4), (.free, 5), (.free, 6), (.free, 7), (.free, 8), (.free, 9), (.free, 10), (.free, 11), (.free, 12), (.free, 13), (.free, 14), (.free, 15), (.free, 16), (.free, 17), (.free, 18), (.free, 19), (.free, 20), (.take, 21), (.free, 22), (.free, 23), (.free, 24), (.take, 25), (.step, 26), (.take, 27), (.free, 28), (.free, 29), (.free, 30)] _ (by kernel_rfl) (by kernel_rfl) (by kernel_rfl) (by kernel_rfl) (by decide) rfl (fun _ _ _ _ _ h => h) ?_
              simp only [List.filterMap_cons, List.filterMap_nil, List.getElem?_toArray, List.getElem?_cons_zero, List.getElem?_cons_succ, Option.map_some]
              iterate 21
                first
                  | (refine mv_free ?_ (Or.inl ⟨by rfl, ?_⟩) (hc) ?_
                     rotate_left 1
                     · intro u
                       go_simp
                       try simp only [d1]
                       try simp only [d2]
                       try simp only [d3]
                       try with_reducible rfl
                     simp only [Act.put, List.setIfInBounds_toArray, List.set_cons_zero, List.set_cons_succ])
                  | (refine mv_free _ (Or.inr ⟨by rfl, rfl⟩) (hc) ?_
                     simp only [Act.put, List.setIfInBounds_toArray, List.set_cons_zero, List.set_cons_succ])
              iterate 1
                first
                  | (refine mv_take ?_ (Or.inl ⟨by rfl, ?_⟩) (hc) ?_
                     rotate_left 1
                     · intro u hu
                       (try dsimp only at hu)
                       go_simp
                       try with_reducible rfl
                     simp only [Act.put, List.setIfInBounds_toArray, List.set_cons_zero, List.set_cons_succ])
                  | (refine mv_take _ (Or.inr ⟨by rfl, rfl⟩) (hc) ?_
                     simp only [Act.put, List.setIfInBounds_toArray, List.set_cons_zero, List.set_cons_succ])
              iterate 3
                first
                  | (refine mv_free ?_ (Or.inl ⟨by rfl, ?_⟩) (hc) ?_
                     rotate_left 1
                     · intro u
                       go_simp
                       try simp only [d1]
                       try simp only [d2]
                       try simp only [d3]
                       try with_reducible rfl
                     simp only [Act.put, List.setIfInBounds_toArray, List.set_cons_zero, List.set_cons_succ])
                  | (refine mv_free _ (Or.inr ⟨by rfl, rfl⟩) (hc) ?_
                     simp only [Act.put, List.setIfInBounds_toArray, List.set_cons_zero, List.set_cons_succ])
              iterate 1
                first
                  | (refine mv_take ?_ (Or.inl ⟨by rfl, ?_⟩) (hc) ?_
                     rotate_left 1
                     · intro u hu
                       (try dsimp only at hu)
                       go_simp
                       try with_reducible rfl
                     simp only [Act.put, List.setIfInBounds_toArray, List.set_cons_zero, List.set_cons_succ])
                  | (refine mv_take _ (Or.inr ⟨by rfl, rfl⟩) (hc) ?_
                     simp only [Act.put, List.setIfInBounds_toArray, List.set_cons_zero, List.set_cons_succ])
              refine mv_step (fun K hK => ?_)
              go_simp
              go_wp2_with fail
              refine hK.out _ _ _ (fun u hu => hu) (hc) ?_
              clear hK K
              iterate 1
                first
                  | (refine mv_take ?_ (Or.inl ⟨by rfl, ?_⟩) (hc) ?_
                     rotate_left 1
                     · intro u hu
                       (try dsimp only at hu)
                       go_simp
                       try with_reducible rfl
                     simp only [Act.put, List.setIfInBounds_toArray, List.set_cons_zero, List.set_cons_succ])
                  | (refine mv_take _ (Or.inr ⟨by rfl, rfl⟩) (hc) ?_
                     simp only [Act.put, List.setIfInBounds_toArray, List.set_cons_zero, List.set_cons_succ])
              iterate 3
                first
                  | (refine mv_free ?_ (Or.inl ⟨by rfl, ?_⟩) (hc) ?_
                     rotate_left 1
                     · intro u
                       go_simp
                       try simp only [d1]
                       try simp only [d2]
                       try simp only [d3]
                       try with_reducible rfl
                     simp only [Act.put, List.setIfInBounds_toArray, List.set_cons_zero, List.set_cons_succ])
                  | (refine mv_free _ (Or.inr ⟨by rfl, rfl⟩) (hc) ?_
                     simp only [Act.put, List.setIfInBounds_toArray, List.set_cons_zero, List.set_cons_succ])
              refine mv_done ?_
              have hO3 := Lib.hid (hO.out.drew)
              have hz4 := Lib.hid (show w.heap.size ≤ v.drew.heap.size from hz3.out)
              have SR2 := Lib.hid ((Og.nil 5 w.heap.size v.drew).src (t := 22) Try.underlying22 (fun u hu => by cases hu))
              go_upto_region 7 with (first | (at_builtin; refine wpList_append_og _ rfl (.tmp 77) (.tmp 78) 22 22 rfl 5 (.int .u8 0) 1 Try.underlying22 (by kernel_rfl) rfl w.heap.size u3 _ rfl hO3.out hz4.out _ _ _ rfl SR2.out (by have := LEN.out; simp; unfold maxLen; omega) (by have := LEN.out; simp; omega) ?_; intro x7 w7 hO7 hK7 hN7))
              have hO8 := Lib.hid (show Og 5 w.heap.size x7 (nvals .u8 (alB Z (k + 1))) w7 by rw [AS2.out]; simpa using hO7)
              have hK8 := Lib.hid (hK.out.drew.trans (hK7.below hO3.out hz4.out))
              clear hO7 hK7 hN7 hO3 hz3 SR hK hz4 SR2
              go_wp2
              go_roundw
              case rel => exact ⟨k + 1, x7, by omega, rfl, by simp [FS2.out], by first | rfl | go_num, hO8, hK8⟩
              case measure => simp [intOf]; omega
      · obtain rfl : k = n := by omega
        have h1 : ¬ (k : Int) < (k : Int) := by omega
        have RW2 := Lib.hid (RW.out v hK.out)
        have ef := Lib.hid (show fnB Z k = okRB Z from by unfold fnB okRB okB; rw [EN.out]; congr 1; exact propext ⟨fun q i hi => of_decide_eq_true (q i hi), fun q i hi => decide_eq_true (q i hi)⟩)
        have AR := Lib.hid (fun (q : okRB Z = true) => show alB Z k = rowL Z from by
          have h9 := of_decide_eq_true q
          rw [alB_row Z k (by rw [EN.out]; omega) (fun j hj => decide_eq_true (h9 j (by rw [EN.out]; exact hj))), ← EN.out, List.take_length])
        rw [ef.out]
        generalize okRB Z = R at *
        clear hlt ef
        go_wp2_with fail
        refine RW2.out.mono ?_
        intro e w2 hE
        cases R with
        | false =>
          obtain ⟨rfl, hb⟩ := hE
          replace hb := Lib.hid (hK.out.trans (hb.mono hK.out.size))
          clear AR RW2
          go_wp2_with fail
          refine (LV.out _).mono ?_
          rintro e w3 ⟨rfl, hb3⟩
          replace hb := Lib.hid (hb.out.trans (hb3.mono hb.out.size))
          clear hb3
          go_wp2
          go_ret
          exact ⟨rfl, hb.out⟩
        | true =>
          obtain ⟨x2, rfl, hO2, hb⟩ := hE
          have hO1 := hO.out.bel hb
          rw [AR.out rfl] at hO1
          obtain ⟨a1, c1, rfl, -, r1, -, -⟩ := hO1.rowIs
          obtain ⟨a2, c2, rfl, -, r2, -, -⟩ := hO2.rowIs
          have cv1 := row_str r1 c1
          have cv2 := row_str r2 c2
          replace hb := Lib.hid (hK.out.trans (hb.mono hK.out.size))
          clear AR RW2 hO1 hO2 r1 r2 hO
          go_wp2_with fail
          refine (LV.out _).mono ?_
          rintro e w3 ⟨rfl, hb3⟩
          replace hb := Lib.hid (hb.out.trans (hb3.mono hb.out.size))
          clear hb3
          go_wp2
          go_ret
          exact ⟨rfl, hb.out⟩
end Go.Proofs.Ytpcbnoefgknihaa
