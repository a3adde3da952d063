/- The document's packet of what came between two flags; walked. -/
import Derived.Test.YtpcbnoefgknihaaStmB
namespace Go.Proofs.Ytpcbnoefgknihaa
open Go.ChangeShapes Go.WideShapes Go.ChangeAt Go.RowKit
set_option linter.unusedVariables false
set_option linter.unusedSimpArgs false
def PkE (B : Nat) (r : Option (List Int)) (e : Ending) (w w' : World) : Prop := match r with
  | none => ∃ x, e = .returned (.tuple #[x, .bool false]) ∧ Below B w w'
  | some q => ∃ g o c, e = .returned (.tuple #[.slice (some ⟨g, o, none⟩) q.length c, .bool true]) ∧ RowIs .u8 w' (some ⟨g, o, none⟩) q ∧ (B ≤ g ∧ g < w'.heap.size) ∧ Below B w w'
set_option maxRecDepth 100000 in
set_option maxHeartbeats 8000000 in
theorem rpacket (a : Option Addr) (cap : Nat) (l : List Int) (w : World) (hr : RowIs .u8 w a l) (hL : l.length ≤ 1000000) (hB : BYL l) : Calls Try.prog 55 #[.slice a l.length cap] w fun e w' => PkE w.heap.size (pkt l) e w w' := by
  obtain ⟨B, eB⟩ : ∃ B, w.heap.size = B := ⟨_, rfl⟩
  have EB := Lib.hid eB
  rw [eB]
  have HR := Lib.hid (fun u (k : Below B w u) => show RowIs .u8 u a l from hr.below (by rw [eB]; exact k))
  by_cases big : 140 < l.length
  · have c1 : (140 : Int) < (l.length : Int) := by omega
    have hNo : pkt l = none := by unfold pkt; rw [if_neg (by omega)]
    rw [hNo]
    have BR := Lib.hid (Below.refl B w)
    clear hr eB hNo
    obtain ⟨n, en⟩ : ∃ n, l.length = n := ⟨_, rfl⟩
    rw [en] at c1 ⊢
    clear hL big en
    go_enter Try.func55, Try.ntmps55
    go_wp2
    go_ret2
    exact ⟨_, rfl, BR.out⟩
  have c1 : ¬ (140 : Int) < (l.length : Int) := by omega
  have hL2 : (l.length : Int) ≤ 1000 := by omega
  have HL := Lib.hid (show l.length ≤ 140 by omega)
  have PK := Lib.hid (show pkt l = unP l by unfold pkt; rw [if_pos (by omega)])
  rw [PK.out]
  obtain ⟨R9, eR9⟩ : ∃ R, unP l = R := ⟨_, rfl⟩
  have HN9 := Lib.hid (fun (h : unF l = none) => show R9 = none by rw [← eR9]; unfold unP; rw [h])
  have HS9 := Lib.hid (fun A (h : unF l = some A) => show R9 = (if okP A = true then some (A.take (A.length - 2)) else none) by rw [← eR9]; unfold unP; rw [h])
  rw [eR9]
  clear eR9
  have UB := Lib.hid (fun p (h : unF l = some p) => unF_byl l p hB h)
  clear hr eB big PK
  obtain ⟨n, en⟩ : ∃ n, l.length = n := ⟨_, rfl⟩
  have EN := Lib.hid en
  rw [en]
  rw [en] at hL2 c1
  clear en hL
  obtain ⟨UL, hUL⟩ : ∃ U, unF l = U := ⟨_, rfl⟩
  rw [hUL] at UB HN9 HS9
  replace hUL := Lib.hid hUL
  replace UB := Lib.hid UB.out
  replace HN9 := Lib.hid HN9.out
  replace HS9 := Lib.hid HS9.out
  go_enter Try.func55, Try.ntmps55
  go_wp2_with fail
  go_loopw [4, 5] (fun y i v => ∃ (k : Nat) (x' : Value) (A : List Int), k ≤ n ∧ y = x' ∧ i = .int .i64 (k : Int) ∧ Hid (UL = (unF (l.drop k)).map (A ++ ·)) ∧ Hid (A.length ≤ k) ∧ Hid (Og 5 B x' (nvals .u8 A) v) ∧ Hid (Below B w v)) (fun _ i _ => n - (intOf i).toNat)
  case atStart => exact ⟨0, _, [], by omega, rfl, rfl, Lib.hid (by rw [List.drop_zero, hUL.out]; cases UL <;> simp), Lib.hid (by simp), Lib.hid (Og.nil _ _ _), Lib.hid (Below.refl _ _)⟩
  case round =>
    obtain ⟨k, x', A, hk, rfl, rfl, hU, hA8, hO, hK⟩ := hrel
    generalize wr = v at *
    have HBv := Lib.hid (show B ≤ v.heap.size from by have := EB.out; have := hK.out.size; omega)
    have LEN := Lib.hid (show (nvals .u8 A).length + 1 ≤ 1000000 by rw [nvals_len]; have := hA8.out; have := HL.out; have := EN.out; omega)
    have R := HR.out v hK.out
    by_cases hlt : k < n
    · have hkl : k < l.length := by rw [EN.out]; exact hlt
      have h1 : (k : Int) < (n : Int) := by omega
      have h0 : 0 ≤ (k : Int) := by omega
      obtain ⟨b, off, rfl, -, hc⟩ := R.at hkl
      have DR := drop_at hkl
      have s1 : IntKind.i64.wrap ((k : Int) + 1) = (k : Int) + 1 := by rw [IntKind.wrap_i64]; omega
      by_cases hx : l.getD k 0 = 125
      · rw [hx] at hc DR
        have s2 : IntKind.i64.wrap ((k : Int) + 1 + 1) = (k : Int) + 1 + 1 := by rw [IntKind.wrap_i64]; omega
        by_cases hend : k + 1 = n
        · have q1 : ((k : Int) + 1 == (n : Int)) = true := by simp; omega
          have hN : UL = none := by rw [hU.out, DR, List.drop_eq_nil_of_le (by rw [EN.out]; omega), unF_end]; rfl
          subst hN
          obtain rfl := HN9.out rfl
          have e3 : ((k : Int) + 1) = (n : Int) := by omega
          clear DR hU hend hx R hkl
          go_wp2
          go_ret2
          exact ⟨_, rfl, hK.out⟩
        · have q1 : ((k : Int) + 1 == (n : Int)) = false := beq_eq_false_iff_ne.2 (by omega)
          have q2 : (k : Int) + 1 < (n : Int) := by omega
          have q3 : 0 ≤ (k : Int) + 1 := by omega
          have q4 : (k : Int) + 1 ≠ (n : Int) := by omega
          have q5 : ((k : Int) + 1).toNat = k + 1 := by omega
          have hkl2 : k + 1 < l.length := by rw [EN.out]; omega
          have DR2 := drop_at hkl2
          have hc2 := R.c hkl2
          by_cases hy : l.getD (k + 1) 0 = 94
          · rw [hy] at hc2 DR2
            have hU2 := Lib.hid (show UL = (unF (l.drop (k + 2))).map ((A ++ [126]) ++ ·) by rw [hU.out, DR, DR2, unF_94]; cases unF (l.drop (k + 1 + 1)) <;> simp)
            clear DR DR2 hU hx hy R hkl hkl2 hend
            have hA := Lib.hid ((Below.refl v.heap.size v).alloc (Nat.le_refl _) (.cells #[.int .u8 126] 5))
            have hO3 := Lib.hid (hO.out.bel hA.out)
            have hz3 := Lib.hid (show B ≤ (v.alloc (.cells #[.int .u8 126] 5)).heap.size from by have := HBv.out; simp; omega)
            have SR := Lib.hid (src_new 22 5 5 Try.underlying22 v [.int .u8 126] (fun u hu => by simp at hu; subst hu; rfl))
            clear hO
            go_wp2_with (first | (at_builtin; refine wpList_append_og _ rfl (.tmp 40) (.tmp 41) 22 22 rfl 5 (.int .u8 0) 1 Try.underlying22 (by kernel_rfl) rfl B u4 _ rfl hO3.out hz3.out _ 1 _ rfl SR.out (by have := LEN.out; unfold maxLen; omega) (by have := LEN.out; omega) ?_; intro x2 w5 hO5 hK5 hN5) | fail)
            have hK8 := Lib.hid (hK.out.trans ((hA.out.mono HBv.out).trans (hK5.below hO3.out hz3.out)))
            have hO8 := Lib.hid (show Og 5 B x2 (nvals .u8 (A ++ [126])) w5 by rw [nvals_app]; exact hO5)
            clear hO5 hK5 hN5 hA hO3 hz3 SR hK
            go_wp2
            go_roundw
            case rel => exact ⟨k + 2, x2, A ++ [126], by omega, rfl, by first | rfl | go_num | (simp; try omega), hU2, by have := hA8.out; exact Lib.hid (by simp; omega), hO8, hK8⟩
            case measure => simp [intOf]; omega
          · by_cases hy2 : l.getD (k + 1) 0 = 93
            · rw [hy2] at hc2 DR2
              have hU2 := Lib.hid (show UL = (unF (l.drop (k + 2))).map ((A ++ [125]) ++ ·) by rw [hU.out, DR, DR2, unF_93]; cases unF (l.drop (k + 1 + 1)) <;> simp)
              clear DR DR2 hU hx hy hy2 R hkl hkl2 hend
              have hA := Lib.hid ((Below.refl v.heap.size v).alloc (Nat.le_refl _) (.cells #[.int .u8 125] 5))
              have hO3 := Lib.hid (hO.out.bel hA.out)
              have hz3 := Lib.hid (show B ≤ (v.alloc (.cells #[.int .u8 125] 5)).heap.size from by have := HBv.out; simp; omega)
              have SR := Lib.hid (src_new 22 5 5 Try.underlying22 v [.int .u8 125] (fun u hu => by simp at hu; subst hu; rfl))
              clear hO
              go_wp2_with (first | (at_builtin; refine wpList_append_og _ rfl (.tmp 45) (.tmp 46) 22 22 rfl 5 (.int .u8 0) 1 Try.underlying22 (by kernel_rfl) rfl B u4 _ rfl hO3.out hz3.out _ 1 _ rfl SR.out (by have := LEN.out; unfold maxLen; omega) (by have := LEN.out; omega) ?_; intro x2 w5 hO5 hK5 hN5) | fail)
              have hK8 := Lib.hid (hK.out.trans ((hA.out.mono HBv.out).trans (hK5.below hO3.out hz3.out)))
              have hO8 := Lib.hid (show Og 5 B x2 (nvals .u8 (A ++ [125])) w5 by rw [nvals_app]; exact hO5)
              clear hO5 hK5 hN5 hA hO3 hz3 SR hK
              go_wp2
              go_roundw
              case rel => exact ⟨k + 2, x2, A ++ [125], by omega, rfl, by first | rfl | go_num | (simp; try omega), hU2, by have := hA8.out; exact Lib.hid (by simp; omega), hO8, hK8⟩
              case measure => simp [intOf]; omega
            · have hN : UL = none := by rw [hU.out, DR, DR2, unF_bad hy hy2]; rfl
              subst hN
              obtain rfl := HN9.out rfl
              have p1 : (l.getD (k + 1) 0 == 94) = false := beq_eq_false_iff_ne.2 hy
              have p2 : (l.getD (k + 1) 0 == 93) = false := beq_eq_false_iff_ne.2 hy2
              have p3 : (l.getD (k + 1) 0 != 94) = true := bne_iff_ne.2 hy
              have p4 : (l.getD (k + 1) 0 != 93) = true := bne_iff_ne.2 hy2
              generalize l.getD (k + 1) 0 = y at *
              clear DR DR2 hU hx R hkl hkl2 hend
              go_wp2
              go_ret2
              exact ⟨_, rfl, hK.out⟩
      · have p1 : (l.getD k 0 == 125) = false := beq_eq_false_iff_ne.2 hx
        have hU2 := Lib.hid (show UL = (unF (l.drop (k + 1))).map ((A ++ [l.getD k 0]) ++ ·) by rw [hU.out, DR, unF_plain hx]; cases unF (l.drop (k + 1)) <;> simp)
        generalize l.getD k 0 = x at *
        clear DR hU R hkl
        have hA := Lib.hid ((Below.refl v.heap.size v).alloc (Nat.le_refl _) (.cells #[.int .u8 x] 5))
        have hO3 := Lib.hid (hO.out.bel hA.out)
        have hz3 := Lib.hid (show B ≤ (v.alloc (.cells #[.int .u8 x] 5)).heap.size from by have := HBv.out; simp; omega)
        have SR := Lib.hid (src_new 22 5 5 Try.underlying22 v [.int .u8 x] (fun u hu => by simp at hu; subst hu; rfl))
        clear hO
        go_wp2_with (first | (at_builtin; refine wpList_append_og _ rfl (.tmp 21) (.tmp 26) 22 22 rfl 5 (.int .u8 0) 1 Try.underlying22 (by kernel_rfl) rfl B u4 _ rfl hO3.out hz3.out _ 1 _ rfl SR.out (by have := LEN.out; unfold maxLen; omega) (by have := LEN.out; omega) ?_; intro x2 w5 hO5 hK5 hN5) | fail)
        have hK8 := Lib.hid (hK.out.trans ((hA.out.mono HBv.out).trans (hK5.below hO3.out hz3.out)))
        have hO8 := Lib.hid (show Og 5 B x2 (nvals .u8 (A ++ [x])) w5 by rw [nvals_app]; exact hO5)
        clear hO5 hK5 hN5 hA hO3 hz3 SR hK
        go_wp2
        go_roundw
        case rel => exact ⟨k + 1, x2, A ++ [x], by omega, rfl, by first | rfl | go_num | (simp; try omega), hU2, by have := hA8.out; exact Lib.hid (by simp; omega), hO8, hK8⟩
        case measure => simp [intOf]; omega
    · obtain rfl : k = n := by omega
      have hN : UL = some A := by rw [hU.out, List.drop_eq_nil_of_le (by rw [EN.out]; omega)]; simp [unF]
      subst hN
      clear hlt hU R
      have h1 : ¬ (k : Int) < (k : Int) := by omega
      have BYA := Lib.hid (UB.out A rfl)
      clear hUL UB HN9
      have LA := Lib.hid (show A.length ≤ 140 by have := hA8.out; have := HL.out; have := EN.out; omega)
      by_cases q : 3 ≤ A.length ∧ A.length ≤ 66
      · obtain ⟨m, em⟩ : ∃ m, A.length = m + 2 := ⟨A.length - 2, by omega⟩
        have OK : okP A = decide (crI (A.take m) = (A.getD m 0 * 256 + A.getD (m + 1) 0).toNat) := by
          unfold okP
          rw [em, show m + 2 - 2 = m by omega, show m + 2 - 1 = m + 1 by omega, decide_eq_true (show 3 ≤ m + 2 by omega), decide_eq_true (show m + 2 ≤ 66 by omega), Bool.true_and, Bool.true_and]
        have eR : R9 = if okP A = true then some (A.take m) else none := by have := HS9.out A rfl; rw [em, show m + 2 - 2 = m by omega] at this; exact this
        clear HS9
        obtain ⟨a9, c9, e9, hc9, hr9, hn9, hs9⟩ := hO.out.rowIs
        cases a9 with
        | none => have := congrArg List.length (hn9 rfl).1; rw [em] at this; simp at this
        | some a9 =>
          obtain ⟨g, o, sp⟩ := a9
          obtain ⟨z1, z2⟩ := hs9 _ rfl
          have z1 : sp = none := z1
          subst z1
          have HG := Lib.hid (show B ≤ g ∧ g < v.heap.size from hO.out.lt (g := g) (by rw [e9]; rfl))
          rw [em] at e9 hc9
          have b0 := BYA.out.by8 m (by omega)
          have b1 := BYA.out.by8 (m + 1) (by omega)
          have k0 := hr9.c (i := m) (by omega)
          have k1 := hr9.c (i := m + 1) (by omega)
          have LT : (A.take m).length = m := by rw [List.length_take, em]; omega
          have RT := Lib.hid (rowIs_take hr9 m (by omega))
          have TS := Lib.hid (fun u (hu : Below v.heap.size v u) cp => rsum (some ⟨g, o, none⟩) cp (A.take m) u (RT.out.below hu) (by rw [LT]; unfold maxLen; omega) (BYL.by8 (fun b hb => BYA.out b (List.mem_of_mem_take hb))))
          rw [LT] at TS
          have SLT := crI_lt (A.take m)
          obtain ⟨x, ex⟩ : ∃ x, A.getD m 0 = x := ⟨_, rfl⟩
          obtain ⟨y, ey⟩ : ∃ y, A.getD (m + 1) 0 = y := ⟨_, rfl⟩
          rw [ex] at OK k0 b0
          rw [ey] at OK k1 b1
          have mB : m ≤ 64 := by omega
          generalize crI (A.take m) = S at *
          obtain ⟨z, ez⟩ : ∃ z, z = m + 2 := ⟨_, rfl⟩
          obtain ⟨m1, em1⟩ : ∃ z, z = m + 1 := ⟨_, rfl⟩
          have i1 : ¬ (z : Int) < 3 := by omega
          have i2 : ¬ (66 : Int) < (z : Int) := by omega
          have i3 : IntKind.i64.wrap ((z : Int) - 2) = (m : Int) := by rw [IntKind.wrap_i64]; omega
          have i4 : IntKind.i64.wrap ((z : Int) - 1) = (m1 : Int) := by rw [IntKind.wrap_i64]; omega
          have i5 : (0 : Int) ≤ (m : Int) := by omega
          have i6 : (m : Int) ≤ (c9 : Int) := by omega
          have i7 : (m : Int) < (z : Int) := by omega
          have i8 : (m1 : Int) < (z : Int) := by omega
          have i9 : (0 : Int) ≤ (m1 : Int) := by omega
          rw [← em1] at k1
          rw [← ez] at e9
          clear em q
          have OK : okP A = decide ((S : Int) = x * 256 + y) := by rw [OK]; exact decide_eq_decide.2 (by omega)
          have v1 : IntKind.i64.wrap x = x := by rw [IntKind.wrap_i64]; omega
          have v2 : IntKind.i64.wrap y = y := by rw [IntKind.wrap_i64]; omega
          have v3 : IntKind.i64.wrap (x * 256) = x * 256 := by rw [IntKind.wrap_i64]; omega
          have v4 : IntKind.i64.wrap (x * 256 + y) = x * 256 + y := by rw [IntKind.wrap_i64]; omega
          have T0 := TS.out v.drew (Below.refl _ _).drew c9
          have T0 := Lib.hid T0
          have KD := Lib.hid (show Below B w v.drew from hK.out.drew)
          have RD := Lib.hid (show RowIs .u8 v.drew (some ⟨g, o, none⟩) (A.take m) from RT.out.below (Below.refl _ _).drew)
          have e9 : u4 = .slice (some ⟨g, o, none⟩) z c9 := e9
          clear ez em1 hc9 mB b0 b1
          clear hO hr9 hn9 hs9 hK HR hA8 ex ey BYA LA
          subst e9
          have cc : (S : Int) = x * 256 + y ∨ (S : Int) ≠ x * 256 + y := by omega
          rcases cc with cc | cc
          · have ok1 : okP A = true := by rw [OK]; exact decide_eq_true cc
            rw [if_pos ok1] at eR
            have cb : (x * 256 + y == (S : Int)) = true := by simp [cc]
            clear OK ok1
            subst eR
            go_wp2_with fail
            refine region_moves (fun u => u.cell? ⟨g, o + m, none⟩ = some (.int .u8 x) ∧ u.cell? ⟨g, o + m1, none⟩ = some (.int .u8 y)) [] [(.free, 0), (.free, 1), (.free, 2), (.free, 3), (.free, 4), (.free, 5), (.take, 6), (.free, 7), (.free, 8), (.free, 9), (.free, 10), (.free, 11), (.free, 12), (.free, 13), (.take, 14), (.free, 15), (.free, 16), (.free, 17), (.step, 18), (.free, 19), (.free, 20), (.free, 21)] _ (by kernel_rfl) (by kernel_rfl) (by kernel_rfl) (by kernel_rfl) (by decide) rfl (fun _ _ _ _ _ h => h) ?_
            simp only [List.filterMap_cons, List.filterMap_nil, List.getElem?_toArray, List.getElem?_cons_zero, List.getElem?_cons_succ, Option.map_some]
            iterate 6
              first
                | (refine mv_free ?_ (Or.inl ⟨by rfl, ?_⟩) (⟨k0, k1⟩) ?_
                   rotate_left 1
                   · intro u
                     go_simp
                     try simp only [d1]
                     try simp only [d2]
                     try simp only [d3]
                     try simp only [d1]
                     try simp only [d2]
                     try simp only [d3]
                     try with_reducible rfl
                   simp only [Act.put, List.setIfInBounds_toArray, List.set_cons_zero, List.set_cons_succ])
                | (refine mv_free _ (Or.inr ⟨by rfl, rfl⟩) (⟨k0, k1⟩) ?_
                   simp only [Act.put, List.setIfInBounds_toArray, List.set_cons_zero, List.set_cons_succ])
            iterate 1
              first
                | (refine mv_take ?_ (Or.inl ⟨by rfl, ?_⟩) (⟨k0, k1⟩) ?_
                   rotate_left 1
                   · intro u hu
                     (try dsimp only at hu)
                     go_simp
                     try with_reducible rfl
                   simp only [Act.put, List.setIfInBounds_toArray, List.set_cons_zero, List.set_cons_succ])
                | (refine mv_take _ (Or.inr ⟨by rfl, rfl⟩) (⟨k0, k1⟩) ?_
                   simp only [Act.put, List.setIfInBounds_toArray, List.set_cons_zero, List.set_cons_succ])
            iterate 7
              first
                | (refine mv_free ?_ (Or.inl ⟨by rfl, ?_⟩) (⟨k0, k1⟩) ?_
                   rotate_left 1
                   · intro u
                     go_simp
                     try simp only [d1]
                     try simp only [d2]
                     try simp only [d3]
                     try simp only [d1]
                     try simp only [d2]
                     try simp only [d3]
                     try with_reducible rfl
                   simp only [Act.put, List.setIfInBounds_toArray, List.set_cons_zero, List.set_cons_succ])
                | (refine mv_free _ (Or.inr ⟨by rfl, rfl⟩) (⟨k0, k1⟩) ?_
                   simp only [Act.put, List.setIfInBounds_toArray, List.set_cons_zero, List.set_cons_succ])
            iterate 1
              first
                | (refine mv_take ?_ (Or.inl ⟨by rfl, ?_⟩) (⟨k0, k1⟩) ?_
                   rotate_left 1
                   · intro u hu
                     (try dsimp only at hu)
                     go_simp
                     try with_reducible rfl
                   simp only [Act.put, List.setIfInBounds_toArray, List.set_cons_zero, List.set_cons_succ])
                | (refine mv_take _ (Or.inr ⟨by rfl, rfl⟩) (⟨k0, k1⟩) ?_
                   simp only [Act.put, List.setIfInBounds_toArray, List.set_cons_zero, List.set_cons_succ])
            iterate 3
              first
                | (refine mv_free ?_ (Or.inl ⟨by rfl, ?_⟩) (⟨k0, k1⟩) ?_
                   rotate_left 1
                   · intro u
                     go_simp
                     try simp only [d1]
                     try simp only [d2]
                     try simp only [d3]
                     try simp only [d1]
                     try simp only [d2]
                     try simp only [d3]
                     try with_reducible rfl
                   simp only [Act.put, List.setIfInBounds_toArray, List.set_cons_zero, List.set_cons_succ])
                | (refine mv_free _ (Or.inr ⟨by rfl, rfl⟩) (⟨k0, k1⟩) ?_
                   simp only [Act.put, List.setIfInBounds_toArray, List.set_cons_zero, List.set_cons_succ])
            refine mv_step (fun K hK => ?_)
            go_simp
            refine T0.out.mono ?_
            rintro e v5 ⟨rfl, rfl⟩
            have k0d : v.drew.cell? ⟨g, o + m, none⟩ = some (.int .u8 x) := k0
            have k1d : v.drew.cell? ⟨g, o + m1, none⟩ = some (.int .u8 y) := k1
            go_wp2_with fail
            refine hK.out _ _ _ (fun u hu => hu) (⟨k0d, k1d⟩) ?_
            clear hK K
            iterate 3
              first
                | (refine mv_free ?_ (Or.inl ⟨by rfl, ?_⟩) (⟨k0d, k1d⟩) ?_
                   rotate_left 1
                   · intro u
                     go_simp
                     try simp only [d1]
                     try simp only [d2]
                     try simp only [d3]
                     try simp only [d1]
                     try simp only [d2]
                     try simp only [d3]
                     try with_reducible rfl
                   simp only [Act.put, List.setIfInBounds_toArray, List.set_cons_zero, List.set_cons_succ])
                | (refine mv_free _ (Or.inr ⟨by rfl, rfl⟩) (⟨k0d, k1d⟩) ?_
                   simp only [Act.put, List.setIfInBounds_toArray, List.set_cons_zero, List.set_cons_succ])
            refine mv_done ?_
            go_wp2_with fail
            go_ret2
            exact ⟨g, o, c9, by show _ = Ending.returned (.tuple #[.slice _ (A.take m).length _, _]); rw [LT]; rfl, RD.out, HG.out, KD.out⟩
          · have ok1 : okP A = false := by rw [OK]; exact decide_eq_false cc
            rw [if_neg (by rw [ok1]; decide)] at eR
            have cb : (x * 256 + y == (S : Int)) = false := beq_eq_false_iff_ne.2 (fun h => cc h.symm)
            clear OK ok1
            subst eR
            go_wp2_with fail
            refine region_moves (fun u => u.cell? ⟨g, o + m, none⟩ = some (.int .u8 x) ∧ u.cell? ⟨g, o + m1, none⟩ = some (.int .u8 y)) [] [(.free, 0), (.free, 1), (.free, 2), (.free, 3), (.free, 4), (.free, 5), (.take, 6), (.free, 7), (.free, 8), (.free, 9), (.free, 10), (.free, 11), (.free, 12), (.free, 13), (.take, 14), (.free, 15), (.free, 16), (.free, 17), (.step, 18), (.free, 19), (.free, 20), (.free, 21)] _ (by kernel_rfl) (by kernel_rfl) (by kernel_rfl) (by kernel_rfl) (by decide) rfl (fun _ _ _ _ _ h => h) ?_
            simp only [List.filterMap_cons, List.filterMap_nil, List.getElem?_toArray, List.getElem?_cons_zero, List.getElem?_cons_succ, Option.map_some]
            iterate 6
              first
                | (refine mv_free ?_ (Or.inl ⟨by rfl, ?_⟩) (⟨k0, k1⟩) ?_
                   rotate_left 1
                   · intro u
                     go_simp
                     try simp only [d1]
                     try simp only [d2]
                     try simp only [d3]
                     try simp only [d1]
                     try simp only [d2]
                     try simp only [d3]
                     try with_reducible rfl
                   simp only [Act.put, List.setIfInBounds_toArray, List.set_cons_zero, List.set_cons_succ])
                | (refine mv_free _ (Or.inr ⟨by rfl, rfl⟩) (⟨k0, k1⟩) ?_
                   simp only [Act.put, List.setIfInBounds_toArray, List.set_cons_zero, List.set_cons_succ])
            iterate 1
              first
                | (refine mv_take ?_ (Or.inl ⟨by rfl, ?_⟩) (⟨k0, k1⟩) ?_
                   rotate_left 1
                   · intro u hu
                     (try dsimp only at hu)
                     go_simp
                     try with_reducible rfl
                   simp only [Act.put, List.setIfInBounds_toArray, List.set_cons_zero, List.set_cons_succ])
                | (refine mv_take _ (Or.inr ⟨by rfl, rfl⟩) (⟨k0, k1⟩) ?_
                   simp only [Act.put, List.setIfInBounds_toArray, List.set_cons_zero, List.set_cons_succ])
            iterate 7
              first
                | (refine mv_free ?_ (Or.inl ⟨by rfl, ?_⟩) (⟨k0, k1⟩) ?_
                   rotate_left 1
                   · intro u
                     go_simp
                     try simp only [d1]
                     try simp only [d2]
                     try simp only [d3]
                     try simp only [d1]
                     try simp only [d2]
                     try simp only [d3]
                     try with_reducible rfl
                   simp only [Act.put, List.setIfInBounds_toArray, List.set_cons_zero, List.set_cons_succ])
                | (refine mv_free _ (Or.inr ⟨by rfl, rfl⟩) (⟨k0, k1⟩) ?_
                   simp only [Act.put, List.setIfInBounds_toArray, List.set_cons_zero, List.set_cons_succ])
            iterate 1
              first
                | (refine mv_take ?_ (Or.inl ⟨by rfl, ?_⟩) (⟨k0, k1⟩) ?_
                   rotate_left 1
                   · intro u hu
                     (try dsimp only at hu)
                     go_simp
                     try with_reducible rfl
                   simp only [Act.put, List.setIfInBounds_toArray, List.set_cons_zero, List.set_cons_succ])
                | (refine mv_take _ (Or.inr ⟨by rfl, rfl⟩) (⟨k0, k1⟩) ?_
                   simp only [Act.put, List.setIfInBounds_toArray, List.set_cons_zero, List.set_cons_succ])
            iterate 3
              first
                | (refine mv_free ?_ (Or.inl ⟨by rfl, ?_⟩) (⟨k0, k1⟩) ?_
                   rotate_left 1
                   · intro u
                     go_simp
                     try simp only [d1]
                     try simp only [d2]
                     try simp only [d3]
                     try simp only [d1]
                     try simp only [d2]
                     try simp only [d3]
                     try with_reducible rfl
                   simp only [Act.put, List.setIfInBounds_toArray, List.set_cons_zero, List.set_cons_succ])
                | (refine mv_free _ (Or.inr ⟨by rfl, rfl⟩) (⟨k0, k1⟩) ?_
                   simp only [Act.put, List.setIfInBounds_toArray, List.set_cons_zero, List.set_cons_succ])
            refine mv_step (fun K hK => ?_)
            go_simp
            refine T0.out.mono ?_
            rintro e v5 ⟨rfl, rfl⟩
            have k0d : v.drew.cell? ⟨g, o + m, none⟩ = some (.int .u8 x) := k0
            have k1d : v.drew.cell? ⟨g, o + m1, none⟩ = some (.int .u8 y) := k1
            go_wp2_with fail
            refine hK.out _ _ _ (fun u hu => hu) (⟨k0d, k1d⟩) ?_
            clear hK K
            iterate 3
              first
                | (refine mv_free ?_ (Or.inl ⟨by rfl, ?_⟩) (⟨k0d, k1d⟩) ?_
                   rotate_left 1
                   · intro u
                     go_simp
                     try simp only [d1]
                     try simp only [d2]
                     try simp only [d3]
                     try simp only [d1]
                     try simp only [d2]
                     try simp only [d3]
                     try with_reducible rfl
                   simp only [Act.put, List.setIfInBounds_toArray, List.set_cons_zero, List.set_cons_succ])
                | (refine mv_free _ (Or.inr ⟨by rfl, rfl⟩) (⟨k0d, k1d⟩) ?_
                   simp only [Act.put, List.setIfInBounds_toArray, List.set_cons_zero, List.set_cons_succ])
            refine mv_done ?_
            go_wp2_with fail
            go_ret2
            exact ⟨_, rfl, KD.out⟩
      · have hk : okP A = false := okP_no q
        have eR : R9 = none := by have := HS9.out A rfl; rw [hk] at this; exact this
        clear HS9
        subst eR
        obtain ⟨a9, c9, e9, -, -, -, -⟩ := hO.out.rowIs
        obtain ⟨z, ez⟩ : ∃ z, A.length = z := ⟨_, rfl⟩
        rw [ez] at e9 q
        have e9 : u4 = .slice a9 z c9 := e9
        have cc : ((z : Int) < 3) ∨ (¬ (z : Int) < 3 ∧ (66 : Int) < (z : Int)) := by omega
        clear hO HR hA8 BYA LA hk ez q
        subst e9
        rcases cc with q | ⟨q, q2⟩
        · go_wp2
          go_ret2
          exact ⟨_, rfl, hK.out⟩
        · go_wp2
          go_ret2
          exact ⟨_, rfl, hK.out⟩
end Go.Proofs.Ytpcbnoefgknihaa
