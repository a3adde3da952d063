/- The law StreamWhole; walked. -/
import Derived.Test.YtpcbnoefgknihaaStmB
import Derived.Test.YtpcbnoefgknihaaGridb
namespace Go.Proofs.Ytpcbnoefgknihaa
open Go.ChangeShapes Go.WideShapes Go.ChangeAt Go.RowKit
set_option linter.unusedVariables false
set_option linter.unusedSimpArgs false
theorem fdF_126 (P : List Int) : (fdF P [126]).2.2 = [] := by
  rw [fdF_one, if_pos rfl]
  split
  · rfl
  · split <;> rfl
theorem GoS.start {B b : Nat} {f r : Int} {x : Value} {v : World} (h : Fd B b [] f r x v) : GoS B b v.heap.size f r [] x (.slice none 0 0) [] v where
  fd := by simpa [fdF] using h
  go := rfl
  yo := Og.nil _ _ _
  rows := fun t ht => by cases ht
  sx := fun t ht => by cases ht
  sy := fun t ht => by cases ht
  sxy := fun g _ => by simp [ogB]
  bn := ⟨h.o.lt, Nat.le_refl _⟩
theorem okRB_all {Z : List (List Int)} (h : okRB Z = true) : ∀ b ∈ Z, 1 ≤ b.length ∧ b.length ≤ 64 := fun b hb => by
  obtain ⟨i, hi, rfl⟩ := List.getElem_of_mem hb
  have := of_decide_eq_true h i hi
  simpa [List.getD, hi] using this
theorem rowL_byl : ∀ {Z : List (List Int)}, (∀ b ∈ Z, BYL b) → BYL (rowL Z)
  | [], _ => fun b hb => by cases hb
  | b :: r, h => (pkL_byl (h b (by simp))).app (rowL_byl (fun c hc => h c (by simp [hc])))
theorem rowL_len : ∀ {Z : List (List Int)}, (∀ b ∈ Z, b.length ≤ 64) → (rowL Z).length ≤ 134 * Z.length
  | [], _ => by simp [rowL]
  | b :: r, h => by
    have h1 := pkL_len b
    have h2 := h b (by simp)
    have h3 := rowL_len (Z := r) (fun c hc => h c (by simp [hc]))
    simp only [rowL, List.length_append, List.length_cons]
    omega
theorem cnt6_le : ∀ (l : List Int), cnt6 l ≤ l.length
  | [] => by simp [cnt6]
  | x :: r => by
    have := cnt6_le r
    simp only [cnt6, List.length_cons]
    split <;> omega
theorem rowIs_sub {k : IntKind} {w : World} {a : Option Addr} {p : List Int} (h : RowIs k w a p) (t d : Nat) (h1 : t + d ≤ p.length) (h0 : 1 ≤ d) : ∃ g o, a = some ⟨g, o, none⟩ ∧ g < w.heap.size ∧ RowIs k w (some ⟨g, o + t, none⟩) ((p.drop t).take d) := by
  obtain ⟨g, o, rfl, hl, -⟩ := h.at (show t < p.length by omega)
  exact ⟨g, o, rfl, hl, rowIs_take (rowIs_drop h t (by omega)) d (by rw [List.length_drop]; omega)⟩
set_option maxRecDepth 100000 in
set_option maxHeartbeats 8000000 in
theorem law_StreamWhole (a : Option Addr) (ca : Nat) (La : List Int) (g : Option Addr) (A : Nat → Option Addr) (C : Nat → Nat) (Z : List (List Int)) (cz : Nat) (cut : Int) (w : World) (hr : RowIs .u8 w a La) (hBa : BYL La) (hLa : La.length ≤ maxLen) (hG : GridIs .u8 w g A C Z) (hZ : Z.length ≤ maxLen) (hv : ∀ i, i < Z.length → (Z.getD i []).length ≤ maxLen ∧ ∀ n ∈ Z.getD i [], (Lit.int .u8 n).wf = true) (hcut : -9223372036854775808 ≤ cut ∧ cut ≤ 9223372036854775807) : Calls Try.prog 12 #[.slice a La.length ca, .slice g Z.length cz, .int .i64 cut] w fun e w' => e = .returned (.bool true) ∧ Below w.heap.size w w' := by
  have LV := Lib.hid (fun u => lives47 u)
  have hR : ∀ i, i < Z.length → (Z.getD i []).length ≤ maxLen := fun i hi => (hv i hi).1
  have hB : ∀ i, i < Z.length → BYL (Z.getD i []) := fun i hi => byl_of (hv i hi).2
  have GT := lgreat47 g A C Z cz w hG hZ hR
  have mA : (La.length : Int) ≤ 9223372036854775807 := by unfold maxLen at hLa; omega
  by_cases hg : gr47 Z = true
  · rw [hg] at GT
    replace GT := Lib.hid GT
    clear hG hv hR hg hB hr
    go_enter Try.func12, Try.ntmps12
    go_wp2_with fail
    refine GT.out.mono ?_
    rintro e u0 ⟨rfl, rfl⟩
    go_wp2_with fail
    refine (LV.out _).mono ?_
    rintro e u1 ⟨rfl, hb⟩
    go_wp2
    go_ret
    exact ⟨rfl, hb⟩
  · have g1 : Z.length ≤ 50 := by
      by_cases q : Z.length ≤ 50
      · exact q
      · exact absurd (show gr47 Z = true by unfold gr47; rw [decide_eq_true (show 50 < Z.length by omega), Bool.true_or]) hg
    rw [Bool.eq_false_iff.2 hg] at GT
    replace GT := Lib.hid GT
    by_cases hc : La.length ≤ 300 ∧ 1 ≤ cut
    · have q1 : ¬ (300 : Int) < (La.length : Int) := by omega
      have q2 : ¬ cut < 1 := by omega
      have RW := srow g A C Z cz w hG (by omega) hR hB
      have HRa := Lib.hid (fun u (k : Below w.heap.size w u) => hr.below k)
      have HRl := Lib.hid (fun c e (q : 1 ≤ La.length) => row_lt hr q c e)
      have HG := Lib.hid (fun u (k : Below w.heap.size w u) => hG.below k)
      have BA := Lib.hid hBa
      have BZ := Lib.hid (show ∀ b ∈ Z, BYL b from fun b hb => by obtain ⟨i, hi, rfl⟩ := List.getElem_of_mem hb; have := hB i hi; simpa [List.getD, hi] using this)
      obtain ⟨n, en⟩ : ∃ n, Z.length = n := ⟨_, rfl⟩
      have EN := Lib.hid en
      obtain ⟨m, em⟩ : ∃ m, La.length = m := ⟨_, rfl⟩
      have EM := Lib.hid em
      have HM := Lib.hid (show m ≤ 300 by omega)
      have HN := Lib.hid (show n ≤ 50 by omega)
      have CU := Lib.hid hc.2
      rw [en] at GT RW ⊢
      rw [em] at q1 ⊢
      replace GT := Lib.hid GT.out
      have ALL := Lib.hid (fun (q : okRB Z = true) => okRB_all q)
      generalize okRB Z = OKZ at *
      replace RW := Lib.hid RW
      clear hG hv hR hB hg g1 hc hr mA hZ en em hLa
      go_enter Try.func12, Try.ntmps12
      go_wp2_with fail
      refine GT.out.mono ?_
      rintro e u0 ⟨rfl, rfl⟩
      clear GT
      go_wp2_with fail
      refine RW.out.mono ?_
      intro e w1 hE
      cases OKZ with
      | false =>
        obtain ⟨rfl, hb⟩ := hE
        replace hb := Lib.hid hb
        clear RW ALL
        go_wp2_with fail
        refine (LV.out _).mono ?_
        rintro e u1 ⟨rfl, hb2⟩
        have hb3 := Lib.hid (hb.out.trans (hb2.mono hb.out.size))
        clear hb2
        go_wp2
        go_ret
        exact ⟨rfl, hb3.out⟩
      | true =>
        obtain ⟨xr, rfl, hOr, hb1⟩ := hE
        obtain ⟨ar, cr, rfl, hcr, hrr, -, hsr⟩ := hOr.rowIs
        have ALZ := ALL.out rfl
        have RB := Lib.hid (rowL_byl BZ.out)
        have RLN := Lib.hid (rowL_len (fun b hb => (ALZ b hb).2))
        have RF := Lib.hid (fdF_row Z ALZ)
        have RC := Lib.hid (cnt6_row Z)
        generalize rowL Z = R at *
        obtain ⟨T, eT⟩ : ∃ T, R.length = T := ⟨_, rfl⟩
        have ET := Lib.hid eT
        rw [eT] at hcr ⊢
        have TB := Lib.hid (show T ≤ 6700 by have := RLN.out; have := EN.out; have := HN.out; omega)
        have tb : (T : Int) ≤ 6700 := by have := TB.out; omega
        have tc : (T : Int) ≤ (cr : Int) := by omega
        have HCR := Lib.hid hcr
        have HRR := Lib.hid (fun u (k : Below w1.heap.size w1 u) => hrr.below k)
        have HS1 := Lib.hid (show w.heap.size ≤ w1.heap.size from hb1.size)
        have HB1 := Lib.hid hb1
        obtain ⟨V, eV, hbV, hsV, hF⟩ := fd_new w1
        have hbVw := Lib.hid (show Below w.heap.size w V from hb1.trans (hbV.mono hb1.size))
        have P1 := spush a ca La V hF (by omega) (HRa.out V hbVw.out) (fun q c e => ⟨by have := HRl.out c e q; have := HS1.out; omega, by simp [ogB]⟩) (by have := EM.out; have := HM.out; omega) BA.out ⟨by omega, by omega⟩ ⟨by omega, by omega⟩
        rw [EM.out] at P1
        replace P1 := Lib.hid P1
        replace eV := Lib.hid eV
        have HSV := Lib.hid hsV
        have HBV := Lib.hid hbV
        clear RW ALL ALZ hOr hb1 hrr hsr hF hbV hsV eT hcr
        go_upto_region 7 with (fail)
        rw [← eV.out]
        go_wp2_with fail
        refine P1.out.mono ?_
        rintro e v1 ⟨x1, y1, G1, rfl, hS1⟩
        clear P1
        have FB1 := Lib.hid (fdF_bd [] La)
        have hx1 := Lib.hid (fun g (e : ogB x1 = some g) => hS1.fd.h.lt e)
        have sz1 := Lib.hid (show w1.heap.size + 1 ≤ v1.heap.size from by have := HSV.out; have := hS1.k.size; omega)
        have hb1 := Lib.hid (show Below w1.heap.size w1 v1 from HBV.out.trans (hS1.k.bel (Nat.le_refl _) (fun g e => by simp [ogB] at e) (by have := HSV.out; omega)))
        have hF1 := Lib.hid hS1.fd
        clear hS1
        have hA := Lib.hid ((Below.refl v1.heap.size v1).alloc (Nat.le_refl _) (.cells #[.int .u8 126] 5))
        obtain ⟨aN, cN, eN, -, hrN, -, -⟩ := (show Og 5 v1.heap.size (.slice (some ⟨v1.heap.size, 0, none⟩) 1 1) (nvals .u8 [126]) (v1.alloc (.cells #[.int .u8 126] 5)) from Og.new 5 v1 [.int .u8 126]).rowIs
        injection eN with eN1 eN2 eN3
        subst eN1
        clear eN2 eN3
        have P2 := spush (some ⟨v1.heap.size, 0, none⟩) 1 [126] _ (hF1.out.keep hA.out) (by have := sz1.out; simp; omega) hrN (fun _ c e => by injection e with e; subst e; exact ⟨by have := sz1.out; show v1.heap.size ≠ _; omega, fun q => by have := (hx1.out _ q).2; simp at this⟩) (by simp) (fun b hb => by simp at hb; omega) ⟨by omega, by have := FB1.out; have := EM.out; have := HM.out; omega⟩ ⟨by omega, by have := FB1.out; have := EM.out; have := HM.out; omega⟩
        have P2 := Lib.hid (show Calls Try.prog 36 #[.pointer (some ⟨w1.heap.size, 0, none⟩), .slice (some ⟨v1.heap.size, 0, none⟩) 1 1] (v1.alloc (.cells #[.int .u8 126] 5)) _ from P2)
        clear hrN
        go_wp2_with fail
        refine P2.out.mono ?_
        rintro e v2 ⟨x2, y2, G2, rfl, hS2⟩
        clear P2
        have hF2 := hS2.fd
        rw [fdF_126] at hF2
        have hb2 := Lib.hid (show Below w1.heap.size w1 v2 from hb1.out.trans ((hA.out.mono (by have := sz1.out; omega)).trans (hS2.k.bel (Nat.le_refl _) (fun g e => by have := (hx1.out g e).1; omega) (by have := sz1.out; simp; omega))))
        have FB2 := Lib.hid (fdF_bd (fdF [] La).2.2 [126])
        generalize hf2 : (0 : Int) + ((fdF [] La).1.length : Int) + ((fdF (fdF [] La).2.2 [126]).1.length : Int) = f2 at *
        generalize hr2 : (0 : Int) + ((fdF [] La).2.1 : Int) + ((fdF (fdF [] La).2.2 [126]).2.1 : Int) = r2 at *
        have F2B := Lib.hid (show 0 ≤ f2 ∧ f2 ≤ 400 from by have := FB1.out; have := FB2.out; have := EM.out; have := HM.out; simp only [List.length_cons, List.length_nil] at *; omega)
        have R2B := Lib.hid (show 0 ≤ r2 ∧ r2 ≤ 400 from by have := FB1.out; have := FB2.out; have := EM.out; have := HM.out; simp only [List.length_cons, List.length_nil] at *; omega)
        have SC := Lib.hid (scount v2 hF2)
        replace hF2 := Lib.hid hF2
        clear hS2 hf2 hr2 hA hF1 hx1 hb1 FB1 FB2 sz1
        go_wp2_with fail
        refine SC.out.mono ?_
        rintro e v3 ⟨rfl, hb3⟩
        clear SC
        have GS := Lib.hid (GoS.start (hF2.out.keep hb3))
        have hK := Lib.hid (show Below w1.heap.size w1 v3 from hb2.out.trans (hb3.mono hb2.out.size))
        clear hF2 hb2 hb3
        generalize v3.heap.size = Bg at *
        go_wp2_with fail
        go_loopw [12, 13] (fun y i v => ∃ (t : Nat) (x' y' : Value) (G : List (Nat × Nat × List Int)), t ≤ T ∧ y = y' ∧ i = .int .i64 (t : Int) ∧ Hid (GoS (w1.heap.size + 1) w1.heap.size Bg f2 r2 (R.take t) x' y' G v) ∧ Hid (Below w1.heap.size w1 v)) (fun _ i _ => T - (intOf i).toNat)
        case atStart => exact ⟨0, _, _, _, by omega, rfl, rfl, GS, hK⟩
        case round =>
          clear GS hK
          obtain ⟨t, x', y', G, ht, rfl, rfl, hS, hK⟩ := hrel
          generalize wr = v at *
          by_cases hlt : t < T
          · obtain ⟨d, hd1, hd2, hd3⟩ : ∃ d : Nat, (d : Int) = min cut ((T : Int) - (t : Int)) ∧ 1 ≤ d ∧ t + d ≤ T := ⟨(min cut ((T : Int) - (t : Int))).toNat, by have := CU.out; omega, by have := CU.out; omega, by have := CU.out; omega⟩
            have h1 : (t : Int) < (T : Int) := by omega
            have s1 : IntKind.i64.wrap ((T : Int) - (t : Int)) = (T : Int) - (t : Int) := by rw [IntKind.wrap_i64]; omega
            obtain ⟨gb, ob, rfl, hgl, -⟩ := rowIs_sub (HRR.out w1 (Below.refl _ _)) t d (by rw [ET.out]; omega) hd2
            obtain ⟨gb2, ob2, e2, -, hsub⟩ := rowIs_sub (HRR.out v hK.out) t d (by rw [ET.out]; omega) hd2
            injection e2 with e2
            injection e2 with e3 e4 e5
            subst e3 e4
            clear e5
            have j1 : ¬ cr = t := by have := HCR.out; omega
            have j2 : cr - t ≠ 0 := by have := HCR.out; omega
            have s2 : IntKind.i64.wrap ((t : Int) + min cut ((T : Int) - (t : Int))) = (t : Int) + min cut ((T : Int) - (t : Int)) := by rw [IntKind.wrap_i64]; omega
            have j3 : (0 : Int) ≤ (t : Int) := by omega
            have j4 : (t : Int) ≤ (t : Int) + min cut ((T : Int) - (t : Int)) := by omega
            have j5 : (t : Int) + min cut ((T : Int) - (t : Int)) ≤ (cr : Int) := by have := HCR.out; omega
            have j6 : ((t : Int) + min cut ((T : Int) - (t : Int))).toNat - t = d := by omega
            have LD : ((R.drop t).take d).length = d := by rw [List.length_take, List.length_drop, ET.out]; omega
            have LT := Lib.hid (show (R.take t).length ≤ 6700 by rw [List.length_take, ET.out]; have := TB.out; omega)
            have FB := Lib.hid (fdF_bd [] (R.take t))
            have VZ := Lib.hid (show w1.heap.size + 1 ≤ v.heap.size by have := hS.out.bn; omega)
            have hSo := Lib.hid hS.out
            have P3 := spush (some ⟨gb, ob + t, none⟩) (cr - t) ((R.drop t).take d) v hS.out.fd VZ.out hsub (fun _ c e => by injection e with e; subst e; exact ⟨by show gb ≠ _; omega, fun q => by have q1 := (hSo.out.fd.h.lt q).1; have q2 : w1.heap.size + 1 ≤ gb := q1; omega⟩) (by rw [LD]; have := TB.out; omega) (fun b hb => RB.out b (List.mem_of_mem_drop (List.mem_of_mem_take hb))) ⟨by have := F2B.out; omega, by have := FB.out; have := F2B.out; have := LT.out; omega⟩ ⟨by have := R2B.out; omega, by have := FB.out; have := R2B.out; have := LT.out; omega⟩
            rw [LD] at P3
            replace P3 := Lib.hid P3
            clear hsub
            replace hgl := Lib.hid hgl
            go_upto_region 13 with (fail)
            refine P3.out.mono ?_
            rintro e v2 ⟨x2, y2, G2, rfl, hS2⟩
            clear P3
            replace hS2 := Lib.hid hS2
            have hO2 := Lib.hid (hSo.out.yo.fdk hS2.out.k (fun g hg => by have := (hSo.out.yo.lt hg).1; have := hSo.out.bn; omega) (fun g hg e => hSo.out.sxy g e hg))
            have hz2 := Lib.hid (show Bg ≤ v2.heap.size from by have := hSo.out.bn; have := hS2.out.k.size; omega)
            have YL := Lib.hid (show G.length ≤ 20000 from by have := congrArg List.length hSo.out.go; rw [List.length_map] at this; have := FB.out; have := LT.out; omega)
            have YL2 := Lib.hid (show G2.length ≤ 20000 from by have e := congrArg List.length hS2.out.go; rw [List.length_map] at e; have f := fdF_bd (fdF [] (R.take t)).2.2 ((R.drop t).take d); have := FB.out; have := LT.out; have := TB.out; rw [LD] at f; omega)
            have SR := Lib.hid (hS2.out.yo.src (t := 51) Try.underlying51 (pkV_one _))
            clear LD
            go_upto_region 14 with (first | (at_builtin; go_loud (refine wpList_append_og _ rfl (.tmp 58) (.tmp 70) 51 51 rfl 22 (.slice none 0 0) 24 Try.underlying51 (by kernel_rfl) rfl Bg u12 _ rfl hO2.out hz2.out _ _ _ rfl SR.out (by rw [pkV_len, pkV_len]; have := YL.out; have := YL2.out; unfold maxLen; omega) (by rw [pkV_len, pkV_len]; have := YL.out; have := YL2.out; omega) ?_; intro x7 w7 hO7 hK7 hN7)))
            have hS3 := Lib.hid (hSo.out.step hS2.out hO7 hK7 hN7)
            have TD := Lib.hid (show R.take t ++ (R.drop t).take d = R.take (t + d) from by rw [List.take_add])
            have hK3 := Lib.hid (show Below w1.heap.size w1 w7 from hK.out.trans ((hS2.out.k.bel (Nat.le_refl _) (fun g e => by have := (hSo.out.fd.h.lt e).1; omega) (by have := VZ.out; omega)).trans (hK7.bel (fun g hg => by have := (hO2.out.lt hg).1; have := hSo.out.bn; omega) (by have := hz2.out; have := hSo.out.bn; omega))))
            rw [TD.out] at hS3
            clear hO7 hK7 hN7 hO2 hz2 YL YL2 SR hS2 hSo FB TD hS hK
            go_wp2
            go_roundw
            case rel => exact ⟨t + d, _, _, _, hd3, rfl, by first | rfl | go_num, hS3, hK3⟩
            case measure => simp [intOf]; omega
          · have tT : t = T := by omega
            have h1 : ¬ (t : Int) < (T : Int) := by omega
            have tk : R.take t = R := List.take_of_length_le (by rw [ET.out]; omega)
            have hSo := hS.out
            rw [tk] at hSo
            have hF := hSo.fd
            have hgo := hSo.go
            rw [RF.out] at hF hgo
            obtain ⟨ay, cy, A2, C2, ey, hG2⟩ := grid_of_pk hSo.yo hSo.rows
            rw [hgo] at hG2 ey
            rw [EN.out] at ey
            replace hF := Lib.hid (hF.re (f' := f2 + (n : Int)) (r' := r2) (by simp [EN.out]) (by simp))
            have SC := Lib.hid (scount v hF.out)
            have hG2 := Lib.hid (fun u k => hG2.below (w' := u) k)
            have hw := Lib.hid (show Below w.heap.size w v from HB1.out.trans (hK.out.mono HS1.out))
            have hKv := hK
            clear hSo hS tk hgo hK
            subst ey
            have s3 : IntKind.i64.wrap (f2 + (n : Int) - f2) = (n : Int) := by rw [IntKind.wrap_i64]; have := HN.out; omega
            have hG2 := Lib.hid (show ∀ u, Below v.heap.size v u → GridIs .u8 u ay A2 C2 Z from hG2.out)
            go_wp2_with fail
            refine SC.out.mono ?_
            rintro e v4 ⟨rfl, hb4⟩
            clear SC
            have SM := rsame47 ay g A2 A C2 C Z cy cz v4 (hG2.out v4 hb4) (HG.out v4 (hw.out.trans (hb4.mono hw.out.size))) (by have := EN.out; have := HN.out; unfold maxLen; omega)
            rw [EN.out] at SM
            replace SM := Lib.hid SM
            have hF4 := Lib.hid (hF.out.keep hb4)
            have hw4 := Lib.hid (show Below w.heap.size w v4 from hw.out.trans (hb4.mono hw.out.size))
            have hK4 := Lib.hid (show Below w1.heap.size w1 v4 from hKv.out.trans (hb4.mono hKv.out.size))
            clear hb4 hG2 hw hF hKv
            go_wp2_with fail
            refine SM.out.mono ?_
            rintro e v5 ⟨rfl, hb5⟩
            clear SM
            have SP := Lib.hid (show Calls Try.prog 40 #[.pointer (some ⟨w1.heap.size, 0, none⟩)] v5 fun e w' => e = .returned (.int .i64 0) ∧ v5 = w' from spend v5 (hF4.out.keep hb5))
            have hw5 := Lib.hid (show Below w.heap.size w v5 from hw4.out.trans (hb5.mono hw4.out.size))
            have hK5 := Lib.hid (show Below w1.heap.size w1 v5 from hK4.out.trans (hb5.mono hK4.out.size))
            clear hb5 hF4 hw4 hK4
            go_wp2_with fail
            refine SP.out.mono ?_
            rintro e v6 ⟨rfl, rfl⟩
            clear SP
            go_wp2_with fail
            go_loopw [16, 17] (fun c i v => ∃ k : Nat, k ≤ T ∧ c = .int .i64 (cnt6 (R.take k) : Int) ∧ i = .int .i64 (k : Int) ∧ Hid (Below w1.heap.size w1 v) ∧ Hid (Below w.heap.size w v)) (fun _ i _ => T - (intOf i).toNat)
            case atStart => exact ⟨0, by omega, rfl, rfl, hK5, hw5⟩
            case round =>
              clear hK5 hw5
              obtain ⟨k, hk, rfl, rfl, hK, hw⟩ := hrel
              generalize wr = v at *
              by_cases hl2 : k < T
              · have j1 : (k : Int) < (T : Int) := by omega
                have j0 : 0 ≤ (k : Int) := by omega
                have s4 : IntKind.i64.wrap ((k : Int) + 1) = (k : Int) + 1 := by rw [IntKind.wrap_i64]; omega
                have CS := Lib.hid (cnt6_snoc (l := R) (k := k) (by rw [ET.out]; exact hl2))
                have CL := cnt6_le (R.take k)
                rw [List.length_take] at CL
                have s5 : IntKind.i64.wrap ((cnt6 (R.take k) : Int) + 1) = (cnt6 (R.take k) : Int) + 1 := by rw [IntKind.wrap_i64]; omega
                clear CL
                obtain ⟨g1, o1, rfl, hl1, hc1⟩ := (HRR.out v hK.out).at (show k < R.length by rw [ET.out]; exact hl2)
                by_cases hx : R.getD k 0 = 126
                · rw [if_pos hx] at CS
                  generalize R.getD k 0 = z at *
                  subst hx
                  replace hl1 := Lib.hid hl1
                  go_wp2
                  go_roundw
                  case rel => exact ⟨k + 1, by omega, by first | (rw [CS.out]; rfl) | (rw [CS.out]; go_num), by first | rfl | go_num, hK, hw⟩
                  case measure => simp [intOf]; omega
                · rw [if_neg hx] at CS
                  generalize R.getD k 0 = z at *
                  replace hl1 := Lib.hid hl1
                  go_wp2
                  go_roundw
                  case rel => exact ⟨k + 1, by omega, by first | (rw [CS.out]; rfl) | (rw [CS.out]; go_num), by first | rfl | go_num, hK, hw⟩
                  case measure => simp [intOf]; omega
              · have j1 : ¬ (k : Int) < (T : Int) := by omega
                have tk : R.take k = R := List.take_of_length_le (by rw [ET.out]; omega)
                have s6 : IntKind.i64.wrap (2 * (n : Int)) = 2 * (n : Int) := by rw [IntKind.wrap_i64]; have := HN.out; omega
                have e6 : (cnt6 (R.take k) : Int) = 2 * (n : Int) := by rw [tk, RC.out, EN.out]; omega
                generalize (cnt6 (R.take k) : Int) = c6 at *
                subst e6
                go_wp2_with fail
                refine (LV.out _).mono ?_
                rintro e u1 ⟨rfl, hb2⟩
                have hb3 := Lib.hid (hw.out.trans (hb2.mono hw.out.size))
                clear hb2
                go_wp2
                go_ret
                exact ⟨rfl, hb3.out⟩
    · have cc : ((300 : Int) < (La.length : Int)) ∨ (¬ (300 : Int) < (La.length : Int) ∧ cut < 1) := by omega
      clear hc
      rcases cc with q | ⟨q, q2⟩
      · clear hG hv hR hg hB hr
        go_enter Try.func12, Try.ntmps12
        go_wp2_with fail
        refine GT.out.mono ?_
        rintro e u0 ⟨rfl, rfl⟩
        go_wp2_with fail
        refine (LV.out _).mono ?_
        rintro e u1 ⟨rfl, hb⟩
        go_wp2
        go_ret
        exact ⟨rfl, hb⟩
      · clear hG hv hR hg hB hr
        go_enter Try.func12, Try.ntmps12
        go_wp2_with fail
        refine GT.out.mono ?_
        rintro e u0 ⟨rfl, rfl⟩
        go_wp2_with fail
        refine (LV.out _).mono ?_
        rintro e u1 ⟨rfl, hb⟩
        go_wp2
        go_ret
        exact ⟨rfl, hb⟩
end Go.Proofs.Ytpcbnoefgknihaa
