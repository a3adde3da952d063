/- The law StreamSpoilt; walked. -/
import Derived.Test.YtpcbnoefgknihaaStmD
namespace Go.Proofs.Ytpcbnoefgknihaa
open Go.ChangeShapes Go.WideShapes Go.ChangeAt Go.RowKit
set_option linter.unusedVariables false
set_option linter.unusedSimpArgs false
theorem sp_box (w : World) (x0 x1 : Int) : ∃ V, V = w.alloc (.cells #[.int .i64 x0, .int .i64 x1] 49) ∧ Below w.heap.size w V ∧ V.heap.size = w.heap.size + 1 ∧ ∀ u, Below (w.heap.size + 1) V u → u.cell? ⟨w.heap.size, 0, none⟩ = some (.int .i64 x0) ∧ u.cell? ⟨w.heap.size, 1, none⟩ = some (.int .i64 x1) :=
  ⟨_, rfl, (Below.refl _ _).alloc (Nat.le_refl _) _, by simp, fun u hu => ⟨(bc hu (by omega)).trans (by go_simp), (bc hu (by omega)).trans (by go_simp)⟩⟩
theorem spack_any (a : Option Addr) (cap : Nat) (L : List Int) (w : World) (hr : RowIs .u8 w a L) (hL : L.length ≤ maxLen) (hB : BYL L) : Calls Try.prog 33 #[.slice a L.length cap] w fun e w' => ∃ y z, e = .returned (.tuple #[y, .int .i64 z]) ∧ Below w.heap.size w w' := by
  by_cases h : 1 ≤ L.length ∧ L.length ≤ 64
  · refine (spack a cap L w hr h.1 h.2 hB).mono fun e w' h => ?_
    obtain ⟨x, rfl, -, hb⟩ := h
    exact ⟨_, _, rfl, hb⟩
  · refine (spack_no a L.length cap w (by omega) hL).mono fun e w' h => ?_
    obtain ⟨rfl, rfl⟩ := h
    exact ⟨_, _, rfl, Below.refl _ _⟩
set_option maxRecDepth 100000 in
set_option maxHeartbeats 8000000 in
theorem law_StreamSpoilt (a b : Option Addr) (ca cb : Nat) (P Q : List Int) (x0 x1 : Int) (w : World) (hr : RowIs .u8 w a P) (hs : RowIs .u8 w b Q) (hBp : BYL P) (hBq : BYL Q) (hLp : P.length ≤ maxLen) (hLq : Q.length ≤ maxLen) (hx0 : -9223372036854775808 ≤ x0 ∧ x0 ≤ 9223372036854775807) (hx1 : -9223372036854775808 ≤ x1 ∧ x1 ≤ 9223372036854775807) : Calls Try.prog 13 #[.slice a P.length ca, .slice b Q.length cb, .agg #[.int .i64 x0, .int .i64 x1]] w fun e w' => e = .returned (.bool true) ∧ Below w.heap.size w w' := by
  have LV := Lib.hid (fun u => lives47 u)
  obtain ⟨V, eV, hbV, hsV, hcV⟩ := sp_box w x0 x1
  have RP := Lib.hid (fun u (k : Below w.heap.size w u) => hr.below k)
  have RQ := Lib.hid (fun u (k : Below w.heap.size w u) => hs.below k)
  have HBV := Lib.hid hbV
  have HSV := Lib.hid hsV
  have CV := Lib.hid hcV
  replace eV := Lib.hid eV
  have BP := Lib.hid hBp
  have BQ := Lib.hid hBq
  have LQ := Lib.hid hLq
  have LP := Lib.hid hLp
  have X1 := Lib.hid hx1
  clear hr hs hbV hsV hcV hBp hBq hLq hLp hx1
  obtain ⟨n, en⟩ : ∃ n, P.length = n := ⟨_, rfl⟩
  obtain ⟨m, em⟩ : ∃ m, Q.length = m := ⟨_, rfl⟩
  have EN := Lib.hid en
  have EM := Lib.hid em
  rw [en, em]
  clear en em
  by_cases hp : 1 ≤ n ∧ n ≤ 64
  · have HP := Lib.hid hp
    clear hp
    have PA := Lib.hid (spack a ca P V (RP.out V HBV.out) (by rw [EN.out]; exact HP.out.1) (by rw [EN.out]; exact HP.out.2) BP.out)
    rw [EN.out] at PA
    replace PA := Lib.hid PA.out
    obtain ⟨A, eA⟩ : ∃ A, pkL P = A := ⟨_, rfl⟩
    obtain ⟨T, eT⟩ : ∃ T, A.length = T := ⟨_, rfl⟩
    have EA := Lib.hid eA
    have ET := Lib.hid eT
    have TB := Lib.hid (show 5 ≤ T ∧ T ≤ 134 from by have h1 := pkL_len P; have h2 := (esL_len (smL P)).1; have := HP.out; have := EN.out; rw [← eT, ← eA]; simp [pkL, smL] at *; omega)
    rw [eA] at PA
    replace PA := Lib.hid PA.out
    clear eA eT
    have t3 : ¬ (T : Int) < 3 := by have := TB.out; omega
    go_enter Try.func13, Try.ntmps13
    go_wp2_with fail
    rw [← eV.out]
    go_wp2_with fail
    refine PA.out.mono ?_
    rintro e u1 ⟨xa, rfl, hOa, hb1⟩
    clear PA
    have hb1 := Lib.hid hb1
    have hB1 := Lib.hid (show Below (w.heap.size + 1) V u1 from hb1.out.mono (by have := HSV.out; omega))
    have hw1 := Lib.hid (show Below w.heap.size w u1 from HBV.out.trans (hB1.out.mono (by omega)))
    have hOa := Lib.hid hOa
    obtain ⟨aa, cA, rfl, hcA, -, hnn, hsa⟩ := hOa.out.rowIs
    obtain ⟨ga, oa, rfl⟩ : ∃ ga oa, aa = some ⟨ga, oa, none⟩ := by
      cases aa with
      | none => have h := congrArg List.length (hnn rfl).1; rw [ET.out] at h; have := TB.out; simp at h; omega
      | some aa => obtain ⟨ga, oa, sp⟩ := aa; have h := (hsa _ rfl).1; have h : sp = none := h; subst h; exact ⟨ga, oa, rfl⟩
    rw [ET.out] at hcA
    have hOa2 := Lib.hid (show Og 5 V.heap.size (.slice (some ⟨ga, oa, none⟩) T cA) (nvals .u8 A) u1 from by have := hOa.out; rw [ET.out] at this; exact this)
    rw [ET.out]
    replace hcA := Lib.hid hcA
    clear hnn hsa hOa hb1
    by_cases hq : 1 ≤ m ∧ m ≤ 64
    · have HQ := Lib.hid hq
      clear hq
      have PB := spack b cb Q u1 (RQ.out u1 hw1.out) (by rw [EM.out]; exact HQ.out.1) (by rw [EM.out]; exact HQ.out.2) BQ.out
      rw [EM.out] at PB
      replace PB := Lib.hid PB
      go_wp2_with fail
      refine PB.out.mono ?_
      rintro e u2 ⟨xb, rfl, hOb, hb2⟩
      clear PB
      have hB2 := Lib.hid (show Below (w.heap.size + 1) V u2 from hB1.out.trans (hb2.mono (by have := hB1.out.size; have := HSV.out; omega)))
      have hw2 := Lib.hid (show Below w.heap.size w u2 from hw1.out.trans (hb2.mono hw1.out.size))
      have hO2 := Lib.hid (hOa2.out.bel hb2)
      have GA := Lib.hid (show V.heap.size ≤ ga ∧ ga < u1.heap.size ∧ u1.heap.size ≤ u2.heap.size from ⟨(hOa2.out.lt (g := ga) rfl).1, (hOa2.out.lt (g := ga) rfl).2, hb2.size⟩)
      have hOb := Lib.hid hOb
      clear hOa2 hb2 hB1 hw1
      obtain ⟨k0, k1⟩ := CV.out u2 hB2.out
      have w1 : IntKind.i64.wrap ((T : Int) - 1) = (T : Int) - 1 := by rw [IntKind.wrap_i64]; have := TB.out; omega
      by_cases y1 : x0 < 1
      · go_wp2_with fail
        refine (LV.out _).mono ?_
        rintro e u9 ⟨rfl, hb9⟩
        have hb8 := Lib.hid (show Below w.heap.size w u9 from hw2.out.trans (hb9.mono hw2.out.size))
        clear hb9
        go_wp2
        go_ret
        exact ⟨rfl, hb8.out⟩
      · by_cases y2 : x0 < (T : Int) - 1
        · obtain ⟨t, rfl⟩ : ∃ t : Nat, x0 = (t : Int) := ⟨x0.toNat, by omega⟩
          have j0 : (0 : Int) ≤ (t : Int) := by omega
          have j1 : ¬ (T : Int) - 1 ≤ (t : Int) := by omega
          have j2 : (t : Int) < (T : Int) := by omega
          have w2 : IntKind.i64.wrap ((t : Int) - 1) = ((t - 1 : Nat) : Int) := by rw [IntKind.wrap_i64]; omega
          have j3 : ((t - 1 : Nat) : Int) < (T : Int) := by omega
          have j4 : (0 : Int) ≤ ((t - 1 : Nat) : Int) := by omega
          have RR := hO2.out.rowIs
          obtain ⟨aa, cc, e1, -, RR, -, -⟩ := RR
          injection e1 with e1 e2 e3
          subst e1
          clear e2 e3
          have ra := RR.at (show t < A.length by rw [ET.out]; omega)
          have rb := RR.at (show t - 1 < A.length by rw [ET.out]; omega)
          obtain ⟨g1, o1, e1, hl1, ra⟩ := ra
          injection e1 with e1
          injection e1 with e1 e2
          subst e1 e2
          obtain ⟨g1, o1, e1, hl1b, rb⟩ := rb
          injection e1 with e1
          injection e1 with e1 e2
          subst e1 e2
          clear hl1b
          replace hl1 := Lib.hid hl1
          clear RR
          have WA := Lib.hid (show A.getD t 0 = A.getD t 0 from rfl)
          obtain ⟨c, ec⟩ : ∃ c, IntKind.u8.wrap x1 = c := ⟨_, rfl⟩
          have CB := Lib.hid (show 0 ≤ c ∧ c < 256 from by rw [← ec, IntKind.wrap_u8]; omega)
          have FS := Lib.hid (fun (h1 : A.getD t 0 ≠ 125) (h2 : A.getD (t - 1) 0 ≠ 125) (h3 : c ≠ 125) (h4 : c ≠ 126) (h5 : c ≠ A.getD t 0) => show fdF [] (A.set t c ++ pkL Q) = ([Q], 1, []) from by
            have e := EA.out
            have eT := ET.out
            subst e
            exact fdF_spoilt BP.out (by rw [EM.out]; exact HQ.out) (by omega) (by rw [eT]; omega) h1 h2 CB.out h3 h4 h5)
          have BA := Lib.hid (show BYL A from by rw [← EA.out]; exact pkL_byl BP.out)
          generalize hwas : A.getD t 0 = was at *
          generalize hprev : A.getD (t - 1) 0 = prev at *
          clear WA hwas hprev
          by_cases z1 : was = 125
          · subst z1
            go_wp2_with fail
            refine (LV.out _).mono ?_
            rintro e u9 ⟨rfl, hb9⟩
            have hb8 := Lib.hid (show Below w.heap.size w u9 from hw2.out.trans (hb9.mono hw2.out.size))
            clear hb9
            go_wp2
            go_ret
            exact ⟨rfl, hb8.out⟩
          · by_cases z2 : prev = 125
            · subst z2
              go_wp2_with fail
              refine (LV.out _).mono ?_
              rintro e u9 ⟨rfl, hb9⟩
              have hb8 := Lib.hid (show Below w.heap.size w u9 from hw2.out.trans (hb9.mono hw2.out.size))
              clear hb9
              go_wp2
              go_ret
              exact ⟨rfl, hb8.out⟩
            · by_cases z3 : c = 125
              · subst z3
                go_wp2_with fail
                refine (LV.out _).mono ?_
                rintro e u9 ⟨rfl, hb9⟩
                have hb8 := Lib.hid (show Below w.heap.size w u9 from hw2.out.trans (hb9.mono hw2.out.size))
                clear hb9
                go_wp2
                go_ret
                exact ⟨rfl, hb8.out⟩
              · by_cases z4 : c = 126
                · subst z4
                  go_wp2_with fail
                  refine (LV.out _).mono ?_
                  rintro e u9 ⟨rfl, hb9⟩
                  have hb8 := Lib.hid (show Below w.heap.size w u9 from hw2.out.trans (hb9.mono hw2.out.size))
                  clear hb9
                  go_wp2
                  go_ret
                  exact ⟨rfl, hb8.out⟩
                · by_cases z5 : c = was
                  · subst z5
                    go_wp2_with fail
                    refine (LV.out _).mono ?_
                    rintro e u9 ⟨rfl, hb9⟩
                    have hb8 := Lib.hid (show Below w.heap.size w u9 from hw2.out.trans (hb9.mono hw2.out.size))
                    clear hb9
                    go_wp2
                    go_ret
                    exact ⟨rfl, hb8.out⟩
                  · have FS := Lib.hid (FS.out z1 z2 z3 z4 z5)
                    have d1 : decide ((T : Int) < 3) = false := decide_eq_false (by have := TB.out; omega)
                    have d2 : decide ((t : Int) < 1) = false := decide_eq_false (by omega)
                    have d3 : decide ((T : Int) - 1 ≤ (t : Int)) = false := decide_eq_false (by omega)
                    have d4 : decide (was = 125) = false := decide_eq_false z1
                    have d5 : decide (prev = 125) = false := decide_eq_false z2
                    have d6 : decide (c = 125) = false := decide_eq_false z3
                    have d7 : decide (c = 126) = false := decide_eq_false z4
                    have d8 : decide (c = was) = false := decide_eq_false z5
                    have f4 : (was == 125) = false := by simpa using z1
                    have f5 : (prev == 125) = false := by simpa using z2
                    have f6 : (c == 125) = false := by simpa using z3
                    have f7 : (c == 126) = false := by simpa using z4
                    have f8 : (c == was) = false := by simpa using z5
                    have fz := hO2.out.frz (oa + t)
                    go_upto_region 9 with (fail)
                    clear d1 d2 d3 d4 d5 d6 d7 d8 f4 f5 f6 f7 f8
                    go_upto_region 10 with (fail)
                    have e9 := ec
                    obtain ⟨U3, eU3⟩ : ∃ U3, U3 = u2.setCell ⟨ga, oa + t, none⟩ (.int .u8 c) := ⟨_, rfl⟩
                    rw [← eU3]
                    have hO3 := Lib.hid (show Og 5 V.heap.size (.slice (some ⟨ga, oa, none⟩) T cA) (nvals .u8 (A.set t c)) U3 from by rw [← nvals_set, eU3]; exact hO2.out.set (by rw [nvals_len, ET.out]; omega) _)
                    have s3 := Lib.hid (show U3.heap.size = u2.heap.size from by rw [eU3]; simp)
                    have hb3 := Lib.hid (show Below (w.heap.size + 1) V U3 from by rw [eU3]; exact hB2.out.setCell (p := ⟨ga, oa + t, none⟩) (by have := GA.out; have := HSV.out; show w.heap.size + 1 ≤ ga; omega) _)
                    have hOb3 := Lib.hid (show Og 5 u1.heap.size xb (nvals .u8 (pkL Q)) U3 from hOb.out.kept fun g hg hl => by rw [eU3]; exact Below.heap_setCell _ ⟨ga, oa + t, none⟩ _ _ (by have := (hOb.out.lt hg).1; have := GA.out; show g ≠ ga; omega))
                    clear fz ra rb k0 k1 hl1 hO2 hOb hB2 hw2 eU3
                    obtain ⟨V4, eV4, hb4, hs4, hF4⟩ := fd_new U3
                    have hF4 := Lib.hid hF4
                    replace eV4 := Lib.hid eV4
                    go_upto_region 11 with (fail)
                    rw [← eV4.out]
                    have hO4 := Lib.hid (hO3.out.bel hb4)
                    have hOb4 := hOb3.out.bel hb4
                    have hz4 := Lib.hid (show V.heap.size ≤ V4.heap.size ∧ V4.heap.size = U3.heap.size + 1 from by have := GA.out; have := s3.out; omega)
                    have hB4 := Lib.hid (show Below (w.heap.size + 1) V V4 from hb3.out.trans (hb4.mono (by have := hb3.out.size; have := HSV.out; omega)))
                    have SR := Lib.hid (hOb4.src (t := 22) Try.underlying22 (fun u hu => by obtain ⟨q, -, rfl⟩ := List.mem_map.1 hu; rfl))
                    have LN := Lib.hid (show (A.set t c).length ≤ 200 ∧ (pkL Q).length ≤ 200 from by have h1 := pkL_len Q; have := HQ.out; have := EM.out; have := TB.out; have := ET.out; rw [List.length_set]; omega)
                    have GU := Lib.hid (show ga < U3.heap.size from by have := GA.out; have := s3.out; omega)
                    clear hO3 hb3 hOb3 hOb4 hb4 hs4 s3
                    have s7 : ¬ (5 : Nat) = 6 := by decide
                    go_wp2_with (first | (at_builtin; go_loud (refine wpList_append_og _ rfl (.tmp 90) (.tmp 91) 22 22 rfl 5 (.int .u8 0) 1 Try.underlying22 (by kernel_rfl) rfl V.heap.size (.slice (some ⟨ga, oa, none⟩) T cA) _ rfl hO4.out hz4.out.1 _ _ _ rfl SR.out (by rw [nvals_len, nvals_len]; have := LN.out; unfold maxLen; omega) (by rw [nvals_len, nvals_len]; have := LN.out; omega) ?_; intro x7 w7 hO7 hK7 hN7)) | fail)
                    rw [← nvals_app] at hO7
                    have hB7 := Lib.hid (show Below (w.heap.size + 1) V w7 from hB4.out.trans (hK7.bel (fun g hg => by have h : ga = g := (by injection hg); have := GA.out; have := HSV.out; omega) (by have := hz4.out; have := HSV.out; omega)))
                    have hz7 := Lib.hid (show V4.heap.size ≤ w7.heap.size from hK7.size)
                    have hF7 := Lib.hid (hF4.out.ogk hK7 (fun h => by have h : ga = U3.heap.size := (by injection h); have := GU.out; omega) (fun g e => by simp [ogB] at e))
                    obtain ⟨a7, c7, rfl, -, r7, -, -⟩ := hO7.rowIs
                    have PC := spush a7 c7 (A.set t c ++ pkL Q) w7 hF7.out (by have := hz4.out; have := hz7.out; omega) r7 (fun _ cc e => by subst e; refine ⟨?_, by simp [ogB]⟩; rcases hN7 with h | ⟨g, h, hg⟩; exact (by have h : cc.block = ga := (by injection h); have := GU.out; omega); exact (by have h : cc.block = g := (by injection h); have := hz4.out; omega)) (by rw [List.length_append]; have := LN.out; omega) (BYL.app (fun x hx => by rcases List.mem_or_eq_of_mem_set hx with q | q; exact BA.out x q; rw [q]; exact CB.out) (pkL_byl BQ.out)) ⟨by omega, by omega⟩ ⟨by omega, by omega⟩
                    replace PC := Lib.hid PC
                    clear hO4 SR hO7 hK7 hN7 r7 hF7
                    go_wp2_with fail
                    refine PC.out.mono ?_
                    rintro e v4 ⟨x4, y4, G4, rfl, hS4⟩
                    clear PC
                    have hgo := hS4.go
                    rw [FS.out] at hgo
                    obtain ⟨g, o, rfl⟩ := pk_one hgo
                    obtain ⟨ay, cy, ey, -, hny, hsy⟩ := hS4.yo.row
                    have hF := hS4.fd
                    rw [FS.out] at hF
                    have SC := Lib.hid (scount v4 (hF.re (f' := 1) (r' := 1) (by simp) (by simp)))
                    clear hF
                    have hB8 := Lib.hid (show Below (w.heap.size + 1) V v4 from hB7.out.trans (hS4.k.bel (by have := GA.out; have := HSV.out; have := GU.out; omega) (fun g e => by simp [ogB] at e) (by have := hz4.out; have := hz7.out; have := HSV.out; omega)))
                    have rp := (hS4.rows (g, o, Q) (by simp)).1
                    cases ay with
                    | none => exact absurd (hny rfl).1 (by simp [pkV])
                    | some ay =>
                      obtain ⟨gy, oy, sp⟩ := ay
                      obtain ⟨q1, -, -, q4⟩ := hsy _ rfl
                      have q1 : sp = none := q1
                      subst q1
                      have hc4 : v4.cell? ⟨gy, oy + 0, none⟩ = some (.slice (some ⟨g, o, none⟩) Q.length Q.length) := q4 0 _ rfl
                      rw [Nat.add_zero] at hc4
                      have ey : y4 = .slice (some ⟨gy, oy, none⟩) 1 cy := ey
                      subst ey
                      rw [EM.out] at hc4
                      have RP9 := Lib.hid rp
                      have GYL := Lib.hid (show gy < v4.heap.size from (hS4.yo.lt (g := gy) rfl).2)
                      replace hc4 := Lib.hid hc4
                      clear hgo hny hsy hS4 rp q4
                      go_wp2_with fail
                      refine SC.out.mono ?_
                      rintro e v5 ⟨rfl, hb5⟩
                      clear SC
                      have hB9 := Lib.hid (show Below (w.heap.size + 1) V v5 from hB8.out.trans (hb5.mono (by have := hB8.out.size; have := HSV.out; omega)))
                      have hw9 := Lib.hid (show Below w.heap.size w v5 from HBV.out.trans (hB9.out.mono (by omega)))
                      have RP5 := Lib.hid (RP9.out.below hb5)
                      have hc5 := (hb5.cell (p := ⟨gy, oy, none⟩) GYL.out).trans hc4.out
                      have GY5 := Lib.hid (show gy < v5.heap.size from by have := GYL.out; have := hb5.size; omega)
                      have cv1 := row_str (RP5.out.below (Below.refl _ _).drew) Q.length
                      have cv2 := row_str (RQ.out _ hw9.out.drew) cb
                      rw [EM.out] at cv1 cv2
                      clear hc4 hb5 RP9 GYL hB8 hB9
                      go_wp2_with fail
                      refine region_moves (fun u => u.cell? ⟨gy, oy, none⟩ = some (.slice (some ⟨g, o, none⟩) m m) ∧ (convert 22 9 (.slice (some ⟨g, o, none⟩) m m)).run Try.prog u = .ok (.string (strOfNums Q)) u ∧ (convert 22 9 (.slice b m cb)).run Try.prog u = .ok (.string (strOfNums Q)) u) [] [(.free, 0), (.free, 1), (.free, 2), (.free, 3), (.free, 4), (.free, 5), (.take, 6), (.take, 7), (.free, 8), (.take, 9), (.free, 10), (.free, 11), (.free, 12), (.free, 13), (.free, 14), (.free, 15), (.free, 16), (.free, 17), (.free, 18), (.free, 19), (.free, 20), (.step, 21), (.free, 22), (.free, 23)] _ (by kernel_rfl) (by kernel_rfl) (by kernel_rfl) (by kernel_rfl) (by decide) rfl (fun _ _ _ _ _ h => h) ?_
                      simp only [List.filterMap_cons, List.filterMap_nil, List.getElem?_toArray, List.getElem?_cons_zero, List.getElem?_cons_succ, Option.map_some]
                      iterate 6
                        first
                          | (refine mv_free ?_ (Or.inl ⟨by rfl, ?_⟩) (⟨hc5, cv1, cv2⟩) ?_
                             rotate_left 1
                             · intro u
                               go_simp
                               try simp only [d1]
                               try simp only [d2]
                               try simp only [d3]
                               try simp only [d1]
                               try simp only [d2]
                               try simp only [d3]
                               try with_reducible rfl
                             simp only [Act.put, List.setIfInBounds_toArray, List.set_cons_zero, List.set_cons_succ])
                          | (refine mv_free _ (Or.inr ⟨by rfl, rfl⟩) (⟨hc5, cv1, cv2⟩) ?_
                             simp only [Act.put, List.setIfInBounds_toArray, List.set_cons_zero, List.set_cons_succ])
                      iterate 2
                        first
                          | (refine mv_take ?_ (Or.inl ⟨by rfl, ?_⟩) (⟨hc5, cv1, cv2⟩) ?_
                             rotate_left 1
                             · intro u hu
                               (try dsimp only at hu)
                               go_simp
                               try with_reducible rfl
                             simp only [Act.put, List.setIfInBounds_toArray, List.set_cons_zero, List.set_cons_succ])
                          | (refine mv_take _ (Or.inr ⟨by rfl, rfl⟩) (⟨hc5, cv1, cv2⟩) ?_
                             simp only [Act.put, List.setIfInBounds_toArray, List.set_cons_zero, List.set_cons_succ])
                      iterate 1
                        first
                          | (refine mv_free ?_ (Or.inl ⟨by rfl, ?_⟩) (⟨hc5, cv1, cv2⟩) ?_
                             rotate_left 1
                             · intro u
                               go_simp
                               try simp only [d1]
                               try simp only [d2]
                               try simp only [d3]
                               try simp only [d1]
                               try simp only [d2]
                               try simp only [d3]
                               try with_reducible rfl
                             simp only [Act.put, List.setIfInBounds_toArray, List.set_cons_zero, List.set_cons_succ])
                          | (refine mv_free _ (Or.inr ⟨by rfl, rfl⟩) (⟨hc5, cv1, cv2⟩) ?_
                             simp only [Act.put, List.setIfInBounds_toArray, List.set_cons_zero, List.set_cons_succ])
                      iterate 1
                        first
                          | (refine mv_take ?_ (Or.inl ⟨by rfl, ?_⟩) (⟨hc5, cv1, cv2⟩) ?_
                             rotate_left 1
                             · intro u hu
                               (try dsimp only at hu)
                               go_simp
                               try with_reducible rfl
                             simp only [Act.put, List.setIfInBounds_toArray, List.set_cons_zero, List.set_cons_succ])
                          | (refine mv_take _ (Or.inr ⟨by rfl, rfl⟩) (⟨hc5, cv1, cv2⟩) ?_
                             simp only [Act.put, List.setIfInBounds_toArray, List.set_cons_zero, List.set_cons_succ])
                      iterate 11
                        first
                          | (refine mv_free ?_ (Or.inl ⟨by rfl, ?_⟩) (⟨hc5, cv1, cv2⟩) ?_
                             rotate_left 1
                             · intro u
                               go_simp
                               try simp only [d1]
                               try simp only [d2]
                               try simp only [d3]
                               try simp only [d1]
                               try simp only [d2]
                               try simp only [d3]
                               try with_reducible rfl
                             simp only [Act.put, List.setIfInBounds_toArray, List.set_cons_zero, List.set_cons_succ])
                          | (refine mv_free _ (Or.inr ⟨by rfl, rfl⟩) (⟨hc5, cv1, cv2⟩) ?_
                             simp only [Act.put, List.setIfInBounds_toArray, List.set_cons_zero, List.set_cons_succ])
                      refine mv_step (fun K hK => ?_)
                      go_simp
                      refine (LV.out _).mono ?_
                      rintro e v6 ⟨rfl, hb9⟩
                      replace hc5 := Lib.hid hc5
                      clear cv1 cv2
                      have hb10 := Lib.hid (show Below w.heap.size w v6 from hw9.out.drew.trans (hb9.mono (by have := hw9.out.size; exact this)))
                      have hbx := Lib.hid (show Below v5.heap.size v5 v6 from (Below.refl _ _).drew.trans hb9)
                      have hc6 := (hbx.out.cell (p := ⟨gy, oy, none⟩) GY5.out).trans hc5.out
                      have cv1b := row_str (RP5.out.below hbx.out) Q.length
                      have cv2b := row_str (RQ.out v6 hb10.out) cb
                      rw [EM.out] at cv1b cv2b
                      clear hb9
                      go_wp2_with fail
                      refine hK.out _ _ _ (fun u hu => hu) (⟨hc6, cv1b, cv2b⟩) ?_
                      clear hK K
                      iterate 2
                        first
                          | (refine mv_free ?_ (Or.inl ⟨by rfl, ?_⟩) (⟨hc6, cv1b, cv2b⟩) ?_
                             rotate_left 1
                             · intro u
                               go_simp
                               try simp only [d1]
                               try simp only [d2]
                               try simp only [d3]
                               try simp only [d1]
                               try simp only [d2]
                               try simp only [d3]
                               try with_reducible rfl
                             simp only [Act.put, List.setIfInBounds_toArray, List.set_cons_zero, List.set_cons_succ])
                          | (refine mv_free _ (Or.inr ⟨by rfl, rfl⟩) (⟨hc6, cv1b, cv2b⟩) ?_
                             simp only [Act.put, List.setIfInBounds_toArray, List.set_cons_zero, List.set_cons_succ])
                      refine mv_done ?_
                      go_wp2_with fail
                      go_ret
                      exact ⟨rfl, hb10.out⟩
        · have j1 : (T : Int) - 1 ≤ x0 := by omega
          go_wp2_with fail
          refine (LV.out _).mono ?_
          rintro e u9 ⟨rfl, hb9⟩
          have hb8 := Lib.hid (show Below w.heap.size w u9 from hw2.out.trans (hb9.mono hw2.out.size))
          clear hb9
          go_wp2
          go_ret
          exact ⟨rfl, hb8.out⟩
    · have PB := spack_no b m cb u1 (by omega) (by rw [← EM.out]; exact LQ.out)
      replace PB := Lib.hid PB
      clear hq
      go_wp2_with fail
      refine PB.out.mono ?_
      rintro e u2 ⟨rfl, rfl⟩
      clear PB
      go_wp2_with fail
      refine (LV.out _).mono ?_
      rintro e u9 ⟨rfl, hb9⟩
      have hb8 := Lib.hid (show Below w.heap.size w u9 from hw1.out.trans (hb9.mono hw1.out.size))
      clear hb9
      go_wp2
      go_ret
      exact ⟨rfl, hb8.out⟩
  · have PA := Lib.hid (spack_no a n ca V (by omega) (by rw [← EN.out]; exact LP.out))
    clear hp
    have PB := spack_any b cb Q V (RQ.out V HBV.out) LQ.out BQ.out
    rw [EM.out] at PB
    replace PB := Lib.hid PB
    go_enter Try.func13, Try.ntmps13
    go_wp2_with fail
    rw [← eV.out]
    go_wp2_with fail
    refine PA.out.mono ?_
    rintro e u1 ⟨rfl, rfl⟩
    clear PA
    go_wp2_with fail
    refine PB.out.mono ?_
    rintro e u2 ⟨y, z, rfl, hb2⟩
    clear PB
    have hw2 := Lib.hid (show Below w.heap.size w u2 from HBV.out.trans (hb2.mono HBV.out.size))
    clear hb2
    go_wp2_with fail
    refine (LV.out _).mono ?_
    rintro e u9 ⟨rfl, hb9⟩
    have hb8 := Lib.hid (show Below w.heap.size w u9 from hw2.out.trans (hb9.mono hw2.out.size))
    clear hb9
    go_wp2
    go_ret
    exact ⟨rfl, hb8.out⟩
end Go.Proofs.Ytpcbnoefgknihaa
