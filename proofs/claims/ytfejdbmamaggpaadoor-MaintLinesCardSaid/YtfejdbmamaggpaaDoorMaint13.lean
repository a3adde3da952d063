/- Package maint: Parse; walked. -/
import Derived.Test.YtfejdbmamaggpaaDoorMaint12
namespace Go.Proofs.YtfejdbmamaggpaaDoor
open Go.ChangeShapes Go.WideShapes Go.ChangeAt Go.RowKit
set_option linter.unusedVariables false
set_option linter.unusedSimpArgs false
theorem ba_ext {a b : ByteArray} (h : a.data.toList = b.data.toList) : a = b := by
  cases a with
  | mk x => cases b with
    | mk y => exact congrArg ByteArray.mk (Array.toList_inj.1 h)
theorem ps_num {s : ByteArray} (h : ∀ v, Lib.atoiAll (Lib.trimPrefix (c1 s) [116]) ≠ .ok v) : PsR s 0 0 0 false :=
  ⟨fun e => (by cases e), fun _ => ⟨⟨rfl, rfl, rfl⟩, fun t c a hr he => by
    have := (back hr).1
    rw [he] at this
    exact h _ this⟩⟩
theorem ps_nm {s : ByteArray} (h : ∀ j, j < 7 → mN j ≠ ⟨(c2 s).toArray⟩) : PsR s 0 0 0 false :=
  ⟨fun e => (by cases e), fun _ => ⟨⟨rfl, rfl, rfl⟩, fun t c a hr he => by
    obtain ⟨k, hk, _, hn⟩ := (back hr).2.1
    rw [he] at hn
    exact h k hk (ba_ext hn)⟩⟩
/-- The number that the position of a mode gives. -/
def mxI (r : Int) : Int := max r 0
theorem ps_fin {s : ByteArray} {v r : Int} {j : Nat} (hv : Lib.atoiAll (Lib.trimPrefix (c1 s) [116]) = .ok v) (hj : j < 7) (hn : mN j = ⟨(c2 s).toArray⟩) (hr : FiS mdN 6 ⟨(c3 s).toArray⟩ r) :
    (rpB v (mC j) (mxI r) = true → lnT v (mC j) (mxI r) = s → PsR s v (mC j) (mxI r) true) ∧ (rpB v (mC j) (mxI r) = false ∨ lnT v (mC j) (mxI r) ≠ s → PsR s 0 0 0 false) := by
  refine ⟨fun h1 h2 => ⟨fun _ => ⟨h1, ?_⟩, fun e => (by cases e)⟩, fun h => ⟨fun e => (by cases e), fun _ => ⟨⟨rfl, rfl, rfl⟩, fun t c a ht he => ?_⟩⟩⟩
  · unfold lnT at h2
    rw [if_pos h1] at h2
    exact h2
  · obtain ⟨x1, ⟨k, hk, x2, x3⟩, x4, x5⟩ := back ht
    rw [he] at x1 x3 x4 x5
    have e1 : t = v := by have := x1.symm.trans hv; injection this
    have e2 : k = j := mN_inj hk hj (by rw [x3, hn])
    subst e2
    have e3 : mxI r = a := by
      unfold mxI
      cases hm : hmB c with
      | true =>
        obtain ⟨p1, p2⟩ := x4 hm
        rcases hr with ⟨i, hi, rfl, q1, q2⟩ | ⟨rfl, q2⟩
        · have : i = a.toNat := mdN_inj hi (by omega) (by rw [q1, p2])
          omega
        · exact absurd (ba_ext (show (mdN a.toNat).data.toList = _ from p2)) (q2 a.toNat (by omega))
      | false =>
        obtain ⟨p1, p2⟩ := x5 hm
        rcases hr with ⟨i, hi, rfl, q1, q2⟩ | ⟨rfl, q2⟩
        · exact absurd (show (mdN i).data.toList = [] by rw [q1, p2]) (mdN_ne hi)
        · rw [p1]; rfl
    subst e1
    rw [x2, e3] at h
    rcases h with h | h
    · rw [ht] at h; cases h
    · refine h ?_
      unfold lnT
      rw [if_pos ht, he]
theorem z3_box (w : World) : ∃ V, V = w.alloc (.cells #[.int .i64 0, .int .i64 0, .int .i64 0] 54) ∧ Below w.heap.size w V ∧ Held w.heap.size [.int .i64 0, .int .i64 0, .int .i64 0] V :=
  ⟨_, rfl, (Below.refl _ _).alloc (Nat.le_refl _) _, Held.new w [.int .i64 0, .int .i64 0, .int .i64 0] 54⟩
theorem ev3_box (w : World) (t c a : Int) : ∃ V, V = w.alloc (.cells #[.int .i64 t, .int .i64 c, .int .i64 a] 54) ∧ Below w.heap.size w V ∧ Held w.heap.size [.int .i64 t, .int .i64 c, .int .i64 a] V :=
  ⟨_, rfl, (Below.refl _ _).alloc (Nat.le_refl _) _, Held.new w [.int .i64 t, .int .i64 c, .int .i64 a] 54⟩
theorem st_box (w : World) (x : ByteArray) : ∃ V, V = w.alloc (.cells #[.string x] 9) ∧ Below w.heap.size w V ∧ V.cell? ⟨w.heap.size, 0, none⟩ = some (.string x) ∧ w.heap.size < V.heap.size :=
  ⟨_, rfl, (Below.refl _ _).alloc (Nat.le_refl _) _, by rw [cell_of_row _ w.heap.size _ _ _ _ (heap_alloc_new w _)]; rfl, by simp⟩
theorem md_box (w : World) : ∃ V, V = w.alloc (.cells #[.string ⟨#[119, 97, 114, 109, 105, 110, 103]⟩, .string ⟨#[100, 117, 97, 108]⟩, .string ⟨#[111, 110, 108, 121, 49]⟩, .string ⟨#[111, 110, 108, 121, 50]⟩, .string ⟨#[115, 121, 110, 116, 104, 101, 116, 105, 99]⟩, .string ⟨#[108, 111, 115, 116]⟩] 120) ∧ Below w.heap.size w V ∧ MdM V w.heap.size := by
  refine ⟨_, rfl, (Below.refl _ _).alloc (Nat.le_refl _) _, by simp, fun i hi => ?_⟩
  rw [cell_of_row _ w.heap.size _ _ _ _ (heap_alloc_new w _)]
  match i, hi with
  | 0, _ => rfl
  | 1, _ => rfl
  | 2, _ => rfl
  | 3, _ => rfl
  | 4, _ => rfl
  | 5, _ => rfl
  | i + 6, h => exact absurd h (by omega)
set_option maxRecDepth 100000 in
set_option maxHeartbeats 16000000 in
theorem mpars (s : ByteArray) (hs : s.size ≤ 300) (w : World) (hE : EvM w) : Calls Tryd.prog 39 #[.string s] w fun e w' => ∃ t c a ok, e = .returned (.tuple #[.agg #[.int .i64 t, .int .i64 c, .int .i64 a], .bool ok]) ∧ PsR s t c a ok ∧ Below w.heap.size w w' := by
  obtain ⟨V, eV, hbV, hO⟩ := z3_box w
  have HW := Lib.hid (fun x (k : Below V.heap.size V x) => (hbV.trans (k.mono hbV.size) : Below w.heap.size w x))
  have HE := Lib.hid (fun x (k : Below V.heap.size V x) => hE.bel (HW.out x k))
  obtain ⟨X1, eX1⟩ : ∃ z, (⟨(Lib.cut s.data.toList [32]).1.toArray⟩ : ByteArray) = z := ⟨_, rfl⟩
  obtain ⟨X2, eX2⟩ : ∃ z, (⟨(Lib.cut s.data.toList [32]).2.1.toArray⟩ : ByteArray) = z := ⟨_, rfl⟩
  obtain ⟨Y1, eY1⟩ : ∃ z, (Lib.cut s.data.toList [32]).2.2 = z := ⟨_, rfl⟩
  have l1 : X1.size ≤ 300 := by rw [← eX1, mk_len]; have := cut1_len s.data.toList; rw [of_len] at this; omega
  have l2 : X2.size ≤ 300 := by rw [← eX2, mk_len]; have := cut2_len s.data.toList; rw [of_len] at this; omega
  have CU1 := fun x (k : Below V.heap.size V x) => mcut s (by omega) x (HE.out x k)
  rw [eX1, eX2, eY1] at CU1
  obtain ⟨X3, eX3⟩ : ∃ z, (⟨(Lib.cut X2.data.toList [32]).1.toArray⟩ : ByteArray) = z := ⟨_, rfl⟩
  obtain ⟨X4, eX4⟩ : ∃ z, (⟨(Lib.cut X2.data.toList [32]).2.1.toArray⟩ : ByteArray) = z := ⟨_, rfl⟩
  obtain ⟨Y2, eY2⟩ : ∃ z, (Lib.cut X2.data.toList [32]).2.2 = z := ⟨_, rfl⟩
  have CU2 := fun x (k : Below V.heap.size V x) => mcut X2 (by omega) x (HE.out x k)
  rw [eX3, eX4, eY2] at CU2
  have c1e : c1 s = X1.data.toList := by rw [← eX1]; rfl
  have c2e : (⟨(c2 s).toArray⟩ : ByteArray) = X3 := by rw [← eX3, ← eX2]; rfl
  have c3e : (⟨(c3 s).toArray⟩ : ByteArray) = X4 := by rw [← eX4, ← eX2]; rfl
  obtain ⟨X5, eX5⟩ : ∃ z, (⟨(Lib.trimPrefix X1.data.toList [116]).toArray⟩ : ByteArray) = z := ⟨_, rfl⟩
  have l5 : X5.size ≤ 300 := by rw [← eX5, mk_len]; have := trim_len X1.data.toList; rw [of_len] at this; omega
  have TR := fun x => mtrim X1 x
  rw [eX5] at TR
  have a5 : Lib.trimPrefix (c1 s) [116] = X5.data.toList := by rw [← eX5, c1e]
  have PNUM := Lib.hid (fun (h : ∀ v, Lib.atoiAll X5.data.toList ≠ .ok v) => ps_num (s := s) (by rw [a5]; exact h))
  have PNM := Lib.hid (fun (h : ∀ j, j < 7 → mN j ≠ X3) => ps_nm (s := s) (by rw [c2e]; exact h))
  have PFIN := Lib.hid (fun (v r : Int) (j : Nat) (hv : Lib.atoiAll X5.data.toList = .ok v) (hj : j < 7) (hn : mN j = X3) (hr : FiS mdN 6 X4 r) => ps_fin (s := s) (by rw [a5]; exact hv) hj (by rw [c2e]; exact hn) (by rw [c3e]; exact hr))
  have CO := Lib.hid (fun x => mcodes x)
  have MM := Lib.hid (fun x => mmodes x)
  obtain ⟨B, eB⟩ : ∃ B, w.heap.size = B := ⟨_, rfl⟩
  rw [eB] at hO hbV
  have hBV : B < V.heap.size := hO.lt
  have HQ := Lib.hid (fun x (k : Below V.heap.size V x) => hO.below k hBV)
  have IFN := Lib.hid (fun g q x hT hq hlt => mindexf g q X3 x hT hq hlt)
  have IX := Lib.hid (fun g x hT => mindex g X4 x hT)
  have LN := Lib.hid (fun t c a x k => mlinE t c a x (HE.out x k).1)
  replace CU1 := Lib.hid CU1
  replace CU2 := Lib.hid CU2
  replace TR := Lib.hid TR
  replace eV := Lib.hid eV
  clear hbV hO hBV eX1 eX2 eX3 eX4 eX5 eY1 eY2 c1e c2e c3e a5 hE hs l1 l2
  have hmf : ∀ (fn : Fn) (first cap : Array Value) (w : World), (Instr.makeFunc fn first cap).run Tryd.prog w = .ok (.func fn first cap) w := fun _ _ _ _ => rfl
  by_cases hA : ∃ v, Lib.atoiAll X5.data.toList = .ok v
  · obtain ⟨v, hA⟩ := hA
    have AT := Lib.hid (fun x => matoi_ok X5 (by omega) v hA x)
    replace hA := Lib.hid hA
    clear l5
    go_enter Tryd.func39, Tryd.ntmps39
    go_upto_region 1 with (fail)
    try rw [eB]
    rw [← eV.out]
    go_wp2_with fail
    refine (CU1.out V (Below.refl _ _)).mono ?_
    rintro e u1 ⟨rfl, hb⟩
    have k1 := Lib.hid (show Below V.heap.size V u1 from hb)
    clear hb CU1
    go_wp2_with fail
    refine (CU2.out u1 k1.out).mono ?_
    rintro e u2 ⟨rfl, hb⟩
    have k2 := Lib.hid (show Below V.heap.size V u2 from k1.out.trans (hb.mono k1.out.size))
    clear hb CU2
    go_upto_region 3 with (fail)
    obtain ⟨V3, eV3, hb3, n0, nlt⟩ := st_box u2 X3
    have k3 := Lib.hid (show Below V.heap.size V V3 from k2.out.trans (hb3.mono k2.out.size))
    try rw [← eV3]
    replace eV3 := Lib.hid eV3
    obtain ⟨Bn, eBn⟩ : ∃ B, u2.heap.size = B := ⟨_, rfl⟩
    rw [eBn] at n0 nlt ⊢
    clear hb3
    go_wp2_with fail
    refine (TR.out _).mono ?_
    rintro e u4 ⟨rfl, rfl⟩
    go_wp2_with fail
    refine (AT.out _).mono ?_
    rintro e u5 ⟨rfl, hb⟩
    have k5 := Lib.hid (show Below V.heap.size V u5 from k3.out.trans (hb.mono k3.out.size))
    have n5 := (bc hb nlt).trans n0
    have nlt5 : Bn < u5.heap.size := Nat.lt_of_lt_of_le nlt hb.size
    clear hb n0 nlt AT TR
    go_wp2_with fail
    refine (CO.out _).mono ?_
    rintro e u6 ⟨g, rfl, hT, hb⟩
    have k6 := Lib.hid (show Below V.heap.size V u6 from k5.out.trans (hb.mono k5.out.size))
    have n6 := (bc hb nlt5).trans n5
    have nlt6 : Bn < u6.heap.size := Nat.lt_of_lt_of_le nlt5 hb.size
    have IFN := Lib.hid (IFN.out g Bn u6 hT n6 nlt6)
    have HT := Lib.hid (fun x (k : Below u6.heap.size u6 x) => hT.bel k)
    clear hb n5 nlt5 hT n6 nlt6 CO
    go_wp2_with fail
    refine IFN.out.mono ?_
    rintro e u7 ⟨r, rfl, hF, hb⟩
    have k7 := Lib.hid (show Below V.heap.size V u7 from k6.out.trans (hb.mono k6.out.size))
    have hT7 := Lib.hid (HT.out u7 hb)
    clear hb IFN HT hmf
    rcases hF with ⟨j, hj, rfl, hN, _⟩ | ⟨rfl, hN⟩
    · have x0 := (hT7.out.2 j hj).1
      have hg := hT7.out.1
      have j1 : (j : Int) < 7 := by omega
      have j3 : 0 ≤ (j : Int) := by omega
      have j4 : decide ((j : Int) < 0) = false := decide_eq_false (by omega)
      have PF := Lib.hid (fun r hr => PFIN.out v r j hA.out hj hN hr)
      clear PNUM PNM PFIN hT7
      obtain ⟨cd, ecd⟩ : ∃ z, mC j = z := ⟨_, rfl⟩
      rw [ecd] at x0 PF
      clear ecd hN
      go_upto_region 9 with (fail)
      obtain ⟨V8, eV8, hb8, hH8⟩ := ev3_box u7 v cd 0
      have k8 := Lib.hid (show Below V.heap.size V V8 from k7.out.trans (hb8.mono k7.out.size))
      try rw [← eV8]
      replace eV8 := Lib.hid eV8
      obtain ⟨Be, eBe⟩ : ∃ B, u7.heap.size = B := ⟨_, rfl⟩
      rw [eBe] at hH8 ⊢
      have hBe := Lib.hid (show V.heap.size ≤ Be by rw [← eBe]; exact k7.out.size)
      replace hH8 := Lib.hid hH8
      clear hb8 x0 hg
      go_wp2_with fail
      refine (MM.out V8).mono ?_
      rintro e u9 ⟨rfl, hb⟩
      have k9 := Lib.hid (show Below V.heap.size V u9 from k8.out.trans (hb.mono k8.out.size))
      have hH9 := Lib.hid (hH8.out.bel hb)
      clear hb hH8
      go_upto_region 10 with (fail)
      obtain ⟨V10, eV10, hb10, hM⟩ := md_box u9
      have k10 := Lib.hid (show Below V.heap.size V V10 from k9.out.trans (hb10.mono k9.out.size))
      have hH10 := Lib.hid (hH9.out.bel hb10)
      try rw [← eV10]
      replace eV10 := Lib.hid eV10
      obtain ⟨Bm, eBm⟩ : ∃ B, u9.heap.size = B := ⟨_, rfl⟩
      rw [eBm] at hM ⊢
      have IXX := Lib.hid (IX.out Bm V10 hM)
      have mb : Bm < V10.heap.size := hM.1
      have m0 := hM.2 0 (by omega)
      clear hb10 hH9 hM
      go_wp2_with fail
      refine IXX.out.mono ?_
      rintro e u11 ⟨r, rfl, hR, hb⟩
      have k11 := Lib.hid (show Below V.heap.size V u11 from k10.out.trans (hb.mono k10.out.size))
      have hH11 := Lib.hid (hH10.out.bel hb)
      clear hb hH10 IXX m0 mb
      have hP := Lib.hid (PF.out r hR)
      obtain ⟨y0, f0⟩ := hH11.out.one 0 rfl
      obtain ⟨y1, f1⟩ := hH11.out.one 1 rfl
      obtain ⟨y2, f2⟩ := hH11.out.one 2 rfl
      go_upto_region 11 with (fail)
      have hH12 := hH11.out.set 2 (.int .i64 (max r 0)) (by simp)
      have k12 := Lib.hid (k11.out.setCell (p := ⟨Be, 2, none⟩) hBe.out (.int .i64 (max r 0)))
      unfold mxI at hP
      obtain ⟨a, ea⟩ : ∃ a, max r 0 = a := ⟨_, rfl⟩
      rw [ea] at hH12 k12 hP ⊢
      obtain ⟨V12, eV12⟩ : ∃ z, u11.setCell ⟨Be, 2, none⟩ (.int .i64 a) = z := ⟨_, rfl⟩
      rw [eV12] at hH12 k12 ⊢
      have y0 := (hH12.one 0 rfl).1
      have y1 := (hH12.one 1 rfl).1
      have y2 := (hH12.one 2 rfl).1
      have hH12 := Lib.hid (show Held Be [.int .i64 v, .int .i64 cd, .int .i64 a] V12 from hH12)
      replace eV12 := Lib.hid eV12
      clear hH11 ea
      go_wp2_with fail
      refine (LN.out v cd a V12 k12.out).mono ?_
      rintro e u13 ⟨rfl, hb⟩
      have k13 := Lib.hid (show Below V.heap.size V u13 from k12.out.trans (hb.mono k12.out.size))
      have hH13 := Lib.hid (hH12.out.bel hb)
      clear hb hH12 y0 y1 y2 LN MM IX PF
      obtain ⟨L, eL⟩ : ∃ L, lnT v cd a = L := ⟨_, rfl⟩
      rw [eL] at hP ⊢
      clear eL
      cases hR : rpB v cd a with
      | false =>
        have hps := Lib.hid (hP.out.2 (.inl hR))
        clear hP hR HE hH13
        obtain ⟨x0, f0⟩ := (HQ.out u13 k13.out).one 0 rfl
        obtain ⟨x1, f1⟩ := (HQ.out u13 k13.out).one 1 rfl
        obtain ⟨x2, f2⟩ := (HQ.out u13 k13.out).one 2 rfl
        have hF := (((HQ.out u13 k13.out).set 0 (.int .i64 0) (by simp)).set 1 (.int .i64 0) (by simp)).set 2 (.int .i64 0) (by simp)
        have hL := Lib.hid ((((HW.out u13 k13.out).setCell (p := ⟨B, 0, none⟩) (Nat.le_of_eq eB) (.int .i64 0)).setCell (p := ⟨B, 1, none⟩) (Nat.le_of_eq eB) (.int .i64 0)).setCell (p := ⟨B, 2, none⟩) (Nat.le_of_eq eB) (.int .i64 0))
        replace hF := Lib.hid hF
        go_wp2
        generalize ((u13.setCell ⟨B, 0, none⟩ (.int .i64 0)).setCell ⟨B, 1, none⟩ (.int .i64 0)).setCell ⟨B, 2, none⟩ (.int .i64 0) = uF at *
        have d0 := (hF.out.one 0 rfl).1
        have d1 := (hF.out.one 1 rfl).1
        have d2 := (hF.out.one 2 rfl).1
        first
          | exact bodyPost_ret (v := .tuple #[.agg #[.int .i64 0, .int .i64 0, .int .i64 0], .bool false]) (by simp [results, Tryd.results39, go_sem, d0, d1, d2]) rfl ⟨0, 0, 0, false, rfl, hps.out, hL.out⟩
          | exact bodyPost_end (v := .tuple #[.agg #[.int .i64 0, .int .i64 0, .int .i64 0], .bool false]) (by simp [results, Tryd.results39, go_sem, d0, d1, d2]) rfl ⟨0, 0, 0, false, rfl, hps.out, hL.out⟩
      | true =>
        by_cases z : L = s
        · have hps := Lib.hid (hP.out.1 hR z)
          subst z
          obtain ⟨y0, g0⟩ := hH13.out.one 0 rfl
          obtain ⟨y1, g1⟩ := hH13.out.one 1 rfl
          obtain ⟨y2, g2⟩ := hH13.out.one 2 rfl
          clear hP hR HE
          obtain ⟨x0, f0⟩ := (HQ.out u13 k13.out).one 0 rfl
          obtain ⟨x1, f1⟩ := (HQ.out u13 k13.out).one 1 rfl
          obtain ⟨x2, f2⟩ := (HQ.out u13 k13.out).one 2 rfl
          have hF := (((HQ.out u13 k13.out).set 0 (.int .i64 v) (by simp)).set 1 (.int .i64 cd) (by simp)).set 2 (.int .i64 a) (by simp)
          have hL := Lib.hid ((((HW.out u13 k13.out).setCell (p := ⟨B, 0, none⟩) (Nat.le_of_eq eB) (.int .i64 v)).setCell (p := ⟨B, 1, none⟩) (Nat.le_of_eq eB) (.int .i64 cd)).setCell (p := ⟨B, 2, none⟩) (Nat.le_of_eq eB) (.int .i64 a))
          replace hF := Lib.hid hF
          go_wp2
          generalize ((u13.setCell ⟨B, 0, none⟩ (.int .i64 v)).setCell ⟨B, 1, none⟩ (.int .i64 cd)).setCell ⟨B, 2, none⟩ (.int .i64 a) = uF at *
          have d0 := (hF.out.one 0 rfl).1
          have d1 := (hF.out.one 1 rfl).1
          have d2 := (hF.out.one 2 rfl).1
          first
            | exact bodyPost_ret (v := .tuple #[.agg #[.int .i64 v, .int .i64 cd, .int .i64 a], .bool true]) (by simp [results, Tryd.results39, go_sem, d0, d1, d2]) rfl ⟨v, cd, a, true, rfl, hps.out, hL.out⟩
            | exact bodyPost_end (v := .tuple #[.agg #[.int .i64 v, .int .i64 cd, .int .i64 a], .bool true]) (by simp [results, Tryd.results39, go_sem, d0, d1, d2]) rfl ⟨v, cd, a, true, rfl, hps.out, hL.out⟩
        · have hps := Lib.hid (hP.out.2 (.inr z))
          have z1 : (L.toList == s.toList) = false := by
            cases h : (L.toList == s.toList) with
            | false => rfl
            | true => exact absurd ((sqB_iff _ _).1 h) z
          have z2 : ¬ L.toList = s.toList := beq_eq_false_iff_ne.1 z1
          clear hP hR HE hH13 z
          obtain ⟨x0, f0⟩ := (HQ.out u13 k13.out).one 0 rfl
          obtain ⟨x1, f1⟩ := (HQ.out u13 k13.out).one 1 rfl
          obtain ⟨x2, f2⟩ := (HQ.out u13 k13.out).one 2 rfl
          have hF := (((HQ.out u13 k13.out).set 0 (.int .i64 0) (by simp)).set 1 (.int .i64 0) (by simp)).set 2 (.int .i64 0) (by simp)
          have hL := Lib.hid ((((HW.out u13 k13.out).setCell (p := ⟨B, 0, none⟩) (Nat.le_of_eq eB) (.int .i64 0)).setCell (p := ⟨B, 1, none⟩) (Nat.le_of_eq eB) (.int .i64 0)).setCell (p := ⟨B, 2, none⟩) (Nat.le_of_eq eB) (.int .i64 0))
          replace hF := Lib.hid hF
          go_wp2
          generalize ((u13.setCell ⟨B, 0, none⟩ (.int .i64 0)).setCell ⟨B, 1, none⟩ (.int .i64 0)).setCell ⟨B, 2, none⟩ (.int .i64 0) = uF at *
          have d0 := (hF.out.one 0 rfl).1
          have d1 := (hF.out.one 1 rfl).1
          have d2 := (hF.out.one 2 rfl).1
          first
            | exact bodyPost_ret (v := .tuple #[.agg #[.int .i64 0, .int .i64 0, .int .i64 0], .bool false]) (by simp [results, Tryd.results39, go_sem, d0, d1, d2]) rfl ⟨0, 0, 0, false, rfl, hps.out, hL.out⟩
            | exact bodyPost_end (v := .tuple #[.agg #[.int .i64 0, .int .i64 0, .int .i64 0], .bool false]) (by simp [results, Tryd.results39, go_sem, d0, d1, d2]) rfl ⟨0, 0, 0, false, rfl, hps.out, hL.out⟩
    · have hps := Lib.hid (PNM.out hN)
      clear PNUM PNM PFIN hN hT7 HE IX LN MM
      obtain ⟨x0, f0⟩ := (HQ.out u7 k7.out).one 0 rfl
      obtain ⟨x1, f1⟩ := (HQ.out u7 k7.out).one 1 rfl
      obtain ⟨x2, f2⟩ := (HQ.out u7 k7.out).one 2 rfl
      have hF := (((HQ.out u7 k7.out).set 0 (.int .i64 0) (by simp)).set 1 (.int .i64 0) (by simp)).set 2 (.int .i64 0) (by simp)
      have hL := Lib.hid ((((HW.out u7 k7.out).setCell (p := ⟨B, 0, none⟩) (Nat.le_of_eq eB) (.int .i64 0)).setCell (p := ⟨B, 1, none⟩) (Nat.le_of_eq eB) (.int .i64 0)).setCell (p := ⟨B, 2, none⟩) (Nat.le_of_eq eB) (.int .i64 0))
      replace hF := Lib.hid hF
      go_wp2
      generalize ((u7.setCell ⟨B, 0, none⟩ (.int .i64 0)).setCell ⟨B, 1, none⟩ (.int .i64 0)).setCell ⟨B, 2, none⟩ (.int .i64 0) = uF at *
      have d0 := (hF.out.one 0 rfl).1
      have d1 := (hF.out.one 1 rfl).1
      have d2 := (hF.out.one 2 rfl).1
      first
        | exact bodyPost_ret (v := .tuple #[.agg #[.int .i64 0, .int .i64 0, .int .i64 0], .bool false]) (by simp [results, Tryd.results39, go_sem, d0, d1, d2]) rfl ⟨0, 0, 0, false, rfl, hps.out, hL.out⟩
        | exact bodyPost_end (v := .tuple #[.agg #[.int .i64 0, .int .i64 0, .int .i64 0], .bool false]) (by simp [results, Tryd.results39, go_sem, d0, d1, d2]) rfl ⟨0, 0, 0, false, rfl, hps.out, hL.out⟩
  · have AT := Lib.hid (fun x k => matoi_err X5 (by omega) (fun v h => hA ⟨v, h⟩) x (HE.out x k))
    have hps := Lib.hid (PNUM.out (fun v h => hA ⟨v, h⟩))
    clear l5 PNUM PNM PFIN hA LN IX MM
    go_enter Tryd.func39, Tryd.ntmps39
    go_upto_region 1 with (fail)
    try rw [eB]
    rw [← eV.out]
    go_wp2_with fail
    refine (CU1.out V (Below.refl _ _)).mono ?_
    rintro e u1 ⟨rfl, hb⟩
    have k1 := Lib.hid (show Below V.heap.size V u1 from hb)
    clear hb CU1
    go_wp2_with fail
    refine (CU2.out u1 k1.out).mono ?_
    rintro e u2 ⟨rfl, hb⟩
    have k2 := Lib.hid (show Below V.heap.size V u2 from k1.out.trans (hb.mono k1.out.size))
    clear hb CU2
    go_upto_region 3 with (fail)
    obtain ⟨V3, eV3, hb3, n0, nlt⟩ := st_box u2 X3
    have k3 := Lib.hid (show Below V.heap.size V V3 from k2.out.trans (hb3.mono k2.out.size))
    try rw [← eV3]
    replace eV3 := Lib.hid eV3
    obtain ⟨Bn, eBn⟩ : ∃ B, u2.heap.size = B := ⟨_, rfl⟩
    rw [eBn] at n0 nlt ⊢
    clear hb3
    go_wp2_with fail
    refine (TR.out _).mono ?_
    rintro e u4 ⟨rfl, rfl⟩
    go_wp2_with fail
    refine (AT.out _ k3.out).mono ?_
    rintro e u5 ⟨⟨v, ti, N, rfl⟩, hb⟩
    have k5 := Lib.hid (show Below V.heap.size V u5 from k3.out.trans (hb.mono k3.out.size))
    have n5 := (bc hb nlt).trans n0
    have nlt5 : Bn < u5.heap.size := Nat.lt_of_lt_of_le nlt hb.size
    clear hb n0 nlt AT TR
    go_wp2_with fail
    refine (CO.out _).mono ?_
    rintro e u6 ⟨g, rfl, hT, hb⟩
    have k6 := Lib.hid (show Below V.heap.size V u6 from k5.out.trans (hb.mono k5.out.size))
    have n6 := (bc hb nlt5).trans n5
    have nlt6 : Bn < u6.heap.size := Nat.lt_of_lt_of_le nlt5 hb.size
    have IFN := Lib.hid (IFN.out g Bn u6 hT n6 nlt6)
    have HT := Lib.hid (fun x (k : Below u6.heap.size u6 x) => hT.bel k)
    clear hb n5 nlt5 hT n6 nlt6 CO
    go_wp2_with fail
    refine IFN.out.mono ?_
    rintro e u7 ⟨r, rfl, hF, hb⟩
    have k7 := Lib.hid (show Below V.heap.size V u7 from k6.out.trans (hb.mono k6.out.size))
    have hT7 := Lib.hid (HT.out u7 hb)
    clear hb IFN HT hmf
    rcases hF with ⟨j, hj, rfl, hN, _⟩ | ⟨rfl, hN⟩
    all_goals
      clear hN hT7 HE
      obtain ⟨x0, f0⟩ := (HQ.out u7 k7.out).one 0 rfl
      obtain ⟨x1, f1⟩ := (HQ.out u7 k7.out).one 1 rfl
      obtain ⟨x2, f2⟩ := (HQ.out u7 k7.out).one 2 rfl
      have hF := (((HQ.out u7 k7.out).set 0 (.int .i64 0) (by simp)).set 1 (.int .i64 0) (by simp)).set 2 (.int .i64 0) (by simp)
      have hL := Lib.hid ((((HW.out u7 k7.out).setCell (p := ⟨B, 0, none⟩) (Nat.le_of_eq eB) (.int .i64 0)).setCell (p := ⟨B, 1, none⟩) (Nat.le_of_eq eB) (.int .i64 0)).setCell (p := ⟨B, 2, none⟩) (Nat.le_of_eq eB) (.int .i64 0))
      replace hF := Lib.hid hF
      go_wp2
      generalize ((u7.setCell ⟨B, 0, none⟩ (.int .i64 0)).setCell ⟨B, 1, none⟩ (.int .i64 0)).setCell ⟨B, 2, none⟩ (.int .i64 0) = uF at *
      have d0 := (hF.out.one 0 rfl).1
      have d1 := (hF.out.one 1 rfl).1
      have d2 := (hF.out.one 2 rfl).1
      first
        | exact bodyPost_ret (v := .tuple #[.agg #[.int .i64 0, .int .i64 0, .int .i64 0], .bool false]) (by simp [results, Tryd.results39, go_sem, d0, d1, d2]) rfl ⟨0, 0, 0, false, rfl, hps.out, hL.out⟩
        | exact bodyPost_end (v := .tuple #[.agg #[.int .i64 0, .int .i64 0, .int .i64 0], .bool false]) (by simp [results, Tryd.results39, go_sem, d0, d1, d2]) rfl ⟨0, 0, 0, false, rfl, hps.out, hL.out⟩
end Go.Proofs.YtfejdbmamaggpaaDoor
