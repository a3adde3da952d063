/- The document's cosine and sine, and its point; walked. -/
import Derived.Test.YtiibgblpbjdpaaaTurn8
import Derived.Test.YtiibgblpbjdpaaaTrunc
import Derived.Test.YtiibgblpbjdpaaaSatClip
import Derived.Deep.Cut
namespace Go.Proofs.Ytiibgblpbjdpaaa
open Go.ChangeShapes Go.WideShapes Go.ChangeAt Go.RowKit
set_option linter.unusedVariables false
set_option linter.unusedSimpArgs false
/-- The steps, a point in a block of its own, and another new block with cells R. -/
structure PtW (q r g1 o1 g2 o2 : Nat) (x y : Int) (R : List Value) (w v : World) : Prop where
  st : StT g1 o1 g2 o2 v
  p : Held q [.int .i64 x, .int .i64 y] v
  z : Held r R v
  b : Below w.heap.size w v
  qn : w.heap.size ≤ q
  rn : w.heap.size ≤ r
  qr : q ≠ r
  h1 : g1 < w.heap.size
  h2 : g2 < w.heap.size
theorem PtW.bel {q r g1 o1 g2 o2 : Nat} {x y : Int} {R : List Value} {w v v' : World} (h : PtW q r g1 o1 g2 o2 x y R w v) (k : Below v.heap.size v v') : PtW q r g1 o1 g2 o2 x y R w v' := ⟨h.st.bel k, h.p.bel k, h.z.bel k, h.b.trans (k.mono h.b.size), h.qn, h.rn, h.qr, h.h1, h.h2⟩
theorem PtW.set {q r g1 o1 g2 o2 : Nat} {x y : Int} {R : List Value} {w v : World} (h : PtW q r g1 o1 g2 o2 x y R w v) (x' y' : Int) : PtW q r g1 o1 g2 o2 x' y' R w ((v.setCell ⟨q, 0, none⟩ (.int .i64 x')).setCell ⟨q, 1, none⟩ (.int .i64 y')) :=
  have k : Only q v ((v.setCell ⟨q, 0, none⟩ (.int .i64 x')).setCell ⟨q, 1, none⟩ (.int .i64 y')) := ((Only.refl q v).setCell (p := ⟨q, 0, none⟩) _).setCell (p := ⟨q, 1, none⟩) _
  ⟨h.st.beside (.of_only k) (by have := h.qn; have := h.h1; omega) (by have := h.qn; have := h.h2; omega), (h.p.set 0 _ (by simp)).set 1 _ (by simp), h.z.only k (Ne.symm h.qr), h.b.trans (k.below h.qn), h.qn, h.rn, h.qr, h.h1, h.h2⟩
theorem PtW.c {q r g1 o1 g2 o2 : Nat} {x y : Int} {R : List Value} {w v : World} (h : PtW q r g1 o1 g2 o2 x y R w v) : v.cell? ⟨q, 0, none⟩ = some (.int .i64 x) ∧ v.cell? ⟨q, 1, none⟩ = some (.int .i64 y) ∧ v.frozen? ⟨q, 0, none⟩ = false ∧ v.frozen? ⟨q, 1, none⟩ = false :=
  ⟨h.p.c 0 _ rfl, h.p.c 1 _ rfl, h.p.f 0 (by simp), h.p.f 1 (by simp)⟩
def btV : Nat → Int
  | 0 => 0
  | j + 1 => 2 ^ j
theorem bt_half (j : Nat) : ((2 : Int) ^ j).tdiv 2 = btV j := by
  cases j with
  | zero => rfl
  | succ i =>
    have : (0 : Int) ≤ 2 ^ i := Int.le_of_lt (Int.pow_pos (by decide))
    rw [Int.pow_succ, Int.tdiv_eq_ediv_of_nonneg (by omega)]
    show _ = (2 : Int) ^ i
    omega
theorem bt_bd (j : Nat) (h : j < 14) : 1 ≤ (2 : Int) ^ j ∧ (2 : Int) ^ j ≤ 8192 := by
  have := Nat.pow_le_pow_right (n := 2) (by decide) (show j ≤ 13 by omega)
  have := Nat.two_pow_pos j
  rw [show ((2 : Int) ^ j) = ((2 ^ j : Nat) : Int) by simp]
  generalize 2 ^ j = P at *
  omega
/-- A bit of an angle, as the document takes it. -/
theorem bit_at (a j : Nat) : ((a : Int).tdiv ((2 : Int) ^ j)).tmod 2 = ((a / 2 ^ j % 2 : Nat) : Int) := by
  have : (0 : Int) ≤ 2 ^ j := Int.le_of_lt (Int.pow_pos (by decide))
  rw [Int.tdiv_eq_ediv_of_nonneg (by omega), Int.tmod_eq_emod_of_nonneg (Int.ediv_nonneg (by omega) this)]
  push_cast
  rfl
theorem bit_bd (a j : Nat) (h : a < 65536) : 0 ≤ (a : Int).tdiv ((2 : Int) ^ j) ∧ (a : Int).tdiv ((2 : Int) ^ j) ≤ 65535 := by
  have h2 : (0 : Int) < 2 ^ j := Int.pow_pos (by decide)
  rw [Int.tdiv_eq_ediv_of_nonneg (by omega)]
  have a1 := Int.ediv_nonneg (show (0 : Int) ≤ a by omega) (Int.le_of_lt h2)
  have a2 := Int.ediv_le_self (2 ^ j : Int) (show (0 : Int) ≤ a by omega)
  omega
theorem tmul2_bd {x y : Int} (h : Nm x y 2305843009213693952) {k : Nat} (hk : k < 14) : (-1630477228179456000 ≤ x * tC k ∧ x * tC k ≤ 1630477228179456000) ∧ (-1630477228179456000 ≤ y * tS k ∧ y * tS k ≤ 1630477228179456000) ∧ (-1630477228179456000 ≤ x * tS k ∧ x * tS k ≤ 1630477228179456000) ∧ (-1630477228179456000 ≤ y * tC k ∧ y * tC k ≤ 1630477228179456000) := by
  have b := tcs_bd k hk
  have q := h.bd
  exact ⟨mulT q.1 (by omega) (by omega), mulT q.2 (by omega) (by omega), mulT q.1 (by omega) (by omega), mulT q.2 (by omega) (by omega)⟩
theorem pt_start {g1 o1 g2 o2 : Nat} {w : World} (h : StT g1 o1 g2 o2 w) (x y : Int) (t t' : TypeId) : PtW (w.heap.size + 1) w.heap.size g1 o1 g2 o2 x y [.int .i64 0, .int .i64 0] w ((w.alloc (.cells #[.int .i64 0, .int .i64 0] t)).alloc (.cells #[.int .i64 x, .int .i64 y] t')) := by
  have hz : (w.alloc (.cells #[.int .i64 0, .int .i64 0] t)).heap.size = w.heap.size + 1 := by simp
  have k2 : Below (w.alloc (.cells #[.int .i64 0, .int .i64 0] t)).heap.size (w.alloc (.cells #[.int .i64 0, .int .i64 0] t)) ((w.alloc (.cells #[.int .i64 0, .int .i64 0] t)).alloc (.cells #[.int .i64 x, .int .i64 y] t')) := (by repeat (first | exact Below.refl _ _ | assumption | apply Below.drew | apply below_drewN | (refine Below.alloc ?_ (by first | exact Nat.le_refl _ | omega | (simp <;> omega)) _) | (refine Below.setCell ?_ (by first | exact Nat.le_refl _ | omega | (simp <;> omega)) _)))
  have hh := Held.new (w.alloc (.cells #[.int .i64 0, .int .i64 0] t)) [.int .i64 x, .int .i64 y] t'
  rw [hz] at hh
  exact ⟨h.bel (by repeat (first | exact Below.refl _ _ | assumption | apply Below.drew | apply below_drewN | (refine Below.alloc ?_ (by first | exact Nat.le_refl _ | omega | (simp <;> omega)) _) | (refine Below.setCell ?_ (by first | exact Nat.le_refl _ | omega | (simp <;> omega)) _))), hh, (Held.new w [.int .i64 0, .int .i64 0] t).bel k2, (by repeat (first | exact Below.refl _ _ | assumption | apply Below.drew | apply below_drewN | (refine Below.alloc ?_ (by first | exact Nat.le_refl _ | omega | (simp <;> omega)) _) | (refine Below.setCell ?_ (by first | exact Nat.le_refl _ | omega | (simp <;> omega)) _))), by omega, by omega, by omega, h.l1, h.l2⟩
set_option maxRecDepth 100000 in
set_option maxHeartbeats 8000000 in
theorem rat00 (g1 o1 c1 g2 o2 c2 a : Nat) (w : World) (hT : StT g1 o1 g2 o2 w) (ha : a < 65536) (hh : a / 32768 % 2 = 0) (hq : a / 16384 % 2 = 0) : Calls Try.prog 18 #[.slice (some ⟨g1, o1, none⟩) 14 c1, .slice (some ⟨g2, o2, none⟩) 14 c2, .int .i64 (a : Int)] w fun e w' => e = .returned (.agg #[.int .i64 (atP a).1, .int .i64 (atP a).2]) ∧ Below w.heap.size w w' := by
  have mb := bit_bd a 15 ha
  have mt := bit_at a 15
  rw [show a / 2 ^ 15 % 2 = 0 by omega] at mt
  rw [show (2 : Int) ^ 15 = 32768 from rfl] at mb mt
  generalize m0 : (a : Int).tdiv 32768 = mH at *
  have mt : mH.tmod 2 = 0 := mt
  have m2 : IntKind.i64.wrap mH = mH := by rw [IntKind.wrap_i64]; omega
  clear mb
  have nb := bit_bd a 14 ha
  have nt := bit_at a 14
  rw [show a / 2 ^ 14 % 2 = 0 by omega] at nt
  rw [show (2 : Int) ^ 14 = 16384 from rfl] at nb nt
  generalize n0 : (a : Int).tdiv 16384 = nH at *
  have nt : nH.tmod 2 = 0 := nt
  have n2 : IntKind.i64.wrap nH = nH := by rw [IntKind.wrap_i64]; omega
  clear nb
  have eA : atP a = atF a 14 (1073741824, 0) := by
    show atF a 14 (atS a) = _
    have e1 : atH a = (1073741824, 0) := by unfold atH; exact if_neg (by omega)
    have e2 : atS a = (1073741824, 0) := by unfold atS; rw [if_neg (by omega), e1]
    rw [e2]
  have nA : Hid (Nm (1073741824) (0) 1152921504606846976) := Lib.hid (by unfold Nm; decide)
  obtain ⟨R, hR⟩ : ∃ R, atF a 14 (1073741824, 0) = R := ⟨_, rfl⟩
  have eR := Lib.hid (eA.trans hR)
  replace hR := Lib.hid hR
  clear eA
  rw [eR.out]
  obtain ⟨V, eV, HV⟩ : ∃ V, V = (w.alloc (.cells #[.int .i64 0, .int .i64 0] 48)).alloc (.cells #[.int .i64 1073741824, .int .i64 0] 48) ∧ PtW (w.heap.size + 1) w.heap.size g1 o1 g2 o2 1073741824 0 [.int .i64 0, .int .i64 0] w V := ⟨_, rfl, pt_start hT _ _ _ _⟩
  clear hT
  go_enter Try.func18, Try.ntmps18
  go_upto_region 2 with (fail)
  rw [← eV]
  clear eV
  generalize w.heap.size + 1 = q at *
  obtain ⟨r, er⟩ : ∃ r, r = w.heap.size := ⟨_, rfl⟩
  rw [← er] at HV ⊢
  replace er := Lib.hid er
  obtain ⟨k0, k1, k2, k3⟩ := HV.c
  replace HV := Lib.hid HV
  go_upto_region 6 with (fail)
  clear k0 k1 k2 k3
  clear m0 mt m2 n0 nt n2
  go_wp2_with fail
  go_loopw [8, 9] (fun bt i v => ∃ (k : Nat) (x y : Int), k ≤ 14 ∧ bt = .int .i64 (btV k) ∧ i = .int .i64 ((k : Int) - 1) ∧ Hid (atF a k (x, y) = R) ∧ Hid (Nm x y 1152921504606846976) ∧ Hid (PtW q r g1 o1 g2 o2 x y [.int .i64 0, .int .i64 0] w v)) (fun _ i _ => (intOf i + 1).toNat)
  case atStart => exact ⟨14, _, _, by omega, rfl, rfl, hR, nA, HV⟩
  case round =>
    clear HV hR nA
    obtain ⟨k, x, y, hk, rfl, rfl, hR, nA, HV⟩ := hrel
    generalize wr = v0 at *
    cases k with
    | zero =>
      obtain ⟨k0, k1, k2, k3⟩ := HV.out.c
      obtain ⟨z0, f0⟩ := HV.out.z.one 0 rfl
      obtain ⟨z1, f1⟩ := HV.out.z.one 1 rfl
      have hR2 : (x, y) = R := hR.out
      clear hR
      have hq := HV.out.qr
      have bw := Lib.hid ((HV.out.b.setCell (p := ⟨r, 0, none⟩) HV.out.rn (.int .i64 x)).setCell (p := ⟨r, 1, none⟩) HV.out.rn (.int .i64 y))
      go_wp2
      refine bodyPost_ret (v := .agg #[.int .i64 x, .int .i64 y]) (by simp [results, Try.results18, go_sem, z0, z1]) rfl ⟨by rw [← hR2], bw.out⟩
    | succ j =>
      have hj : j < 14 := by omega
      rw [show ((j + 1 : Nat) : Int) - 1 = (j : Int) by omega]
      rw [show btV (j + 1) = 2 ^ j from rfl]
      have pb := bt_bd j hj
      have ph := bt_half j
      have bb := bit_bd a j ha
      have bt := bit_at a j
      have i1 : (j : Int) < 14 := by omega
      have i0 : 0 ≤ (j : Int) := by omega
      have i7 : IntKind.i64.wrap ((j : Int) - 1) = (j : Int) - 1 := by rw [IntKind.wrap_i64]; omega
      have bv : 0 ≤ btV j ∧ btV j ≤ 8192 := by rw [← ph]; rw [Int.tdiv_eq_ediv_of_nonneg (by omega)]; omega
      have w0 : IntKind.i64.wrap (btV j) = btV j := by rw [IntKind.wrap_i64]; omega
      generalize hBt : btV j = Bt at *
      replace hBt := Lib.hid hBt
      generalize (2 : Int) ^ j = P at *
      generalize hH : (a : Int).tdiv P = H at *
      have w2 : IntKind.i64.wrap H = H := by rw [IntKind.wrap_i64]; omega
      have p0 : ¬ P = 0 := by omega
      have p1 : ¬ P = -1 := by omega
      clear bb bv pb
      have hR2 : (if a / 2 ^ j % 2 = 1 then atF a j (fX j x y, fY j x y) else atF a j (x, y)) = R := hR.out
      clear hR
      by_cases hb : a / 2 ^ j % 2 = 1
      · rw [hb] at bt
        rw [if_pos hb] at hR2
        clear hb
        have bt : H.tmod 2 = 1 := bt
        have nf := Lib.hid (f_le hj nA.out)
        have nn := nA.out.mono (K := 2305843009213693952) (by decide)
        have cc := HV.out.st.c j hj
        have cs := HV.out.st.s j hj
        have mb := tmul2_bd nn hj
        have n2 := (f_le hj nn).bd
        have eX2 : fX j x y = (x * tC j - y * tS j).tdiv 1073741824 := rfl
        have eY2 : fY j x y = (x * tS j + y * tC j).tdiv 1073741824 := rfl
        obtain ⟨A, eA⟩ : ∃ A, A = x * tC j := ⟨_, rfl⟩
        obtain ⟨B, eB⟩ : ∃ B, B = y * tS j := ⟨_, rfl⟩
        obtain ⟨C, eC⟩ : ∃ C, C = x * tS j := ⟨_, rfl⟩
        obtain ⟨D, eD⟩ : ∃ D, D = y * tC j := ⟨_, rfl⟩
        rw [← eA, ← eB, ← eC, ← eD] at mb
        have vA : IntKind.i64.wrap (x * tC j) = A := by rw [← eA, IntKind.wrap_i64]; omega
        have vB : IntKind.i64.wrap (y * tS j) = B := by rw [← eB, IntKind.wrap_i64]; omega
        have vC : IntKind.i64.wrap (x * tS j) = C := by rw [← eC, IntKind.wrap_i64]; omega
        have vD : IntKind.i64.wrap (y * tC j) = D := by rw [← eD, IntKind.wrap_i64]; omega
        rw [← eA, ← eB] at eX2
        rw [← eC, ← eD] at eY2
        generalize fX j x y = x2 at *
        generalize fY j x y = y2 at *
        have u1 : IntKind.i64.wrap (A - B) = A - B := by rw [IntKind.wrap_i64]; omega
        have u2 : IntKind.i64.wrap (C + D) = C + D := by rw [IntKind.wrap_i64]; omega
        have u3 : (A - B).tdiv 1073741824 = x2 := eX2.symm
        have u4 : (C + D).tdiv 1073741824 = y2 := eY2.symm
        have u5 : IntKind.i64.wrap x2 = x2 := by rw [IntKind.wrap_i64]; omega
        have u6 : IntKind.i64.wrap y2 = y2 := by rw [IntKind.wrap_i64]; omega
        clear eX2 eY2 mb nn
        generalize tC j = tc0 at *
        generalize tS j = ts0 at *
        clear eA eB eC eD
        replace hR2 := Lib.hid hR2
        obtain ⟨k0, k1, k2, k3⟩ := HV.out.c
        clear n2
        replace hj := Lib.hid hj
        go_wp2_with fail
        refine region_moves (fun u => u.cell? ⟨q, 0, none⟩ = some (.int .i64 x) ∧ u.cell? ⟨q, 1, none⟩ = some (.int .i64 y) ∧ u.cell? ⟨g1, o1 + j, none⟩ = some (.int .i64 tc0) ∧ u.cell? ⟨g2, o2 + j, none⟩ = some (.int .i64 ts0) ∧ u.frozen? ⟨q, 0, none⟩ = false ∧ u.frozen? ⟨q, 1, none⟩ = false) [(33, [(32, 33), (0, 33), (1, 33), (2, 33), (3, 33), (4, 33), (5, 33), (6, 33), (7, 33), (8, 33), (9, 33), (10, 33), (11, 33), (12, 33), (13, 33), (14, 33), (15, 33), (16, 33), (17, 33), (18, 33), (19, 33), (20, 33), (21, 33), (22, 33), (23, 33), (24, 33), (25, 33), (26, 33), (27, 33), (28, 33), (29, 33), (30, 33), (31, 33)])] [(.free, 0), (.take, 1), (.free, 2), (.free, 3), (.free, 4), (.take, 5), (.free, 6), (.free, 7), (.take, 8), (.free, 9), (.free, 10), (.free, 11), (.take, 12), (.free, 13), (.free, 14), (.free, 15), (.free, 16), (.take, 17), (.free, 18), (.free, 19), (.free, 20), (.take, 21), (.free, 22), (.free, 23), (.take, 24), (.free, 25), (.free, 26), (.free, 27), (.take, 28), (.free, 29), (.free, 30), (.free, 31), (.free, 32), (.late, 33)] _ (by kernel_rfl) (by kernel_rfl) (by kernel_rfl) (by kernel_rfl) (by decide) rfl (fun _ _ _ _ _ h => h) ?_
        simp only [List.filterMap_cons, List.filterMap_nil, List.getElem?_toArray, List.getElem?_cons_zero, List.getElem?_cons_succ, Option.map_some]
        iterate 1
          first
            | (refine mv_free ?_ (Or.inl ⟨by rfl, ?_⟩) (⟨k0, k1, cc, cs, k2, k3⟩) ?_
               rotate_left 1
               · intro u
                 go_simp
                 try simp only [d1]
                 try simp only [d2]
                 try simp only [d3]
                 try with_reducible rfl
               simp only [Act.put, List.setIfInBounds_toArray, List.set_cons_zero, List.set_cons_succ])
            | (refine mv_free _ (Or.inr ⟨by rfl, rfl⟩) (⟨k0, k1, cc, cs, k2, k3⟩) ?_
               simp only [Act.put, List.setIfInBounds_toArray, List.set_cons_zero, List.set_cons_succ])
        iterate 1
          first
            | (refine mv_take ?_ (Or.inl ⟨by rfl, ?_⟩) (⟨k0, k1, cc, cs, k2, k3⟩) ?_
               rotate_left 1
               · intro u hu
                 (try dsimp only at hu)
                 go_simp
                 try with_reducible rfl
               simp only [Act.put, List.setIfInBounds_toArray, List.set_cons_zero, List.set_cons_succ])
            | (refine mv_take _ (Or.inr ⟨by rfl, rfl⟩) (⟨k0, k1, cc, cs, k2, k3⟩) ?_
               simp only [Act.put, List.setIfInBounds_toArray, List.set_cons_zero, List.set_cons_succ])
        iterate 3
          first
            | (refine mv_free ?_ (Or.inl ⟨by rfl, ?_⟩) (⟨k0, k1, cc, cs, k2, k3⟩) ?_
               rotate_left 1
               · intro u
                 go_simp
                 try simp only [d1]
                 try simp only [d2]
                 try simp only [d3]
                 try with_reducible rfl
               simp only [Act.put, List.setIfInBounds_toArray, List.set_cons_zero, List.set_cons_succ])
            | (refine mv_free _ (Or.inr ⟨by rfl, rfl⟩) (⟨k0, k1, cc, cs, k2, k3⟩) ?_
               simp only [Act.put, List.setIfInBounds_toArray, List.set_cons_zero, List.set_cons_succ])
        iterate 1
          first
            | (refine mv_take ?_ (Or.inl ⟨by rfl, ?_⟩) (⟨k0, k1, cc, cs, k2, k3⟩) ?_
               rotate_left 1
               · intro u hu
                 (try dsimp only at hu)
                 go_simp
                 try with_reducible rfl
               simp only [Act.put, List.setIfInBounds_toArray, List.set_cons_zero, List.set_cons_succ])
            | (refine mv_take _ (Or.inr ⟨by rfl, rfl⟩) (⟨k0, k1, cc, cs, k2, k3⟩) ?_
               simp only [Act.put, List.setIfInBounds_toArray, List.set_cons_zero, List.set_cons_succ])
        iterate 2
          first
            | (refine mv_free ?_ (Or.inl ⟨by rfl, ?_⟩) (⟨k0, k1, cc, cs, k2, k3⟩) ?_
               rotate_left 1
               · intro u
                 go_simp
                 try simp only [d1]
                 try simp only [d2]
                 try simp only [d3]
                 try with_reducible rfl
               simp only [Act.put, List.setIfInBounds_toArray, List.set_cons_zero, List.set_cons_succ])
            | (refine mv_free _ (Or.inr ⟨by rfl, rfl⟩) (⟨k0, k1, cc, cs, k2, k3⟩) ?_
               simp only [Act.put, List.setIfInBounds_toArray, List.set_cons_zero, List.set_cons_succ])
        iterate 1
          first
            | (refine mv_take ?_ (Or.inl ⟨by rfl, ?_⟩) (⟨k0, k1, cc, cs, k2, k3⟩) ?_
               rotate_left 1
               · intro u hu
                 (try dsimp only at hu)
                 go_simp
                 try with_reducible rfl
               simp only [Act.put, List.setIfInBounds_toArray, List.set_cons_zero, List.set_cons_succ])
            | (refine mv_take _ (Or.inr ⟨by rfl, rfl⟩) (⟨k0, k1, cc, cs, k2, k3⟩) ?_
               simp only [Act.put, List.setIfInBounds_toArray, List.set_cons_zero, List.set_cons_succ])
        iterate 3
          first
            | (refine mv_free ?_ (Or.inl ⟨by rfl, ?_⟩) (⟨k0, k1, cc, cs, k2, k3⟩) ?_
               rotate_left 1
               · intro u
                 go_simp
                 try simp only [d1]
                 try simp only [d2]
                 try simp only [d3]
                 try with_reducible rfl
               simp only [Act.put, List.setIfInBounds_toArray, List.set_cons_zero, List.set_cons_succ])
            | (refine mv_free _ (Or.inr ⟨by rfl, rfl⟩) (⟨k0, k1, cc, cs, k2, k3⟩) ?_
               simp only [Act.put, List.setIfInBounds_toArray, List.set_cons_zero, List.set_cons_succ])
        iterate 1
          first
            | (refine mv_take ?_ (Or.inl ⟨by rfl, ?_⟩) (⟨k0, k1, cc, cs, k2, k3⟩) ?_
               rotate_left 1
               · intro u hu
                 (try dsimp only at hu)
                 go_simp
                 try with_reducible rfl
               simp only [Act.put, List.setIfInBounds_toArray, List.set_cons_zero, List.set_cons_succ])
            | (refine mv_take _ (Or.inr ⟨by rfl, rfl⟩) (⟨k0, k1, cc, cs, k2, k3⟩) ?_
               simp only [Act.put, List.setIfInBounds_toArray, List.set_cons_zero, List.set_cons_succ])
        iterate 4
          first
            | (refine mv_free ?_ (Or.inl ⟨by rfl, ?_⟩) (⟨k0, k1, cc, cs, k2, k3⟩) ?_
               rotate_left 1
               · intro u
                 go_simp
                 try simp only [d1]
                 try simp only [d2]
                 try simp only [d3]
                 try with_reducible rfl
               simp only [Act.put, List.setIfInBounds_toArray, List.set_cons_zero, List.set_cons_succ])
            | (refine mv_free _ (Or.inr ⟨by rfl, rfl⟩) (⟨k0, k1, cc, cs, k2, k3⟩) ?_
               simp only [Act.put, List.setIfInBounds_toArray, List.set_cons_zero, List.set_cons_succ])
        iterate 1
          first
            | (refine mv_take ?_ (Or.inl ⟨by rfl, ?_⟩) (⟨k0, k1, cc, cs, k2, k3⟩) ?_
               rotate_left 1
               · intro u hu
                 (try dsimp only at hu)
                 go_simp
                 try with_reducible rfl
               simp only [Act.put, List.setIfInBounds_toArray, List.set_cons_zero, List.set_cons_succ])
            | (refine mv_take _ (Or.inr ⟨by rfl, rfl⟩) (⟨k0, k1, cc, cs, k2, k3⟩) ?_
               simp only [Act.put, List.setIfInBounds_toArray, List.set_cons_zero, List.set_cons_succ])
        iterate 3
          first
            | (refine mv_free ?_ (Or.inl ⟨by rfl, ?_⟩) (⟨k0, k1, cc, cs, k2, k3⟩) ?_
               rotate_left 1
               · intro u
                 go_simp
                 try simp only [d1]
                 try simp only [d2]
                 try simp only [d3]
                 try with_reducible rfl
               simp only [Act.put, List.setIfInBounds_toArray, List.set_cons_zero, List.set_cons_succ])
            | (refine mv_free _ (Or.inr ⟨by rfl, rfl⟩) (⟨k0, k1, cc, cs, k2, k3⟩) ?_
               simp only [Act.put, List.setIfInBounds_toArray, List.set_cons_zero, List.set_cons_succ])
        iterate 1
          first
            | (refine mv_take ?_ (Or.inl ⟨by rfl, ?_⟩) (⟨k0, k1, cc, cs, k2, k3⟩) ?_
               rotate_left 1
               · intro u hu
                 (try dsimp only at hu)
                 go_simp
                 try with_reducible rfl
               simp only [Act.put, List.setIfInBounds_toArray, List.set_cons_zero, List.set_cons_succ])
            | (refine mv_take _ (Or.inr ⟨by rfl, rfl⟩) (⟨k0, k1, cc, cs, k2, k3⟩) ?_
               simp only [Act.put, List.setIfInBounds_toArray, List.set_cons_zero, List.set_cons_succ])
        iterate 2
          first
            | (refine mv_free ?_ (Or.inl ⟨by rfl, ?_⟩) (⟨k0, k1, cc, cs, k2, k3⟩) ?_
               rotate_left 1
               · intro u
                 go_simp
                 try simp only [d1]
                 try simp only [d2]
                 try simp only [d3]
                 try with_reducible rfl
               simp only [Act.put, List.setIfInBounds_toArray, List.set_cons_zero, List.set_cons_succ])
            | (refine mv_free _ (Or.inr ⟨by rfl, rfl⟩) (⟨k0, k1, cc, cs, k2, k3⟩) ?_
               simp only [Act.put, List.setIfInBounds_toArray, List.set_cons_zero, List.set_cons_succ])
        iterate 1
          first
            | (refine mv_take ?_ (Or.inl ⟨by rfl, ?_⟩) (⟨k0, k1, cc, cs, k2, k3⟩) ?_
               rotate_left 1
               · intro u hu
                 (try dsimp only at hu)
                 go_simp
                 try with_reducible rfl
               simp only [Act.put, List.setIfInBounds_toArray, List.set_cons_zero, List.set_cons_succ])
            | (refine mv_take _ (Or.inr ⟨by rfl, rfl⟩) (⟨k0, k1, cc, cs, k2, k3⟩) ?_
               simp only [Act.put, List.setIfInBounds_toArray, List.set_cons_zero, List.set_cons_succ])
        iterate 3
          first
            | (refine mv_free ?_ (Or.inl ⟨by rfl, ?_⟩) (⟨k0, k1, cc, cs, k2, k3⟩) ?_
               rotate_left 1
               · intro u
                 go_simp
                 try simp only [d1]
                 try simp only [d2]
                 try simp only [d3]
                 try with_reducible rfl
               simp only [Act.put, List.setIfInBounds_toArray, List.set_cons_zero, List.set_cons_succ])
            | (refine mv_free _ (Or.inr ⟨by rfl, rfl⟩) (⟨k0, k1, cc, cs, k2, k3⟩) ?_
               simp only [Act.put, List.setIfInBounds_toArray, List.set_cons_zero, List.set_cons_succ])
        iterate 1
          first
            | (refine mv_take ?_ (Or.inl ⟨by rfl, ?_⟩) (⟨k0, k1, cc, cs, k2, k3⟩) ?_
               rotate_left 1
               · intro u hu
                 (try dsimp only at hu)
                 go_simp
                 try with_reducible rfl
               simp only [Act.put, List.setIfInBounds_toArray, List.set_cons_zero, List.set_cons_succ])
            | (refine mv_take _ (Or.inr ⟨by rfl, rfl⟩) (⟨k0, k1, cc, cs, k2, k3⟩) ?_
               simp only [Act.put, List.setIfInBounds_toArray, List.set_cons_zero, List.set_cons_succ])
        iterate 4
          first
            | (refine mv_free ?_ (Or.inl ⟨by rfl, ?_⟩) (⟨k0, k1, cc, cs, k2, k3⟩) ?_
               rotate_left 1
               · intro u
                 go_simp
                 try simp only [d1]
                 try simp only [d2]
                 try simp only [d3]
                 try with_reducible rfl
               simp only [Act.put, List.setIfInBounds_toArray, List.set_cons_zero, List.set_cons_succ])
            | (refine mv_free _ (Or.inr ⟨by rfl, rfl⟩) (⟨k0, k1, cc, cs, k2, k3⟩) ?_
               simp only [Act.put, List.setIfInBounds_toArray, List.set_cons_zero, List.set_cons_succ])
        refine mv_late (fun K hK => ?_)
        go_simp
        refine hK.out (fun _ => True) _ _ ?_
        clear hK K
        refine mv_done ?_
        have HV := Lib.hid ((HV.out.set x2 y2).bel (Below.refl _ _).drew)
        clear k0 k1 k2 k3 cc cs
        go_wp2
        go_roundw
        case rel => exact ⟨j, x2, y2, by omega, by rw [hBt.out], rfl, hR2, nf, HV⟩
        case measure => simp [intOf] <;> omega
      · have hb0 : a / 2 ^ j % 2 = 0 := by omega
        rw [hb0] at bt
        rw [if_neg hb] at hR2
        clear hb hb0
        have bt : H.tmod 2 = 0 := bt
        replace hR2 := Lib.hid hR2
        go_wp2
        go_roundw
        case rel => exact ⟨j, x, y, by omega, by rw [hBt.out], rfl, hR2, nA, HV⟩
        case measure => simp [intOf] <;> omega
set_option maxRecDepth 100000 in
set_option maxHeartbeats 8000000 in
theorem rat01 (g1 o1 c1 g2 o2 c2 a : Nat) (w : World) (hT : StT g1 o1 g2 o2 w) (ha : a < 65536) (hh : a / 32768 % 2 = 0) (hq : a / 16384 % 2 = 1) : Calls Try.prog 18 #[.slice (some ⟨g1, o1, none⟩) 14 c1, .slice (some ⟨g2, o2, none⟩) 14 c2, .int .i64 (a : Int)] w fun e w' => e = .returned (.agg #[.int .i64 (atP a).1, .int .i64 (atP a).2]) ∧ Below w.heap.size w w' := by
  have mb := bit_bd a 15 ha
  have mt := bit_at a 15
  rw [show a / 2 ^ 15 % 2 = 0 by omega] at mt
  rw [show (2 : Int) ^ 15 = 32768 from rfl] at mb mt
  generalize m0 : (a : Int).tdiv 32768 = mH at *
  have mt : mH.tmod 2 = 0 := mt
  have m2 : IntKind.i64.wrap mH = mH := by rw [IntKind.wrap_i64]; omega
  clear mb
  have nb := bit_bd a 14 ha
  have nt := bit_at a 14
  rw [show a / 2 ^ 14 % 2 = 1 by omega] at nt
  rw [show (2 : Int) ^ 14 = 16384 from rfl] at nb nt
  generalize n0 : (a : Int).tdiv 16384 = nH at *
  have nt : nH.tmod 2 = 1 := nt
  have n2 : IntKind.i64.wrap nH = nH := by rw [IntKind.wrap_i64]; omega
  clear nb
  have eA : atP a = atF a 14 (0, 1073741824) := by
    show atF a 14 (atS a) = _
    have e1 : atH a = (1073741824, 0) := by unfold atH; exact if_neg (by omega)
    have e2 : atS a = (0, 1073741824) := by unfold atS; rw [if_pos (by omega), e1]; rfl
    rw [e2]
  have nA : Hid (Nm (0) (1073741824) 1152921504606846976) := Lib.hid (by unfold Nm; decide)
  obtain ⟨R, hR⟩ : ∃ R, atF a 14 (0, 1073741824) = R := ⟨_, rfl⟩
  have eR := Lib.hid (eA.trans hR)
  replace hR := Lib.hid hR
  clear eA
  rw [eR.out]
  obtain ⟨V, eV, HV⟩ : ∃ V, V = (w.alloc (.cells #[.int .i64 0, .int .i64 0] 48)).alloc (.cells #[.int .i64 1073741824, .int .i64 0] 48) ∧ PtW (w.heap.size + 1) w.heap.size g1 o1 g2 o2 1073741824 0 [.int .i64 0, .int .i64 0] w V := ⟨_, rfl, pt_start hT _ _ _ _⟩
  clear hT
  go_enter Try.func18, Try.ntmps18
  go_upto_region 2 with (fail)
  rw [← eV]
  clear eV
  generalize w.heap.size + 1 = q at *
  obtain ⟨r, er⟩ : ∃ r, r = w.heap.size := ⟨_, rfl⟩
  rw [← er] at HV ⊢
  replace er := Lib.hid er
  obtain ⟨k0, k1, k2, k3⟩ := HV.c
  replace HV := Lib.hid (HV.set 0 1073741824)
  go_upto_region 6 with (fail)
  generalize (V.setCell ⟨q, 0, none⟩ (.int .i64 0)).setCell ⟨q, 1, none⟩ (.int .i64 1073741824) = V2 at *
  clear k0 k1 k2 k3
  clear m0 mt m2 n0 nt n2
  go_wp2_with fail
  go_loopw [8, 9] (fun bt i v => ∃ (k : Nat) (x y : Int), k ≤ 14 ∧ bt = .int .i64 (btV k) ∧ i = .int .i64 ((k : Int) - 1) ∧ Hid (atF a k (x, y) = R) ∧ Hid (Nm x y 1152921504606846976) ∧ Hid (PtW q r g1 o1 g2 o2 x y [.int .i64 0, .int .i64 0] w v)) (fun _ i _ => (intOf i + 1).toNat)
  case atStart => exact ⟨14, _, _, by omega, rfl, rfl, hR, nA, HV⟩
  case round =>
    clear HV hR nA
    obtain ⟨k, x, y, hk, rfl, rfl, hR, nA, HV⟩ := hrel
    generalize wr = v0 at *
    cases k with
    | zero =>
      obtain ⟨k0, k1, k2, k3⟩ := HV.out.c
      obtain ⟨z0, f0⟩ := HV.out.z.one 0 rfl
      obtain ⟨z1, f1⟩ := HV.out.z.one 1 rfl
      have hR2 : (x, y) = R := hR.out
      clear hR
      have hq := HV.out.qr
      have bw := Lib.hid ((HV.out.b.setCell (p := ⟨r, 0, none⟩) HV.out.rn (.int .i64 x)).setCell (p := ⟨r, 1, none⟩) HV.out.rn (.int .i64 y))
      go_wp2
      refine bodyPost_ret (v := .agg #[.int .i64 x, .int .i64 y]) (by simp [results, Try.results18, go_sem, z0, z1]) rfl ⟨by rw [← hR2], bw.out⟩
    | succ j =>
      have hj : j < 14 := by omega
      rw [show ((j + 1 : Nat) : Int) - 1 = (j : Int) by omega]
      rw [show btV (j + 1) = 2 ^ j from rfl]
      have pb := bt_bd j hj
      have ph := bt_half j
      have bb := bit_bd a j ha
      have bt := bit_at a j
      have i1 : (j : Int) < 14 := by omega
      have i0 : 0 ≤ (j : Int) := by omega
      have i7 : IntKind.i64.wrap ((j : Int) - 1) = (j : Int) - 1 := by rw [IntKind.wrap_i64]; omega
      have bv : 0 ≤ btV j ∧ btV j ≤ 8192 := by rw [← ph]; rw [Int.tdiv_eq_ediv_of_nonneg (by omega)]; omega
      have w0 : IntKind.i64.wrap (btV j) = btV j := by rw [IntKind.wrap_i64]; omega
      generalize hBt : btV j = Bt at *
      replace hBt := Lib.hid hBt
      generalize (2 : Int) ^ j = P at *
      generalize hH : (a : Int).tdiv P = H at *
      have w2 : IntKind.i64.wrap H = H := by rw [IntKind.wrap_i64]; omega
      have p0 : ¬ P = 0 := by omega
      have p1 : ¬ P = -1 := by omega
      clear bb bv pb
      have hR2 : (if a / 2 ^ j % 2 = 1 then atF a j (fX j x y, fY j x y) else atF a j (x, y)) = R := hR.out
      clear hR
      by_cases hb : a / 2 ^ j % 2 = 1
      · rw [hb] at bt
        rw [if_pos hb] at hR2
        clear hb
        have bt : H.tmod 2 = 1 := bt
        have nf := Lib.hid (f_le hj nA.out)
        have nn := nA.out.mono (K := 2305843009213693952) (by decide)
        have cc := HV.out.st.c j hj
        have cs := HV.out.st.s j hj
        have mb := tmul2_bd nn hj
        have n2 := (f_le hj nn).bd
        have eX2 : fX j x y = (x * tC j - y * tS j).tdiv 1073741824 := rfl
        have eY2 : fY j x y = (x * tS j + y * tC j).tdiv 1073741824 := rfl
        obtain ⟨A, eA⟩ : ∃ A, A = x * tC j := ⟨_, rfl⟩
        obtain ⟨B, eB⟩ : ∃ B, B = y * tS j := ⟨_, rfl⟩
        obtain ⟨C, eC⟩ : ∃ C, C = x * tS j := ⟨_, rfl⟩
        obtain ⟨D, eD⟩ : ∃ D, D = y * tC j := ⟨_, rfl⟩
        rw [← eA, ← eB, ← eC, ← eD] at mb
        have vA : IntKind.i64.wrap (x * tC j) = A := by rw [← eA, IntKind.wrap_i64]; omega
        have vB : IntKind.i64.wrap (y * tS j) = B := by rw [← eB, IntKind.wrap_i64]; omega
        have vC : IntKind.i64.wrap (x * tS j) = C := by rw [← eC, IntKind.wrap_i64]; omega
        have vD : IntKind.i64.wrap (y * tC j) = D := by rw [← eD, IntKind.wrap_i64]; omega
        rw [← eA, ← eB] at eX2
        rw [← eC, ← eD] at eY2
        generalize fX j x y = x2 at *
        generalize fY j x y = y2 at *
        have u1 : IntKind.i64.wrap (A - B) = A - B := by rw [IntKind.wrap_i64]; omega
        have u2 : IntKind.i64.wrap (C + D) = C + D := by rw [IntKind.wrap_i64]; omega
        have u3 : (A - B).tdiv 1073741824 = x2 := eX2.symm
        have u4 : (C + D).tdiv 1073741824 = y2 := eY2.symm
        have u5 : IntKind.i64.wrap x2 = x2 := by rw [IntKind.wrap_i64]; omega
        have u6 : IntKind.i64.wrap y2 = y2 := by rw [IntKind.wrap_i64]; omega
        clear eX2 eY2 mb nn
        generalize tC j = tc0 at *
        generalize tS j = ts0 at *
        clear eA eB eC eD
        replace hR2 := Lib.hid hR2
        obtain ⟨k0, k1, k2, k3⟩ := HV.out.c
        clear n2
        replace hj := Lib.hid hj
        go_wp2_with fail
        refine region_moves (fun u => u.cell? ⟨q, 0, none⟩ = some (.int .i64 x) ∧ u.cell? ⟨q, 1, none⟩ = some (.int .i64 y) ∧ u.cell? ⟨g1, o1 + j, none⟩ = some (.int .i64 tc0) ∧ u.cell? ⟨g2, o2 + j, none⟩ = some (.int .i64 ts0) ∧ u.frozen? ⟨q, 0, none⟩ = false ∧ u.frozen? ⟨q, 1, none⟩ = false) [(33, [(32, 33), (0, 33), (1, 33), (2, 33), (3, 33), (4, 33), (5, 33), (6, 33), (7, 33), (8, 33), (9, 33), (10, 33), (11, 33), (12, 33), (13, 33), (14, 33), (15, 33), (16, 33), (17, 33), (18, 33), (19, 33), (20, 33), (21, 33), (22, 33), (23, 33), (24, 33), (25, 33), (26, 33), (27, 33), (28, 33), (29, 33), (30, 33), (31, 33)])] [(.free, 0), (.take, 1), (.free, 2), (.free, 3), (.free, 4), (.take, 5), (.free, 6), (.free, 7), (.take, 8), (.free, 9), (.free, 10), (.free, 11), (.take, 12), (.free, 13), (.free, 14), (.free, 15), (.free, 16), (.take, 17), (.free, 18), (.free, 19), (.free, 20), (.take, 21), (.free, 22), (.free, 23), (.take, 24), (.free, 25), (.free, 26), (.free, 27), (.take, 28), (.free, 29), (.free, 30), (.free, 31), (.free, 32), (.late, 33)] _ (by kernel_rfl) (by kernel_rfl) (by kernel_rfl) (by kernel_rfl) (by decide) rfl (fun _ _ _ _ _ h => h) ?_
        simp only [List.filterMap_cons, List.filterMap_nil, List.getElem?_toArray, List.getElem?_cons_zero, List.getElem?_cons_succ, Option.map_some]
        iterate 1
          first
            | (refine mv_free ?_ (Or.inl ⟨by rfl, ?_⟩) (⟨k0, k1, cc, cs, k2, k3⟩) ?_
               rotate_left 1
               · intro u
                 go_simp
                 try simp only [d1]
                 try simp only [d2]
                 try simp only [d3]
                 try with_reducible rfl
               simp only [Act.put, List.setIfInBounds_toArray, List.set_cons_zero, List.set_cons_succ])
            | (refine mv_free _ (Or.inr ⟨by rfl, rfl⟩) (⟨k0, k1, cc, cs, k2, k3⟩) ?_
               simp only [Act.put, List.setIfInBounds_toArray, List.set_cons_zero, List.set_cons_succ])
        iterate 1
          first
            | (refine mv_take ?_ (Or.inl ⟨by rfl, ?_⟩) (⟨k0, k1, cc, cs, k2, k3⟩) ?_
               rotate_left 1
               · intro u hu
                 (try dsimp only at hu)
                 go_simp
                 try with_reducible rfl
               simp only [Act.put, List.setIfInBounds_toArray, List.set_cons_zero, List.set_cons_succ])
            | (refine mv_take _ (Or.inr ⟨by rfl, rfl⟩) (⟨k0, k1, cc, cs, k2, k3⟩) ?_
               simp only [Act.put, List.setIfInBounds_toArray, List.set_cons_zero, List.set_cons_succ])
        iterate 3
          first
            | (refine mv_free ?_ (Or.inl ⟨by rfl, ?_⟩) (⟨k0, k1, cc, cs, k2, k3⟩) ?_
               rotate_left 1
               · intro u
                 go_simp
                 try simp only [d1]
                 try simp only [d2]
                 try simp only [d3]
                 try with_reducible rfl
               simp only [Act.put, List.setIfInBounds_toArray, List.set_cons_zero, List.set_cons_succ])
            | (refine mv_free _ (Or.inr ⟨by rfl, rfl⟩) (⟨k0, k1, cc, cs, k2, k3⟩) ?_
               simp only [Act.put, List.setIfInBounds_toArray, List.set_cons_zero, List.set_cons_succ])
        iterate 1
          first
            | (refine mv_take ?_ (Or.inl ⟨by rfl, ?_⟩) (⟨k0, k1, cc, cs, k2, k3⟩) ?_
               rotate_left 1
               · intro u hu
                 (try dsimp only at hu)
                 go_simp
                 try with_reducible rfl
               simp only [Act.put, List.setIfInBounds_toArray, List.set_cons_zero, List.set_cons_succ])
            | (refine mv_take _ (Or.inr ⟨by rfl, rfl⟩) (⟨k0, k1, cc, cs, k2, k3⟩) ?_
               simp only [Act.put, List.setIfInBounds_toArray, List.set_cons_zero, List.set_cons_succ])
        iterate 2
          first
            | (refine mv_free ?_ (Or.inl ⟨by rfl, ?_⟩) (⟨k0, k1, cc, cs, k2, k3⟩) ?_
               rotate_left 1
               · intro u
                 go_simp
                 try simp only [d1]
                 try simp only [d2]
                 try simp only [d3]
                 try with_reducible rfl
               simp only [Act.put, List.setIfInBounds_toArray, List.set_cons_zero, List.set_cons_succ])
            | (refine mv_free _ (Or.inr ⟨by rfl, rfl⟩) (⟨k0, k1, cc, cs, k2, k3⟩) ?_
               simp only [Act.put, List.setIfInBounds_toArray, List.set_cons_zero, List.set_cons_succ])
        iterate 1
          first
            | (refine mv_take ?_ (Or.inl ⟨by rfl, ?_⟩) (⟨k0, k1, cc, cs, k2, k3⟩) ?_
               rotate_left 1
               · intro u hu
                 (try dsimp only at hu)
                 go_simp
                 try with_reducible rfl
               simp only [Act.put, List.setIfInBounds_toArray, List.set_cons_zero, List.set_cons_succ])
            | (refine mv_take _ (Or.inr ⟨by rfl, rfl⟩) (⟨k0, k1, cc, cs, k2, k3⟩) ?_
               simp only [Act.put, List.setIfInBounds_toArray, List.set_cons_zero, List.set_cons_succ])
        iterate 3
          first
            | (refine mv_free ?_ (Or.inl ⟨by rfl, ?_⟩) (⟨k0, k1, cc, cs, k2, k3⟩) ?_
               rotate_left 1
               · intro u
                 go_simp
                 try simp only [d1]
                 try simp only [d2]
                 try simp only [d3]
                 try with_reducible rfl
               simp only [Act.put, List.setIfInBounds_toArray, List.set_cons_zero, List.set_cons_succ])
            | (refine mv_free _ (Or.inr ⟨by rfl, rfl⟩) (⟨k0, k1, cc, cs, k2, k3⟩) ?_
               simp only [Act.put, List.setIfInBounds_toArray, List.set_cons_zero, List.set_cons_succ])
        iterate 1
          first
            | (refine mv_take ?_ (Or.inl ⟨by rfl, ?_⟩) (⟨k0, k1, cc, cs, k2, k3⟩) ?_
               rotate_left 1
               · intro u hu
                 (try dsimp only at hu)
                 go_simp
                 try with_reducible rfl
               simp only [Act.put, List.setIfInBounds_toArray, List.set_cons_zero, List.set_cons_succ])
            | (refine mv_take _ (Or.inr ⟨by rfl, rfl⟩) (⟨k0, k1, cc, cs, k2, k3⟩) ?_
               simp only [Act.put, List.setIfInBounds_toArray, List.set_cons_zero, List.set_cons_succ])
        iterate 4
          first
            | (refine mv_free ?_ (Or.inl ⟨by rfl, ?_⟩) (⟨k0, k1, cc, cs, k2, k3⟩) ?_
               rotate_left 1
               · intro u
                 go_simp
                 try simp only [d1]
                 try simp only [d2]
                 try simp only [d3]
                 try with_reducible rfl
               simp only [Act.put, List.setIfInBounds_toArray, List.set_cons_zero, List.set_cons_succ])
            | (refine mv_free _ (Or.inr ⟨by rfl, rfl⟩) (⟨k0, k1, cc, cs, k2, k3⟩) ?_
               simp only [Act.put, List.setIfInBounds_toArray, List.set_cons_zero, List.set_cons_succ])
        iterate 1
          first
            | (refine mv_take ?_ (Or.inl ⟨by rfl, ?_⟩) (⟨k0, k1, cc, cs, k2, k3⟩) ?_
               rotate_left 1
               · intro u hu
                 (try dsimp only at hu)
                 go_simp
                 try with_reducible rfl
               simp only [Act.put, List.setIfInBounds_toArray, List.set_cons_zero, List.set_cons_succ])
            | (refine mv_take _ (Or.inr ⟨by rfl, rfl⟩) (⟨k0, k1, cc, cs, k2, k3⟩) ?_
               simp only [Act.put, List.setIfInBounds_toArray, List.set_cons_zero, List.set_cons_succ])
        iterate 3
          first
            | (refine mv_free ?_ (Or.inl ⟨by rfl, ?_⟩) (⟨k0, k1, cc, cs, k2, k3⟩) ?_
               rotate_left 1
               · intro u
                 go_simp
                 try simp only [d1]
                 try simp only [d2]
                 try simp only [d3]
                 try with_reducible rfl
               simp only [Act.put, List.setIfInBounds_toArray, List.set_cons_zero, List.set_cons_succ])
            | (refine mv_free _ (Or.inr ⟨by rfl, rfl⟩) (⟨k0, k1, cc, cs, k2, k3⟩) ?_
               simp only [Act.put, List.setIfInBounds_toArray, List.set_cons_zero, List.set_cons_succ])
        iterate 1
          first
            | (refine mv_take ?_ (Or.inl ⟨by rfl, ?_⟩) (⟨k0, k1, cc, cs, k2, k3⟩) ?_
               rotate_left 1
               · intro u hu
                 (try dsimp only at hu)
                 go_simp
                 try with_reducible rfl
               simp only [Act.put, List.setIfInBounds_toArray, List.set_cons_zero, List.set_cons_succ])
            | (refine mv_take _ (Or.inr ⟨by rfl, rfl⟩) (⟨k0, k1, cc, cs, k2, k3⟩) ?_
               simp only [Act.put, List.setIfInBounds_toArray, List.set_cons_zero, List.set_cons_succ])
        iterate 2
          first
            | (refine mv_free ?_ (Or.inl ⟨by rfl, ?_⟩) (⟨k0, k1, cc, cs, k2, k3⟩) ?_
               rotate_left 1
               · intro u
                 go_simp
                 try simp only [d1]
                 try simp only [d2]
                 try simp only [d3]
                 try with_reducible rfl
               simp only [Act.put, List.setIfInBounds_toArray, List.set_cons_zero, List.set_cons_succ])
            | (refine mv_free _ (Or.inr ⟨by rfl, rfl⟩) (⟨k0, k1, cc, cs, k2, k3⟩) ?_
               simp only [Act.put, List.setIfInBounds_toArray, List.set_cons_zero, List.set_cons_succ])
        iterate 1
          first
            | (refine mv_take ?_ (Or.inl ⟨by rfl, ?_⟩) (⟨k0, k1, cc, cs, k2, k3⟩) ?_
               rotate_left 1
               · intro u hu
                 (try dsimp only at hu)
                 go_simp
                 try with_reducible rfl
               simp only [Act.put, List.setIfInBounds_toArray, List.set_cons_zero, List.set_cons_succ])
            | (refine mv_take _ (Or.inr ⟨by rfl, rfl⟩) (⟨k0, k1, cc, cs, k2, k3⟩) ?_
               simp only [Act.put, List.setIfInBounds_toArray, List.set_cons_zero, List.set_cons_succ])
        iterate 3
          first
            | (refine mv_free ?_ (Or.inl ⟨by rfl, ?_⟩) (⟨k0, k1, cc, cs, k2, k3⟩) ?_
               rotate_left 1
               · intro u
                 go_simp
                 try simp only [d1]
                 try simp only [d2]
                 try simp only [d3]
                 try with_reducible rfl
               simp only [Act.put, List.setIfInBounds_toArray, List.set_cons_zero, List.set_cons_succ])
            | (refine mv_free _ (Or.inr ⟨by rfl, rfl⟩) (⟨k0, k1, cc, cs, k2, k3⟩) ?_
               simp only [Act.put, List.setIfInBounds_toArray, List.set_cons_zero, List.set_cons_succ])
        iterate 1
          first
            | (refine mv_take ?_ (Or.inl ⟨by rfl, ?_⟩) (⟨k0, k1, cc, cs, k2, k3⟩) ?_
               rotate_left 1
               · intro u hu
                 (try dsimp only at hu)
                 go_simp
                 try with_reducible rfl
               simp only [Act.put, List.setIfInBounds_toArray, List.set_cons_zero, List.set_cons_succ])
            | (refine mv_take _ (Or.inr ⟨by rfl, rfl⟩) (⟨k0, k1, cc, cs, k2, k3⟩) ?_
               simp only [Act.put, List.setIfInBounds_toArray, List.set_cons_zero, List.set_cons_succ])
        iterate 4
          first
            | (refine mv_free ?_ (Or.inl ⟨by rfl, ?_⟩) (⟨k0, k1, cc, cs, k2, k3⟩) ?_
               rotate_left 1
               · intro u
                 go_simp
                 try simp only [d1]
                 try simp only [d2]
                 try simp only [d3]
                 try with_reducible rfl
               simp only [Act.put, List.setIfInBounds_toArray, List.set_cons_zero, List.set_cons_succ])
            | (refine mv_free _ (Or.inr ⟨by rfl, rfl⟩) (⟨k0, k1, cc, cs, k2, k3⟩) ?_
               simp only [Act.put, List.setIfInBounds_toArray, List.set_cons_zero, List.set_cons_succ])
        refine mv_late (fun K hK => ?_)
        go_simp
        refine hK.out (fun _ => True) _ _ ?_
        clear hK K
        refine mv_done ?_
        have HV := Lib.hid ((HV.out.set x2 y2).bel (Below.refl _ _).drew)
        clear k0 k1 k2 k3 cc cs
        go_wp2
        go_roundw
        case rel => exact ⟨j, x2, y2, by omega, by rw [hBt.out], rfl, hR2, nf, HV⟩
        case measure => simp [intOf] <;> omega
      · have hb0 : a / 2 ^ j % 2 = 0 := by omega
        rw [hb0] at bt
        rw [if_neg hb] at hR2
        clear hb hb0
        have bt : H.tmod 2 = 0 := bt
        replace hR2 := Lib.hid hR2
        go_wp2
        go_roundw
        case rel => exact ⟨j, x, y, by omega, by rw [hBt.out], rfl, hR2, nA, HV⟩
        case measure => simp [intOf] <;> omega
set_option maxRecDepth 100000 in
set_option maxHeartbeats 8000000 in
theorem rat10 (g1 o1 c1 g2 o2 c2 a : Nat) (w : World) (hT : StT g1 o1 g2 o2 w) (ha : a < 65536) (hh : a / 32768 % 2 = 1) (hq : a / 16384 % 2 = 0) : Calls Try.prog 18 #[.slice (some ⟨g1, o1, none⟩) 14 c1, .slice (some ⟨g2, o2, none⟩) 14 c2, .int .i64 (a : Int)] w fun e w' => e = .returned (.agg #[.int .i64 (atP a).1, .int .i64 (atP a).2]) ∧ Below w.heap.size w w' := by
  have mb := bit_bd a 15 ha
  have mt := bit_at a 15
  rw [show a / 2 ^ 15 % 2 = 1 by omega] at mt
  rw [show (2 : Int) ^ 15 = 32768 from rfl] at mb mt
  generalize m0 : (a : Int).tdiv 32768 = mH at *
  have mt : mH.tmod 2 = 1 := mt
  have m2 : IntKind.i64.wrap mH = mH := by rw [IntKind.wrap_i64]; omega
  clear mb
  have nb := bit_bd a 14 ha
  have nt := bit_at a 14
  rw [show a / 2 ^ 14 % 2 = 0 by omega] at nt
  rw [show (2 : Int) ^ 14 = 16384 from rfl] at nb nt
  generalize n0 : (a : Int).tdiv 16384 = nH at *
  have nt : nH.tmod 2 = 0 := nt
  have n2 : IntKind.i64.wrap nH = nH := by rw [IntKind.wrap_i64]; omega
  clear nb
  have eA : atP a = atF a 14 ((-1073741824), 0) := by
    show atF a 14 (atS a) = _
    have e1 : atH a = ((-1073741824), 0) := by unfold atH; exact if_pos (by omega)
    have e2 : atS a = ((-1073741824), 0) := by unfold atS; rw [if_neg (by omega), e1]
    rw [e2]
  have nA : Hid (Nm ((-1073741824)) (0) 1152921504606846976) := Lib.hid (by unfold Nm; decide)
  obtain ⟨R, hR⟩ : ∃ R, atF a 14 ((-1073741824), 0) = R := ⟨_, rfl⟩
  have eR := Lib.hid (eA.trans hR)
  replace hR := Lib.hid hR
  clear eA
  rw [eR.out]
  obtain ⟨V, eV, HV⟩ : ∃ V, V = (w.alloc (.cells #[.int .i64 0, .int .i64 0] 48)).alloc (.cells #[.int .i64 1073741824, .int .i64 0] 48) ∧ PtW (w.heap.size + 1) w.heap.size g1 o1 g2 o2 1073741824 0 [.int .i64 0, .int .i64 0] w V := ⟨_, rfl, pt_start hT _ _ _ _⟩
  clear hT
  go_enter Try.func18, Try.ntmps18
  go_upto_region 2 with (fail)
  rw [← eV]
  clear eV
  generalize w.heap.size + 1 = q at *
  obtain ⟨r, er⟩ : ∃ r, r = w.heap.size := ⟨_, rfl⟩
  rw [← er] at HV ⊢
  replace er := Lib.hid er
  obtain ⟨k0, k1, k2, k3⟩ := HV.c
  replace HV := Lib.hid (HV.set (-1073741824) 0)
  go_upto_region 4 with (fail)
  generalize (V.setCell ⟨q, 0, none⟩ (.int .i64 (-1073741824))).setCell ⟨q, 1, none⟩ (.int .i64 0) = V1 at *
  clear k0 k1 k2 k3
  have HV := HV.out
  obtain ⟨k0, k1, k2, k3⟩ := HV.c
  replace HV := Lib.hid HV
  go_upto_region 6 with (fail)
  clear k0 k1 k2 k3
  clear m0 mt m2 n0 nt n2
  go_wp2_with fail
  go_loopw [8, 9] (fun bt i v => ∃ (k : Nat) (x y : Int), k ≤ 14 ∧ bt = .int .i64 (btV k) ∧ i = .int .i64 ((k : Int) - 1) ∧ Hid (atF a k (x, y) = R) ∧ Hid (Nm x y 1152921504606846976) ∧ Hid (PtW q r g1 o1 g2 o2 x y [.int .i64 0, .int .i64 0] w v)) (fun _ i _ => (intOf i + 1).toNat)
  case atStart => exact ⟨14, _, _, by omega, rfl, rfl, hR, nA, HV⟩
  case round =>
    clear HV hR nA
    obtain ⟨k, x, y, hk, rfl, rfl, hR, nA, HV⟩ := hrel
    generalize wr = v0 at *
    cases k with
    | zero =>
      obtain ⟨k0, k1, k2, k3⟩ := HV.out.c
      obtain ⟨z0, f0⟩ := HV.out.z.one 0 rfl
      obtain ⟨z1, f1⟩ := HV.out.z.one 1 rfl
      have hR2 : (x, y) = R := hR.out
      clear hR
      have hq := HV.out.qr
      have bw := Lib.hid ((HV.out.b.setCell (p := ⟨r, 0, none⟩) HV.out.rn (.int .i64 x)).setCell (p := ⟨r, 1, none⟩) HV.out.rn (.int .i64 y))
      go_wp2
      refine bodyPost_ret (v := .agg #[.int .i64 x, .int .i64 y]) (by simp [results, Try.results18, go_sem, z0, z1]) rfl ⟨by rw [← hR2], bw.out⟩
    | succ j =>
      have hj : j < 14 := by omega
      rw [show ((j + 1 : Nat) : Int) - 1 = (j : Int) by omega]
      rw [show btV (j + 1) = 2 ^ j from rfl]
      have pb := bt_bd j hj
      have ph := bt_half j
      have bb := bit_bd a j ha
      have bt := bit_at a j
      have i1 : (j : Int) < 14 := by omega
      have i0 : 0 ≤ (j : Int) := by omega
      have i7 : IntKind.i64.wrap ((j : Int) - 1) = (j : Int) - 1 := by rw [IntKind.wrap_i64]; omega
      have bv : 0 ≤ btV j ∧ btV j ≤ 8192 := by rw [← ph]; rw [Int.tdiv_eq_ediv_of_nonneg (by omega)]; omega
      have w0 : IntKind.i64.wrap (btV j) = btV j := by rw [IntKind.wrap_i64]; omega
      generalize hBt : btV j = Bt at *
      replace hBt := Lib.hid hBt
      generalize (2 : Int) ^ j = P at *
      generalize hH : (a : Int).tdiv P = H at *
      have w2 : IntKind.i64.wrap H = H := by rw [IntKind.wrap_i64]; omega
      have p0 : ¬ P = 0 := by omega
      have p1 : ¬ P = -1 := by omega
      clear bb bv pb
      have hR2 : (if a / 2 ^ j % 2 = 1 then atF a j (fX j x y, fY j x y) else atF a j (x, y)) = R := hR.out
      clear hR
      by_cases hb : a / 2 ^ j % 2 = 1
      · rw [hb] at bt
        rw [if_pos hb] at hR2
        clear hb
        have bt : H.tmod 2 = 1 := bt
        have nf := Lib.hid (f_le hj nA.out)
        have nn := nA.out.mono (K := 2305843009213693952) (by decide)
        have cc := HV.out.st.c j hj
        have cs := HV.out.st.s j hj
        have mb := tmul2_bd nn hj
        have n2 := (f_le hj nn).bd
        have eX2 : fX j x y = (x * tC j - y * tS j).tdiv 1073741824 := rfl
        have eY2 : fY j x y = (x * tS j + y * tC j).tdiv 1073741824 := rfl
        obtain ⟨A, eA⟩ : ∃ A, A = x * tC j := ⟨_, rfl⟩
        obtain ⟨B, eB⟩ : ∃ B, B = y * tS j := ⟨_, rfl⟩
        obtain ⟨C, eC⟩ : ∃ C, C = x * tS j := ⟨_, rfl⟩
        obtain ⟨D, eD⟩ : ∃ D, D = y * tC j := ⟨_, rfl⟩
        rw [← eA, ← eB, ← eC, ← eD] at mb
        have vA : IntKind.i64.wrap (x * tC j) = A := by rw [← eA, IntKind.wrap_i64]; omega
        have vB : IntKind.i64.wrap (y * tS j) = B := by rw [← eB, IntKind.wrap_i64]; omega
        have vC : IntKind.i64.wrap (x * tS j) = C := by rw [← eC, IntKind.wrap_i64]; omega
        have vD : IntKind.i64.wrap (y * tC j) = D := by rw [← eD, IntKind.wrap_i64]; omega
        rw [← eA, ← eB] at eX2
        rw [← eC, ← eD] at eY2
        generalize fX j x y = x2 at *
        generalize fY j x y = y2 at *
        have u1 : IntKind.i64.wrap (A - B) = A - B := by rw [IntKind.wrap_i64]; omega
        have u2 : IntKind.i64.wrap (C + D) = C + D := by rw [IntKind.wrap_i64]; omega
        have u3 : (A - B).tdiv 1073741824 = x2 := eX2.symm
        have u4 : (C + D).tdiv 1073741824 = y2 := eY2.symm
        have u5 : IntKind.i64.wrap x2 = x2 := by rw [IntKind.wrap_i64]; omega
        have u6 : IntKind.i64.wrap y2 = y2 := by rw [IntKind.wrap_i64]; omega
        clear eX2 eY2 mb nn
        generalize tC j = tc0 at *
        generalize tS j = ts0 at *
        clear eA eB eC eD
        replace hR2 := Lib.hid hR2
        obtain ⟨k0, k1, k2, k3⟩ := HV.out.c
        clear n2
        replace hj := Lib.hid hj
        go_wp2_with fail
        refine region_moves (fun u => u.cell? ⟨q, 0, none⟩ = some (.int .i64 x) ∧ u.cell? ⟨q, 1, none⟩ = some (.int .i64 y) ∧ u.cell? ⟨g1, o1 + j, none⟩ = some (.int .i64 tc0) ∧ u.cell? ⟨g2, o2 + j, none⟩ = some (.int .i64 ts0) ∧ u.frozen? ⟨q, 0, none⟩ = false ∧ u.frozen? ⟨q, 1, none⟩ = false) [(33, [(32, 33), (0, 33), (1, 33), (2, 33), (3, 33), (4, 33), (5, 33), (6, 33), (7, 33), (8, 33), (9, 33), (10, 33), (11, 33), (12, 33), (13, 33), (14, 33), (15, 33), (16, 33), (17, 33), (18, 33), (19, 33), (20, 33), (21, 33), (22, 33), (23, 33), (24, 33), (25, 33), (26, 33), (27, 33), (28, 33), (29, 33), (30, 33), (31, 33)])] [(.free, 0), (.take, 1), (.free, 2), (.free, 3), (.free, 4), (.take, 5), (.free, 6), (.free, 7), (.take, 8), (.free, 9), (.free, 10), (.free, 11), (.take, 12), (.free, 13), (.free, 14), (.free, 15), (.free, 16), (.take, 17), (.free, 18), (.free, 19), (.free, 20), (.take, 21), (.free, 22), (.free, 23), (.take, 24), (.free, 25), (.free, 26), (.free, 27), (.take, 28), (.free, 29), (.free, 30), (.free, 31), (.free, 32), (.late, 33)] _ (by kernel_rfl) (by kernel_rfl) (by kernel_rfl) (by kernel_rfl) (by decide) rfl (fun _ _ _ _ _ h => h) ?_
        simp only [List.filterMap_cons, List.filterMap_nil, List.getElem?_toArray, List.getElem?_cons_zero, List.getElem?_cons_succ, Option.map_some]
        iterate 1
          first
            | (refine mv_free ?_ (Or.inl ⟨by rfl, ?_⟩) (⟨k0, k1, cc, cs, k2, k3⟩) ?_
               rotate_left 1
               · intro u
                 go_simp
                 try simp only [d1]
                 try simp only [d2]
                 try simp only [d3]
                 try with_reducible rfl
               simp only [Act.put, List.setIfInBounds_toArray, List.set_cons_zero, List.set_cons_succ])
            | (refine mv_free _ (Or.inr ⟨by rfl, rfl⟩) (⟨k0, k1, cc, cs, k2, k3⟩) ?_
               simp only [Act.put, List.setIfInBounds_toArray, List.set_cons_zero, List.set_cons_succ])
        iterate 1
          first
            | (refine mv_take ?_ (Or.inl ⟨by rfl, ?_⟩) (⟨k0, k1, cc, cs, k2, k3⟩) ?_
               rotate_left 1
               · intro u hu
                 (try dsimp only at hu)
                 go_simp
                 try with_reducible rfl
               simp only [Act.put, List.setIfInBounds_toArray, List.set_cons_zero, List.set_cons_succ])
            | (refine mv_take _ (Or.inr ⟨by rfl, rfl⟩) (⟨k0, k1, cc, cs, k2, k3⟩) ?_
               simp only [Act.put, List.setIfInBounds_toArray, List.set_cons_zero, List.set_cons_succ])
        iterate 3
          first
            | (refine mv_free ?_ (Or.inl ⟨by rfl, ?_⟩) (⟨k0, k1, cc, cs, k2, k3⟩) ?_
               rotate_left 1
               · intro u
                 go_simp
                 try simp only [d1]
                 try simp only [d2]
                 try simp only [d3]
                 try with_reducible rfl
               simp only [Act.put, List.setIfInBounds_toArray, List.set_cons_zero, List.set_cons_succ])
            | (refine mv_free _ (Or.inr ⟨by rfl, rfl⟩) (⟨k0, k1, cc, cs, k2, k3⟩) ?_
               simp only [Act.put, List.setIfInBounds_toArray, List.set_cons_zero, List.set_cons_succ])
        iterate 1
          first
            | (refine mv_take ?_ (Or.inl ⟨by rfl, ?_⟩) (⟨k0, k1, cc, cs, k2, k3⟩) ?_
               rotate_left 1
               · intro u hu
                 (try dsimp only at hu)
                 go_simp
                 try with_reducible rfl
               simp only [Act.put, List.setIfInBounds_toArray, List.set_cons_zero, List.set_cons_succ])
            | (refine mv_take _ (Or.inr ⟨by rfl, rfl⟩) (⟨k0, k1, cc, cs, k2, k3⟩) ?_
               simp only [Act.put, List.setIfInBounds_toArray, List.set_cons_zero, List.set_cons_succ])
        iterate 2
          first
            | (refine mv_free ?_ (Or.inl ⟨by rfl, ?_⟩) (⟨k0, k1, cc, cs, k2, k3⟩) ?_
               rotate_left 1
               · intro u
                 go_simp
                 try simp only [d1]
                 try simp only [d2]
                 try simp only [d3]
                 try with_reducible rfl
               simp only [Act.put, List.setIfInBounds_toArray, List.set_cons_zero, List.set_cons_succ])
            | (refine mv_free _ (Or.inr ⟨by rfl, rfl⟩) (⟨k0, k1, cc, cs, k2, k3⟩) ?_
               simp only [Act.put, List.setIfInBounds_toArray, List.set_cons_zero, List.set_cons_succ])
        iterate 1
          first
            | (refine mv_take ?_ (Or.inl ⟨by rfl, ?_⟩) (⟨k0, k1, cc, cs, k2, k3⟩) ?_
               rotate_left 1
               · intro u hu
                 (try dsimp only at hu)
                 go_simp
                 try with_reducible rfl
               simp only [Act.put, List.setIfInBounds_toArray, List.set_cons_zero, List.set_cons_succ])
            | (refine mv_take _ (Or.inr ⟨by rfl, rfl⟩) (⟨k0, k1, cc, cs, k2, k3⟩) ?_
               simp only [Act.put, List.setIfInBounds_toArray, List.set_cons_zero, List.set_cons_succ])
        iterate 3
          first
            | (refine mv_free ?_ (Or.inl ⟨by rfl, ?_⟩) (⟨k0, k1, cc, cs, k2, k3⟩) ?_
               rotate_left 1
               · intro u
                 go_simp
                 try simp only [d1]
                 try simp only [d2]
                 try simp only [d3]
                 try with_reducible rfl
               simp only [Act.put, List.setIfInBounds_toArray, List.set_cons_zero, List.set_cons_succ])
            | (refine mv_free _ (Or.inr ⟨by rfl, rfl⟩) (⟨k0, k1, cc, cs, k2, k3⟩) ?_
               simp only [Act.put, List.setIfInBounds_toArray, List.set_cons_zero, List.set_cons_succ])
        iterate 1
          first
            | (refine mv_take ?_ (Or.inl ⟨by rfl, ?_⟩) (⟨k0, k1, cc, cs, k2, k3⟩) ?_
               rotate_left 1
               · intro u hu
                 (try dsimp only at hu)
                 go_simp
                 try with_reducible rfl
               simp only [Act.put, List.setIfInBounds_toArray, List.set_cons_zero, List.set_cons_succ])
            | (refine mv_take _ (Or.inr ⟨by rfl, rfl⟩) (⟨k0, k1, cc, cs, k2, k3⟩) ?_
               simp only [Act.put, List.setIfInBounds_toArray, List.set_cons_zero, List.set_cons_succ])
        iterate 4
          first
            | (refine mv_free ?_ (Or.inl ⟨by rfl, ?_⟩) (⟨k0, k1, cc, cs, k2, k3⟩) ?_
               rotate_left 1
               · intro u
                 go_simp
                 try simp only [d1]
                 try simp only [d2]
                 try simp only [d3]
                 try with_reducible rfl
               simp only [Act.put, List.setIfInBounds_toArray, List.set_cons_zero, List.set_cons_succ])
            | (refine mv_free _ (Or.inr ⟨by rfl, rfl⟩) (⟨k0, k1, cc, cs, k2, k3⟩) ?_
               simp only [Act.put, List.setIfInBounds_toArray, List.set_cons_zero, List.set_cons_succ])
        iterate 1
          first
            | (refine mv_take ?_ (Or.inl ⟨by rfl, ?_⟩) (⟨k0, k1, cc, cs, k2, k3⟩) ?_
               rotate_left 1
               · intro u hu
                 (try dsimp only at hu)
                 go_simp
                 try with_reducible rfl
               simp only [Act.put, List.setIfInBounds_toArray, List.set_cons_zero, List.set_cons_succ])
            | (refine mv_take _ (Or.inr ⟨by rfl, rfl⟩) (⟨k0, k1, cc, cs, k2, k3⟩) ?_
               simp only [Act.put, List.setIfInBounds_toArray, List.set_cons_zero, List.set_cons_succ])
        iterate 3
          first
            | (refine mv_free ?_ (Or.inl ⟨by rfl, ?_⟩) (⟨k0, k1, cc, cs, k2, k3⟩) ?_
               rotate_left 1
               · intro u
                 go_simp
                 try simp only [d1]
                 try simp only [d2]
                 try simp only [d3]
                 try with_reducible rfl
               simp only [Act.put, List.setIfInBounds_toArray, List.set_cons_zero, List.set_cons_succ])
            | (refine mv_free _ (Or.inr ⟨by rfl, rfl⟩) (⟨k0, k1, cc, cs, k2, k3⟩) ?_
               simp only [Act.put, List.setIfInBounds_toArray, List.set_cons_zero, List.set_cons_succ])
        iterate 1
          first
            | (refine mv_take ?_ (Or.inl ⟨by rfl, ?_⟩) (⟨k0, k1, cc, cs, k2, k3⟩) ?_
               rotate_left 1
               · intro u hu
                 (try dsimp only at hu)
                 go_simp
                 try with_reducible rfl
               simp only [Act.put, List.setIfInBounds_toArray, List.set_cons_zero, List.set_cons_succ])
            | (refine mv_take _ (Or.inr ⟨by rfl, rfl⟩) (⟨k0, k1, cc, cs, k2, k3⟩) ?_
               simp only [Act.put, List.setIfInBounds_toArray, List.set_cons_zero, List.set_cons_succ])
        iterate 2
          first
            | (refine mv_free ?_ (Or.inl ⟨by rfl, ?_⟩) (⟨k0, k1, cc, cs, k2, k3⟩) ?_
               rotate_left 1
               · intro u
                 go_simp
                 try simp only [d1]
                 try simp only [d2]
                 try simp only [d3]
                 try with_reducible rfl
               simp only [Act.put, List.setIfInBounds_toArray, List.set_cons_zero, List.set_cons_succ])
            | (refine mv_free _ (Or.inr ⟨by rfl, rfl⟩) (⟨k0, k1, cc, cs, k2, k3⟩) ?_
               simp only [Act.put, List.setIfInBounds_toArray, List.set_cons_zero, List.set_cons_succ])
        iterate 1
          first
            | (refine mv_take ?_ (Or.inl ⟨by rfl, ?_⟩) (⟨k0, k1, cc, cs, k2, k3⟩) ?_
               rotate_left 1
               · intro u hu
                 (try dsimp only at hu)
                 go_simp
                 try with_reducible rfl
               simp only [Act.put, List.setIfInBounds_toArray, List.set_cons_zero, List.set_cons_succ])
            | (refine mv_take _ (Or.inr ⟨by rfl, rfl⟩) (⟨k0, k1, cc, cs, k2, k3⟩) ?_
               simp only [Act.put, List.setIfInBounds_toArray, List.set_cons_zero, List.set_cons_succ])
        iterate 3
          first
            | (refine mv_free ?_ (Or.inl ⟨by rfl, ?_⟩) (⟨k0, k1, cc, cs, k2, k3⟩) ?_
               rotate_left 1
               · intro u
                 go_simp
                 try simp only [d1]
                 try simp only [d2]
                 try simp only [d3]
                 try with_reducible rfl
               simp only [Act.put, List.setIfInBounds_toArray, List.set_cons_zero, List.set_cons_succ])
            | (refine mv_free _ (Or.inr ⟨by rfl, rfl⟩) (⟨k0, k1, cc, cs, k2, k3⟩) ?_
               simp only [Act.put, List.setIfInBounds_toArray, List.set_cons_zero, List.set_cons_succ])
        iterate 1
          first
            | (refine mv_take ?_ (Or.inl ⟨by rfl, ?_⟩) (⟨k0, k1, cc, cs, k2, k3⟩) ?_
               rotate_left 1
               · intro u hu
                 (try dsimp only at hu)
                 go_simp
                 try with_reducible rfl
               simp only [Act.put, List.setIfInBounds_toArray, List.set_cons_zero, List.set_cons_succ])
            | (refine mv_take _ (Or.inr ⟨by rfl, rfl⟩) (⟨k0, k1, cc, cs, k2, k3⟩) ?_
               simp only [Act.put, List.setIfInBounds_toArray, List.set_cons_zero, List.set_cons_succ])
        iterate 4
          first
            | (refine mv_free ?_ (Or.inl ⟨by rfl, ?_⟩) (⟨k0, k1, cc, cs, k2, k3⟩) ?_
               rotate_left 1
               · intro u
                 go_simp
                 try simp only [d1]
                 try simp only [d2]
                 try simp only [d3]
                 try with_reducible rfl
               simp only [Act.put, List.setIfInBounds_toArray, List.set_cons_zero, List.set_cons_succ])
            | (refine mv_free _ (Or.inr ⟨by rfl, rfl⟩) (⟨k0, k1, cc, cs, k2, k3⟩) ?_
               simp only [Act.put, List.setIfInBounds_toArray, List.set_cons_zero, List.set_cons_succ])
        refine mv_late (fun K hK => ?_)
        go_simp
        refine hK.out (fun _ => True) _ _ ?_
        clear hK K
        refine mv_done ?_
        have HV := Lib.hid ((HV.out.set x2 y2).bel (Below.refl _ _).drew)
        clear k0 k1 k2 k3 cc cs
        go_wp2
        go_roundw
        case rel => exact ⟨j, x2, y2, by omega, by rw [hBt.out], rfl, hR2, nf, HV⟩
        case measure => simp [intOf] <;> omega
      · have hb0 : a / 2 ^ j % 2 = 0 := by omega
        rw [hb0] at bt
        rw [if_neg hb] at hR2
        clear hb hb0
        have bt : H.tmod 2 = 0 := bt
        replace hR2 := Lib.hid hR2
        go_wp2
        go_roundw
        case rel => exact ⟨j, x, y, by omega, by rw [hBt.out], rfl, hR2, nA, HV⟩
        case measure => simp [intOf] <;> omega
set_option maxRecDepth 100000 in
set_option maxHeartbeats 8000000 in
theorem rat11 (g1 o1 c1 g2 o2 c2 a : Nat) (w : World) (hT : StT g1 o1 g2 o2 w) (ha : a < 65536) (hh : a / 32768 % 2 = 1) (hq : a / 16384 % 2 = 1) : Calls Try.prog 18 #[.slice (some ⟨g1, o1, none⟩) 14 c1, .slice (some ⟨g2, o2, none⟩) 14 c2, .int .i64 (a : Int)] w fun e w' => e = .returned (.agg #[.int .i64 (atP a).1, .int .i64 (atP a).2]) ∧ Below w.heap.size w w' := by
  have mb := bit_bd a 15 ha
  have mt := bit_at a 15
  rw [show a / 2 ^ 15 % 2 = 1 by omega] at mt
  rw [show (2 : Int) ^ 15 = 32768 from rfl] at mb mt
  generalize m0 : (a : Int).tdiv 32768 = mH at *
  have mt : mH.tmod 2 = 1 := mt
  have m2 : IntKind.i64.wrap mH = mH := by rw [IntKind.wrap_i64]; omega
  clear mb
  have nb := bit_bd a 14 ha
  have nt := bit_at a 14
  rw [show a / 2 ^ 14 % 2 = 1 by omega] at nt
  rw [show (2 : Int) ^ 14 = 16384 from rfl] at nb nt
  generalize n0 : (a : Int).tdiv 16384 = nH at *
  have nt : nH.tmod 2 = 1 := nt
  have n2 : IntKind.i64.wrap nH = nH := by rw [IntKind.wrap_i64]; omega
  clear nb
  have eA : atP a = atF a 14 (0, (-1073741824)) := by
    show atF a 14 (atS a) = _
    have e1 : atH a = ((-1073741824), 0) := by unfold atH; exact if_pos (by omega)
    have e2 : atS a = (0, (-1073741824)) := by unfold atS; rw [if_pos (by omega), e1]; rfl
    rw [e2]
  have nA : Hid (Nm (0) ((-1073741824)) 1152921504606846976) := Lib.hid (by unfold Nm; decide)
  obtain ⟨R, hR⟩ : ∃ R, atF a 14 (0, (-1073741824)) = R := ⟨_, rfl⟩
  have eR := Lib.hid (eA.trans hR)
  replace hR := Lib.hid hR
  clear eA
  rw [eR.out]
  obtain ⟨V, eV, HV⟩ : ∃ V, V = (w.alloc (.cells #[.int .i64 0, .int .i64 0] 48)).alloc (.cells #[.int .i64 1073741824, .int .i64 0] 48) ∧ PtW (w.heap.size + 1) w.heap.size g1 o1 g2 o2 1073741824 0 [.int .i64 0, .int .i64 0] w V := ⟨_, rfl, pt_start hT _ _ _ _⟩
  clear hT
  go_enter Try.func18, Try.ntmps18
  go_upto_region 2 with (fail)
  rw [← eV]
  clear eV
  generalize w.heap.size + 1 = q at *
  obtain ⟨r, er⟩ : ∃ r, r = w.heap.size := ⟨_, rfl⟩
  rw [← er] at HV ⊢
  replace er := Lib.hid er
  obtain ⟨k0, k1, k2, k3⟩ := HV.c
  replace HV := Lib.hid (HV.set (-1073741824) 0)
  go_upto_region 4 with (fail)
  generalize (V.setCell ⟨q, 0, none⟩ (.int .i64 (-1073741824))).setCell ⟨q, 1, none⟩ (.int .i64 0) = V1 at *
  clear k0 k1 k2 k3
  have HV := HV.out
  obtain ⟨k0, k1, k2, k3⟩ := HV.c
  replace HV := Lib.hid (HV.set 0 (-1073741824))
  go_upto_region 6 with (fail)
  generalize (V1.setCell ⟨q, 0, none⟩ (.int .i64 0)).setCell ⟨q, 1, none⟩ (.int .i64 (-1073741824)) = V2 at *
  clear k0 k1 k2 k3
  clear m0 mt m2 n0 nt n2
  go_wp2_with fail
  go_loopw [8, 9] (fun bt i v => ∃ (k : Nat) (x y : Int), k ≤ 14 ∧ bt = .int .i64 (btV k) ∧ i = .int .i64 ((k : Int) - 1) ∧ Hid (atF a k (x, y) = R) ∧ Hid (Nm x y 1152921504606846976) ∧ Hid (PtW q r g1 o1 g2 o2 x y [.int .i64 0, .int .i64 0] w v)) (fun _ i _ => (intOf i + 1).toNat)
  case atStart => exact ⟨14, _, _, by omega, rfl, rfl, hR, nA, HV⟩
  case round =>
    clear HV hR nA
    obtain ⟨k, x, y, hk, rfl, rfl, hR, nA, HV⟩ := hrel
    generalize wr = v0 at *
    cases k with
    | zero =>
      obtain ⟨k0, k1, k2, k3⟩ := HV.out.c
      obtain ⟨z0, f0⟩ := HV.out.z.one 0 rfl
      obtain ⟨z1, f1⟩ := HV.out.z.one 1 rfl
      have hR2 : (x, y) = R := hR.out
      clear hR
      have hq := HV.out.qr
      have bw := Lib.hid ((HV.out.b.setCell (p := ⟨r, 0, none⟩) HV.out.rn (.int .i64 x)).setCell (p := ⟨r, 1, none⟩) HV.out.rn (.int .i64 y))
      go_wp2
      refine bodyPost_ret (v := .agg #[.int .i64 x, .int .i64 y]) (by simp [results, Try.results18, go_sem, z0, z1]) rfl ⟨by rw [← hR2], bw.out⟩
    | succ j =>
      have hj : j < 14 := by omega
      rw [show ((j + 1 : Nat) : Int) - 1 = (j : Int) by omega]
      rw [show btV (j + 1) = 2 ^ j from rfl]
      have pb := bt_bd j hj
      have ph := bt_half j
      have bb := bit_bd a j ha
      have bt := bit_at a j
      have i1 : (j : Int) < 14 := by omega
      have i0 : 0 ≤ (j : Int) := by omega
      have i7 : IntKind.i64.wrap ((j : Int) - 1) = (j : Int) - 1 := by rw [IntKind.wrap_i64]; omega
      have bv : 0 ≤ btV j ∧ btV j ≤ 8192 := by rw [← ph]; rw [Int.tdiv_eq_ediv_of_nonneg (by omega)]; omega
      have w0 : IntKind.i64.wrap (btV j) = btV j := by rw [IntKind.wrap_i64]; omega
      generalize hBt : btV j = Bt at *
      replace hBt := Lib.hid hBt
      generalize (2 : Int) ^ j = P at *
      generalize hH : (a : Int).tdiv P = H at *
      have w2 : IntKind.i64.wrap H = H := by rw [IntKind.wrap_i64]; omega
      have p0 : ¬ P = 0 := by omega
      have p1 : ¬ P = -1 := by omega
      clear bb bv pb
      have hR2 : (if a / 2 ^ j % 2 = 1 then atF a j (fX j x y, fY j x y) else atF a j (x, y)) = R := hR.out
      clear hR
      by_cases hb : a / 2 ^ j % 2 = 1
      · rw [hb] at bt
        rw [if_pos hb] at hR2
        clear hb
        have bt : H.tmod 2 = 1 := bt
        have nf := Lib.hid (f_le hj nA.out)
        have nn := nA.out.mono (K := 2305843009213693952) (by decide)
        have cc := HV.out.st.c j hj
        have cs := HV.out.st.s j hj
        have mb := tmul2_bd nn hj
        have n2 := (f_le hj nn).bd
        have eX2 : fX j x y = (x * tC j - y * tS j).tdiv 1073741824 := rfl
        have eY2 : fY j x y = (x * tS j + y * tC j).tdiv 1073741824 := rfl
        obtain ⟨A, eA⟩ : ∃ A, A = x * tC j := ⟨_, rfl⟩
        obtain ⟨B, eB⟩ : ∃ B, B = y * tS j := ⟨_, rfl⟩
        obtain ⟨C, eC⟩ : ∃ C, C = x * tS j := ⟨_, rfl⟩
        obtain ⟨D, eD⟩ : ∃ D, D = y * tC j := ⟨_, rfl⟩
        rw [← eA, ← eB, ← eC, ← eD] at mb
        have vA : IntKind.i64.wrap (x * tC j) = A := by rw [← eA, IntKind.wrap_i64]; omega
        have vB : IntKind.i64.wrap (y * tS j) = B := by rw [← eB, IntKind.wrap_i64]; omega
        have vC : IntKind.i64.wrap (x * tS j) = C := by rw [← eC, IntKind.wrap_i64]; omega
        have vD : IntKind.i64.wrap (y * tC j) = D := by rw [← eD, IntKind.wrap_i64]; omega
        rw [← eA, ← eB] at eX2
        rw [← eC, ← eD] at eY2
        generalize fX j x y = x2 at *
        generalize fY j x y = y2 at *
        have u1 : IntKind.i64.wrap (A - B) = A - B := by rw [IntKind.wrap_i64]; omega
        have u2 : IntKind.i64.wrap (C + D) = C + D := by rw [IntKind.wrap_i64]; omega
        have u3 : (A - B).tdiv 1073741824 = x2 := eX2.symm
        have u4 : (C + D).tdiv 1073741824 = y2 := eY2.symm
        have u5 : IntKind.i64.wrap x2 = x2 := by rw [IntKind.wrap_i64]; omega
        have u6 : IntKind.i64.wrap y2 = y2 := by rw [IntKind.wrap_i64]; omega
        clear eX2 eY2 mb nn
        generalize tC j = tc0 at *
        generalize tS j = ts0 at *
        clear eA eB eC eD
        replace hR2 := Lib.hid hR2
        obtain ⟨k0, k1, k2, k3⟩ := HV.out.c
        clear n2
        replace hj := Lib.hid hj
        go_wp2_with fail
        refine region_moves (fun u => u.cell? ⟨q, 0, none⟩ = some (.int .i64 x) ∧ u.cell? ⟨q, 1, none⟩ = some (.int .i64 y) ∧ u.cell? ⟨g1, o1 + j, none⟩ = some (.int .i64 tc0) ∧ u.cell? ⟨g2, o2 + j, none⟩ = some (.int .i64 ts0) ∧ u.frozen? ⟨q, 0, none⟩ = false ∧ u.frozen? ⟨q, 1, none⟩ = false) [(33, [(32, 33), (0, 33), (1, 33), (2, 33), (3, 33), (4, 33), (5, 33), (6, 33), (7, 33), (8, 33), (9, 33), (10, 33), (11, 33), (12, 33), (13, 33), (14, 33), (15, 33), (16, 33), (17, 33), (18, 33), (19, 33), (20, 33), (21, 33), (22, 33), (23, 33), (24, 33), (25, 33), (26, 33), (27, 33), (28, 33), (29, 33), (30, 33), (31, 33)])] [(.free, 0), (.take, 1), (.free, 2), (.free, 3), (.free, 4), (.take, 5), (.free, 6), (.free, 7), (.take, 8), (.free, 9), (.free, 10), (.free, 11), (.take, 12), (.free, 13), (.free, 14), (.free, 15), (.free, 16), (.take, 17), (.free, 18), (.free, 19), (.free, 20), (.take, 21), (.free, 22), (.free, 23), (.take, 24), (.free, 25), (.free, 26), (.free, 27), (.take, 28), (.free, 29), (.free, 30), (.free, 31), (.free, 32), (.late, 33)] _ (by kernel_rfl) (by kernel_rfl) (by kernel_rfl) (by kernel_rfl) (by decide) rfl (fun _ _ _ _ _ h => h) ?_
        simp only [List.filterMap_cons, List.filterMap_nil, List.getElem?_toArray, List.getElem?_cons_zero, List.getElem?_cons_succ, Option.map_some]
        iterate 1
          first
            | (refine mv_free ?_ (Or.inl ⟨by rfl, ?_⟩) (⟨k0, k1, cc, cs, k2, k3⟩) ?_
               rotate_left 1
               · intro u
                 go_simp
                 try simp only [d1]
                 try simp only [d2]
                 try simp only [d3]
                 try with_reducible rfl
               simp only [Act.put, List.setIfInBounds_toArray, List.set_cons_zero, List.set_cons_succ])
            | (refine mv_free _ (Or.inr ⟨by rfl, rfl⟩) (⟨k0, k1, cc, cs, k2, k3⟩) ?_
               simp only [Act.put, List.setIfInBounds_toArray, List.set_cons_zero, List.set_cons_succ])
        iterate 1
          first
            | (refine mv_take ?_ (Or.inl ⟨by rfl, ?_⟩) (⟨k0, k1, cc, cs, k2, k3⟩) ?_
               rotate_left 1
               · intro u hu
                 (try dsimp only at hu)
                 go_simp
                 try with_reducible rfl
               simp only [Act.put, List.setIfInBounds_toArray, List.set_cons_zero, List.set_cons_succ])
            | (refine mv_take _ (Or.inr ⟨by rfl, rfl⟩) (⟨k0, k1, cc, cs, k2, k3⟩) ?_
               simp only [Act.put, List.setIfInBounds_toArray, List.set_cons_zero, List.set_cons_succ])
        iterate 3
          first
            | (refine mv_free ?_ (Or.inl ⟨by rfl, ?_⟩) (⟨k0, k1, cc, cs, k2, k3⟩) ?_
               rotate_left 1
               · intro u
                 go_simp
                 try simp only [d1]
                 try simp only [d2]
                 try simp only [d3]
                 try with_reducible rfl
               simp only [Act.put, List.setIfInBounds_toArray, List.set_cons_zero, List.set_cons_succ])
            | (refine mv_free _ (Or.inr ⟨by rfl, rfl⟩) (⟨k0, k1, cc, cs, k2, k3⟩) ?_
               simp only [Act.put, List.setIfInBounds_toArray, List.set_cons_zero, List.set_cons_succ])
        iterate 1
          first
            | (refine mv_take ?_ (Or.inl ⟨by rfl, ?_⟩) (⟨k0, k1, cc, cs, k2, k3⟩) ?_
               rotate_left 1
               · intro u hu
                 (try dsimp only at hu)
                 go_simp
                 try with_reducible rfl
               simp only [Act.put, List.setIfInBounds_toArray, List.set_cons_zero, List.set_cons_succ])
            | (refine mv_take _ (Or.inr ⟨by rfl, rfl⟩) (⟨k0, k1, cc, cs, k2, k3⟩) ?_
               simp only [Act.put, List.setIfInBounds_toArray, List.set_cons_zero, List.set_cons_succ])
        iterate 2
          first
            | (refine mv_free ?_ (Or.inl ⟨by rfl, ?_⟩) (⟨k0, k1, cc, cs, k2, k3⟩) ?_
               rotate_left 1
               · intro u
                 go_simp
                 try simp only [d1]
                 try simp only [d2]
                 try simp only [d3]
                 try with_reducible rfl
               simp only [Act.put, List.setIfInBounds_toArray, List.set_cons_zero, List.set_cons_succ])
            | (refine mv_free _ (Or.inr ⟨by rfl, rfl⟩) (⟨k0, k1, cc, cs, k2, k3⟩) ?_
               simp only [Act.put, List.setIfInBounds_toArray, List.set_cons_zero, List.set_cons_succ])
        iterate 1
          first
            | (refine mv_take ?_ (Or.inl ⟨by rfl, ?_⟩) (⟨k0, k1, cc, cs, k2, k3⟩) ?_
               rotate_left 1
               · intro u hu
                 (try dsimp only at hu)
                 go_simp
                 try with_reducible rfl
               simp only [Act.put, List.setIfInBounds_toArray, List.set_cons_zero, List.set_cons_succ])
            | (refine mv_take _ (Or.inr ⟨by rfl, rfl⟩) (⟨k0, k1, cc, cs, k2, k3⟩) ?_
               simp only [Act.put, List.setIfInBounds_toArray, List.set_cons_zero, List.set_cons_succ])
        iterate 3
          first
            | (refine mv_free ?_ (Or.inl ⟨by rfl, ?_⟩) (⟨k0, k1, cc, cs, k2, k3⟩) ?_
               rotate_left 1
               · intro u
                 go_simp
                 try simp only [d1]
                 try simp only [d2]
                 try simp only [d3]
                 try with_reducible rfl
               simp only [Act.put, List.setIfInBounds_toArray, List.set_cons_zero, List.set_cons_succ])
            | (refine mv_free _ (Or.inr ⟨by rfl, rfl⟩) (⟨k0, k1, cc, cs, k2, k3⟩) ?_
               simp only [Act.put, List.setIfInBounds_toArray, List.set_cons_zero, List.set_cons_succ])
        iterate 1
          first
            | (refine mv_take ?_ (Or.inl ⟨by rfl, ?_⟩) (⟨k0, k1, cc, cs, k2, k3⟩) ?_
               rotate_left 1
               · intro u hu
                 (try dsimp only at hu)
                 go_simp
                 try with_reducible rfl
               simp only [Act.put, List.setIfInBounds_toArray, List.set_cons_zero, List.set_cons_succ])
            | (refine mv_take _ (Or.inr ⟨by rfl, rfl⟩) (⟨k0, k1, cc, cs, k2, k3⟩) ?_
               simp only [Act.put, List.setIfInBounds_toArray, List.set_cons_zero, List.set_cons_succ])
        iterate 4
          first
            | (refine mv_free ?_ (Or.inl ⟨by rfl, ?_⟩) (⟨k0, k1, cc, cs, k2, k3⟩) ?_
               rotate_left 1
               · intro u
                 go_simp
                 try simp only [d1]
                 try simp only [d2]
                 try simp only [d3]
                 try with_reducible rfl
               simp only [Act.put, List.setIfInBounds_toArray, List.set_cons_zero, List.set_cons_succ])
            | (refine mv_free _ (Or.inr ⟨by rfl, rfl⟩) (⟨k0, k1, cc, cs, k2, k3⟩) ?_
               simp only [Act.put, List.setIfInBounds_toArray, List.set_cons_zero, List.set_cons_succ])
        iterate 1
          first
            | (refine mv_take ?_ (Or.inl ⟨by rfl, ?_⟩) (⟨k0, k1, cc, cs, k2, k3⟩) ?_
               rotate_left 1
               · intro u hu
                 (try dsimp only at hu)
                 go_simp
                 try with_reducible rfl
               simp only [Act.put, List.setIfInBounds_toArray, List.set_cons_zero, List.set_cons_succ])
            | (refine mv_take _ (Or.inr ⟨by rfl, rfl⟩) (⟨k0, k1, cc, cs, k2, k3⟩) ?_
               simp only [Act.put, List.setIfInBounds_toArray, List.set_cons_zero, List.set_cons_succ])
        iterate 3
          first
            | (refine mv_free ?_ (Or.inl ⟨by rfl, ?_⟩) (⟨k0, k1, cc, cs, k2, k3⟩) ?_
               rotate_left 1
               · intro u
                 go_simp
                 try simp only [d1]
                 try simp only [d2]
                 try simp only [d3]
                 try with_reducible rfl
               simp only [Act.put, List.setIfInBounds_toArray, List.set_cons_zero, List.set_cons_succ])
            | (refine mv_free _ (Or.inr ⟨by rfl, rfl⟩) (⟨k0, k1, cc, cs, k2, k3⟩) ?_
               simp only [Act.put, List.setIfInBounds_toArray, List.set_cons_zero, List.set_cons_succ])
        iterate 1
          first
            | (refine mv_take ?_ (Or.inl ⟨by rfl, ?_⟩) (⟨k0, k1, cc, cs, k2, k3⟩) ?_
               rotate_left 1
               · intro u hu
                 (try dsimp only at hu)
                 go_simp
                 try with_reducible rfl
               simp only [Act.put, List.setIfInBounds_toArray, List.set_cons_zero, List.set_cons_succ])
            | (refine mv_take _ (Or.inr ⟨by rfl, rfl⟩) (⟨k0, k1, cc, cs, k2, k3⟩) ?_
               simp only [Act.put, List.setIfInBounds_toArray, List.set_cons_zero, List.set_cons_succ])
        iterate 2
          first
            | (refine mv_free ?_ (Or.inl ⟨by rfl, ?_⟩) (⟨k0, k1, cc, cs, k2, k3⟩) ?_
               rotate_left 1
               · intro u
                 go_simp
                 try simp only [d1]
                 try simp only [d2]
                 try simp only [d3]
                 try with_reducible rfl
               simp only [Act.put, List.setIfInBounds_toArray, List.set_cons_zero, List.set_cons_succ])
            | (refine mv_free _ (Or.inr ⟨by rfl, rfl⟩) (⟨k0, k1, cc, cs, k2, k3⟩) ?_
               simp only [Act.put, List.setIfInBounds_toArray, List.set_cons_zero, List.set_cons_succ])
        iterate 1
          first
            | (refine mv_take ?_ (Or.inl ⟨by rfl, ?_⟩) (⟨k0, k1, cc, cs, k2, k3⟩) ?_
               rotate_left 1
               · intro u hu
                 (try dsimp only at hu)
                 go_simp
                 try with_reducible rfl
               simp only [Act.put, List.setIfInBounds_toArray, List.set_cons_zero, List.set_cons_succ])
            | (refine mv_take _ (Or.inr ⟨by rfl, rfl⟩) (⟨k0, k1, cc, cs, k2, k3⟩) ?_
               simp only [Act.put, List.setIfInBounds_toArray, List.set_cons_zero, List.set_cons_succ])
        iterate 3
          first
            | (refine mv_free ?_ (Or.inl ⟨by rfl, ?_⟩) (⟨k0, k1, cc, cs, k2, k3⟩) ?_
               rotate_left 1
               · intro u
                 go_simp
                 try simp only [d1]
                 try simp only [d2]
                 try simp only [d3]
                 try with_reducible rfl
               simp only [Act.put, List.setIfInBounds_toArray, List.set_cons_zero, List.set_cons_succ])
            | (refine mv_free _ (Or.inr ⟨by rfl, rfl⟩) (⟨k0, k1, cc, cs, k2, k3⟩) ?_
               simp only [Act.put, List.setIfInBounds_toArray, List.set_cons_zero, List.set_cons_succ])
        iterate 1
          first
            | (refine mv_take ?_ (Or.inl ⟨by rfl, ?_⟩) (⟨k0, k1, cc, cs, k2, k3⟩) ?_
               rotate_left 1
               · intro u hu
                 (try dsimp only at hu)
                 go_simp
                 try with_reducible rfl
               simp only [Act.put, List.setIfInBounds_toArray, List.set_cons_zero, List.set_cons_succ])
            | (refine mv_take _ (Or.inr ⟨by rfl, rfl⟩) (⟨k0, k1, cc, cs, k2, k3⟩) ?_
               simp only [Act.put, List.setIfInBounds_toArray, List.set_cons_zero, List.set_cons_succ])
        iterate 4
          first
            | (refine mv_free ?_ (Or.inl ⟨by rfl, ?_⟩) (⟨k0, k1, cc, cs, k2, k3⟩) ?_
               rotate_left 1
               · intro u
                 go_simp
                 try simp only [d1]
                 try simp only [d2]
                 try simp only [d3]
                 try with_reducible rfl
               simp only [Act.put, List.setIfInBounds_toArray, List.set_cons_zero, List.set_cons_succ])
            | (refine mv_free _ (Or.inr ⟨by rfl, rfl⟩) (⟨k0, k1, cc, cs, k2, k3⟩) ?_
               simp only [Act.put, List.setIfInBounds_toArray, List.set_cons_zero, List.set_cons_succ])
        refine mv_late (fun K hK => ?_)
        go_simp
        refine hK.out (fun _ => True) _ _ ?_
        clear hK K
        refine mv_done ?_
        have HV := Lib.hid ((HV.out.set x2 y2).bel (Below.refl _ _).drew)
        clear k0 k1 k2 k3 cc cs
        go_wp2
        go_roundw
        case rel => exact ⟨j, x2, y2, by omega, by rw [hBt.out], rfl, hR2, nf, HV⟩
        case measure => simp [intOf] <;> omega
      · have hb0 : a / 2 ^ j % 2 = 0 := by omega
        rw [hb0] at bt
        rw [if_neg hb] at hR2
        clear hb hb0
        have bt : H.tmod 2 = 0 := bt
        replace hR2 := Lib.hid hR2
        go_wp2
        go_roundw
        case rel => exact ⟨j, x, y, by omega, by rw [hBt.out], rfl, hR2, nA, HV⟩
        case measure => simp [intOf] <;> omega
theorem rat04 (g1 o1 c1 g2 o2 c2 a : Nat) (w : World) (hT : StT g1 o1 g2 o2 w) (ha : a < 65536) : Calls Try.prog 18 #[.slice (some ⟨g1, o1, none⟩) 14 c1, .slice (some ⟨g2, o2, none⟩) 14 c2, .int .i64 (a : Int)] w fun e w' => e = .returned (.agg #[.int .i64 (atP a).1, .int .i64 (atP a).2]) ∧ Below w.heap.size w w' := by
  rcases (show a / 32768 % 2 = 0 ∨ a / 32768 % 2 = 1 by omega) with hh | hh <;> rcases (show a / 16384 % 2 = 0 ∨ a / 16384 % 2 = 1 by omega) with hq | hq
  · exact rat00 g1 o1 c1 g2 o2 c2 a w hT ha hh hq
  · exact rat01 g1 o1 c1 g2 o2 c2 a w hT ha hh hq
  · exact rat10 g1 o1 c1 g2 o2 c2 a w hT ha hh hq
  · exact rat11 g1 o1 c1 g2 o2 c2 a w hT ha hh hq
set_option maxRecDepth 100000 in
set_option maxHeartbeats 8000000 in
theorem rpoint04 (g1 o1 c1 g2 o2 c2 a : Nat) (n : Int) (w : World) (hT : StT g1 o1 g2 o2 w) (ha : a < 65536) : Calls Try.prog 19 #[.slice (some ⟨g1, o1, none⟩) 14 c1, .slice (some ⟨g2, o2, none⟩) 14 c2, .int .i64 (a : Int), .int .i64 n] w fun e w' => e = .returned (.agg #[.int .i64 (trV (atP a).1 (clp n) 1073741824), .int .i64 (trV (atP a).2 (clp n) 1073741824)]) ∧ Below w.heap.size w w' := by
  have AT := Lib.hid (fun u (m : StT g1 o1 g2 o2 u) => rat04 g1 o1 c1 g2 o2 c2 a u m ha)
  have CL := Lib.hid (fun u => rclip_any n u)
  have bd := (atP_le a).one
  have bc := clp_bd n
  have T1 := Lib.hid (fun u => rquo_tr (atP a).1 (clp n) 1073741824 u (by omega) (by omega) (by omega) (by omega) (by omega) (by omega))
  have T2 := Lib.hid (fun u => rquo_tr (atP a).2 (clp n) 1073741824 u (by omega) (by omega) (by omega) (by omega) (by omega) (by omega))
  generalize trV (atP a).1 (clp n) 1073741824 = R1 at *
  generalize trV (atP a).2 (clp n) 1073741824 = R2 at *
  generalize trB (atP a).1 (clp n) 1073741824 = B1 at *
  generalize trB (atP a).2 (clp n) 1073741824 = B2 at *
  generalize (atP a).1 = x at *
  generalize (atP a).2 = y at *
  generalize clp n = c at *
  clear bd bc
  obtain ⟨V, eV, hbV, hz, pV⟩ : ∃ V, V = w.alloc (.cells #[.int .i64 0, .int .i64 0] 48) ∧ Below w.heap.size w V ∧ V.heap.size = w.heap.size + 1 ∧ Held w.heap.size [.int .i64 0, .int .i64 0] V := ⟨_, rfl, (by repeat (first | exact Below.refl _ _ | assumption | apply Below.drew | apply below_drewN | (refine Below.alloc ?_ (by first | exact Nat.le_refl _ | omega | (simp <;> omega)) _) | (refine Below.setCell ?_ (by first | exact Nat.le_refl _ | omega | (simp <;> omega)) _))), by simp, Held.new w [.int .i64 0, .int .i64 0] _⟩
  have mV := hT.bel hbV
  have qlt := pV.lt
  clear hT
  go_enter Try.func19, Try.ntmps19
  go_upto_region 1 with (fail)
  rw [← eV]
  clear eV
  generalize hr : w.heap.size = r at *
  replace hr := Lib.hid hr
  replace hbV := Lib.hid hbV
  replace pV := Lib.hid pV
  replace hz := Lib.hid hz
  go_wp2_with fail
  refine (AT.out _ mV).mono ?_
  rintro e w1 ⟨rfl, hb1⟩
  replace hbV := Lib.hid (hbV.out.trans (hb1.mono (by omega)))
  replace pV := Lib.hid (pV.out.bel hb1)
  clear AT mV qlt hz hb1
  obtain ⟨V2, eV2, hb2, p2⟩ : ∃ V2, V2 = w1.alloc (.cells #[.int .i64 x, .int .i64 y] 48) ∧ Below w1.heap.size w1 V2 ∧ Held w1.heap.size [.int .i64 x, .int .i64 y] V2 := ⟨_, rfl, (by repeat (first | exact Below.refl _ _ | assumption | apply Below.drew | apply below_drewN | (refine Below.alloc ?_ (by first | exact Nat.le_refl _ | omega | (simp <;> omega)) _) | (refine Below.setCell ?_ (by first | exact Nat.le_refl _ | omega | (simp <;> omega)) _))), Held.new w1 [.int .i64 x, .int .i64 y] _⟩
  replace hbV := Lib.hid (hbV.out.trans (hb2.mono (Nat.le_of_lt pV.out.lt)))
  have qlt := pV.out.lt
  replace pV := Lib.hid (pV.out.bel hb2)
  go_upto_region 2 with (fail)
  rw [← eV2]
  clear eV2 hb2
  generalize w1.heap.size = q at *
  clear w1
  obtain ⟨k0, _⟩ := p2.one 0 rfl
  have rlt := Lib.hid qlt
  clear qlt
  have plt := Lib.hid p2.lt
  replace p2 := Lib.hid p2
  go_wp2_with fail
  refine (CL.out _).mono ?_
  rintro e w2 ⟨rfl, rfl⟩
  go_wp2_with fail
  refine (T1.out _).mono ?_
  rintro e w3 ⟨rfl, hb3⟩
  replace hbV := Lib.hid (hbV.out.trans (hb3.mono (Nat.le_of_lt pV.out.lt)))
  replace pV := Lib.hid (pV.out.bel hb3)
  replace p2 := Lib.hid (p2.out.bel hb3)
  clear hb3 k0
  obtain ⟨k1, _⟩ := p2.out.one 1 rfl
  go_wp2_with fail
  refine (T2.out _).mono ?_
  rintro e w4 ⟨rfl, hb4⟩
  replace hbV := Lib.hid (hbV.out.trans (hb4.mono (Nat.le_of_lt pV.out.lt)))
  replace pV := Lib.hid (pV.out.bel hb4)
  clear hb4 k1 p2 plt
  obtain ⟨z0, f0⟩ := pV.out.one 0 rfl
  obtain ⟨z1, f1⟩ := pV.out.one 1 rfl
  have bw := Lib.hid ((hbV.out.setCell (p := ⟨r, 0, none⟩) (Nat.le_refl _) (.int .i64 R1)).setCell (p := ⟨r, 1, none⟩) (Nat.le_refl _) (.int .i64 R2))
  go_wp2
  refine bodyPost_ret (v := .agg #[.int .i64 R1, .int .i64 R2]) (by simp [results, Try.results19, go_sem, z0, z1]) rfl ⟨rfl, by rw [hr.out]; exact bw.out⟩
end Go.Proofs.Ytiibgblpbjdpaaa
