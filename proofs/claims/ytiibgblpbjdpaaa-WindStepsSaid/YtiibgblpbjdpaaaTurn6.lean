/- Cosine and sine of an angle, a point at an angle and a length; walked. -/
import Derived.Test.YtiibgblpbjdpaaaTurn5
import Derived.Test.YtiibgblpbjdpaaaTrunc
import Derived.Deep.Cut
namespace Go.Proofs.Ytiibgblpbjdpaaa
open Go.ChangeShapes Go.WideShapes Go.ChangeAt Go.RowKit
set_option linter.unusedVariables false
set_option linter.unusedSimpArgs false
theorem nat_and_pow (a k : Nat) : a &&& 2 ^ k = (a.testBit k).toNat * 2 ^ k := by
  apply Nat.eq_of_testBit_eq
  intro i
  rw [Nat.testBit_and, Nat.testBit_two_pow]
  by_cases h : k = i
  · subst h
    cases hb : a.testBit k
    · simp
    · simp [Nat.testBit_two_pow]
  · cases hb : a.testBit k
    · simp [h]
    · simp [Nat.testBit_two_pow, h]
theorem u16_and (a k : Nat) (hk : k < 16) (ha : a < 65536) : bits .and .u16 (a : Int) ((2 : Int) ^ k) = if a / 2 ^ k % 2 = 1 then (2 : Int) ^ k else 0 := by
  show IntKind.u16.wrap ((BitVec.ofInt 16 (a : Int) &&& BitVec.ofInt 16 ((2 : Int) ^ k)).toNat : Int) = _
  have hp : (2 : Nat) ^ k < 65536 := by
    have := Nat.pow_lt_pow_right (a := 2) (by decide) hk
    omega
  have e1 : (BitVec.ofInt 16 (a : Int)).toNat = a := by
    rw [BitVec.toNat_ofInt]
    omega
  have e2 : (BitVec.ofInt 16 ((2 : Int) ^ k)).toNat = 2 ^ k := by
    rw [BitVec.toNat_ofInt, show ((2 : Int) ^ k) = ((2 ^ k : Nat) : Int) by simp]
    generalize 2 ^ k = P at *
    omega
  rw [BitVec.toNat_and, e1, e2, nat_and_pow, Nat.testBit_eq_decide_div_mod_eq]
  by_cases h : a / 2 ^ k % 2 = 1
  · rw [if_pos h, decide_eq_true h]
    have : ((1 * 2 ^ k : Nat) : Int) = (2 : Int) ^ k := by simp
    show IntKind.u16.wrap ((1 * 2 ^ k : Nat) : Int) = _
    rw [this, show ((2 : Int) ^ k) = ((2 ^ k : Nat) : Int) by simp, IntKind.wrap_u16]
    generalize 2 ^ k = P at *
    omega
  · rw [if_neg h, decide_eq_false h]
    show IntKind.u16.wrap ((0 * 2 ^ k : Nat) : Int) = 0
    rw [Nat.zero_mul]
    rfl
/-- A turner that is ready, and a point in a block of its own. -/
structure AtW (b q : Nat) (x y : Int) (X : List Value) (w v : World) : Prop where
  t : TurO b 1 0 tG X v
  p : Held q [.int .i64 x, .int .i64 y] v
  bs : Beside b w v
  qb : q ≠ b
  qn : w.heap.size ≤ q
theorem AtW.bel {b q : Nat} {x y : Int} {X : List Value} {w v v' : World} (h : AtW b q x y X w v) (k : Below v.heap.size v v') : AtW b q x y X w v' := ⟨h.t.bel k, h.p.bel k, h.bs.trans (.of_below k), h.qb, h.qn⟩
theorem AtW.set {b q : Nat} {x y : Int} {X : List Value} {w v : World} (h : AtW b q x y X w v) (x' y' : Int) : AtW b q x' y' X w ((v.setCell ⟨q, 0, none⟩ (.int .i64 x')).setCell ⟨q, 1, none⟩ (.int .i64 y')) :=
  have k : Only q v ((v.setCell ⟨q, 0, none⟩ (.int .i64 x')).setCell ⟨q, 1, none⟩ (.int .i64 y')) := ((Only.refl q v).setCell (p := ⟨q, 0, none⟩) _).setCell (p := ⟨q, 1, none⟩) _
  ⟨h.t.beside (.of_only k) (Ne.symm h.qb), (h.p.set 0 _ (by simp)).set 1 _ (by simp), ⟨k.os.trans h.bs.os, k.tape.trans h.bs.tape, k.output.trans h.bs.output, Nat.le_trans h.bs.size (Nat.le_of_eq k.size.symm), fun i hi hb => (k.block i (by have := h.qn; omega)).trans (h.bs.block i hi hb)⟩, h.qb, h.qn⟩
theorem AtW.start {b : Nat} {X : List Value} {w w1 : World} (h : TurO b 1 0 tG X w1) (k : Beside b w w1) (x y : Int) (t : TypeId) : AtW b w1.heap.size x y X w (w1.alloc (.cells #[.int .i64 x, .int .i64 y] t)) :=
  ⟨h.bel (by repeat (first | exact Below.refl _ _ | assumption | apply Below.drew | apply below_drewN | (refine Below.alloc ?_ (by first | exact Nat.le_refl _ | omega | (simp <;> omega)) _) | (refine Below.setCell ?_ (by first | exact Nat.le_refl _ | omega | (simp <;> omega)) _))), Held.new w1 [.int .i64 x, .int .i64 y] t, k.trans (.of_below (by repeat (first | exact Below.refl _ _ | assumption | apply Below.drew | apply below_drewN | (refine Below.alloc ?_ (by first | exact Nat.le_refl _ | omega | (simp <;> omega)) _) | (refine Below.setCell ?_ (by first | exact Nat.le_refl _ | omega | (simp <;> omega)) _)))), by have := h.lt; omega, k.size⟩
theorem AtW.c {b q : Nat} {x y : Int} {X : List Value} {w v : World} (h : AtW b q x y X w v) : v.cell? ⟨q, 0, none⟩ = some (.int .i64 x) ∧ v.cell? ⟨q, 1, none⟩ = some (.int .i64 y) ∧ v.frozen? ⟨q, 0, none⟩ = false ∧ v.frozen? ⟨q, 1, none⟩ = false :=
  ⟨h.p.c 0 _ rfl, h.p.c 1 _ rfl, h.p.f 0 (by simp), h.p.f 1 (by simp)⟩
set_option maxRecDepth 100000 in
set_option maxHeartbeats 8000000 in
theorem tat_nil (a : Int) (w : World) : Calls Try.prog 15 #[.pointer none, .int .u16 a] w fun e w' => e = .returned (.tuple #[.int .i64 0, .int .i64 0]) ∧ w = w' := by
  go_enter Try.func15, Try.ntmps15
  go_wp2
  go_ret2
  exact ⟨rfl, rfl⟩
set_option maxRecDepth 100000 in
set_option maxHeartbeats 8000000 in
theorem tat00 (b a : Nat) (X : List Value) (w : World) (h : TurR b X w) (ha : a < 65536) (hh : a / 32768 % 2 = 0) (hq : a / 16384 % 2 = 0) : Calls Try.prog 15 #[.pointer (some ⟨b, 0, none⟩), .int .u16 (a : Int)] w fun e w' => e = .returned (.tuple #[.int .i64 (atP a).1, .int .i64 (atP a).2]) ∧ TurO b 1 0 tG X w' ∧ Beside b w w' := by
  have PR := Lib.hid (tprep b X w h)
  clear h
  have m15 : bits .and .u16 (a : Int) 32768 = 0 := by rw [show (32768 : Int) = 2 ^ 15 from rfl, u16_and a 15 (by omega) ha, if_neg (by omega)]
  have m14 : bits .and .u16 (a : Int) 16384 = 0 := by rw [show (16384 : Int) = 2 ^ 14 from rfl, u16_and a 14 (by omega) ha, if_neg (by omega)]
  have eA : atP a = atF a 14 (1073741824, 0) := by
    show atF a 14 (atS a) = _
    have e1 : atH a = (1073741824, 0) := by unfold atH; exact if_neg (by omega)
    have e2 : atS a = (1073741824, 0) := by unfold atS; rw [if_neg (by omega), e1]
    rw [e2]
  rw [eA]
  have nA : Nm (1073741824) (0) 1152921504606846976 := by unfold Nm; decide
  clear eA
  go_enter Try.func15, Try.ntmps15
  go_wp2_with fail
  refine PR.out.mono ?_
  rintro e w1 ⟨rfl, h1, bs1⟩
  obtain ⟨V, eV, HV⟩ : ∃ V, V = w1.alloc (.cells #[.int .i64 1073741824, .int .i64 0] 88) ∧ AtW b w1.heap.size 1073741824 0 X w V := ⟨_, rfl, .start h1 bs1 _ _ _⟩
  clear h1 bs1
  go_upto_region 5 with (fail)
  rw [← eV]
  clear eV
  generalize w1.heap.size = q at *
  obtain ⟨k0, k1, k2, k3⟩ := HV.c
  replace HV := Lib.hid HV
  go_upto_region 7 with (fail)
  have HV := HV.out
  replace HV := Lib.hid HV
  go_upto_region 9 with (fail)
  clear k0 k1 k2 k3
  replace nA := Lib.hid nA
  obtain ⟨R, hR⟩ : ∃ R, atF a 14 (1073741824, 0) = R := ⟨_, rfl⟩
  have eR := Lib.hid hR
  replace hR := Lib.hid hR
  clear m15 m14
  go_wp2_with fail
  go_loopw [7] (fun i v => ∃ (k : Nat) (x y : Int), k ≤ 14 ∧ i = .int .i64 ((k : Int) - 1) ∧ Hid (atF a k (x, y) = R) ∧ Hid (Nm x y 1152921504606846976) ∧ Hid (AtW b q x y X w v)) (fun i _ => (intOf i + 1).toNat)
  case atStart => exact ⟨14, _, _, by omega, rfl, hR, nA, HV⟩
  case round =>
    clear HV hR nA
    obtain ⟨k, x, y, hk, rfl, hR, nA, HV⟩ := hrel
    generalize wr = v0 at *
    cases k with
    | zero =>
      obtain ⟨k0, k1, k2, k3⟩ := HV.out.c
      have eX := Lib.hid (eR.out.trans (show (x, y) = R from hR.out).symm)
      clear hR
      go_wp2_with fail
      refine region_moves (fun u => u.cell? ⟨q, 0, none⟩ = some (.int .i64 x) ∧ u.cell? ⟨q, 1, none⟩ = some (.int .i64 y)) [] [(.free, 0), (.take, 1), (.free, 2), (.take, 3), (.free, 4), (.free, 5)] _ (by kernel_rfl) (by kernel_rfl) (by kernel_rfl) (by kernel_rfl) (by decide) rfl (fun _ _ _ _ _ h => h) ?_
      simp only [List.filterMap_cons, List.filterMap_nil, List.getElem?_toArray, List.getElem?_cons_zero, List.getElem?_cons_succ, Option.map_some]
      iterate 1
        first
          | (refine mv_free ?_ (Or.inl ⟨by rfl, ?_⟩) (⟨k0, k1⟩) ?_
             rotate_left 1
             · intro u
               go_simp
               try simp only [d1]
               try simp only [d2]
               try simp only [d3]
               try with_reducible rfl
             simp only [Act.put, List.setIfInBounds_toArray, List.set_cons_zero, List.set_cons_succ])
          | (refine mv_free _ (Or.inr ⟨by rfl, rfl⟩) (⟨k0, k1⟩) ?_
             simp only [Act.put, List.setIfInBounds_toArray, List.set_cons_zero, List.set_cons_succ])
      iterate 1
        first
          | (refine mv_take ?_ (Or.inl ⟨by rfl, ?_⟩) (⟨k0, k1⟩) ?_
             rotate_left 1
             · intro u hu
               (try dsimp only at hu)
               go_simp
               try with_reducible rfl
             simp only [Act.put, List.setIfInBounds_toArray, List.set_cons_zero, List.set_cons_succ])
          | (refine mv_take _ (Or.inr ⟨by rfl, rfl⟩) (⟨k0, k1⟩) ?_
             simp only [Act.put, List.setIfInBounds_toArray, List.set_cons_zero, List.set_cons_succ])
      iterate 1
        first
          | (refine mv_free ?_ (Or.inl ⟨by rfl, ?_⟩) (⟨k0, k1⟩) ?_
             rotate_left 1
             · intro u
               go_simp
               try simp only [d1]
               try simp only [d2]
               try simp only [d3]
               try with_reducible rfl
             simp only [Act.put, List.setIfInBounds_toArray, List.set_cons_zero, List.set_cons_succ])
          | (refine mv_free _ (Or.inr ⟨by rfl, rfl⟩) (⟨k0, k1⟩) ?_
             simp only [Act.put, List.setIfInBounds_toArray, List.set_cons_zero, List.set_cons_succ])
      iterate 1
        first
          | (refine mv_take ?_ (Or.inl ⟨by rfl, ?_⟩) (⟨k0, k1⟩) ?_
             rotate_left 1
             · intro u hu
               (try dsimp only at hu)
               go_simp
               try with_reducible rfl
             simp only [Act.put, List.setIfInBounds_toArray, List.set_cons_zero, List.set_cons_succ])
          | (refine mv_take _ (Or.inr ⟨by rfl, rfl⟩) (⟨k0, k1⟩) ?_
             simp only [Act.put, List.setIfInBounds_toArray, List.set_cons_zero, List.set_cons_succ])
      iterate 2
        first
          | (refine mv_free ?_ (Or.inl ⟨by rfl, ?_⟩) (⟨k0, k1⟩) ?_
             rotate_left 1
             · intro u
               go_simp
               try simp only [d1]
               try simp only [d2]
               try simp only [d3]
               try with_reducible rfl
             simp only [Act.put, List.setIfInBounds_toArray, List.set_cons_zero, List.set_cons_succ])
          | (refine mv_free _ (Or.inr ⟨by rfl, rfl⟩) (⟨k0, k1⟩) ?_
             simp only [Act.put, List.setIfInBounds_toArray, List.set_cons_zero, List.set_cons_succ])
      refine mv_done ?_
      go_wp2
      go_ret2
      exact ⟨by rw [eX.out]; rfl, HV.out.t.drew, HV.out.bs.trans (Beside.of_below (Below.refl _ _).drew)⟩
    | succ j =>
      rw [show ((j + 1 : Nat) : Int) - 1 = (j : Int) by omega]
      have hj : j < 14 := by omega
      have FOj := Lib.hid (fun u (m : AtW b q x y X w u) => tforth b j x y X u m.t hj (nA.out.mono (by decide)))
      have nf := Lib.hid (f_le hj nA.out)
      have bj := u16_and a j (by omega) ha
      have hm : min j 16 = j := by omega
      have hp : (2 : Int) ^ j ≤ 8192 ∧ 1 ≤ (2 : Int) ^ j := by
        have := Nat.pow_le_pow_right (n := 2) (by decide) (show j ≤ 13 by omega)
        have := Nat.two_pow_pos j
        rw [show ((2 : Int) ^ j) = ((2 ^ j : Nat) : Int) by simp]
        generalize 2 ^ j = P at *
        omega
      have i0 : 0 ≤ (j : Int) := by omega
      have i1 : ¬ (j : Int) < 0 := by omega
      have i7 : IntKind.i64.wrap ((j : Int) - 1) = (j : Int) - 1 := by rw [IntKind.wrap_i64]; omega
      have hR2 : (if a / 2 ^ j % 2 = 1 then atF a j (fX j x y, fY j x y) else atF a j (x, y)) = R := hR.out
      clear hR
      by_cases hb : a / 2 ^ j % 2 = 1
      · rw [if_pos hb] at bj hR2
        clear hb
        replace hR2 := Lib.hid hR2
        generalize fX j x y = x2 at *
        generalize fY j x y = y2 at *
        obtain ⟨P, hP⟩ : ∃ P, P = (2 : Int) ^ j := ⟨_, rfl⟩
        rw [← hP] at bj hp
        have e3 : IntKind.u16.wrap ((2 : Int) ^ j) = P := by rw [← hP, IntKind.wrap_u16]; omega
        replace hP := Lib.hid hP
        have e4 : (P == 0) = false := by simp; omega
        have e5 : ¬ P = 0 := by omega
        obtain ⟨k0, k1, k2, k3⟩ := HV.out.c
        clear hp
        go_wp2_with fail
        refine (FOj.out _ HV.out).mono ?_
        rintro e w2 ⟨rfl, hb2⟩
        have HV := HV.out.bel hb2
        obtain ⟨k0, k1, k2, k3⟩ := HV.c
        have HV := Lib.hid (HV.set x2 y2)
        clear hb2
        go_wp2
        go_roundw
        case rel => exact ⟨j, x2, y2, by omega, rfl, hR2, nf, HV⟩
        case measure => simp [intOf] <;> omega
      · rw [if_neg hb] at bj hR2
        clear hb
        replace hR2 := Lib.hid hR2
        obtain ⟨P, hP⟩ : ∃ P, P = (2 : Int) ^ j := ⟨_, rfl⟩
        rw [← hP] at bj hp
        have e3 : IntKind.u16.wrap ((2 : Int) ^ j) = P := by rw [← hP, IntKind.wrap_u16]; omega
        replace hP := Lib.hid hP
        clear hp
        go_wp2
        go_roundw
        case rel => exact ⟨j, x, y, by omega, rfl, hR2, nA, HV⟩
        case measure => simp [intOf] <;> omega
set_option maxRecDepth 100000 in
set_option maxHeartbeats 8000000 in
theorem tat01 (b a : Nat) (X : List Value) (w : World) (h : TurR b X w) (ha : a < 65536) (hh : a / 32768 % 2 = 0) (hq : a / 16384 % 2 = 1) : Calls Try.prog 15 #[.pointer (some ⟨b, 0, none⟩), .int .u16 (a : Int)] w fun e w' => e = .returned (.tuple #[.int .i64 (atP a).1, .int .i64 (atP a).2]) ∧ TurO b 1 0 tG X w' ∧ Beside b w w' := by
  have PR := Lib.hid (tprep b X w h)
  clear h
  have m15 : bits .and .u16 (a : Int) 32768 = 0 := by rw [show (32768 : Int) = 2 ^ 15 from rfl, u16_and a 15 (by omega) ha, if_neg (by omega)]
  have m14 : bits .and .u16 (a : Int) 16384 = 16384 := by rw [show (16384 : Int) = 2 ^ 14 from rfl, u16_and a 14 (by omega) ha, if_pos (by omega)]
  have eA : atP a = atF a 14 (0, 1073741824) := by
    show atF a 14 (atS a) = _
    have e1 : atH a = (1073741824, 0) := by unfold atH; exact if_neg (by omega)
    have e2 : atS a = (0, 1073741824) := by unfold atS; rw [if_pos (by omega), e1]; rfl
    rw [e2]
  rw [eA]
  have nA : Nm (0) (1073741824) 1152921504606846976 := by unfold Nm; decide
  clear eA
  go_enter Try.func15, Try.ntmps15
  go_wp2_with fail
  refine PR.out.mono ?_
  rintro e w1 ⟨rfl, h1, bs1⟩
  obtain ⟨V, eV, HV⟩ : ∃ V, V = w1.alloc (.cells #[.int .i64 1073741824, .int .i64 0] 88) ∧ AtW b w1.heap.size 1073741824 0 X w V := ⟨_, rfl, .start h1 bs1 _ _ _⟩
  clear h1 bs1
  go_upto_region 5 with (fail)
  rw [← eV]
  clear eV
  generalize w1.heap.size = q at *
  obtain ⟨k0, k1, k2, k3⟩ := HV.c
  replace HV := Lib.hid HV
  go_upto_region 7 with (fail)
  have HV := HV.out
  replace HV := HV.set 0 1073741824
  replace HV := Lib.hid HV
  go_upto_region 9 with (fail)
  generalize (V.setCell ⟨q, 0, none⟩ (.int .i64 0)).setCell ⟨q, 1, none⟩ (.int .i64 1073741824) = V2 at *
  clear k0 k1 k2 k3
  replace nA := Lib.hid nA
  obtain ⟨R, hR⟩ : ∃ R, atF a 14 (0, 1073741824) = R := ⟨_, rfl⟩
  have eR := Lib.hid hR
  replace hR := Lib.hid hR
  clear m15 m14
  go_wp2_with fail
  go_loopw [7] (fun i v => ∃ (k : Nat) (x y : Int), k ≤ 14 ∧ i = .int .i64 ((k : Int) - 1) ∧ Hid (atF a k (x, y) = R) ∧ Hid (Nm x y 1152921504606846976) ∧ Hid (AtW b q x y X w v)) (fun i _ => (intOf i + 1).toNat)
  case atStart => exact ⟨14, _, _, by omega, rfl, hR, nA, HV⟩
  case round =>
    clear HV hR nA
    obtain ⟨k, x, y, hk, rfl, hR, nA, HV⟩ := hrel
    generalize wr = v0 at *
    cases k with
    | zero =>
      obtain ⟨k0, k1, k2, k3⟩ := HV.out.c
      have eX := Lib.hid (eR.out.trans (show (x, y) = R from hR.out).symm)
      clear hR
      go_wp2_with fail
      refine region_moves (fun u => u.cell? ⟨q, 0, none⟩ = some (.int .i64 x) ∧ u.cell? ⟨q, 1, none⟩ = some (.int .i64 y)) [] [(.free, 0), (.take, 1), (.free, 2), (.take, 3), (.free, 4), (.free, 5)] _ (by kernel_rfl) (by kernel_rfl) (by kernel_rfl) (by kernel_rfl) (by decide) rfl (fun _ _ _ _ _ h => h) ?_
      simp only [List.filterMap_cons, List.filterMap_nil, List.getElem?_toArray, List.getElem?_cons_zero, List.getElem?_cons_succ, Option.map_some]
      iterate 1
        first
          | (refine mv_free ?_ (Or.inl ⟨by rfl, ?_⟩) (⟨k0, k1⟩) ?_
             rotate_left 1
             · intro u
               go_simp
               try simp only [d1]
               try simp only [d2]
               try simp only [d3]
               try with_reducible rfl
             simp only [Act.put, List.setIfInBounds_toArray, List.set_cons_zero, List.set_cons_succ])
          | (refine mv_free _ (Or.inr ⟨by rfl, rfl⟩) (⟨k0, k1⟩) ?_
             simp only [Act.put, List.setIfInBounds_toArray, List.set_cons_zero, List.set_cons_succ])
      iterate 1
        first
          | (refine mv_take ?_ (Or.inl ⟨by rfl, ?_⟩) (⟨k0, k1⟩) ?_
             rotate_left 1
             · intro u hu
               (try dsimp only at hu)
               go_simp
               try with_reducible rfl
             simp only [Act.put, List.setIfInBounds_toArray, List.set_cons_zero, List.set_cons_succ])
          | (refine mv_take _ (Or.inr ⟨by rfl, rfl⟩) (⟨k0, k1⟩) ?_
             simp only [Act.put, List.setIfInBounds_toArray, List.set_cons_zero, List.set_cons_succ])
      iterate 1
        first
          | (refine mv_free ?_ (Or.inl ⟨by rfl, ?_⟩) (⟨k0, k1⟩) ?_
             rotate_left 1
             · intro u
               go_simp
               try simp only [d1]
               try simp only [d2]
               try simp only [d3]
               try with_reducible rfl
             simp only [Act.put, List.setIfInBounds_toArray, List.set_cons_zero, List.set_cons_succ])
          | (refine mv_free _ (Or.inr ⟨by rfl, rfl⟩) (⟨k0, k1⟩) ?_
             simp only [Act.put, List.setIfInBounds_toArray, List.set_cons_zero, List.set_cons_succ])
      iterate 1
        first
          | (refine mv_take ?_ (Or.inl ⟨by rfl, ?_⟩) (⟨k0, k1⟩) ?_
             rotate_left 1
             · intro u hu
               (try dsimp only at hu)
               go_simp
               try with_reducible rfl
             simp only [Act.put, List.setIfInBounds_toArray, List.set_cons_zero, List.set_cons_succ])
          | (refine mv_take _ (Or.inr ⟨by rfl, rfl⟩) (⟨k0, k1⟩) ?_
             simp only [Act.put, List.setIfInBounds_toArray, List.set_cons_zero, List.set_cons_succ])
      iterate 2
        first
          | (refine mv_free ?_ (Or.inl ⟨by rfl, ?_⟩) (⟨k0, k1⟩) ?_
             rotate_left 1
             · intro u
               go_simp
               try simp only [d1]
               try simp only [d2]
               try simp only [d3]
               try with_reducible rfl
             simp only [Act.put, List.setIfInBounds_toArray, List.set_cons_zero, List.set_cons_succ])
          | (refine mv_free _ (Or.inr ⟨by rfl, rfl⟩) (⟨k0, k1⟩) ?_
             simp only [Act.put, List.setIfInBounds_toArray, List.set_cons_zero, List.set_cons_succ])
      refine mv_done ?_
      go_wp2
      go_ret2
      exact ⟨by rw [eX.out]; rfl, HV.out.t.drew, HV.out.bs.trans (Beside.of_below (Below.refl _ _).drew)⟩
    | succ j =>
      rw [show ((j + 1 : Nat) : Int) - 1 = (j : Int) by omega]
      have hj : j < 14 := by omega
      have FOj := Lib.hid (fun u (m : AtW b q x y X w u) => tforth b j x y X u m.t hj (nA.out.mono (by decide)))
      have nf := Lib.hid (f_le hj nA.out)
      have bj := u16_and a j (by omega) ha
      have hm : min j 16 = j := by omega
      have hp : (2 : Int) ^ j ≤ 8192 ∧ 1 ≤ (2 : Int) ^ j := by
        have := Nat.pow_le_pow_right (n := 2) (by decide) (show j ≤ 13 by omega)
        have := Nat.two_pow_pos j
        rw [show ((2 : Int) ^ j) = ((2 ^ j : Nat) : Int) by simp]
        generalize 2 ^ j = P at *
        omega
      have i0 : 0 ≤ (j : Int) := by omega
      have i1 : ¬ (j : Int) < 0 := by omega
      have i7 : IntKind.i64.wrap ((j : Int) - 1) = (j : Int) - 1 := by rw [IntKind.wrap_i64]; omega
      have hR2 : (if a / 2 ^ j % 2 = 1 then atF a j (fX j x y, fY j x y) else atF a j (x, y)) = R := hR.out
      clear hR
      by_cases hb : a / 2 ^ j % 2 = 1
      · rw [if_pos hb] at bj hR2
        clear hb
        replace hR2 := Lib.hid hR2
        generalize fX j x y = x2 at *
        generalize fY j x y = y2 at *
        obtain ⟨P, hP⟩ : ∃ P, P = (2 : Int) ^ j := ⟨_, rfl⟩
        rw [← hP] at bj hp
        have e3 : IntKind.u16.wrap ((2 : Int) ^ j) = P := by rw [← hP, IntKind.wrap_u16]; omega
        replace hP := Lib.hid hP
        have e4 : (P == 0) = false := by simp; omega
        have e5 : ¬ P = 0 := by omega
        obtain ⟨k0, k1, k2, k3⟩ := HV.out.c
        clear hp
        go_wp2_with fail
        refine (FOj.out _ HV.out).mono ?_
        rintro e w2 ⟨rfl, hb2⟩
        have HV := HV.out.bel hb2
        obtain ⟨k0, k1, k2, k3⟩ := HV.c
        have HV := Lib.hid (HV.set x2 y2)
        clear hb2
        go_wp2
        go_roundw
        case rel => exact ⟨j, x2, y2, by omega, rfl, hR2, nf, HV⟩
        case measure => simp [intOf] <;> omega
      · rw [if_neg hb] at bj hR2
        clear hb
        replace hR2 := Lib.hid hR2
        obtain ⟨P, hP⟩ : ∃ P, P = (2 : Int) ^ j := ⟨_, rfl⟩
        rw [← hP] at bj hp
        have e3 : IntKind.u16.wrap ((2 : Int) ^ j) = P := by rw [← hP, IntKind.wrap_u16]; omega
        replace hP := Lib.hid hP
        clear hp
        go_wp2
        go_roundw
        case rel => exact ⟨j, x, y, by omega, rfl, hR2, nA, HV⟩
        case measure => simp [intOf] <;> omega
set_option maxRecDepth 100000 in
set_option maxHeartbeats 8000000 in
theorem tat10 (b a : Nat) (X : List Value) (w : World) (h : TurR b X w) (ha : a < 65536) (hh : a / 32768 % 2 = 1) (hq : a / 16384 % 2 = 0) : Calls Try.prog 15 #[.pointer (some ⟨b, 0, none⟩), .int .u16 (a : Int)] w fun e w' => e = .returned (.tuple #[.int .i64 (atP a).1, .int .i64 (atP a).2]) ∧ TurO b 1 0 tG X w' ∧ Beside b w w' := by
  have PR := Lib.hid (tprep b X w h)
  clear h
  have m15 : bits .and .u16 (a : Int) 32768 = 32768 := by rw [show (32768 : Int) = 2 ^ 15 from rfl, u16_and a 15 (by omega) ha, if_pos (by omega)]
  have m14 : bits .and .u16 (a : Int) 16384 = 0 := by rw [show (16384 : Int) = 2 ^ 14 from rfl, u16_and a 14 (by omega) ha, if_neg (by omega)]
  have eA : atP a = atF a 14 ((-1073741824), 0) := by
    show atF a 14 (atS a) = _
    have e1 : atH a = ((-1073741824), 0) := by unfold atH; exact if_pos (by omega)
    have e2 : atS a = ((-1073741824), 0) := by unfold atS; rw [if_neg (by omega), e1]
    rw [e2]
  rw [eA]
  have nA : Nm ((-1073741824)) (0) 1152921504606846976 := by unfold Nm; decide
  clear eA
  go_enter Try.func15, Try.ntmps15
  go_wp2_with fail
  refine PR.out.mono ?_
  rintro e w1 ⟨rfl, h1, bs1⟩
  obtain ⟨V, eV, HV⟩ : ∃ V, V = w1.alloc (.cells #[.int .i64 1073741824, .int .i64 0] 88) ∧ AtW b w1.heap.size 1073741824 0 X w V := ⟨_, rfl, .start h1 bs1 _ _ _⟩
  clear h1 bs1
  go_upto_region 5 with (fail)
  rw [← eV]
  clear eV
  generalize w1.heap.size = q at *
  obtain ⟨k0, k1, k2, k3⟩ := HV.c
  replace HV := HV.set (-1073741824) 0
  replace HV := Lib.hid HV
  go_upto_region 7 with (fail)
  generalize (V.setCell ⟨q, 0, none⟩ (.int .i64 (-1073741824))).setCell ⟨q, 1, none⟩ (.int .i64 0) = V1 at *
  clear k0 k1 k2 k3
  have HV := HV.out
  obtain ⟨k0, k1, k2, k3⟩ := HV.c
  replace HV := Lib.hid HV
  go_upto_region 9 with (fail)
  clear k0 k1 k2 k3
  replace nA := Lib.hid nA
  obtain ⟨R, hR⟩ : ∃ R, atF a 14 ((-1073741824), 0) = R := ⟨_, rfl⟩
  have eR := Lib.hid hR
  replace hR := Lib.hid hR
  clear m15 m14
  go_wp2_with fail
  go_loopw [7] (fun i v => ∃ (k : Nat) (x y : Int), k ≤ 14 ∧ i = .int .i64 ((k : Int) - 1) ∧ Hid (atF a k (x, y) = R) ∧ Hid (Nm x y 1152921504606846976) ∧ Hid (AtW b q x y X w v)) (fun i _ => (intOf i + 1).toNat)
  case atStart => exact ⟨14, _, _, by omega, rfl, hR, nA, HV⟩
  case round =>
    clear HV hR nA
    obtain ⟨k, x, y, hk, rfl, hR, nA, HV⟩ := hrel
    generalize wr = v0 at *
    cases k with
    | zero =>
      obtain ⟨k0, k1, k2, k3⟩ := HV.out.c
      have eX := Lib.hid (eR.out.trans (show (x, y) = R from hR.out).symm)
      clear hR
      go_wp2_with fail
      refine region_moves (fun u => u.cell? ⟨q, 0, none⟩ = some (.int .i64 x) ∧ u.cell? ⟨q, 1, none⟩ = some (.int .i64 y)) [] [(.free, 0), (.take, 1), (.free, 2), (.take, 3), (.free, 4), (.free, 5)] _ (by kernel_rfl) (by kernel_rfl) (by kernel_rfl) (by kernel_rfl) (by decide) rfl (fun _ _ _ _ _ h => h) ?_
      simp only [List.filterMap_cons, List.filterMap_nil, List.getElem?_toArray, List.getElem?_cons_zero, List.getElem?_cons_succ, Option.map_some]
      iterate 1
        first
          | (refine mv_free ?_ (Or.inl ⟨by rfl, ?_⟩) (⟨k0, k1⟩) ?_
             rotate_left 1
             · intro u
               go_simp
               try simp only [d1]
               try simp only [d2]
               try simp only [d3]
               try with_reducible rfl
             simp only [Act.put, List.setIfInBounds_toArray, List.set_cons_zero, List.set_cons_succ])
          | (refine mv_free _ (Or.inr ⟨by rfl, rfl⟩) (⟨k0, k1⟩) ?_
             simp only [Act.put, List.setIfInBounds_toArray, List.set_cons_zero, List.set_cons_succ])
      iterate 1
        first
          | (refine mv_take ?_ (Or.inl ⟨by rfl, ?_⟩) (⟨k0, k1⟩) ?_
             rotate_left 1
             · intro u hu
               (try dsimp only at hu)
               go_simp
               try with_reducible rfl
             simp only [Act.put, List.setIfInBounds_toArray, List.set_cons_zero, List.set_cons_succ])
          | (refine mv_take _ (Or.inr ⟨by rfl, rfl⟩) (⟨k0, k1⟩) ?_
             simp only [Act.put, List.setIfInBounds_toArray, List.set_cons_zero, List.set_cons_succ])
      iterate 1
        first
          | (refine mv_free ?_ (Or.inl ⟨by rfl, ?_⟩) (⟨k0, k1⟩) ?_
             rotate_left 1
             · intro u
               go_simp
               try simp only [d1]
               try simp only [d2]
               try simp only [d3]
               try with_reducible rfl
             simp only [Act.put, List.setIfInBounds_toArray, List.set_cons_zero, List.set_cons_succ])
          | (refine mv_free _ (Or.inr ⟨by rfl, rfl⟩) (⟨k0, k1⟩) ?_
             simp only [Act.put, List.setIfInBounds_toArray, List.set_cons_zero, List.set_cons_succ])
      iterate 1
        first
          | (refine mv_take ?_ (Or.inl ⟨by rfl, ?_⟩) (⟨k0, k1⟩) ?_
             rotate_left 1
             · intro u hu
               (try dsimp only at hu)
               go_simp
               try with_reducible rfl
             simp only [Act.put, List.setIfInBounds_toArray, List.set_cons_zero, List.set_cons_succ])
          | (refine mv_take _ (Or.inr ⟨by rfl, rfl⟩) (⟨k0, k1⟩) ?_
             simp only [Act.put, List.setIfInBounds_toArray, List.set_cons_zero, List.set_cons_succ])
      iterate 2
        first
          | (refine mv_free ?_ (Or.inl ⟨by rfl, ?_⟩) (⟨k0, k1⟩) ?_
             rotate_left 1
             · intro u
               go_simp
               try simp only [d1]
               try simp only [d2]
               try simp only [d3]
               try with_reducible rfl
             simp only [Act.put, List.setIfInBounds_toArray, List.set_cons_zero, List.set_cons_succ])
          | (refine mv_free _ (Or.inr ⟨by rfl, rfl⟩) (⟨k0, k1⟩) ?_
             simp only [Act.put, List.setIfInBounds_toArray, List.set_cons_zero, List.set_cons_succ])
      refine mv_done ?_
      go_wp2
      go_ret2
      exact ⟨by rw [eX.out]; rfl, HV.out.t.drew, HV.out.bs.trans (Beside.of_below (Below.refl _ _).drew)⟩
    | succ j =>
      rw [show ((j + 1 : Nat) : Int) - 1 = (j : Int) by omega]
      have hj : j < 14 := by omega
      have FOj := Lib.hid (fun u (m : AtW b q x y X w u) => tforth b j x y X u m.t hj (nA.out.mono (by decide)))
      have nf := Lib.hid (f_le hj nA.out)
      have bj := u16_and a j (by omega) ha
      have hm : min j 16 = j := by omega
      have hp : (2 : Int) ^ j ≤ 8192 ∧ 1 ≤ (2 : Int) ^ j := by
        have := Nat.pow_le_pow_right (n := 2) (by decide) (show j ≤ 13 by omega)
        have := Nat.two_pow_pos j
        rw [show ((2 : Int) ^ j) = ((2 ^ j : Nat) : Int) by simp]
        generalize 2 ^ j = P at *
        omega
      have i0 : 0 ≤ (j : Int) := by omega
      have i1 : ¬ (j : Int) < 0 := by omega
      have i7 : IntKind.i64.wrap ((j : Int) - 1) = (j : Int) - 1 := by rw [IntKind.wrap_i64]; omega
      have hR2 : (if a / 2 ^ j % 2 = 1 then atF a j (fX j x y, fY j x y) else atF a j (x, y)) = R := hR.out
      clear hR
      by_cases hb : a / 2 ^ j % 2 = 1
      · rw [if_pos hb] at bj hR2
        clear hb
        replace hR2 := Lib.hid hR2
        generalize fX j x y = x2 at *
        generalize fY j x y = y2 at *
        obtain ⟨P, hP⟩ : ∃ P, P = (2 : Int) ^ j := ⟨_, rfl⟩
        rw [← hP] at bj hp
        have e3 : IntKind.u16.wrap ((2 : Int) ^ j) = P := by rw [← hP, IntKind.wrap_u16]; omega
        replace hP := Lib.hid hP
        have e4 : (P == 0) = false := by simp; omega
        have e5 : ¬ P = 0 := by omega
        obtain ⟨k0, k1, k2, k3⟩ := HV.out.c
        clear hp
        go_wp2_with fail
        refine (FOj.out _ HV.out).mono ?_
        rintro e w2 ⟨rfl, hb2⟩
        have HV := HV.out.bel hb2
        obtain ⟨k0, k1, k2, k3⟩ := HV.c
        have HV := Lib.hid (HV.set x2 y2)
        clear hb2
        go_wp2
        go_roundw
        case rel => exact ⟨j, x2, y2, by omega, rfl, hR2, nf, HV⟩
        case measure => simp [intOf] <;> omega
      · rw [if_neg hb] at bj hR2
        clear hb
        replace hR2 := Lib.hid hR2
        obtain ⟨P, hP⟩ : ∃ P, P = (2 : Int) ^ j := ⟨_, rfl⟩
        rw [← hP] at bj hp
        have e3 : IntKind.u16.wrap ((2 : Int) ^ j) = P := by rw [← hP, IntKind.wrap_u16]; omega
        replace hP := Lib.hid hP
        clear hp
        go_wp2
        go_roundw
        case rel => exact ⟨j, x, y, by omega, rfl, hR2, nA, HV⟩
        case measure => simp [intOf] <;> omega
set_option maxRecDepth 100000 in
set_option maxHeartbeats 8000000 in
theorem tat11 (b a : Nat) (X : List Value) (w : World) (h : TurR b X w) (ha : a < 65536) (hh : a / 32768 % 2 = 1) (hq : a / 16384 % 2 = 1) : Calls Try.prog 15 #[.pointer (some ⟨b, 0, none⟩), .int .u16 (a : Int)] w fun e w' => e = .returned (.tuple #[.int .i64 (atP a).1, .int .i64 (atP a).2]) ∧ TurO b 1 0 tG X w' ∧ Beside b w w' := by
  have PR := Lib.hid (tprep b X w h)
  clear h
  have m15 : bits .and .u16 (a : Int) 32768 = 32768 := by rw [show (32768 : Int) = 2 ^ 15 from rfl, u16_and a 15 (by omega) ha, if_pos (by omega)]
  have m14 : bits .and .u16 (a : Int) 16384 = 16384 := by rw [show (16384 : Int) = 2 ^ 14 from rfl, u16_and a 14 (by omega) ha, if_pos (by omega)]
  have eA : atP a = atF a 14 (0, (-1073741824)) := by
    show atF a 14 (atS a) = _
    have e1 : atH a = ((-1073741824), 0) := by unfold atH; exact if_pos (by omega)
    have e2 : atS a = (0, (-1073741824)) := by unfold atS; rw [if_pos (by omega), e1]; rfl
    rw [e2]
  rw [eA]
  have nA : Nm (0) ((-1073741824)) 1152921504606846976 := by unfold Nm; decide
  clear eA
  go_enter Try.func15, Try.ntmps15
  go_wp2_with fail
  refine PR.out.mono ?_
  rintro e w1 ⟨rfl, h1, bs1⟩
  obtain ⟨V, eV, HV⟩ : ∃ V, V = w1.alloc (.cells #[.int .i64 1073741824, .int .i64 0] 88) ∧ AtW b w1.heap.size 1073741824 0 X w V := ⟨_, rfl, .start h1 bs1 _ _ _⟩
  clear h1 bs1
  go_upto_region 5 with (fail)
  rw [← eV]
  clear eV
  generalize w1.heap.size = q at *
  obtain ⟨k0, k1, k2, k3⟩ := HV.c
  replace HV := HV.set (-1073741824) 0
  replace HV := Lib.hid HV
  go_upto_region 7 with (fail)
  generalize (V.setCell ⟨q, 0, none⟩ (.int .i64 (-1073741824))).setCell ⟨q, 1, none⟩ (.int .i64 0) = V1 at *
  clear k0 k1 k2 k3
  have HV := HV.out
  obtain ⟨k0, k1, k2, k3⟩ := HV.c
  replace HV := HV.set 0 (-1073741824)
  replace HV := Lib.hid HV
  go_upto_region 9 with (fail)
  generalize (V1.setCell ⟨q, 0, none⟩ (.int .i64 0)).setCell ⟨q, 1, none⟩ (.int .i64 (-1073741824)) = V2 at *
  clear k0 k1 k2 k3
  replace nA := Lib.hid nA
  obtain ⟨R, hR⟩ : ∃ R, atF a 14 (0, (-1073741824)) = R := ⟨_, rfl⟩
  have eR := Lib.hid hR
  replace hR := Lib.hid hR
  clear m15 m14
  go_wp2_with fail
  go_loopw [7] (fun i v => ∃ (k : Nat) (x y : Int), k ≤ 14 ∧ i = .int .i64 ((k : Int) - 1) ∧ Hid (atF a k (x, y) = R) ∧ Hid (Nm x y 1152921504606846976) ∧ Hid (AtW b q x y X w v)) (fun i _ => (intOf i + 1).toNat)
  case atStart => exact ⟨14, _, _, by omega, rfl, hR, nA, HV⟩
  case round =>
    clear HV hR nA
    obtain ⟨k, x, y, hk, rfl, hR, nA, HV⟩ := hrel
    generalize wr = v0 at *
    cases k with
    | zero =>
      obtain ⟨k0, k1, k2, k3⟩ := HV.out.c
      have eX := Lib.hid (eR.out.trans (show (x, y) = R from hR.out).symm)
      clear hR
      go_wp2_with fail
      refine region_moves (fun u => u.cell? ⟨q, 0, none⟩ = some (.int .i64 x) ∧ u.cell? ⟨q, 1, none⟩ = some (.int .i64 y)) [] [(.free, 0), (.take, 1), (.free, 2), (.take, 3), (.free, 4), (.free, 5)] _ (by kernel_rfl) (by kernel_rfl) (by kernel_rfl) (by kernel_rfl) (by decide) rfl (fun _ _ _ _ _ h => h) ?_
      simp only [List.filterMap_cons, List.filterMap_nil, List.getElem?_toArray, List.getElem?_cons_zero, List.getElem?_cons_succ, Option.map_some]
      iterate 1
        first
          | (refine mv_free ?_ (Or.inl ⟨by rfl, ?_⟩) (⟨k0, k1⟩) ?_
             rotate_left 1
             · intro u
               go_simp
               try simp only [d1]
               try simp only [d2]
               try simp only [d3]
               try with_reducible rfl
             simp only [Act.put, List.setIfInBounds_toArray, List.set_cons_zero, List.set_cons_succ])
          | (refine mv_free _ (Or.inr ⟨by rfl, rfl⟩) (⟨k0, k1⟩) ?_
             simp only [Act.put, List.setIfInBounds_toArray, List.set_cons_zero, List.set_cons_succ])
      iterate 1
        first
          | (refine mv_take ?_ (Or.inl ⟨by rfl, ?_⟩) (⟨k0, k1⟩) ?_
             rotate_left 1
             · intro u hu
               (try dsimp only at hu)
               go_simp
               try with_reducible rfl
             simp only [Act.put, List.setIfInBounds_toArray, List.set_cons_zero, List.set_cons_succ])
          | (refine mv_take _ (Or.inr ⟨by rfl, rfl⟩) (⟨k0, k1⟩) ?_
             simp only [Act.put, List.setIfInBounds_toArray, List.set_cons_zero, List.set_cons_succ])
      iterate 1
        first
          | (refine mv_free ?_ (Or.inl ⟨by rfl, ?_⟩) (⟨k0, k1⟩) ?_
             rotate_left 1
             · intro u
               go_simp
               try simp only [d1]
               try simp only [d2]
               try simp only [d3]
               try with_reducible rfl
             simp only [Act.put, List.setIfInBounds_toArray, List.set_cons_zero, List.set_cons_succ])
          | (refine mv_free _ (Or.inr ⟨by rfl, rfl⟩) (⟨k0, k1⟩) ?_
             simp only [Act.put, List.setIfInBounds_toArray, List.set_cons_zero, List.set_cons_succ])
      iterate 1
        first
          | (refine mv_take ?_ (Or.inl ⟨by rfl, ?_⟩) (⟨k0, k1⟩) ?_
             rotate_left 1
             · intro u hu
               (try dsimp only at hu)
               go_simp
               try with_reducible rfl
             simp only [Act.put, List.setIfInBounds_toArray, List.set_cons_zero, List.set_cons_succ])
          | (refine mv_take _ (Or.inr ⟨by rfl, rfl⟩) (⟨k0, k1⟩) ?_
             simp only [Act.put, List.setIfInBounds_toArray, List.set_cons_zero, List.set_cons_succ])
      iterate 2
        first
          | (refine mv_free ?_ (Or.inl ⟨by rfl, ?_⟩) (⟨k0, k1⟩) ?_
             rotate_left 1
             · intro u
               go_simp
               try simp only [d1]
               try simp only [d2]
               try simp only [d3]
               try with_reducible rfl
             simp only [Act.put, List.setIfInBounds_toArray, List.set_cons_zero, List.set_cons_succ])
          | (refine mv_free _ (Or.inr ⟨by rfl, rfl⟩) (⟨k0, k1⟩) ?_
             simp only [Act.put, List.setIfInBounds_toArray, List.set_cons_zero, List.set_cons_succ])
      refine mv_done ?_
      go_wp2
      go_ret2
      exact ⟨by rw [eX.out]; rfl, HV.out.t.drew, HV.out.bs.trans (Beside.of_below (Below.refl _ _).drew)⟩
    | succ j =>
      rw [show ((j + 1 : Nat) : Int) - 1 = (j : Int) by omega]
      have hj : j < 14 := by omega
      have FOj := Lib.hid (fun u (m : AtW b q x y X w u) => tforth b j x y X u m.t hj (nA.out.mono (by decide)))
      have nf := Lib.hid (f_le hj nA.out)
      have bj := u16_and a j (by omega) ha
      have hm : min j 16 = j := by omega
      have hp : (2 : Int) ^ j ≤ 8192 ∧ 1 ≤ (2 : Int) ^ j := by
        have := Nat.pow_le_pow_right (n := 2) (by decide) (show j ≤ 13 by omega)
        have := Nat.two_pow_pos j
        rw [show ((2 : Int) ^ j) = ((2 ^ j : Nat) : Int) by simp]
        generalize 2 ^ j = P at *
        omega
      have i0 : 0 ≤ (j : Int) := by omega
      have i1 : ¬ (j : Int) < 0 := by omega
      have i7 : IntKind.i64.wrap ((j : Int) - 1) = (j : Int) - 1 := by rw [IntKind.wrap_i64]; omega
      have hR2 : (if a / 2 ^ j % 2 = 1 then atF a j (fX j x y, fY j x y) else atF a j (x, y)) = R := hR.out
      clear hR
      by_cases hb : a / 2 ^ j % 2 = 1
      · rw [if_pos hb] at bj hR2
        clear hb
        replace hR2 := Lib.hid hR2
        generalize fX j x y = x2 at *
        generalize fY j x y = y2 at *
        obtain ⟨P, hP⟩ : ∃ P, P = (2 : Int) ^ j := ⟨_, rfl⟩
        rw [← hP] at bj hp
        have e3 : IntKind.u16.wrap ((2 : Int) ^ j) = P := by rw [← hP, IntKind.wrap_u16]; omega
        replace hP := Lib.hid hP
        have e4 : (P == 0) = false := by simp; omega
        have e5 : ¬ P = 0 := by omega
        obtain ⟨k0, k1, k2, k3⟩ := HV.out.c
        clear hp
        go_wp2_with fail
        refine (FOj.out _ HV.out).mono ?_
        rintro e w2 ⟨rfl, hb2⟩
        have HV := HV.out.bel hb2
        obtain ⟨k0, k1, k2, k3⟩ := HV.c
        have HV := Lib.hid (HV.set x2 y2)
        clear hb2
        go_wp2
        go_roundw
        case rel => exact ⟨j, x2, y2, by omega, rfl, hR2, nf, HV⟩
        case measure => simp [intOf] <;> omega
      · rw [if_neg hb] at bj hR2
        clear hb
        replace hR2 := Lib.hid hR2
        obtain ⟨P, hP⟩ : ∃ P, P = (2 : Int) ^ j := ⟨_, rfl⟩
        rw [← hP] at bj hp
        have e3 : IntKind.u16.wrap ((2 : Int) ^ j) = P := by rw [← hP, IntKind.wrap_u16]; omega
        replace hP := Lib.hid hP
        clear hp
        go_wp2
        go_roundw
        case rel => exact ⟨j, x, y, by omega, rfl, hR2, nA, HV⟩
        case measure => simp [intOf] <;> omega
theorem tat (b a : Nat) (X : List Value) (w : World) (h : TurR b X w) (ha : a < 65536) : Calls Try.prog 15 #[.pointer (some ⟨b, 0, none⟩), .int .u16 (a : Int)] w fun e w' => e = .returned (.tuple #[.int .i64 (atP a).1, .int .i64 (atP a).2]) ∧ TurO b 1 0 tG X w' ∧ Beside b w w' := by
  rcases (show a / 32768 % 2 = 0 ∨ a / 32768 % 2 = 1 by omega) with hh | hh <;> rcases (show a / 16384 % 2 = 0 ∨ a / 16384 % 2 = 1 by omega) with hq | hq
  · exact tat00 b a X w h ha hh hq
  · exact tat01 b a X w h ha hh hq
  · exact tat10 b a X w h ha hh hq
  · exact tat11 b a X w h ha hh hq
end Go.Proofs.Ytiibgblpbjdpaaa
