/- A trend's line as a function value; At; walked. -/
import Derived.Test.YticecjjlafmclaaTrend3
import Derived.Deep.Cut
namespace Go.Proofs.Yticecjjlafmclaa
open Go.ChangeShapes Go.WideShapes Go.ChangeAt Go.RowKit
set_option linter.unusedVariables false
set_option linter.unusedSimpArgs false

/-- The line of this middle, slope and number of values, at a place. -/
def lnV (m s n x : Int) : Int := m + s * (2 * x - n + 1) / 2000
theorem div_bd {a b K : Int} (hb : 0 < b) (h1 : -K ≤ a) (h2 : a ≤ K) (hK : 0 ≤ K) : -K ≤ a / b ∧ a / b ≤ K := by
  refine ⟨?_, ?_⟩
  · rw [Int.le_ediv_iff_mul_le hb]
    have : K * 1 ≤ K * b := Int.mul_le_mul_of_nonneg_left (by omega) hK
    rw [Int.neg_mul]
    omega
  · refine Int.le_of_lt_add_one ((Int.ediv_lt_iff_lt_mul hb).2 ?_)
    have : (K + 1) * 1 ≤ (K + 1) * b := Int.mul_le_mul_of_nonneg_left (by omega) (by omega)
    omega
set_option maxRecDepth 100000 in
set_option maxHeartbeats 8000000 in
theorem trclo (p0 p1 p2 : Nat) (x m s n : Int) (w : World) (q0 : w.cell? ⟨p0, 0, none⟩ = some (.int .i64 m)) (q1 : w.cell? ⟨p1, 0, none⟩ = some (.int .i64 s)) (q2 : w.cell? ⟨p2, 0, none⟩ = some (.int .i64 n))
    (hx : -1000 ≤ x ∧ x ≤ 1000) (hm : -100000000 ≤ m ∧ m ≤ 100000000) (hs : -1300000000000000 ≤ s ∧ s ≤ 1300000000000000) (hn : 2 ≤ n ∧ n ≤ 64) :
    Calls Try.prog 50 #[.int .i64 x, .pointer (some ⟨p0, 0, none⟩), .pointer (some ⟨p1, 0, none⟩), .pointer (some ⟨p2, 0, none⟩)] w fun e w' => e = .returned (.int .i64 (lnV m s n x)) ∧ Below w.heap.size w w' := by
  unfold lnV
  obtain ⟨K, eK⟩ : ∃ K, K = 2 * x - n + 1 := ⟨_, rfl⟩
  rw [← eK]
  have hK : -2063 ≤ K ∧ K ≤ 2063 := by omega
  obtain ⟨Z, eZ⟩ : ∃ Z, Z = s * K := ⟨_, rfl⟩
  have hZ : -2700000000000000000 ≤ Z ∧ Z ≤ 2700000000000000000 := by
    have h := Int.natAbs_mul s K
    have h1 : s.natAbs ≤ 1300000000000000 := by omega
    have h2 : K.natAbs ≤ 2063 := by omega
    have h3 := Nat.mul_le_mul h1 h2
    rw [← eZ] at h
    omega
  rw [← eZ]
  have hD := Int.ediv_lt_iff_lt_mul (a := Z) (b := 1350000000000001) (show (0 : Int) < 2000 by decide)
  have hE := Int.le_ediv_iff_mul_le (a := -1350000000000000) (b := Z) (show (0 : Int) < 2000 by decide)
  have FL := Lib.hid (fun u => trfloor Z 2000 u (by omega) (by omega) (by omega))
  have hq : -1350000000000000 ≤ Z / 2000 ∧ Z / 2000 ≤ 1350000000000000 := by omega
  generalize Z / 2000 = R at *
  have m1 : IntKind.i64.wrap (2 * x) = 2 * x := by rw [IntKind.wrap_i64]; omega
  have m2 : IntKind.i64.wrap (2 * x - n) = 2 * x - n := by rw [IntKind.wrap_i64]; omega
  have m3 : IntKind.i64.wrap (2 * x - n + 1) = K := by rw [IntKind.wrap_i64]; omega
  have m4 : IntKind.i64.wrap (s * K) = Z := by rw [← eZ, IntKind.wrap_i64]; omega
  have m5 : IntKind.i64.wrap (m + R) = m + R := by rw [IntKind.wrap_i64]; omega
  replace eK := Lib.hid eK
  replace eZ := Lib.hid eZ
  clear hD hE hZ hK hq hx hm hs hn
  go_enter Try.func50, Try.ntmps50
  go_upto_region 1 with (fail)
  refine region_moves (fun u => u.cell? ⟨p0, 0, none⟩ = some (.int .i64 m) ∧ u.cell? ⟨p1, 0, none⟩ = some (.int .i64 s) ∧ u.cell? ⟨p2, 0, none⟩ = some (.int .i64 n)) [] [(.take, 0), (.take, 1), (.free, 2), (.free, 3), (.take, 4), (.free, 5), (.free, 6), (.free, 7), (.step, 8), (.free, 9), (.free, 10)] _ (by kernel_rfl) (by kernel_rfl) (by kernel_rfl) (by kernel_rfl) (by decide) rfl (fun _ _ _ _ _ h => h) ?_
  simp only [List.filterMap_cons, List.filterMap_nil, List.getElem?_toArray, List.getElem?_cons_zero, List.getElem?_cons_succ, Option.map_some]
  iterate 2
    first
      | (refine mv_take ?_ (Or.inl ⟨by rfl, ?_⟩) (⟨q0, q1, q2⟩) ?_
         rotate_left 1
         · intro u hu
           (try dsimp only at hu)
           go_simp
           try with_reducible rfl
         simp only [Act.put, List.setIfInBounds_toArray, List.set_cons_zero, List.set_cons_succ])
      | (refine mv_take _ (Or.inr ⟨by rfl, rfl⟩) (⟨q0, q1, q2⟩) ?_
         simp only [Act.put, List.setIfInBounds_toArray, List.set_cons_zero, List.set_cons_succ])
  iterate 2
    first
      | (refine mv_free ?_ (Or.inl ⟨by rfl, ?_⟩) (⟨q0, q1, q2⟩) ?_
         rotate_left 1
         · intro u
           go_simp
           try simp only [d1]
           try simp only [d2]
           try simp only [d3]
           try with_reducible rfl
         simp only [Act.put, List.setIfInBounds_toArray, List.set_cons_zero, List.set_cons_succ])
      | (refine mv_free _ (Or.inr ⟨by rfl, rfl⟩) (⟨q0, q1, q2⟩) ?_
         simp only [Act.put, List.setIfInBounds_toArray, List.set_cons_zero, List.set_cons_succ])
  iterate 1
    first
      | (refine mv_take ?_ (Or.inl ⟨by rfl, ?_⟩) (⟨q0, q1, q2⟩) ?_
         rotate_left 1
         · intro u hu
           (try dsimp only at hu)
           go_simp
           try with_reducible rfl
         simp only [Act.put, List.setIfInBounds_toArray, List.set_cons_zero, List.set_cons_succ])
      | (refine mv_take _ (Or.inr ⟨by rfl, rfl⟩) (⟨q0, q1, q2⟩) ?_
         simp only [Act.put, List.setIfInBounds_toArray, List.set_cons_zero, List.set_cons_succ])
  iterate 3
    first
      | (refine mv_free ?_ (Or.inl ⟨by rfl, ?_⟩) (⟨q0, q1, q2⟩) ?_
         rotate_left 1
         · intro u
           go_simp
           try simp only [d1]
           try simp only [d2]
           try simp only [d3]
           try with_reducible rfl
         simp only [Act.put, List.setIfInBounds_toArray, List.set_cons_zero, List.set_cons_succ])
      | (refine mv_free _ (Or.inr ⟨by rfl, rfl⟩) (⟨q0, q1, q2⟩) ?_
         simp only [Act.put, List.setIfInBounds_toArray, List.set_cons_zero, List.set_cons_succ])
  refine mv_step (fun K hK => ?_)
  go_simp
  refine (FL.out _).mono ?_
  rintro e w1 ⟨rfl, rfl⟩
  go_wp2_with fail
  refine hK.out _ _ _ (fun u hu => hu) (⟨q0, q1, q2⟩) ?_
  clear hK K
  iterate 2
    first
      | (refine mv_free ?_ (Or.inl ⟨by rfl, ?_⟩) (⟨q0, q1, q2⟩) ?_
         rotate_left 1
         · intro u
           go_simp
           try simp only [d1]
           try simp only [d2]
           try simp only [d3]
           try with_reducible rfl
         simp only [Act.put, List.setIfInBounds_toArray, List.set_cons_zero, List.set_cons_succ])
      | (refine mv_free _ (Or.inr ⟨by rfl, rfl⟩) (⟨q0, q1, q2⟩) ?_
         simp only [Act.put, List.setIfInBounds_toArray, List.set_cons_zero, List.set_cons_succ])
  refine mv_done ?_
  go_wp2
  go_ret
  exact ⟨rfl, by first | exact (Below.refl _ _).drew | exact (Below.refl _ _).drew.drew⟩
/-- The captured numbers of a line. -/
structure LnC (B p0 p1 p2 : Nat) (m s n : Int) (w : World) : Prop where
  q0 : w.cell? ⟨p0, 0, none⟩ = some (.int .i64 m)
  q1 : w.cell? ⟨p1, 0, none⟩ = some (.int .i64 s)
  q2 : w.cell? ⟨p2, 0, none⟩ = some (.int .i64 n)
  b0 : B ≤ p0 ∧ B ≤ p1 ∧ B ≤ p2
  l0 : p0 < w.heap.size ∧ p1 < w.heap.size ∧ p2 < w.heap.size
theorem LnC.bel {B p0 p1 p2 : Nat} {m s n : Int} {w w' : World} (h : LnC B p0 p1 p2 m s n w) (k : Below w.heap.size w w') : LnC B p0 p1 p2 m s n w' :=
  ⟨(k.cell (p := ⟨p0, 0, none⟩) h.l0.1).trans h.q0, (k.cell (p := ⟨p1, 0, none⟩) h.l0.2.1).trans h.q1, (k.cell (p := ⟨p2, 0, none⟩) h.l0.2.2).trans h.q2, h.b0, by have := k.size; have := h.l0; omega⟩
set_option maxRecDepth 100000 in
set_option maxHeartbeats 8000000 in
theorem trline {B b : Nat} {sz : Int} {L : List Int} (w : World) (hT : Tr B b sz L w) (h2 : 2 ≤ L.length) : Calls Try.prog 41 #[.pointer (some ⟨b, 0, none⟩)] w fun e w' => ∃ p0 p1 p2 : Nat, e = .returned (.tuple #[.func (.func 50) #[] #[.pointer (some ⟨p0, 0, none⟩), .pointer (some ⟨p1, 0, none⟩), .pointer (some ⟨p2, 0, none⟩)], .bool true]) ∧ LnC w.heap.size p0 p1 p2 (trM L) (trS L) (L.length : Int) w' ∧ Below w.heap.size w w' := by
  have SL := trslope w hT h2
  have MD := fun u (k : Below w.heap.size w u) => trmiddle u (hT.bel k) h2
  have LN := fun u (k : Below w.heap.size w u) => trlen u (hT.bel k)
  have n64 : (L.length : Int) ≤ 64 := by have := hT.len; have := hT.s2; omega
  have n2 : 2 ≤ (L.length : Int) := by omega
  clear hT h2
  generalize trS L = s at *
  generalize trM L = m at *
  generalize (L.length : Int) = n at *
  replace SL := Lib.hid SL
  replace MD := Lib.hid MD
  replace LN := Lib.hid LN
  go_enter Try.func41, Try.ntmps41
  go_wp2_with fail
  refine SL.out.mono ?_
  rintro e w1 ⟨rfl, rfl⟩
  go_wp2_with fail
  refine (MD.out _ (by repeat (first | exact Below.refl _ _ | assumption | apply Below.drew | apply below_drewN | (refine Below.alloc ?_ (by first | exact Nat.le_refl _ | omega | (simp <;> omega)) _) | (refine Below.setCell ?_ (by first | exact Nat.le_refl _ | omega | (simp <;> omega)) _)))).mono ?_
  rintro e w1 ⟨rfl, rfl⟩
  go_wp2_with fail
  refine (LN.out _ (by repeat (first | exact Below.refl _ _ | assumption | apply Below.drew | apply below_drewN | (refine Below.alloc ?_ (by first | exact Nat.le_refl _ | omega | (simp <;> omega)) _) | (refine Below.setCell ?_ (by first | exact Nat.le_refl _ | omega | (simp <;> omega)) _)))).mono ?_
  rintro e w1 ⟨rfl, rfl⟩
  go_wp2
  go_ret2
  refine ⟨_, _, _, rfl, ⟨?_, ?_, ?_, ?_, ?_⟩, (by repeat (first | exact Below.refl _ _ | assumption | apply Below.drew | apply below_drewN | (refine Below.alloc ?_ (by first | exact Nat.le_refl _ | omega | (simp <;> omega)) _) | (refine Below.setCell ?_ (by first | exact Nat.le_refl _ | omega | (simp <;> omega)) _)))⟩
  · go_simp
  · go_simp
  · go_simp
  · simp
    omega
  · simp
    omega
theorem trS_bd {L : List Int} (h : ∀ i, i < L.length → -100000000 ≤ L.getD i 0 ∧ L.getD i 0 ≤ 100000000) (h2 : 2 ≤ L.length) (h64 : L.length ≤ 64) : -1300000000000000 ≤ trS L ∧ trS L ≤ 1300000000000000 := by
  have TB := ts_bd h h64 L.length (Nat.le_refl _)
  unfold trS
  have n2 : 2 ≤ (L.length : Int) := by omega
  have n64 : (L.length : Int) ≤ 64 := by omega
  generalize tsY L L.length = y at *
  generalize tsX L L.length = q at *
  generalize (L.length : Int) = n at *
  have y1 : -6400000000 ≤ y ∧ y ≤ 6400000000 := by omega
  have q1 : -409600000000 ≤ q ∧ q ≤ 409600000000 := by omega
  have p1 : 6000 * (n - 1) * y ≤ 378000 * 6400000000 ∧ -(378000 * 6400000000) ≤ 6000 * (n - 1) * y := by
    have a0 : (0 : Int) ≤ 6000 * (n - 1) := by omega
    have a1 : 6000 * (n - 1) ≤ 378000 := by omega
    have u1 := Int.mul_le_mul_of_nonneg_left y1.2 a0
    have u2 := Int.mul_le_mul_of_nonneg_left y1.1 a0
    omega
  have p2 : 4 ≤ n * n := by
    have u1 := Int.mul_le_mul n2 n2 (by omega) (by omega)
    omega
  have p3 : 6 ≤ n * (n * n - 1) := by
    have u1 := Int.mul_le_mul n2 (show (3 : Int) ≤ n * n - 1 by omega) (by omega) (by omega)
    omega
  generalize n * (n * n - 1) = D at *
  generalize 6000 * (n - 1) * y = P at *
  have hZ : -7800000000000000 ≤ 12000 * q - P ∧ 12000 * q - P ≤ 7800000000000000 := by omega
  generalize 12000 * q - P = Z at *
  have d1 : (0 : Int) < D := by omega
  refine ⟨?_, ?_⟩
  · rw [Int.le_ediv_iff_mul_le d1]
    omega
  · refine Int.le_of_lt_add_one ((Int.ediv_lt_iff_lt_mul d1).2 ?_)
    omega
theorem trM_bd {L : List Int} (h : ∀ i, i < L.length → -100000000 ≤ L.getD i 0 ∧ L.getD i 0 ≤ 100000000) (h2 : 2 ≤ L.length) (h64 : L.length ≤ 64) : -100000000 ≤ trM L ∧ trM L ≤ 100000000 := by
  have TB := ts_bd h h64 L.length (Nat.le_refl _)
  unfold trM
  have n2 : 2 ≤ (L.length : Int) := by omega
  generalize tsY L L.length = y at *
  generalize (L.length : Int) = n at *
  have d1 : (0 : Int) < n := by omega
  refine ⟨?_, ?_⟩
  · rw [Int.le_ediv_iff_mul_le d1]
    omega
  · refine Int.le_of_lt_add_one ((Int.ediv_lt_iff_lt_mul d1).2 ?_)
    omega
set_option maxRecDepth 100000 in
set_option maxHeartbeats 8000000 in
theorem trat {B b : Nat} {sz : Int} {L : List Int} (x : Int) (w : World) (hT : Tr B b sz L w) (h2 : 2 ≤ L.length) : Calls Try.prog 21 #[.pointer (some ⟨b, 0, none⟩), .int .i64 x] w fun e w' => e = .returned (.tuple #[.int .i64 (lnV (trM L) (trS L) (L.length : Int) (min (max x (-1000)) 1000)), .bool true]) ∧ Below w.heap.size w w' := by
  have LI := trline w hT h2
  have n64 : (L.length : Int) ≤ 64 := by have := hT.len; have := hT.s2; omega
  have n2 : 2 ≤ (L.length : Int) := by omega
  have hS := trS_bd hT.bd h2 (by omega)
  have hM := trM_bd hT.bd h2 (by omega)
  clear hT h2
  generalize trS L = s at *
  generalize trM L = m at *
  generalize (L.length : Int) = n at *
  obtain ⟨v, ev⟩ : ∃ v, v = (if x < -1000 then (-1000 : Int) else x) := ⟨_, rfl⟩
  obtain ⟨c, ec⟩ : ∃ c, c = min (max x (-1000)) 1000 := ⟨_, rfl⟩
  have w1 : (if x < -1000 then (-1000 : Int) else x) = v := ev.symm
  have w2 : (if 1000 < v then (1000 : Int) else v) = c := by rw [ec]; omega
  have hc : -1000 ≤ c ∧ c ≤ 1000 := by omega
  rw [← ec]
  have CL := fun (p0 p1 p2 : Nat) u (q : LnC w.heap.size p0 p1 p2 m s n u) => trclo p0 p1 p2 c m s n u q.q0 q.q1 q.q2 hc hM hS ⟨n2, n64⟩
  generalize lnV m s n c = R at *
  replace CL := Lib.hid CL
  replace LI := Lib.hid LI
  replace ev := Lib.hid ev
  clear ec hc n2 n64 hS hM
  go_enter Try.func21, Try.ntmps21
  go_wp2_with fail
  refine LI.out.mono ?_
  rintro e w1 ⟨p0, p1, p2, rfl, hq, hb1⟩
  go_wp2_with fail
  refine (CL.out _ _ _ _ hq).mono ?_
  rintro e w2 ⟨rfl, hb2⟩
  have hb3 := Lib.hid (hb1.trans (hb2.mono hb1.size))
  clear hq hb1 hb2
  go_wp2
  go_ret2
  exact ⟨rfl, hb3.out⟩
end Go.Proofs.Yticecjjlafmclaa
