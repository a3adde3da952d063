/- The law RootHypots; walked. -/
import Derived.Test.YtiibgblpbjdpaaaRoot7
import Derived.Test.YtiibgblpbjdpaaaSatClip
import Derived.Test.YtiibgblpbjdpaaaInv
import Derived.Test.YtiibgblpbjdpaaaNew
import Derived.Deep.Cut
namespace Go.Proofs.Ytiibgblpbjdpaaa
open Go.ChangeShapes Go.WideShapes Go.ChangeAt Go.RowKit
set_option linter.unusedVariables false
set_option linter.unusedSimpArgs false
theorem l12x {cs : List Value} (hc : cs.length = 12) : ∃ a0 a1 a2 a3 a4 a5 a6 a7 a8 a9 a10 a11, cs = [a0, a1, a2, a3, a4, a5, a6, a7, a8, a9, a10, a11] := by
  match cs, hc with
  | [a0, a1, a2, a3, a4, a5, a6, a7, a8, a9, a10, a11], _ => exact ⟨a0, a1, a2, a3, a4, a5, a6, a7, a8, a9, a10, a11, rfl⟩
set_option maxHeartbeats 2000000 in
theorem rl_laid {s : Nat} {u : World} {cs : List Value} (h : Held s cs u) (hc : cs.length = 12) (X : Nat → Int) : ∃ u9, u9 = ((((((((((((u.setCell ⟨s, 0, none⟩ (.int .u64 (X 0))).setCell ⟨s, 1, none⟩ (.int .u64 (X 1))).setCell ⟨s, 2, none⟩ (.int .u64 (X 2))).setCell ⟨s, 3, none⟩ (.int .u64 (X 3))).setCell ⟨s, 4, none⟩ (.int .u64 (X 4))).setCell ⟨s, 5, none⟩ (.int .u64 (X 5))).setCell ⟨s, 6, none⟩ (.int .u64 (X 6))).setCell ⟨s, 7, none⟩ (.int .u64 (X 7))).setCell ⟨s, 8, none⟩ (.int .u64 (X 8))).setCell ⟨s, 9, none⟩ (.int .u64 (X 9))).setCell ⟨s, 10, none⟩ (.int .u64 (X 10))).setCell ⟨s, 11, none⟩ (.int .u64 (X 11))) ∧ Held s [.int .u64 (X 0), .int .u64 (X 1), .int .u64 (X 2), .int .u64 (X 3), .int .u64 (X 4), .int .u64 (X 5), .int .u64 (X 6), .int .u64 (X 7), .int .u64 (X 8), .int .u64 (X 9), .int .u64 (X 10), .int .u64 (X 11)] u9 ∧ Below s u u9 := by
  obtain ⟨a0, a1, a2, a3, a4, a5, a6, a7, a8, a9, a10, a11, rfl⟩ := l12x hc
  have h0 := h.set 0 (.int .u64 (X 0)) (by simp)
  simp only [List.set_cons_zero, List.set_cons_succ] at h0
  have h1 := h0.set 1 (.int .u64 (X 1)) (by simp)
  simp only [List.set_cons_zero, List.set_cons_succ] at h1
  have h2 := h1.set 2 (.int .u64 (X 2)) (by simp)
  simp only [List.set_cons_zero, List.set_cons_succ] at h2
  have h3 := h2.set 3 (.int .u64 (X 3)) (by simp)
  simp only [List.set_cons_zero, List.set_cons_succ] at h3
  have h4 := h3.set 4 (.int .u64 (X 4)) (by simp)
  simp only [List.set_cons_zero, List.set_cons_succ] at h4
  have h5 := h4.set 5 (.int .u64 (X 5)) (by simp)
  simp only [List.set_cons_zero, List.set_cons_succ] at h5
  have h6 := h5.set 6 (.int .u64 (X 6)) (by simp)
  simp only [List.set_cons_zero, List.set_cons_succ] at h6
  have h7 := h6.set 7 (.int .u64 (X 7)) (by simp)
  simp only [List.set_cons_zero, List.set_cons_succ] at h7
  have h8 := h7.set 8 (.int .u64 (X 8)) (by simp)
  simp only [List.set_cons_zero, List.set_cons_succ] at h8
  have h9 := h8.set 9 (.int .u64 (X 9)) (by simp)
  simp only [List.set_cons_zero, List.set_cons_succ] at h9
  have h10 := h9.set 10 (.int .u64 (X 10)) (by simp)
  simp only [List.set_cons_zero, List.set_cons_succ] at h10
  have h11 := h10.set 11 (.int .u64 (X 11)) (by simp)
  simp only [List.set_cons_zero, List.set_cons_succ] at h11
  exact ⟨rput s X u, rfl, h11, rput_below (Below.refl s u) (Nat.le_refl s) X⟩
theorem rw_held {s : Nat} {u : World} {X : Nat → Int} (h : Held s [.int .u64 (X 0), .int .u64 (X 1), .int .u64 (X 2), .int .u64 (X 3), .int .u64 (X 4), .int .u64 (X 5), .int .u64 (X 6), .int .u64 (X 7), .int .u64 (X 8), .int .u64 (X 9), .int .u64 (X 10), .int .u64 (X 11)] u) : Rw s X u :=
  ⟨h.lt, fun i hi => by
    rcases i with _ | _ | _ | _ | _ | _ | _ | _ | _ | _ | _ | _ | i
    all_goals first | omega | exact h.c _ _ rfl, fun i hi => h.f i (by simpa using hi)⟩
theorem held_rw {s : Nat} {u : World} {X : Nat → Int} (h : Rw s X u) : Held s [.int .u64 (X 0), .int .u64 (X 1), .int .u64 (X 2), .int .u64 (X 3), .int .u64 (X 4), .int .u64 (X 5), .int .u64 (X 6), .int .u64 (X 7), .int .u64 (X 8), .int .u64 (X 9), .int .u64 (X 10), .int .u64 (X 11)] u :=
  ⟨h.lt, fun i v hv => by
    rcases i with _ | _ | _ | _ | _ | _ | _ | _ | _ | _ | _ | _ | i
    all_goals first | (obtain rfl := Option.some.inj hv; exact h.c _ (by omega)) | (simp at hv), fun i hi => h.f i (by simpa using hi)⟩
/-- What is carried into digit k. -/
def cyI (P Q : Int) (k : Nat) : Int := (P % pw k + Q % pw k) / pw k
theorem cy_0 (P Q : Int) : cyI P Q 0 = 0 := by simp [cyI, pw]
theorem cy_bd (P Q : Int) (k : Nat) : 0 ≤ cyI P Q k ∧ cyI P Q k ≤ 1 := by
  have hp := pw_pos k
  have p1 := Int.emod_nonneg P (show pw k ≠ 0 by omega)
  have p2 := Int.emod_lt_of_pos P hp
  have q1 := Int.emod_nonneg Q (show pw k ≠ 0 by omega)
  have q2 := Int.emod_lt_of_pos Q hp
  unfold cyI
  refine ⟨Int.ediv_nonneg (by omega) (by omega), ?_⟩
  have : (P % pw k + Q % pw k) / pw k < 2 := Int.ediv_lt_of_lt_mul hp (by omega)
  omega
theorem cy_step (P Q : Int) (k : Nat) : (dg P k + dg Q k + cyI P Q k) % 65536 = dg (P + Q) k ∧ (dg P k + dg Q k + cyI P Q k) / 65536 = cyI P Q (k + 1) := by
  have hp := pw_pos k
  have e1 := Int.mul_ediv_add_emod P (pw k)
  have e2 := Int.mul_ediv_add_emod Q (pw k)
  have s1 : (P + Q) / pw k = P / pw k + Q / pw k + cyI P Q k := by
    have : P + Q = (P % pw k + Q % pw k) + (P / pw k + Q / pw k) * pw k := by
      rw [Int.add_mul, Int.mul_comm (P / pw k), Int.mul_comm (Q / pw k)]; omega
    rw [this, Int.add_mul_ediv_right _ _ (by omega)]
    unfold cyI
    omega
  have s2 : cyI P Q (k + 1) = (cyI P Q k + (P / pw k % 65536 + Q / pw k % 65536)) / 65536 := by
    unfold cyI
    rw [pw_succ, mod_step P (pw k) hp, mod_step Q (pw k) hp, Int.mul_comm 65536 (pw k), ← Int.ediv_ediv_of_nonneg (by omega)]
    rw [show P % pw k + P / pw k % 65536 * pw k + (Q % pw k + Q / pw k % 65536 * pw k) = (P % pw k + Q % pw k) + (P / pw k % 65536 + Q / pw k % 65536) * pw k by rw [Int.add_mul]; omega]
    rw [Int.add_mul_ediv_right _ _ (by omega)]
  unfold dg
  rw [s1, s2]
  generalize P / pw k = x
  generalize Q / pw k = y
  generalize cyI P Q k = c
  omega
theorem hy_plain (a b : Int) : sqc a = mag (clp a) * mag (clp a) := by
  unfold sqc absI mag
  rfl
structure RhI (F G H K : Nat → Int) (p p1 B0 : Nat) (w V : World) (a0 : Act) (b : Nat → Bool) (q7 q8 : Nat) (a : Act) (u : World) : Prop where
  sk : Sk [19, 20, 21, 22, 23, 24, 7, 8] a0 a
  bel : Below (B0) V u
  sz : B0 ≤ u.heap.size
  x0 : p < B0 ∧ p1 < B0
  h0 : Held p [.int .u64 (F 0), .int .u64 (F 1), .int .u64 (F 2), .int .u64 (F 3), .int .u64 (F 4), .int .u64 (F 5), .int .u64 (F 6), .int .u64 (F 7), .int .u64 (F 8), .int .u64 (F 9), .int .u64 (F 10), .int .u64 (F 11)] u
  h1 : Held p1 [.int .u64 (G 0), .int .u64 (G 1), .int .u64 (G 2), .int .u64 (G 3), .int .u64 (G 4), .int .u64 (G 5), .int .u64 (G 6), .int .u64 (G 7), .int .u64 (G 8), .int .u64 (G 9), .int .u64 (G 10), .int .u64 (G 11)] u
  s0 : b 0 = true → a.tmps.getD 19 undef = .agg #[.int .u64 (F 0), .int .u64 (F 1), .int .u64 (F 2), .int .u64 (F 3), .int .u64 (F 4), .int .u64 (F 5), .int .u64 (F 6), .int .u64 (F 7), .int .u64 (F 8), .int .u64 (F 9), .int .u64 (F 10), .int .u64 (F 11)]
  s1 : b 1 = true → a.tmps.getD 20 undef = .agg #[.int .u64 (F 0), .int .u64 (F 1), .int .u64 (F 2), .int .u64 (F 3), .int .u64 (F 4), .int .u64 (F 5), .int .u64 (F 6), .int .u64 (F 7), .int .u64 (F 8), .int .u64 (F 9), .int .u64 (F 10), .int .u64 (F 11)]
  s2 : b 2 = true → a.tmps.getD 21 undef = .agg #[.int .u64 (H 0), .int .u64 (H 1), .int .u64 (H 2), .int .u64 (H 3), .int .u64 (H 4), .int .u64 (H 5), .int .u64 (H 6), .int .u64 (H 7), .int .u64 (H 8), .int .u64 (H 9), .int .u64 (H 10), .int .u64 (H 11)]
  s3 : b 3 = true → a.tmps.getD 22 undef = .agg #[.int .u64 (G 0), .int .u64 (G 1), .int .u64 (G 2), .int .u64 (G 3), .int .u64 (G 4), .int .u64 (G 5), .int .u64 (G 6), .int .u64 (G 7), .int .u64 (G 8), .int .u64 (G 9), .int .u64 (G 10), .int .u64 (G 11)]
  s4 : b 4 = true → a.tmps.getD 23 undef = .agg #[.int .u64 (G 0), .int .u64 (G 1), .int .u64 (G 2), .int .u64 (G 3), .int .u64 (G 4), .int .u64 (G 5), .int .u64 (G 6), .int .u64 (G 7), .int .u64 (G 8), .int .u64 (G 9), .int .u64 (G 10), .int .u64 (G 11)]
  s5 : b 5 = true → a.tmps.getD 24 undef = .agg #[.int .u64 (K 0), .int .u64 (K 1), .int .u64 (K 2), .int .u64 (K 3), .int .u64 (K 4), .int .u64 (K 5), .int .u64 (K 6), .int .u64 (K 7), .int .u64 (K 8), .int .u64 (K 9), .int .u64 (K 10), .int .u64 (K 11)]
  s6 : b 6 = true → a.tmps.getD 7 undef = .pointer (some ⟨q7, 0, none⟩) ∧ B0 ≤ q7 ∧ ∃ cs : List Value, cs.length = 12 ∧ Held q7 cs u ∧ (b 8 = true → cs = [.int .u64 (H 0), .int .u64 (H 1), .int .u64 (H 2), .int .u64 (H 3), .int .u64 (H 4), .int .u64 (H 5), .int .u64 (H 6), .int .u64 (H 7), .int .u64 (H 8), .int .u64 (H 9), .int .u64 (H 10), .int .u64 (H 11)])
  e8 : b 8 = true → b 6 = true
  s7 : b 7 = true → a.tmps.getD 8 undef = .pointer (some ⟨q8, 0, none⟩) ∧ B0 ≤ q8 ∧ ∃ cs : List Value, cs.length = 12 ∧ Held q8 cs u ∧ (b 9 = true → cs = [.int .u64 (K 0), .int .u64 (K 1), .int .u64 (K 2), .int .u64 (K 3), .int .u64 (K 4), .int .u64 (K 5), .int .u64 (K 6), .int .u64 (K 7), .int .u64 (K 8), .int .u64 (K 9), .int .u64 (K 10), .int .u64 (K 11)])
  e9 : b 9 = true → b 7 = true
  n1_0 : b 7 = true → b 6 = true → q8 ≠ q7
set_option maxRecDepth 100000 in
set_option maxHeartbeats 4000000 in
theorem RhI.next0 {F G H K : Nat → Int} {p p1 B0 : Nat} {w V : World} {a0 : Act} {b : Nat → Bool} {q7 q8 : Nat} {a : Act} {u : World} (I : RhI F G H K p p1 B0 w V a0 b q7 q8 a u) (hn : 19 < a0.tmps.size) {u' : World} (hu : Below u.heap.size u u') : RhI F G H K p p1 B0 w V a0 (fun x => x == 0 || b x) q7 q8 (a.put (some 19) (.agg #[.int .u64 (F 0), .int .u64 (F 1), .int .u64 (F 2), .int .u64 (F 3), .int .u64 (F 4), .int .u64 (F 5), .int .u64 (F 6), .int .u64 (F 7), .int .u64 (F 8), .int .u64 (F 9), .int .u64 (F 10), .int .u64 (F 11)])) u' :=
  ⟨I.sk.put (by decide) _,
    I.bel.trans (hu.mono I.sz),
    Nat.le_trans I.sz hu.size,
    I.x0,
    I.h0.bel hu,
    I.h1.bel hu,
    fun _ => put_same _ (by rw [I.sk.size]; exact hn),
    fun h => (put_other _ (by decide)).trans (I.s1 (by simpa using h)),
    fun h => (put_other _ (by decide)).trans (I.s2 (by simpa using h)),
    fun h => (put_other _ (by decide)).trans (I.s3 (by simpa using h)),
    fun h => (put_other _ (by decide)).trans (I.s4 (by simpa using h)),
    fun h => (put_other _ (by decide)).trans (I.s5 (by simpa using h)),
    fun h => by obtain ⟨p1, p2, cs, p3, p4, p5⟩ := I.s6 (by simpa using h); exact ⟨(put_other _ (by decide)).trans p1, p2, cs, p3, p4.bel hu, fun h2 => p5 (by simpa using h2)⟩,
    fun h => by have h2 := I.e8 (by simpa using h); simp [h2],
    fun h => by obtain ⟨p1, p2, cs, p3, p4, p5⟩ := I.s7 (by simpa using h); exact ⟨(put_other _ (by decide)).trans p1, p2, cs, p3, p4.bel hu, fun h2 => p5 (by simpa using h2)⟩,
    fun h => by have h2 := I.e9 (by simpa using h); simp [h2],
    fun h h2 => I.n1_0 (by simpa using h) (by simpa using h2)⟩
set_option maxRecDepth 100000 in
set_option maxHeartbeats 4000000 in
theorem RhI.next1 {F G H K : Nat → Int} {p p1 B0 : Nat} {w V : World} {a0 : Act} {b : Nat → Bool} {q7 q8 : Nat} {a : Act} {u : World} (I : RhI F G H K p p1 B0 w V a0 b q7 q8 a u) (hn : 20 < a0.tmps.size) {u' : World} (hu : Below u.heap.size u u') : RhI F G H K p p1 B0 w V a0 (fun x => x == 1 || b x) q7 q8 (a.put (some 20) (.agg #[.int .u64 (F 0), .int .u64 (F 1), .int .u64 (F 2), .int .u64 (F 3), .int .u64 (F 4), .int .u64 (F 5), .int .u64 (F 6), .int .u64 (F 7), .int .u64 (F 8), .int .u64 (F 9), .int .u64 (F 10), .int .u64 (F 11)])) u' :=
  ⟨I.sk.put (by decide) _,
    I.bel.trans (hu.mono I.sz),
    Nat.le_trans I.sz hu.size,
    I.x0,
    I.h0.bel hu,
    I.h1.bel hu,
    fun h => (put_other _ (by decide)).trans (I.s0 (by simpa using h)),
    fun _ => put_same _ (by rw [I.sk.size]; exact hn),
    fun h => (put_other _ (by decide)).trans (I.s2 (by simpa using h)),
    fun h => (put_other _ (by decide)).trans (I.s3 (by simpa using h)),
    fun h => (put_other _ (by decide)).trans (I.s4 (by simpa using h)),
    fun h => (put_other _ (by decide)).trans (I.s5 (by simpa using h)),
    fun h => by obtain ⟨p1, p2, cs, p3, p4, p5⟩ := I.s6 (by simpa using h); exact ⟨(put_other _ (by decide)).trans p1, p2, cs, p3, p4.bel hu, fun h2 => p5 (by simpa using h2)⟩,
    fun h => by have h2 := I.e8 (by simpa using h); simp [h2],
    fun h => by obtain ⟨p1, p2, cs, p3, p4, p5⟩ := I.s7 (by simpa using h); exact ⟨(put_other _ (by decide)).trans p1, p2, cs, p3, p4.bel hu, fun h2 => p5 (by simpa using h2)⟩,
    fun h => by have h2 := I.e9 (by simpa using h); simp [h2],
    fun h h2 => I.n1_0 (by simpa using h) (by simpa using h2)⟩
set_option maxRecDepth 100000 in
set_option maxHeartbeats 4000000 in
theorem RhI.next2 {F G H K : Nat → Int} {p p1 B0 : Nat} {w V : World} {a0 : Act} {b : Nat → Bool} {q7 q8 : Nat} {a : Act} {u : World} (I : RhI F G H K p p1 B0 w V a0 b q7 q8 a u) (hn : 21 < a0.tmps.size) {u' : World} (hu : Below u.heap.size u u') : RhI F G H K p p1 B0 w V a0 (fun x => x == 2 || b x) q7 q8 (a.put (some 21) (.agg #[.int .u64 (H 0), .int .u64 (H 1), .int .u64 (H 2), .int .u64 (H 3), .int .u64 (H 4), .int .u64 (H 5), .int .u64 (H 6), .int .u64 (H 7), .int .u64 (H 8), .int .u64 (H 9), .int .u64 (H 10), .int .u64 (H 11)])) u' :=
  ⟨I.sk.put (by decide) _,
    I.bel.trans (hu.mono I.sz),
    Nat.le_trans I.sz hu.size,
    I.x0,
    I.h0.bel hu,
    I.h1.bel hu,
    fun h => (put_other _ (by decide)).trans (I.s0 (by simpa using h)),
    fun h => (put_other _ (by decide)).trans (I.s1 (by simpa using h)),
    fun _ => put_same _ (by rw [I.sk.size]; exact hn),
    fun h => (put_other _ (by decide)).trans (I.s3 (by simpa using h)),
    fun h => (put_other _ (by decide)).trans (I.s4 (by simpa using h)),
    fun h => (put_other _ (by decide)).trans (I.s5 (by simpa using h)),
    fun h => by obtain ⟨p1, p2, cs, p3, p4, p5⟩ := I.s6 (by simpa using h); exact ⟨(put_other _ (by decide)).trans p1, p2, cs, p3, p4.bel hu, fun h2 => p5 (by simpa using h2)⟩,
    fun h => by have h2 := I.e8 (by simpa using h); simp [h2],
    fun h => by obtain ⟨p1, p2, cs, p3, p4, p5⟩ := I.s7 (by simpa using h); exact ⟨(put_other _ (by decide)).trans p1, p2, cs, p3, p4.bel hu, fun h2 => p5 (by simpa using h2)⟩,
    fun h => by have h2 := I.e9 (by simpa using h); simp [h2],
    fun h h2 => I.n1_0 (by simpa using h) (by simpa using h2)⟩
set_option maxRecDepth 100000 in
set_option maxHeartbeats 4000000 in
theorem RhI.next3 {F G H K : Nat → Int} {p p1 B0 : Nat} {w V : World} {a0 : Act} {b : Nat → Bool} {q7 q8 : Nat} {a : Act} {u : World} (I : RhI F G H K p p1 B0 w V a0 b q7 q8 a u) (hn : 22 < a0.tmps.size) {u' : World} (hu : Below u.heap.size u u') : RhI F G H K p p1 B0 w V a0 (fun x => x == 3 || b x) q7 q8 (a.put (some 22) (.agg #[.int .u64 (G 0), .int .u64 (G 1), .int .u64 (G 2), .int .u64 (G 3), .int .u64 (G 4), .int .u64 (G 5), .int .u64 (G 6), .int .u64 (G 7), .int .u64 (G 8), .int .u64 (G 9), .int .u64 (G 10), .int .u64 (G 11)])) u' :=
  ⟨I.sk.put (by decide) _,
    I.bel.trans (hu.mono I.sz),
    Nat.le_trans I.sz hu.size,
    I.x0,
    I.h0.bel hu,
    I.h1.bel hu,
    fun h => (put_other _ (by decide)).trans (I.s0 (by simpa using h)),
    fun h => (put_other _ (by decide)).trans (I.s1 (by simpa using h)),
    fun h => (put_other _ (by decide)).trans (I.s2 (by simpa using h)),
    fun _ => put_same _ (by rw [I.sk.size]; exact hn),
    fun h => (put_other _ (by decide)).trans (I.s4 (by simpa using h)),
    fun h => (put_other _ (by decide)).trans (I.s5 (by simpa using h)),
    fun h => by obtain ⟨p1, p2, cs, p3, p4, p5⟩ := I.s6 (by simpa using h); exact ⟨(put_other _ (by decide)).trans p1, p2, cs, p3, p4.bel hu, fun h2 => p5 (by simpa using h2)⟩,
    fun h => by have h2 := I.e8 (by simpa using h); simp [h2],
    fun h => by obtain ⟨p1, p2, cs, p3, p4, p5⟩ := I.s7 (by simpa using h); exact ⟨(put_other _ (by decide)).trans p1, p2, cs, p3, p4.bel hu, fun h2 => p5 (by simpa using h2)⟩,
    fun h => by have h2 := I.e9 (by simpa using h); simp [h2],
    fun h h2 => I.n1_0 (by simpa using h) (by simpa using h2)⟩
set_option maxRecDepth 100000 in
set_option maxHeartbeats 4000000 in
theorem RhI.next4 {F G H K : Nat → Int} {p p1 B0 : Nat} {w V : World} {a0 : Act} {b : Nat → Bool} {q7 q8 : Nat} {a : Act} {u : World} (I : RhI F G H K p p1 B0 w V a0 b q7 q8 a u) (hn : 23 < a0.tmps.size) {u' : World} (hu : Below u.heap.size u u') : RhI F G H K p p1 B0 w V a0 (fun x => x == 4 || b x) q7 q8 (a.put (some 23) (.agg #[.int .u64 (G 0), .int .u64 (G 1), .int .u64 (G 2), .int .u64 (G 3), .int .u64 (G 4), .int .u64 (G 5), .int .u64 (G 6), .int .u64 (G 7), .int .u64 (G 8), .int .u64 (G 9), .int .u64 (G 10), .int .u64 (G 11)])) u' :=
  ⟨I.sk.put (by decide) _,
    I.bel.trans (hu.mono I.sz),
    Nat.le_trans I.sz hu.size,
    I.x0,
    I.h0.bel hu,
    I.h1.bel hu,
    fun h => (put_other _ (by decide)).trans (I.s0 (by simpa using h)),
    fun h => (put_other _ (by decide)).trans (I.s1 (by simpa using h)),
    fun h => (put_other _ (by decide)).trans (I.s2 (by simpa using h)),
    fun h => (put_other _ (by decide)).trans (I.s3 (by simpa using h)),
    fun _ => put_same _ (by rw [I.sk.size]; exact hn),
    fun h => (put_other _ (by decide)).trans (I.s5 (by simpa using h)),
    fun h => by obtain ⟨p1, p2, cs, p3, p4, p5⟩ := I.s6 (by simpa using h); exact ⟨(put_other _ (by decide)).trans p1, p2, cs, p3, p4.bel hu, fun h2 => p5 (by simpa using h2)⟩,
    fun h => by have h2 := I.e8 (by simpa using h); simp [h2],
    fun h => by obtain ⟨p1, p2, cs, p3, p4, p5⟩ := I.s7 (by simpa using h); exact ⟨(put_other _ (by decide)).trans p1, p2, cs, p3, p4.bel hu, fun h2 => p5 (by simpa using h2)⟩,
    fun h => by have h2 := I.e9 (by simpa using h); simp [h2],
    fun h h2 => I.n1_0 (by simpa using h) (by simpa using h2)⟩
set_option maxRecDepth 100000 in
set_option maxHeartbeats 4000000 in
theorem RhI.next5 {F G H K : Nat → Int} {p p1 B0 : Nat} {w V : World} {a0 : Act} {b : Nat → Bool} {q7 q8 : Nat} {a : Act} {u : World} (I : RhI F G H K p p1 B0 w V a0 b q7 q8 a u) (hn : 24 < a0.tmps.size) {u' : World} (hu : Below u.heap.size u u') : RhI F G H K p p1 B0 w V a0 (fun x => x == 5 || b x) q7 q8 (a.put (some 24) (.agg #[.int .u64 (K 0), .int .u64 (K 1), .int .u64 (K 2), .int .u64 (K 3), .int .u64 (K 4), .int .u64 (K 5), .int .u64 (K 6), .int .u64 (K 7), .int .u64 (K 8), .int .u64 (K 9), .int .u64 (K 10), .int .u64 (K 11)])) u' :=
  ⟨I.sk.put (by decide) _,
    I.bel.trans (hu.mono I.sz),
    Nat.le_trans I.sz hu.size,
    I.x0,
    I.h0.bel hu,
    I.h1.bel hu,
    fun h => (put_other _ (by decide)).trans (I.s0 (by simpa using h)),
    fun h => (put_other _ (by decide)).trans (I.s1 (by simpa using h)),
    fun h => (put_other _ (by decide)).trans (I.s2 (by simpa using h)),
    fun h => (put_other _ (by decide)).trans (I.s3 (by simpa using h)),
    fun h => (put_other _ (by decide)).trans (I.s4 (by simpa using h)),
    fun _ => put_same _ (by rw [I.sk.size]; exact hn),
    fun h => by obtain ⟨p1, p2, cs, p3, p4, p5⟩ := I.s6 (by simpa using h); exact ⟨(put_other _ (by decide)).trans p1, p2, cs, p3, p4.bel hu, fun h2 => p5 (by simpa using h2)⟩,
    fun h => by have h2 := I.e8 (by simpa using h); simp [h2],
    fun h => by obtain ⟨p1, p2, cs, p3, p4, p5⟩ := I.s7 (by simpa using h); exact ⟨(put_other _ (by decide)).trans p1, p2, cs, p3, p4.bel hu, fun h2 => p5 (by simpa using h2)⟩,
    fun h => by have h2 := I.e9 (by simpa using h); simp [h2],
    fun h h2 => I.n1_0 (by simpa using h) (by simpa using h2)⟩
set_option maxRecDepth 100000 in
set_option maxHeartbeats 4000000 in
theorem RhI.next6 {F G H K : Nat → Int} {p p1 B0 : Nat} {w V : World} {a0 : Act} {b : Nat → Bool} {q7 q8 : Nat} {a : Act} {u : World} (I : RhI F G H K p p1 B0 w V a0 b q7 q8 a u) (hn : 7 < a0.tmps.size) (hf : b 6 = false) : RhI F G H K p p1 B0 w V a0 (fun x => x == 6 || b x) u.heap.size q8 (a.put (some 7) (.pointer (some ⟨u.heap.size, 0, none⟩))) (u.alloc (.cells #[.int .u64 0, .int .u64 0, .int .u64 0, .int .u64 0, .int .u64 0, .int .u64 0, .int .u64 0, .int .u64 0, .int .u64 0, .int .u64 0, .int .u64 0, .int .u64 0] 82)) :=
  ⟨I.sk.put (by decide) _,
    I.bel.alloc I.sz _,
    by have := I.sz; simp; omega,
    I.x0,
    I.h0.alloc _,
    I.h1.alloc _,
    fun h => (put_other _ (by decide)).trans (I.s0 (by simpa using h)),
    fun h => (put_other _ (by decide)).trans (I.s1 (by simpa using h)),
    fun h => (put_other _ (by decide)).trans (I.s2 (by simpa using h)),
    fun h => (put_other _ (by decide)).trans (I.s3 (by simpa using h)),
    fun h => (put_other _ (by decide)).trans (I.s4 (by simpa using h)),
    fun h => (put_other _ (by decide)).trans (I.s5 (by simpa using h)),
    fun _ => ⟨put_same _ (by rw [I.sk.size]; exact hn), I.sz, [.int .u64 0, .int .u64 0, .int .u64 0, .int .u64 0, .int .u64 0, .int .u64 0, .int .u64 0, .int .u64 0, .int .u64 0, .int .u64 0, .int .u64 0, .int .u64 0], rfl, Held.new u [.int .u64 0, .int .u64 0, .int .u64 0, .int .u64 0, .int .u64 0, .int .u64 0, .int .u64 0, .int .u64 0, .int .u64 0, .int .u64 0, .int .u64 0, .int .u64 0] _, fun h => by have h2 := I.e8 (by simpa using h); rw [hf] at h2; cases h2⟩,
    fun h => by have h2 := I.e8 (by simpa using h); simp [h2],
    fun h => by obtain ⟨p1, p2, cs, p3, p4, p5⟩ := I.s7 (by simpa using h); exact ⟨(put_other _ (by decide)).trans p1, p2, cs, p3, p4.alloc _, fun h2 => p5 (by simpa using h2)⟩,
    fun h => by have h2 := I.e9 (by simpa using h); simp [h2],
    fun h _ => by obtain ⟨-, -, cs, -, p4, -⟩ := I.s7 (by simpa using h); have := p4.lt; omega⟩
set_option maxRecDepth 100000 in
set_option maxHeartbeats 4000000 in
theorem RhI.next8 {F G H K : Nat → Int} {p p1 B0 : Nat} {w V : World} {a0 : Act} {b : Nat → Bool} {q7 q8 : Nat} {a : Act} {u : World} (I : RhI F G H K p p1 B0 w V a0 b q7 q8 a u) (ha : b 6 = true) : RhI F G H K p p1 B0 w V a0 (fun x => x == 8 || b x) q7 q8 a ((((((((((((u.setCell ⟨q7, 0, none⟩ (.int .u64 (H 0))).setCell ⟨q7, 1, none⟩ (.int .u64 (H 1))).setCell ⟨q7, 2, none⟩ (.int .u64 (H 2))).setCell ⟨q7, 3, none⟩ (.int .u64 (H 3))).setCell ⟨q7, 4, none⟩ (.int .u64 (H 4))).setCell ⟨q7, 5, none⟩ (.int .u64 (H 5))).setCell ⟨q7, 6, none⟩ (.int .u64 (H 6))).setCell ⟨q7, 7, none⟩ (.int .u64 (H 7))).setCell ⟨q7, 8, none⟩ (.int .u64 (H 8))).setCell ⟨q7, 9, none⟩ (.int .u64 (H 9))).setCell ⟨q7, 10, none⟩ (.int .u64 (H 10))).setCell ⟨q7, 11, none⟩ (.int .u64 (H 11))) := by
  obtain ⟨-, hq, cs0, hc0, hh0, -⟩ := I.s6 ha
  obtain ⟨u9, e9, h9, hb⟩ := rl_laid hh0 hc0 H
  have ho : Only q7 u u9 := by rw [e9]; exact (((((((((((((Only.refl q7 u).setCell (p := ⟨q7, 0, none⟩) (.int .u64 (H 0))).setCell (p := ⟨q7, 1, none⟩) (.int .u64 (H 1))).setCell (p := ⟨q7, 2, none⟩) (.int .u64 (H 2))).setCell (p := ⟨q7, 3, none⟩) (.int .u64 (H 3))).setCell (p := ⟨q7, 4, none⟩) (.int .u64 (H 4))).setCell (p := ⟨q7, 5, none⟩) (.int .u64 (H 5))).setCell (p := ⟨q7, 6, none⟩) (.int .u64 (H 6))).setCell (p := ⟨q7, 7, none⟩) (.int .u64 (H 7))).setCell (p := ⟨q7, 8, none⟩) (.int .u64 (H 8))).setCell (p := ⟨q7, 9, none⟩) (.int .u64 (H 9))).setCell (p := ⟨q7, 10, none⟩) (.int .u64 (H 10))).setCell (p := ⟨q7, 11, none⟩) (.int .u64 (H 11)))
  have hne1 : b 7 = true → q8 ≠ q7 := fun h => I.n1_0 h ha
  have hx0 := I.x0
  rw [← e9]
  exact ⟨I.sk,
    I.bel.trans (hb.mono hq),
    by have := hb.size; have := I.sz; omega,
    I.x0,
    I.h0.only ho (by omega),
    I.h1.only ho (by omega),
    fun h => I.s0 (by simpa using h),
    fun h => I.s1 (by simpa using h),
    fun h => I.s2 (by simpa using h),
    fun h => I.s3 (by simpa using h),
    fun h => I.s4 (by simpa using h),
    fun h => I.s5 (by simpa using h),
    fun h => by obtain ⟨p1, p2, cs, p3, p4, p5⟩ := I.s6 (by simpa using h); exact ⟨p1, p2, _, rfl, h9, fun _ => rfl⟩,
    fun h => by simpa using ha,
    fun h => by obtain ⟨p1, p2, cs, p3, p4, p5⟩ := I.s7 (by simpa using h); exact ⟨p1, p2, cs, p3, p4.only ho (hne1 (by simpa using h)), fun h2 => p5 (by simpa using h2)⟩,
    fun h => by have h2 := I.e9 (by simpa using h); simp [h2],
    fun h h2 => I.n1_0 (by simpa using h) (by simpa using h2)⟩
set_option maxRecDepth 100000 in
set_option maxHeartbeats 4000000 in
theorem RhI.next7 {F G H K : Nat → Int} {p p1 B0 : Nat} {w V : World} {a0 : Act} {b : Nat → Bool} {q7 q8 : Nat} {a : Act} {u : World} (I : RhI F G H K p p1 B0 w V a0 b q7 q8 a u) (hn : 8 < a0.tmps.size) (hf : b 7 = false) : RhI F G H K p p1 B0 w V a0 (fun x => x == 7 || b x) q7 u.heap.size (a.put (some 8) (.pointer (some ⟨u.heap.size, 0, none⟩))) (u.alloc (.cells #[.int .u64 0, .int .u64 0, .int .u64 0, .int .u64 0, .int .u64 0, .int .u64 0, .int .u64 0, .int .u64 0, .int .u64 0, .int .u64 0, .int .u64 0, .int .u64 0] 82)) :=
  ⟨I.sk.put (by decide) _,
    I.bel.alloc I.sz _,
    by have := I.sz; simp; omega,
    I.x0,
    I.h0.alloc _,
    I.h1.alloc _,
    fun h => (put_other _ (by decide)).trans (I.s0 (by simpa using h)),
    fun h => (put_other _ (by decide)).trans (I.s1 (by simpa using h)),
    fun h => (put_other _ (by decide)).trans (I.s2 (by simpa using h)),
    fun h => (put_other _ (by decide)).trans (I.s3 (by simpa using h)),
    fun h => (put_other _ (by decide)).trans (I.s4 (by simpa using h)),
    fun h => (put_other _ (by decide)).trans (I.s5 (by simpa using h)),
    fun h => by obtain ⟨p1, p2, cs, p3, p4, p5⟩ := I.s6 (by simpa using h); exact ⟨(put_other _ (by decide)).trans p1, p2, cs, p3, p4.alloc _, fun h2 => p5 (by simpa using h2)⟩,
    fun h => by have h2 := I.e8 (by simpa using h); simp [h2],
    fun _ => ⟨put_same _ (by rw [I.sk.size]; exact hn), I.sz, [.int .u64 0, .int .u64 0, .int .u64 0, .int .u64 0, .int .u64 0, .int .u64 0, .int .u64 0, .int .u64 0, .int .u64 0, .int .u64 0, .int .u64 0, .int .u64 0], rfl, Held.new u [.int .u64 0, .int .u64 0, .int .u64 0, .int .u64 0, .int .u64 0, .int .u64 0, .int .u64 0, .int .u64 0, .int .u64 0, .int .u64 0, .int .u64 0, .int .u64 0] _, fun h => by have h2 := I.e9 (by simpa using h); rw [hf] at h2; cases h2⟩,
    fun h => by have h2 := I.e9 (by simpa using h); simp [h2],
    fun _ h => by obtain ⟨-, -, cs, -, p4, -⟩ := I.s6 (by simpa using h); have := p4.lt; omega⟩
set_option maxRecDepth 100000 in
set_option maxHeartbeats 4000000 in
theorem RhI.next9 {F G H K : Nat → Int} {p p1 B0 : Nat} {w V : World} {a0 : Act} {b : Nat → Bool} {q7 q8 : Nat} {a : Act} {u : World} (I : RhI F G H K p p1 B0 w V a0 b q7 q8 a u) (ha : b 7 = true) : RhI F G H K p p1 B0 w V a0 (fun x => x == 9 || b x) q7 q8 a ((((((((((((u.setCell ⟨q8, 0, none⟩ (.int .u64 (K 0))).setCell ⟨q8, 1, none⟩ (.int .u64 (K 1))).setCell ⟨q8, 2, none⟩ (.int .u64 (K 2))).setCell ⟨q8, 3, none⟩ (.int .u64 (K 3))).setCell ⟨q8, 4, none⟩ (.int .u64 (K 4))).setCell ⟨q8, 5, none⟩ (.int .u64 (K 5))).setCell ⟨q8, 6, none⟩ (.int .u64 (K 6))).setCell ⟨q8, 7, none⟩ (.int .u64 (K 7))).setCell ⟨q8, 8, none⟩ (.int .u64 (K 8))).setCell ⟨q8, 9, none⟩ (.int .u64 (K 9))).setCell ⟨q8, 10, none⟩ (.int .u64 (K 10))).setCell ⟨q8, 11, none⟩ (.int .u64 (K 11))) := by
  obtain ⟨-, hq, cs0, hc0, hh0, -⟩ := I.s7 ha
  obtain ⟨u9, e9, h9, hb⟩ := rl_laid hh0 hc0 K
  have ho : Only q8 u u9 := by rw [e9]; exact (((((((((((((Only.refl q8 u).setCell (p := ⟨q8, 0, none⟩) (.int .u64 (K 0))).setCell (p := ⟨q8, 1, none⟩) (.int .u64 (K 1))).setCell (p := ⟨q8, 2, none⟩) (.int .u64 (K 2))).setCell (p := ⟨q8, 3, none⟩) (.int .u64 (K 3))).setCell (p := ⟨q8, 4, none⟩) (.int .u64 (K 4))).setCell (p := ⟨q8, 5, none⟩) (.int .u64 (K 5))).setCell (p := ⟨q8, 6, none⟩) (.int .u64 (K 6))).setCell (p := ⟨q8, 7, none⟩) (.int .u64 (K 7))).setCell (p := ⟨q8, 8, none⟩) (.int .u64 (K 8))).setCell (p := ⟨q8, 9, none⟩) (.int .u64 (K 9))).setCell (p := ⟨q8, 10, none⟩) (.int .u64 (K 10))).setCell (p := ⟨q8, 11, none⟩) (.int .u64 (K 11)))
  have hne0 : b 6 = true → q7 ≠ q8 := fun h => (I.n1_0 ha h).symm
  have hx0 := I.x0
  rw [← e9]
  exact ⟨I.sk,
    I.bel.trans (hb.mono hq),
    by have := hb.size; have := I.sz; omega,
    I.x0,
    I.h0.only ho (by omega),
    I.h1.only ho (by omega),
    fun h => I.s0 (by simpa using h),
    fun h => I.s1 (by simpa using h),
    fun h => I.s2 (by simpa using h),
    fun h => I.s3 (by simpa using h),
    fun h => I.s4 (by simpa using h),
    fun h => I.s5 (by simpa using h),
    fun h => by obtain ⟨p1, p2, cs, p3, p4, p5⟩ := I.s6 (by simpa using h); exact ⟨p1, p2, cs, p3, p4.only ho (hne0 (by simpa using h)), fun h2 => p5 (by simpa using h2)⟩,
    fun h => by have h2 := I.e8 (by simpa using h); simp [h2],
    fun h => by obtain ⟨p1, p2, cs, p3, p4, p5⟩ := I.s7 (by simpa using h); exact ⟨p1, p2, _, rfl, h9, fun _ => rfl⟩,
    fun h => by simpa using ha,
    fun h h2 => I.n1_0 (by simpa using h) (by simpa using h2)⟩
set_option maxRecDepth 100000 in
set_option maxHeartbeats 4000000 in
theorem RhI.fin {F G H K : Nat → Int} {p p1 B0 : Nat} {w V : World} {a0 : Act} {b : Nat → Bool} {q7 q8 : Nat} {a : Act} {u : World} (I : RhI F G H K p p1 B0 w V a0 b q7 q8 a u) (hb : ∀ i, i < 100 → i < 10 → b i = true) (hn : 24 < a0.tmps.size) : a = ((((((((a0.put (some 19) (.agg #[.int .u64 (F 0), .int .u64 (F 1), .int .u64 (F 2), .int .u64 (F 3), .int .u64 (F 4), .int .u64 (F 5), .int .u64 (F 6), .int .u64 (F 7), .int .u64 (F 8), .int .u64 (F 9), .int .u64 (F 10), .int .u64 (F 11)])).put (some 20) (.agg #[.int .u64 (F 0), .int .u64 (F 1), .int .u64 (F 2), .int .u64 (F 3), .int .u64 (F 4), .int .u64 (F 5), .int .u64 (F 6), .int .u64 (F 7), .int .u64 (F 8), .int .u64 (F 9), .int .u64 (F 10), .int .u64 (F 11)])).put (some 21) (.agg #[.int .u64 (H 0), .int .u64 (H 1), .int .u64 (H 2), .int .u64 (H 3), .int .u64 (H 4), .int .u64 (H 5), .int .u64 (H 6), .int .u64 (H 7), .int .u64 (H 8), .int .u64 (H 9), .int .u64 (H 10), .int .u64 (H 11)])).put (some 22) (.agg #[.int .u64 (G 0), .int .u64 (G 1), .int .u64 (G 2), .int .u64 (G 3), .int .u64 (G 4), .int .u64 (G 5), .int .u64 (G 6), .int .u64 (G 7), .int .u64 (G 8), .int .u64 (G 9), .int .u64 (G 10), .int .u64 (G 11)])).put (some 23) (.agg #[.int .u64 (G 0), .int .u64 (G 1), .int .u64 (G 2), .int .u64 (G 3), .int .u64 (G 4), .int .u64 (G 5), .int .u64 (G 6), .int .u64 (G 7), .int .u64 (G 8), .int .u64 (G 9), .int .u64 (G 10), .int .u64 (G 11)])).put (some 24) (.agg #[.int .u64 (K 0), .int .u64 (K 1), .int .u64 (K 2), .int .u64 (K 3), .int .u64 (K 4), .int .u64 (K 5), .int .u64 (K 6), .int .u64 (K 7), .int .u64 (K 8), .int .u64 (K 9), .int .u64 (K 10), .int .u64 (K 11)])).put (some 7) (.pointer (some ⟨q7, 0, none⟩))).put (some 8) (.pointer (some ⟨q8, 0, none⟩))) := by
  refine act_ext (by simp only [put_defers]; exact I.sk.defers) (by simp only [put_size]; exact I.sk.size) (fun s hs => ?_)
  by_cases hd : s ∈ ([19, 20, 21, 22, 23, 24, 7, 8] : List Nat)
  · simp only [List.mem_cons, List.not_mem_nil, or_false] at hd
    rcases hd with rfl | rfl | rfl | rfl | rfl | rfl | rfl | rfl
    · refine (I.s0 (hb 0 (by omega) (by omega))).trans (Eq.symm ?_)
      exact (put_other _ (by decide)).trans ((put_other _ (by decide)).trans ((put_other _ (by decide)).trans ((put_other _ (by decide)).trans ((put_other _ (by decide)).trans ((put_other _ (by decide)).trans ((put_other _ (by decide)).trans (put_same _ (by (try simp only [put_size]); omega))))))))
    · refine (I.s1 (hb 1 (by omega) (by omega))).trans (Eq.symm ?_)
      exact (put_other _ (by decide)).trans ((put_other _ (by decide)).trans ((put_other _ (by decide)).trans ((put_other _ (by decide)).trans ((put_other _ (by decide)).trans ((put_other _ (by decide)).trans (put_same _ (by (try simp only [put_size]); omega)))))))
    · refine (I.s2 (hb 2 (by omega) (by omega))).trans (Eq.symm ?_)
      exact (put_other _ (by decide)).trans ((put_other _ (by decide)).trans ((put_other _ (by decide)).trans ((put_other _ (by decide)).trans ((put_other _ (by decide)).trans (put_same _ (by (try simp only [put_size]); omega))))))
    · refine (I.s3 (hb 3 (by omega) (by omega))).trans (Eq.symm ?_)
      exact (put_other _ (by decide)).trans ((put_other _ (by decide)).trans ((put_other _ (by decide)).trans ((put_other _ (by decide)).trans (put_same _ (by (try simp only [put_size]); omega)))))
    · refine (I.s4 (hb 4 (by omega) (by omega))).trans (Eq.symm ?_)
      exact (put_other _ (by decide)).trans ((put_other _ (by decide)).trans ((put_other _ (by decide)).trans (put_same _ (by (try simp only [put_size]); omega))))
    · refine (I.s5 (hb 5 (by omega) (by omega))).trans (Eq.symm ?_)
      exact (put_other _ (by decide)).trans ((put_other _ (by decide)).trans (put_same _ (by (try simp only [put_size]); omega)))
    · refine ((I.s6 (hb 6 (by omega) (by omega))).1).trans (Eq.symm ?_)
      exact (put_other _ (by decide)).trans (put_same _ (by (try simp only [put_size]); omega))
    · refine ((I.s7 (hb 7 (by omega) (by omega))).1).trans (Eq.symm ?_)
      exact put_same _ (by (try simp only [put_size]); omega)
  · refine (I.sk.slot s hd).trans (Eq.symm ?_)
    simp only [List.mem_cons, List.not_mem_nil, or_false, not_or] at hd
    obtain ⟨g0, g1, g2, g3, g4, g5, g6, g7⟩ := hd
    exact (put_other _ g7).trans ((put_other _ g6).trans ((put_other _ g5).trans ((put_other _ g4).trans ((put_other _ g3).trans ((put_other _ g2).trans ((put_other _ g1).trans ((put_other _ g0).trans (rfl))))))))
theorem hy_store (w : World) (b : Nat) (f g : Nat → Int) (h : Rw b f w) : w.heap.size ≤ (rput b g w).heap.size := (rput_below (Below.refl 0 w) (Nat.zero_le _) g).size
set_option maxRecDepth 100000 in
set_option maxHeartbeats 8000000 in
theorem law_RootHypots (a b : Int) (w : World) : Calls Try.prog 12 #[.int .i64 a, .int .i64 b] w fun e w' => e = .returned (.bool true) ∧ Below w.heap.size w w' := by
  have CA := Lib.hid (fun u => rclip_any a u)
  have CB := Lib.hid (fun u => rclip_any b u)
  have ba := clp_bd a
  have bb := clp_bd b
  have OA := fun u => rof_any (clp a) u (by omega) (by omega)
  have OB := fun u => rof_any (clp b) u (by omega) (by omega)
  have ma : 0 ≤ mag (clp a) ∧ mag (clp a) ≤ 1099511627775 := by unfold mag; omega
  have mb : 0 ≤ mag (clp b) ∧ mag (clp b) ≤ 1099511627775 := by unfold mag; omega
  have p4 : (1099511627775 : Int) < pw 4 := by decide +kernel
  have TA := fun u => rtimes_any (mag (clp a)) (mag (clp a)) u ma.1 (by omega) ma.1 (by omega)
  have TB := fun u => rtimes_any (mag (clp b)) (mag (clp b)) u mb.1 (by omega) mb.1 (by omega)
  have HY := fun u => hypot_any a b u
  rw [hy_plain a 0, hy_plain b 0] at HY
  have qa := sqc_bd a
  have qb := sqc_bd b
  rw [hy_plain a 0] at qa
  rw [hy_plain b 0] at qb
  clear p4 ma mb ba bb
  generalize clp a = ca at *
  generalize clp b = cb at *
  generalize mag ca = A at *
  generalize mag cb = B at *
  generalize A * A = P at *
  generalize B * B = Q at *
  have RT := Lib.hid (fun u => rroot_any (P + Q) u (by omega) (by omega))
  have LV := Lib.hid (fun u => lives03 u)
  have rb : 0 ≤ rt (P + Q) ∧ rt (P + Q) ≤ 9223372036854775807 := ⟨(rt_is (P + Q) (by omega)).1, rt_le (P + Q) 9223372036854775807 (by omega) (by omega) (by omega)⟩
  have rc : IntKind.i64.wrap (rt (P + Q)) = rt (P + Q) := IntWalk.i64_in _ ⟨by omega, by omega⟩
  have SP := Lib.hid (fun k => cy_step P Q k)
  have CY := Lib.hid (fun k => cy_bd P Q k)
  have DP := Lib.hid (fun k => dg_bd P k)
  have DQ := Lib.hid (fun k => dg_bd Q k)
  have C0 := cy_0 P Q
  generalize rt (P + Q) = R at *
  clear qa qb rb
  obtain ⟨S, eS⟩ : ∃ S, S = dg (P + Q) := ⟨_, rfl⟩
  replace SP := Lib.hid (show ∀ k, (dg P k + dg Q k + cyI P Q k) % 65536 = S k ∧ (dg P k + dg Q k + cyI P Q k) / 65536 = cyI P Q (k + 1) from by rw [eS]; exact SP.out)
  replace RT := Lib.hid (show ∀ u, Calls Try.prog 38 #[.agg (rwc S)] u fun e w' => e = .returned (.int .u64 R) ∧ Below u.heap.size u w' from by rw [eS]; exact RT.out)
  clear eS
  obtain ⟨F, eF⟩ : ∃ z, z = dg A := ⟨_, rfl⟩
  obtain ⟨G, eG⟩ : ∃ z, z = dg B := ⟨_, rfl⟩
  obtain ⟨H, eH⟩ : ∃ z, z = dg P := ⟨_, rfl⟩
  obtain ⟨K, eK⟩ : ∃ z, z = dg Q := ⟨_, rfl⟩
  replace OA := show ∀ u, Calls Try.prog 35 #[.int .i64 ca] u fun e w' => e = .returned (.agg (rwc F)) ∧ Below u.heap.size u w' from by rw [eF]; exact OA
  replace OB := show ∀ u, Calls Try.prog 35 #[.int .i64 cb] u fun e w' => e = .returned (.agg (rwc G)) ∧ Below u.heap.size u w' from by rw [eG]; exact OB
  replace TA := show ∀ u, Calls Try.prog 36 #[.agg (rwc F), .agg (rwc F)] u fun e w' => e = .returned (.agg (rwc H)) ∧ Below u.heap.size u w' from by rw [eF, eH]; exact TA
  replace TB := show ∀ u, Calls Try.prog 36 #[.agg (rwc G), .agg (rwc G)] u fun e w' => e = .returned (.agg (rwc K)) ∧ Below u.heap.size u w' from by rw [eG, eK]; exact TB
  rw [← eH] at DP SP
  rw [← eK] at DQ SP
  clear eF eG eH eK
  generalize cyI P Q = cy at *
  replace OA := Lib.hid OA
  replace OB := Lib.hid OB
  replace TA := Lib.hid TA
  replace TB := Lib.hid TB
  replace HY := Lib.hid HY
  go_enter Try.func12, Try.ntmps12
  go_wp2_with fail
  refine (CA.out _).mono ?_
  rintro e w1 ⟨rfl, rfl⟩
  go_wp2_with fail
  refine (OA.out _).mono ?_
  rintro e w2 ⟨rfl, hb2⟩
  go_wp2_with fail
  refine (CB.out _).mono ?_
  rintro e w3 ⟨rfl, rfl⟩
  go_wp2_with fail
  refine (OB.out _).mono ?_
  rintro e w4 ⟨rfl, hb4⟩
  replace hb2 := Lib.hid (hb2.trans (hb4.mono hb2.size))
  have hw4 := Lib.hid hb2.out.size
  clear hb4
  obtain ⟨V1, eV1⟩ : ∃ V1, V1 = (w4.alloc (.cells (rwc F) 82)).alloc (.cells (rwc G) 82) := ⟨_, rfl⟩
  have z1 : V1.heap.size = w4.heap.size + 2 := by rw [eV1]; simp
  have s0 : Rw w4.heap.size F V1 := by rw [eV1]; exact (Rw.new w4 _ _).alloc _
  have s1 : Rw (w4.heap.size + 1) G V1 := by rw [eV1]; exact Rw.new' _ _ (by simp)
  have b1 : Below w4.heap.size w4 V1 := by rw [eV1]; exact (by repeat (first | exact Below.refl _ _ | assumption | apply Below.drew | apply below_drewN | (refine Below.alloc ?_ (by first | exact Nat.le_refl _ | omega | (simp <;> omega)) _) | (refine Below.setCell ?_ (by first | exact Nat.le_refl _ | omega | (simp <;> omega)) _)))
  go_upto_region 2 with (fail)
  rw [← eV1]
  clear eV1
  have hb0 := Lib.hid (hb2.out.trans (b1.mono hw4.out))
  clear b1 hb2
  obtain ⟨p, ep⟩ : ∃ p, p = w4.heap.size := ⟨_, rfl⟩
  obtain ⟨p1, ep1⟩ : ∃ p1, p1 = w4.heap.size + 1 := ⟨_, rfl⟩
  rw [← ep1] at s1 ⊢
  rw [← ep] at s0 ⊢
  have hne : p ≠ p1 := by omega
  have hpw : w.heap.size ≤ p := by have := hw4.out; omega
  have hp2 : p < V1.heap.size ∧ p1 < V1.heap.size := by omega
  have HX := held_rw s0
  have HYY := held_rw s1
  clear s0 s1
  replace hne := Lib.hid hne
  replace hpw := Lib.hid hpw
  obtain ⟨B0, eB0⟩ : ∃ B0, B0 = V1.heap.size := ⟨_, rfl⟩
  rw [← eB0] at hp2
  have hB0 := Lib.hid (show w.heap.size ≤ B0 from by have := hpw.out; omega)
  clear ep ep1 z1 hw4
  refine region_inv_at (fun a_ V_ b a u => ∃ q7 q8, RhI F G H K p p1 B0 w V1 a_ b q7 q8 a u) (by kernel_rfl) (by kernel_rfl) ⟨0, 0, ⟨Sk.refl _ _, (Below.refl _ _).drew, Nat.le_of_eq eB0, hp2, HX.drew, HYY.drew, by simp, by simp, by simp, by simp, by simp, by simp, by simp, by simp, by simp, by simp, by simp⟩⟩ ?_ ?_
  · intro i o ho b a u I hb hd K hK
    obtain ⟨q7, q8, I⟩ := I
    have hi : i < 10 := (Array.getElem?_eq_some_iff.1 ho).1
    rcases (show i = 0 ∨ i = 1 ∨ i = 2 ∨ i = 3 ∨ i = 4 ∨ i = 5 ∨ i = 6 ∨ i = 7 ∨ i = 8 ∨ i = 9 by omega) with rfl | rfl | rfl | rfl | rfl | rfl | rfl | rfl | rfl | rfl
    · obtain rfl := Option.some.inj ho
      have d0 : a.tmps.getD 5 undef = .pointer (some ⟨p, 0, none⟩) := (I.sk.slot 5 (by decide)).trans rfl
      have hXX := I.h0
      obtain ⟨c0, f0⟩ := hXX.one 0 rfl
      obtain ⟨c1, f1⟩ := hXX.one 1 rfl
      obtain ⟨c2, f2⟩ := hXX.one 2 rfl
      obtain ⟨c3, f3⟩ := hXX.one 3 rfl
      obtain ⟨c4, f4⟩ := hXX.one 4 rfl
      obtain ⟨c5, f5⟩ := hXX.one 5 rfl
      obtain ⟨c6, f6⟩ := hXX.one 6 rfl
      obtain ⟨c7, f7⟩ := hXX.one 7 rfl
      obtain ⟨c8, f8⟩ := hXX.one 8 rfl
      obtain ⟨c9, f9⟩ := hXX.one 9 rfl
      obtain ⟨c10, f10⟩ := hXX.one 10 rfl
      obtain ⟨c11, f11⟩ := hXX.one 11 rfl
      clear hXX
      have I' := Lib.hid I
      clear I hd hb
      go_simp
      exact hK.out _ _ ⟨q7, q8, I'.out.next0 (by show _ < 55; omega) (Below.refl _ _)⟩
    · obtain rfl := Option.some.inj ho
      have d0 : a.tmps.getD 5 undef = .pointer (some ⟨p, 0, none⟩) := (I.sk.slot 5 (by decide)).trans rfl
      have hXX := I.h0
      obtain ⟨c0, f0⟩ := hXX.one 0 rfl
      obtain ⟨c1, f1⟩ := hXX.one 1 rfl
      obtain ⟨c2, f2⟩ := hXX.one 2 rfl
      obtain ⟨c3, f3⟩ := hXX.one 3 rfl
      obtain ⟨c4, f4⟩ := hXX.one 4 rfl
      obtain ⟨c5, f5⟩ := hXX.one 5 rfl
      obtain ⟨c6, f6⟩ := hXX.one 6 rfl
      obtain ⟨c7, f7⟩ := hXX.one 7 rfl
      obtain ⟨c8, f8⟩ := hXX.one 8 rfl
      obtain ⟨c9, f9⟩ := hXX.one 9 rfl
      obtain ⟨c10, f10⟩ := hXX.one 10 rfl
      obtain ⟨c11, f11⟩ := hXX.one 11 rfl
      clear hXX
      have I' := Lib.hid I
      clear I hd hb
      go_simp
      exact hK.out _ _ ⟨q7, q8, I'.out.next1 (by show _ < 55; omega) (Below.refl _ _)⟩
    · obtain rfl := Option.some.inj ho
      have d0 := I.s0 (hd 0 (by decide))
      have d1 := I.s1 (hd 1 (by decide))
      have I' := Lib.hid I
      clear I hd hb
      go_simp
      refine (TA.out _).mono ?_
      rintro e u1 ⟨rfl, hu⟩
      go_simp
      exact hK.out _ _ ⟨q7, q8, I'.out.next2 (by show _ < 55; omega) hu⟩
    · obtain rfl := Option.some.inj ho
      have d0 : a.tmps.getD 6 undef = .pointer (some ⟨p1, 0, none⟩) := (I.sk.slot 6 (by decide)).trans rfl
      have hXX := I.h1
      obtain ⟨c0, f0⟩ := hXX.one 0 rfl
      obtain ⟨c1, f1⟩ := hXX.one 1 rfl
      obtain ⟨c2, f2⟩ := hXX.one 2 rfl
      obtain ⟨c3, f3⟩ := hXX.one 3 rfl
      obtain ⟨c4, f4⟩ := hXX.one 4 rfl
      obtain ⟨c5, f5⟩ := hXX.one 5 rfl
      obtain ⟨c6, f6⟩ := hXX.one 6 rfl
      obtain ⟨c7, f7⟩ := hXX.one 7 rfl
      obtain ⟨c8, f8⟩ := hXX.one 8 rfl
      obtain ⟨c9, f9⟩ := hXX.one 9 rfl
      obtain ⟨c10, f10⟩ := hXX.one 10 rfl
      obtain ⟨c11, f11⟩ := hXX.one 11 rfl
      clear hXX
      have I' := Lib.hid I
      clear I hd hb
      go_simp
      exact hK.out _ _ ⟨q7, q8, I'.out.next3 (by show _ < 55; omega) (Below.refl _ _)⟩
    · obtain rfl := Option.some.inj ho
      have d0 : a.tmps.getD 6 undef = .pointer (some ⟨p1, 0, none⟩) := (I.sk.slot 6 (by decide)).trans rfl
      have hXX := I.h1
      obtain ⟨c0, f0⟩ := hXX.one 0 rfl
      obtain ⟨c1, f1⟩ := hXX.one 1 rfl
      obtain ⟨c2, f2⟩ := hXX.one 2 rfl
      obtain ⟨c3, f3⟩ := hXX.one 3 rfl
      obtain ⟨c4, f4⟩ := hXX.one 4 rfl
      obtain ⟨c5, f5⟩ := hXX.one 5 rfl
      obtain ⟨c6, f6⟩ := hXX.one 6 rfl
      obtain ⟨c7, f7⟩ := hXX.one 7 rfl
      obtain ⟨c8, f8⟩ := hXX.one 8 rfl
      obtain ⟨c9, f9⟩ := hXX.one 9 rfl
      obtain ⟨c10, f10⟩ := hXX.one 10 rfl
      obtain ⟨c11, f11⟩ := hXX.one 11 rfl
      clear hXX
      have I' := Lib.hid I
      clear I hd hb
      go_simp
      exact hK.out _ _ ⟨q7, q8, I'.out.next4 (by show _ < 55; omega) (Below.refl _ _)⟩
    · obtain rfl := Option.some.inj ho
      have d0 := I.s3 (hd 3 (by decide))
      have d1 := I.s4 (hd 4 (by decide))
      have I' := Lib.hid I
      clear I hd hb
      go_simp
      refine (TB.out _).mono ?_
      rintro e u1 ⟨rfl, hu⟩
      go_simp
      exact hK.out _ _ ⟨q7, q8, I'.out.next5 (by show _ < 55; omega) hu⟩
    · obtain rfl := Option.some.inj ho
      have I' := Lib.hid I
      have hbb := Lib.hid hb
      clear I hd hb
      go_simp
      exact hK.out _ _ ⟨_, q8, I'.out.next6 (by show _ < 55; omega) hbb.out⟩
    · obtain rfl := Option.some.inj ho
      have I' := Lib.hid I
      have hbb := Lib.hid hb
      clear I hd hb
      go_simp
      exact hK.out _ _ ⟨q7, _, I'.out.next7 (by show _ < 55; omega) hbb.out⟩
    · obtain rfl := Option.some.inj ho
      have ha := hd 6 (by decide)
      have h2 := I.s2 (hd 2 (by decide))
      obtain ⟨h3, -, cs, hc, hh, -⟩ := I.s6 ha
      obtain ⟨x0, x1, x2, x3, x4, x5, x6, x7, x8, x9, x10, x11, rfl⟩ := l12x hc
      obtain ⟨c0, f0⟩ := hh.one 0 rfl
      obtain ⟨c1, f1⟩ := hh.one 1 rfl
      obtain ⟨c2, f2⟩ := hh.one 2 rfl
      obtain ⟨c3, f3⟩ := hh.one 3 rfl
      obtain ⟨c4, f4⟩ := hh.one 4 rfl
      obtain ⟨c5, f5⟩ := hh.one 5 rfl
      obtain ⟨c6, f6⟩ := hh.one 6 rfl
      obtain ⟨c7, f7⟩ := hh.one 7 rfl
      obtain ⟨c8, f8⟩ := hh.one 8 rfl
      obtain ⟨c9, f9⟩ := hh.one 9 rfl
      obtain ⟨c10, f10⟩ := hh.one 10 rfl
      obtain ⟨c11, f11⟩ := hh.one 11 rfl
      have I' := Lib.hid (I.next8 ha)
      clear I hd hb hh hc
      go_simp
      exact hK.out _ _ ⟨q7, q8, I'.out⟩
    · obtain rfl := Option.some.inj ho
      have ha := hd 7 (by decide)
      have h2 := I.s5 (hd 5 (by decide))
      obtain ⟨h3, -, cs, hc, hh, -⟩ := I.s7 ha
      obtain ⟨x0, x1, x2, x3, x4, x5, x6, x7, x8, x9, x10, x11, rfl⟩ := l12x hc
      obtain ⟨c0, f0⟩ := hh.one 0 rfl
      obtain ⟨c1, f1⟩ := hh.one 1 rfl
      obtain ⟨c2, f2⟩ := hh.one 2 rfl
      obtain ⟨c3, f3⟩ := hh.one 3 rfl
      obtain ⟨c4, f4⟩ := hh.one 4 rfl
      obtain ⟨c5, f5⟩ := hh.one 5 rfl
      obtain ⟨c6, f6⟩ := hh.one 6 rfl
      obtain ⟨c7, f7⟩ := hh.one 7 rfl
      obtain ⟨c8, f8⟩ := hh.one 8 rfl
      obtain ⟨c9, f9⟩ := hh.one 9 rfl
      obtain ⟨c10, f10⟩ := hh.one 10 rfl
      obtain ⟨c11, f11⟩ := hh.one 11 rfl
      have I' := Lib.hid (I.next9 ha)
      clear I hd hb hh hc
      go_simp
      exact hK.out _ _ ⟨q7, q8, I'.out⟩
  · intro b a u hall I
    obtain ⟨q7, q8, I⟩ := I
    have ea := I.fin (fun i _ h => hall i h) (by show _ < 55; omega)
    obtain ⟨-, r0, cs0, -, k0, j0⟩ := I.s6 (hall 6 (by decide))
    rw [j0 (hall 8 (by decide))] at k0
    obtain ⟨-, r1, cs1, -, k1, j1⟩ := I.s7 (hall 7 (by decide))
    rw [j1 (hall 9 (by decide))] at k1
    have RH := rw_held k0
    have RK := rw_held k1
    have nBB := Lib.hid I.bel
    have bnd := Lib.hid (show B0 ≤ q7 ∧ B0 ≤ q8 ∧ B0 ≤ u.heap.size from ⟨r0, r1, I.sz⟩)
    subst ea
    clear I hall k0 k1 j0 j1 HX HYY
    simp only [Act.put, List.setIfInBounds_toArray, List.set_cons_zero, List.set_cons_succ]
    replace nBB := Lib.hid (hb0.out.trans (nBB.out.mono hB0.out))
    go_upto_region 4 with (fail)
    obtain ⟨V2, eV2⟩ : ∃ V2, V2 = u.alloc (.cells (rwc fun _ => 0) 82) := ⟨_, rfl⟩
    have RZ : Rw u.heap.size (fun _ => 0) V2 := by rw [eV2]; exact Rw.new u _ _
    have RH2 : Rw q7 H V2 := by rw [eV2]; exact RH.alloc _
    have RK2 : Rw q8 K V2 := by rw [eV2]; exact RK.alloc _
    have BB : Below w.heap.size w V2 := by rw [eV2]; exact nBB.out.alloc (by have := nBB.out.size; omega) _
    have n7 := Lib.hid (show q7 ≠ u.heap.size from by have := RH.lt; omega)
    have n8 := Lib.hid (show q8 ≠ u.heap.size from by have := RK.lt; omega)
    have ns := Lib.hid (show w.heap.size ≤ u.heap.size from nBB.out.size)
    rw [← eV2]
    clear eV2 RH RK nBB bnd
    generalize u.heap.size = s at *
    go_wp2_with fail
    go_loopw [10, 11] (fun c i v => ∃ (k : Nat) (g : Nat → Int), k ≤ 12 ∧ c = .int .u64 (cy k) ∧ i = .int .i64 (k : Int) ∧ Rw q7 H v ∧ Rw q8 K v ∧ Rw s g v ∧ Below w.heap.size w v ∧ Hid (∀ j, j < k → g j = S j)) (fun _ i _ => 12 - (intOf i).toNat)
    case atStart => exact ⟨0, _, by omega, by rw [C0], rfl, RH2, RK2, RZ, BB, Lib.hid (fun j hj => by omega)⟩
    case round =>
      clear RH2 RK2 RZ BB
      obtain ⟨k, g, hk, rfl, rfl, RH, RK, RZ, BB, hG⟩ := hrel
      by_cases hlt : k < 12
      · have i0 : 0 ≤ (k : Int) := by omega
        have i1 : (k : Int) < 12 := by omega
        have i2 : IntKind.i64.wrap ((k : Int) + 1) = (k : Int) + 1 := by rw [IntKind.wrap_i64]; omega
        have ch := RH.c k hlt
        have ck := RK.c k hlt
        have cz := RZ.c k hlt
        have fz := RZ.f k hlt
        have sp := SP.out k
        have d1 := DP.out k
        have d2 := DQ.out k
        have cb := CY.out k
        obtain ⟨c2, ec2⟩ : ∃ z, z = cy (k + 1) := ⟨_, rfl⟩
        have cb2 := CY.out (k + 1)
        rw [← ec2] at sp cb2
        have w3 : IntKind.u64.wrap c2 = c2 := IntWalk.u64_in _ ⟨by omega, by omega⟩
        clear cb2
        replace ec2 := Lib.hid ec2
        obtain ⟨z, ez⟩ : ∃ z, z = S k := ⟨_, rfl⟩
        rw [← ez] at sp
        generalize H k = x at ch d1 sp
        generalize K k = y at ck d2 sp
        generalize cy k = c at *
        have hG2 := Lib.hid (show ∀ j, j < k + 1 → upd g k z j = S j from fun j hj => by
          by_cases e : j = k
          · subst e; rw [upd_same, ez]
          · rw [upd_ne g _ e]; exact hG.out j (by omega))
        have w1 : IntKind.u64.wrap (x + y) = x + y := IntWalk.u64_in _ ⟨by omega, by omega⟩
        have w2 : IntKind.u64.wrap (x + y + c) = x + y + c := IntWalk.u64_in _ ⟨by omega, by omega⟩
        have t1 : (x + y + c).tmod 65536 = z := by rw [Int.tmod_eq_emod_of_nonneg (by omega)]; exact sp.1
        have t2 : (x + y + c).tdiv 65536 = c2 := by rw [Int.tdiv_eq_ediv_of_nonneg (by omega)]; exact sp.2
        clear sp ez d1 d2 cb
        go_wp2_with fail
        refine region_still [] [(.free, 0), (.free, 1), (.take, 2), (.free, 3), (.free, 4), (.take, 5), (.free, 6), (.free, 7), (.free, 8), (.free, 9)] _ (by kernel_rfl) (by kernel_rfl) (by kernel_rfl) (by kernel_rfl) (by decide) rfl (fun _ _ _ _ _ h => h) ?_
        simp only [List.filterMap_cons, List.filterMap_nil, List.getElem?_toArray, List.getElem?_cons_zero, List.getElem?_cons_succ, Option.map_some]
        iterate 2
          first
            | (refine mv_free ?_ (Or.inl ⟨by rfl, ?_⟩) (rfl) ?_
               rotate_left 1
               · intro u
                 go_simp
                 try simp only [d1]
                 try simp only [d2]
                 try simp only [d3]
                 try with_reducible rfl
               simp only [Act.put, List.setIfInBounds_toArray, List.set_cons_zero, List.set_cons_succ])
            | (refine mv_free _ (Or.inr ⟨by rfl, rfl⟩) (rfl) ?_
               simp only [Act.put, List.setIfInBounds_toArray, List.set_cons_zero, List.set_cons_succ])
        iterate 1
          first
            | (refine mv_take ?_ (Or.inl ⟨by rfl, ?_⟩) (rfl) ?_
               rotate_left 1
               · intro u hu
                 (try dsimp only at hu)
                 go_simp
                 try with_reducible rfl
               simp only [Act.put, List.setIfInBounds_toArray, List.set_cons_zero, List.set_cons_succ])
            | (refine mv_take _ (Or.inr ⟨by rfl, rfl⟩) (rfl) ?_
               simp only [Act.put, List.setIfInBounds_toArray, List.set_cons_zero, List.set_cons_succ])
        iterate 2
          first
            | (refine mv_free ?_ (Or.inl ⟨by rfl, ?_⟩) (rfl) ?_
               rotate_left 1
               · intro u
                 go_simp
                 try simp only [d1]
                 try simp only [d2]
                 try simp only [d3]
                 try with_reducible rfl
               simp only [Act.put, List.setIfInBounds_toArray, List.set_cons_zero, List.set_cons_succ])
            | (refine mv_free _ (Or.inr ⟨by rfl, rfl⟩) (rfl) ?_
               simp only [Act.put, List.setIfInBounds_toArray, List.set_cons_zero, List.set_cons_succ])
        iterate 1
          first
            | (refine mv_take ?_ (Or.inl ⟨by rfl, ?_⟩) (rfl) ?_
               rotate_left 1
               · intro u hu
                 (try dsimp only at hu)
                 go_simp
                 try with_reducible rfl
               simp only [Act.put, List.setIfInBounds_toArray, List.set_cons_zero, List.set_cons_succ])
            | (refine mv_take _ (Or.inr ⟨by rfl, rfl⟩) (rfl) ?_
               simp only [Act.put, List.setIfInBounds_toArray, List.set_cons_zero, List.set_cons_succ])
        iterate 4
          first
            | (refine mv_free ?_ (Or.inl ⟨by rfl, ?_⟩) (rfl) ?_
               rotate_left 1
               · intro u
                 go_simp
                 try simp only [d1]
                 try simp only [d2]
                 try simp only [d3]
                 try with_reducible rfl
               simp only [Act.put, List.setIfInBounds_toArray, List.set_cons_zero, List.set_cons_succ])
            | (refine mv_free _ (Or.inr ⟨by rfl, rfl⟩) (rfl) ?_
               simp only [Act.put, List.setIfInBounds_toArray, List.set_cons_zero, List.set_cons_succ])
        refine mv_done ?_
        go_wp2
        go_roundw
        case rel => exact ⟨k + 1, _, by omega, by rw [← ec2.out], by first | rfl | go_num, by first | exact (RH.other n7.out _ _).drew | exact RH.drew.other n7.out _ _, by first | exact (RK.other n8.out _ _).drew | exact RK.drew.other n8.out _ _, by first | exact (RZ.set k z hlt).drew | exact RZ.drew.set k z hlt, by first | exact (BB.setCell (by exact ns.out) _).drew | exact BB.drew.setCell (by exact ns.out) _, hG2⟩
        case measure => simp [intOf] <;> omega
      · obtain rfl : k = 12 := by omega
        have RS := Lib.hid (RZ.congr (fun i hi => hG.out i hi))
        replace BB := Lib.hid BB
        clear RH RK RZ hG hlt hk
        obtain ⟨c0, c1, c2, c3, c4, c5, c6, c7, c8, c9, c10, c11⟩ := RS.out.all
        go_wp2_with fail
        refine region_moves (fun u => u.cell? ⟨s, 0, none⟩ = some (.int .u64 (S 0)) ∧ u.cell? ⟨s, 1, none⟩ = some (.int .u64 (S 1)) ∧ u.cell? ⟨s, 2, none⟩ = some (.int .u64 (S 2)) ∧ u.cell? ⟨s, 3, none⟩ = some (.int .u64 (S 3)) ∧ u.cell? ⟨s, 4, none⟩ = some (.int .u64 (S 4)) ∧ u.cell? ⟨s, 5, none⟩ = some (.int .u64 (S 5)) ∧ u.cell? ⟨s, 6, none⟩ = some (.int .u64 (S 6)) ∧ u.cell? ⟨s, 7, none⟩ = some (.int .u64 (S 7)) ∧ u.cell? ⟨s, 8, none⟩ = some (.int .u64 (S 8)) ∧ u.cell? ⟨s, 9, none⟩ = some (.int .u64 (S 9)) ∧ u.cell? ⟨s, 10, none⟩ = some (.int .u64 (S 10)) ∧ u.cell? ⟨s, 11, none⟩ = some (.int .u64 (S 11))) [] [(.free, 0), (.free, 1), (.take, 3), (.step, 2), (.step, 4), (.free, 5), (.free, 6), (.free, 7), (.step, 8), (.free, 9), (.free, 10)] _ (by kernel_rfl) (by kernel_rfl) (by kernel_rfl) (by kernel_rfl) (by decide) rfl (fun _ _ _ _ _ h => h) ?_
        simp only [List.filterMap_cons, List.filterMap_nil, List.getElem?_toArray, List.getElem?_cons_zero, List.getElem?_cons_succ, Option.map_some]
        iterate 2
          first
            | (refine mv_free ?_ (Or.inl ⟨by rfl, ?_⟩) (⟨c0, c1, c2, c3, c4, c5, c6, c7, c8, c9, c10, c11⟩) ?_
               rotate_left 1
               · intro u
                 go_simp
                 try simp only [d1]
                 try simp only [d2]
                 try simp only [d3]
                 try with_reducible rfl
               simp only [Act.put, List.setIfInBounds_toArray, List.set_cons_zero, List.set_cons_succ])
            | (refine mv_free _ (Or.inr ⟨by rfl, rfl⟩) (⟨c0, c1, c2, c3, c4, c5, c6, c7, c8, c9, c10, c11⟩) ?_
               simp only [Act.put, List.setIfInBounds_toArray, List.set_cons_zero, List.set_cons_succ])
        iterate 1
          first
            | (refine mv_take ?_ (Or.inl ⟨by rfl, ?_⟩) (⟨c0, c1, c2, c3, c4, c5, c6, c7, c8, c9, c10, c11⟩) ?_
               rotate_left 1
               · intro u hu
                 (try dsimp only at hu)
                 go_simp
                 try with_reducible rfl
               simp only [Act.put, List.setIfInBounds_toArray, List.set_cons_zero, List.set_cons_succ])
            | (refine mv_take _ (Or.inr ⟨by rfl, rfl⟩) (⟨c0, c1, c2, c3, c4, c5, c6, c7, c8, c9, c10, c11⟩) ?_
               simp only [Act.put, List.setIfInBounds_toArray, List.set_cons_zero, List.set_cons_succ])
        refine mv_step (fun K hK => ?_)
        go_simp
        refine (HY.out _).mono ?_
        rintro e w3 ⟨rfl, rfl⟩
        replace RS := Lib.hid RS.out.drew
        replace BB := Lib.hid BB.out.drew
        clear c0 c1 c2 c3 c4 c5 c6 c7 c8 c9 c10 c11
        obtain ⟨c0, c1, c2, c3, c4, c5, c6, c7, c8, c9, c10, c11⟩ := RS.out.all
        go_wp2_with fail
        refine hK.out _ _ _ (fun u hu => hu) (⟨c0, c1, c2, c3, c4, c5, c6, c7, c8, c9, c10, c11⟩) ?_
        clear hK K
        refine mv_step (fun K hK => ?_)
        go_simp
        refine (RT.out _).mono ?_
        rintro e w4 ⟨rfl, hq⟩
        replace RS := Lib.hid (RS.out.bel hq)
        replace BB := Lib.hid (BB.out.trans (hq.mono BB.out.size))
        clear hq
        clear c0 c1 c2 c3 c4 c5 c6 c7 c8 c9 c10 c11
        obtain ⟨c0, c1, c2, c3, c4, c5, c6, c7, c8, c9, c10, c11⟩ := RS.out.all
        go_wp2_with fail
        refine hK.out _ _ _ (fun u hu => hu) (⟨c0, c1, c2, c3, c4, c5, c6, c7, c8, c9, c10, c11⟩) ?_
        clear hK K
        iterate 3
          first
            | (refine mv_free ?_ (Or.inl ⟨by rfl, ?_⟩) (⟨c0, c1, c2, c3, c4, c5, c6, c7, c8, c9, c10, c11⟩) ?_
               rotate_left 1
               · intro u
                 go_simp
                 try simp only [d1]
                 try simp only [d2]
                 try simp only [d3]
                 try with_reducible rfl
               simp only [Act.put, List.setIfInBounds_toArray, List.set_cons_zero, List.set_cons_succ])
            | (refine mv_free _ (Or.inr ⟨by rfl, rfl⟩) (⟨c0, c1, c2, c3, c4, c5, c6, c7, c8, c9, c10, c11⟩) ?_
               simp only [Act.put, List.setIfInBounds_toArray, List.set_cons_zero, List.set_cons_succ])
        refine mv_step (fun K hK => ?_)
        go_simp
        refine (LV.out _).mono ?_
        rintro e w5 ⟨rfl, rfl⟩
        clear c0 c1 c2 c3 c4 c5 c6 c7 c8 c9 c10 c11
        obtain ⟨c0, c1, c2, c3, c4, c5, c6, c7, c8, c9, c10, c11⟩ := RS.out.all
        go_wp2_with fail
        refine hK.out _ _ _ (fun u hu => hu) (⟨c0, c1, c2, c3, c4, c5, c6, c7, c8, c9, c10, c11⟩) ?_
        clear hK K
        iterate 2
          first
            | (refine mv_free ?_ (Or.inl ⟨by rfl, ?_⟩) (⟨c0, c1, c2, c3, c4, c5, c6, c7, c8, c9, c10, c11⟩) ?_
               rotate_left 1
               · intro u
                 go_simp
                 try simp only [d1]
                 try simp only [d2]
                 try simp only [d3]
                 try with_reducible rfl
               simp only [Act.put, List.setIfInBounds_toArray, List.set_cons_zero, List.set_cons_succ])
            | (refine mv_free _ (Or.inr ⟨by rfl, rfl⟩) (⟨c0, c1, c2, c3, c4, c5, c6, c7, c8, c9, c10, c11⟩) ?_
               simp only [Act.put, List.setIfInBounds_toArray, List.set_cons_zero, List.set_cons_succ])
        refine mv_done ?_
        go_wp2
        go_ret
        exact ⟨rfl, BB.out⟩
end Go.Proofs.Ytiibgblpbjdpaaa
