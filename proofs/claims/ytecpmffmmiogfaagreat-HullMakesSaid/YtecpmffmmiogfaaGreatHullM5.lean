/- The law HullMakes: its beginning; walked. -/
import Derived.Test.YtecpmffmmiogfaaGreatMgHg
import Derived.Test.YtecpmffmmiogfaaGreatHeatZ3
import Derived.Test.YtecpmffmmiogfaaGreatInv
import Derived.Deep.CutRange
namespace Go.Proofs.YtecpmffmmiogfaaGreat
open Go.ChangeShapes Go.WideShapes Go.ChangeAt Go.RowKit
set_option linter.unusedVariables false
set_option linter.unusedSimpArgs false
theorem l2x {cs : List Value} (hc : cs.length = 2) : ∃ x0 x1, cs = [x0, x1] := by
  match cs, hc with
  | [x0, x1], _ => exact ⟨x0, x1, rfl⟩
theorem l2_laid {s : Nat} {u : World} {cs : List Value} (h : Held s cs u) (hc : cs.length = 2) (X : Nat → Int) : ∃ u9, u9 = ((u.setCell ⟨s, 0, none⟩ (.int .i64 (X 0))).setCell ⟨s, 1, none⟩ (.int .i64 (X 1))) ∧ Held s [.int .i64 (X 0), .int .i64 (X 1)] u9 ∧ Below s u u9 := by
  obtain ⟨x0, x1, rfl⟩ := l2x hc
  exact ⟨_, rfl, (h.set 0 (.int .i64 (X 0)) (by simp)).set 1 (.int .i64 (X 1)) (by simp), by repeat (first | exact Below.refl _ _ | (refine Below.setCell ?_ (by exact Nat.le_refl _) _))⟩
structure HkI (Q P M T : Nat → Int) (p0 p1 B0 : Nat) (w V : World) (a0 : Act) (b : Nat → Bool) (q9 q10 q11 q12 : Nat) (a : Act) (u : World) : Prop where
  sk : Sk [24, 25, 26, 27, 28, 29, 30, 31, 9, 10, 11, 12] a0 a
  bel : Below (B0) V u
  sz : B0 ≤ u.heap.size
  x0 : p0 < B0
  x1 : p1 < B0
  h0 : Held p0 [.int .i64 (Q 0), .int .i64 (Q 1), .int .i64 (P 0), .int .i64 (P 1)] u
  h1 : Held p1 [.int .i64 (M 0), .int .i64 (M 1), .int .i64 (T 0), .int .i64 (T 1)] u
  s0 : b 0 = true → a.tmps.getD 24 undef = .pointer (some ⟨p0, 0, none⟩)
  s1 : b 1 = true → a.tmps.getD 25 undef = .agg #[.int .i64 (Q 0), .int .i64 (Q 1)]
  s2 : b 2 = true → a.tmps.getD 26 undef = .pointer (some ⟨p0, 2, none⟩)
  s3 : b 3 = true → a.tmps.getD 27 undef = .agg #[.int .i64 (P 0), .int .i64 (P 1)]
  s4 : b 4 = true → a.tmps.getD 28 undef = .pointer (some ⟨p1, 0, none⟩)
  s5 : b 5 = true → a.tmps.getD 29 undef = .agg #[.int .i64 (M 0), .int .i64 (M 1)]
  s6 : b 6 = true → a.tmps.getD 30 undef = .pointer (some ⟨p1, 2, none⟩)
  s7 : b 7 = true → a.tmps.getD 31 undef = .agg #[.int .i64 (T 0), .int .i64 (T 1)]
  s8 : b 8 = true → a.tmps.getD 9 undef = .pointer (some ⟨q9, 0, none⟩) ∧ B0 ≤ q9 ∧ ∃ cs : List Value, cs.length = 2 ∧ Held q9 cs u ∧ (b 12 = true → cs = [.int .i64 (Q 0), .int .i64 (Q 1)])
  e12 : b 12 = true → b 8 = true
  s9 : b 9 = true → a.tmps.getD 10 undef = .pointer (some ⟨q10, 0, none⟩) ∧ B0 ≤ q10 ∧ ∃ cs : List Value, cs.length = 2 ∧ Held q10 cs u ∧ (b 13 = true → cs = [.int .i64 (P 0), .int .i64 (P 1)])
  e13 : b 13 = true → b 9 = true
  s10 : b 10 = true → a.tmps.getD 11 undef = .pointer (some ⟨q11, 0, none⟩) ∧ B0 ≤ q11 ∧ ∃ cs : List Value, cs.length = 2 ∧ Held q11 cs u ∧ (b 14 = true → cs = [.int .i64 (M 0), .int .i64 (M 1)])
  e14 : b 14 = true → b 10 = true
  s11 : b 11 = true → a.tmps.getD 12 undef = .pointer (some ⟨q12, 0, none⟩) ∧ B0 ≤ q12 ∧ ∃ cs : List Value, cs.length = 2 ∧ Held q12 cs u ∧ (b 15 = true → cs = [.int .i64 (T 0), .int .i64 (T 1)])
  e15 : b 15 = true → b 11 = true
  n1_0 : b 9 = true → b 8 = true → q10 ≠ q9
  n2_0 : b 10 = true → b 8 = true → q11 ≠ q9
  n2_1 : b 10 = true → b 9 = true → q11 ≠ q10
  n3_0 : b 11 = true → b 8 = true → q12 ≠ q9
  n3_1 : b 11 = true → b 9 = true → q12 ≠ q10
  n3_2 : b 11 = true → b 10 = true → q12 ≠ q11
set_option maxRecDepth 100000 in
set_option maxHeartbeats 4000000 in
theorem HkI.next0 {Q P M T : Nat → Int} {p0 p1 B0 : Nat} {w V : World} {a0 : Act} {b : Nat → Bool} {q9 q10 q11 q12 : Nat} {a : Act} {u : World} (I : HkI Q P M T p0 p1 B0 w V a0 b q9 q10 q11 q12 a u) (hn : 24 < a0.tmps.size) {u' : World} (hu : Below u.heap.size u u') : HkI Q P M T p0 p1 B0 w V a0 (fun x => x == 0 || b x) q9 q10 q11 q12 (a.put (some 24) (.pointer (some ⟨p0, 0, none⟩))) u' :=
  ⟨I.sk.put (by decide) _,
    I.bel.trans (hu.mono I.sz),
    Nat.le_trans I.sz hu.size,
    I.x0,
    I.x1,
    I.h0.bel hu,
    I.h1.bel hu,
    fun _ => put_same _ (by rw [I.sk.size]; exact hn),
    fun h => (put_other _ (by decide)).trans (I.s1 (by simpa using h)),
    fun h => (put_other _ (by decide)).trans (I.s2 (by simpa using h)),
    fun h => (put_other _ (by decide)).trans (I.s3 (by simpa using h)),
    fun h => (put_other _ (by decide)).trans (I.s4 (by simpa using h)),
    fun h => (put_other _ (by decide)).trans (I.s5 (by simpa using h)),
    fun h => (put_other _ (by decide)).trans (I.s6 (by simpa using h)),
    fun h => (put_other _ (by decide)).trans (I.s7 (by simpa using h)),
    fun h => by obtain ⟨p1, p2, cs, p3, p4, p5⟩ := I.s8 (by simpa using h); exact ⟨(put_other _ (by decide)).trans p1, p2, cs, p3, p4.bel hu, fun h2 => p5 (by simpa using h2)⟩,
    fun h => by have h2 := I.e12 (by simpa using h); simp [h2],
    fun h => by obtain ⟨p1, p2, cs, p3, p4, p5⟩ := I.s9 (by simpa using h); exact ⟨(put_other _ (by decide)).trans p1, p2, cs, p3, p4.bel hu, fun h2 => p5 (by simpa using h2)⟩,
    fun h => by have h2 := I.e13 (by simpa using h); simp [h2],
    fun h => by obtain ⟨p1, p2, cs, p3, p4, p5⟩ := I.s10 (by simpa using h); exact ⟨(put_other _ (by decide)).trans p1, p2, cs, p3, p4.bel hu, fun h2 => p5 (by simpa using h2)⟩,
    fun h => by have h2 := I.e14 (by simpa using h); simp [h2],
    fun h => by obtain ⟨p1, p2, cs, p3, p4, p5⟩ := I.s11 (by simpa using h); exact ⟨(put_other _ (by decide)).trans p1, p2, cs, p3, p4.bel hu, fun h2 => p5 (by simpa using h2)⟩,
    fun h => by have h2 := I.e15 (by simpa using h); simp [h2],
    fun h h2 => I.n1_0 (by simpa using h) (by simpa using h2),
    fun h h2 => I.n2_0 (by simpa using h) (by simpa using h2),
    fun h h2 => I.n2_1 (by simpa using h) (by simpa using h2),
    fun h h2 => I.n3_0 (by simpa using h) (by simpa using h2),
    fun h h2 => I.n3_1 (by simpa using h) (by simpa using h2),
    fun h h2 => I.n3_2 (by simpa using h) (by simpa using h2)⟩
set_option maxRecDepth 100000 in
set_option maxHeartbeats 4000000 in
theorem HkI.next1 {Q P M T : Nat → Int} {p0 p1 B0 : Nat} {w V : World} {a0 : Act} {b : Nat → Bool} {q9 q10 q11 q12 : Nat} {a : Act} {u : World} (I : HkI Q P M T p0 p1 B0 w V a0 b q9 q10 q11 q12 a u) (hn : 25 < a0.tmps.size) {u' : World} (hu : Below u.heap.size u u') : HkI Q P M T p0 p1 B0 w V a0 (fun x => x == 1 || b x) q9 q10 q11 q12 (a.put (some 25) (.agg #[.int .i64 (Q 0), .int .i64 (Q 1)])) u' :=
  ⟨I.sk.put (by decide) _,
    I.bel.trans (hu.mono I.sz),
    Nat.le_trans I.sz hu.size,
    I.x0,
    I.x1,
    I.h0.bel hu,
    I.h1.bel hu,
    fun h => (put_other _ (by decide)).trans (I.s0 (by simpa using h)),
    fun _ => put_same _ (by rw [I.sk.size]; exact hn),
    fun h => (put_other _ (by decide)).trans (I.s2 (by simpa using h)),
    fun h => (put_other _ (by decide)).trans (I.s3 (by simpa using h)),
    fun h => (put_other _ (by decide)).trans (I.s4 (by simpa using h)),
    fun h => (put_other _ (by decide)).trans (I.s5 (by simpa using h)),
    fun h => (put_other _ (by decide)).trans (I.s6 (by simpa using h)),
    fun h => (put_other _ (by decide)).trans (I.s7 (by simpa using h)),
    fun h => by obtain ⟨p1, p2, cs, p3, p4, p5⟩ := I.s8 (by simpa using h); exact ⟨(put_other _ (by decide)).trans p1, p2, cs, p3, p4.bel hu, fun h2 => p5 (by simpa using h2)⟩,
    fun h => by have h2 := I.e12 (by simpa using h); simp [h2],
    fun h => by obtain ⟨p1, p2, cs, p3, p4, p5⟩ := I.s9 (by simpa using h); exact ⟨(put_other _ (by decide)).trans p1, p2, cs, p3, p4.bel hu, fun h2 => p5 (by simpa using h2)⟩,
    fun h => by have h2 := I.e13 (by simpa using h); simp [h2],
    fun h => by obtain ⟨p1, p2, cs, p3, p4, p5⟩ := I.s10 (by simpa using h); exact ⟨(put_other _ (by decide)).trans p1, p2, cs, p3, p4.bel hu, fun h2 => p5 (by simpa using h2)⟩,
    fun h => by have h2 := I.e14 (by simpa using h); simp [h2],
    fun h => by obtain ⟨p1, p2, cs, p3, p4, p5⟩ := I.s11 (by simpa using h); exact ⟨(put_other _ (by decide)).trans p1, p2, cs, p3, p4.bel hu, fun h2 => p5 (by simpa using h2)⟩,
    fun h => by have h2 := I.e15 (by simpa using h); simp [h2],
    fun h h2 => I.n1_0 (by simpa using h) (by simpa using h2),
    fun h h2 => I.n2_0 (by simpa using h) (by simpa using h2),
    fun h h2 => I.n2_1 (by simpa using h) (by simpa using h2),
    fun h h2 => I.n3_0 (by simpa using h) (by simpa using h2),
    fun h h2 => I.n3_1 (by simpa using h) (by simpa using h2),
    fun h h2 => I.n3_2 (by simpa using h) (by simpa using h2)⟩
set_option maxRecDepth 100000 in
set_option maxHeartbeats 4000000 in
theorem HkI.next2 {Q P M T : Nat → Int} {p0 p1 B0 : Nat} {w V : World} {a0 : Act} {b : Nat → Bool} {q9 q10 q11 q12 : Nat} {a : Act} {u : World} (I : HkI Q P M T p0 p1 B0 w V a0 b q9 q10 q11 q12 a u) (hn : 26 < a0.tmps.size) {u' : World} (hu : Below u.heap.size u u') : HkI Q P M T p0 p1 B0 w V a0 (fun x => x == 2 || b x) q9 q10 q11 q12 (a.put (some 26) (.pointer (some ⟨p0, 2, none⟩))) u' :=
  ⟨I.sk.put (by decide) _,
    I.bel.trans (hu.mono I.sz),
    Nat.le_trans I.sz hu.size,
    I.x0,
    I.x1,
    I.h0.bel hu,
    I.h1.bel hu,
    fun h => (put_other _ (by decide)).trans (I.s0 (by simpa using h)),
    fun h => (put_other _ (by decide)).trans (I.s1 (by simpa using h)),
    fun _ => put_same _ (by rw [I.sk.size]; exact hn),
    fun h => (put_other _ (by decide)).trans (I.s3 (by simpa using h)),
    fun h => (put_other _ (by decide)).trans (I.s4 (by simpa using h)),
    fun h => (put_other _ (by decide)).trans (I.s5 (by simpa using h)),
    fun h => (put_other _ (by decide)).trans (I.s6 (by simpa using h)),
    fun h => (put_other _ (by decide)).trans (I.s7 (by simpa using h)),
    fun h => by obtain ⟨p1, p2, cs, p3, p4, p5⟩ := I.s8 (by simpa using h); exact ⟨(put_other _ (by decide)).trans p1, p2, cs, p3, p4.bel hu, fun h2 => p5 (by simpa using h2)⟩,
    fun h => by have h2 := I.e12 (by simpa using h); simp [h2],
    fun h => by obtain ⟨p1, p2, cs, p3, p4, p5⟩ := I.s9 (by simpa using h); exact ⟨(put_other _ (by decide)).trans p1, p2, cs, p3, p4.bel hu, fun h2 => p5 (by simpa using h2)⟩,
    fun h => by have h2 := I.e13 (by simpa using h); simp [h2],
    fun h => by obtain ⟨p1, p2, cs, p3, p4, p5⟩ := I.s10 (by simpa using h); exact ⟨(put_other _ (by decide)).trans p1, p2, cs, p3, p4.bel hu, fun h2 => p5 (by simpa using h2)⟩,
    fun h => by have h2 := I.e14 (by simpa using h); simp [h2],
    fun h => by obtain ⟨p1, p2, cs, p3, p4, p5⟩ := I.s11 (by simpa using h); exact ⟨(put_other _ (by decide)).trans p1, p2, cs, p3, p4.bel hu, fun h2 => p5 (by simpa using h2)⟩,
    fun h => by have h2 := I.e15 (by simpa using h); simp [h2],
    fun h h2 => I.n1_0 (by simpa using h) (by simpa using h2),
    fun h h2 => I.n2_0 (by simpa using h) (by simpa using h2),
    fun h h2 => I.n2_1 (by simpa using h) (by simpa using h2),
    fun h h2 => I.n3_0 (by simpa using h) (by simpa using h2),
    fun h h2 => I.n3_1 (by simpa using h) (by simpa using h2),
    fun h h2 => I.n3_2 (by simpa using h) (by simpa using h2)⟩
set_option maxRecDepth 100000 in
set_option maxHeartbeats 4000000 in
theorem HkI.next3 {Q P M T : Nat → Int} {p0 p1 B0 : Nat} {w V : World} {a0 : Act} {b : Nat → Bool} {q9 q10 q11 q12 : Nat} {a : Act} {u : World} (I : HkI Q P M T p0 p1 B0 w V a0 b q9 q10 q11 q12 a u) (hn : 27 < a0.tmps.size) {u' : World} (hu : Below u.heap.size u u') : HkI Q P M T p0 p1 B0 w V a0 (fun x => x == 3 || b x) q9 q10 q11 q12 (a.put (some 27) (.agg #[.int .i64 (P 0), .int .i64 (P 1)])) u' :=
  ⟨I.sk.put (by decide) _,
    I.bel.trans (hu.mono I.sz),
    Nat.le_trans I.sz hu.size,
    I.x0,
    I.x1,
    I.h0.bel hu,
    I.h1.bel hu,
    fun h => (put_other _ (by decide)).trans (I.s0 (by simpa using h)),
    fun h => (put_other _ (by decide)).trans (I.s1 (by simpa using h)),
    fun h => (put_other _ (by decide)).trans (I.s2 (by simpa using h)),
    fun _ => put_same _ (by rw [I.sk.size]; exact hn),
    fun h => (put_other _ (by decide)).trans (I.s4 (by simpa using h)),
    fun h => (put_other _ (by decide)).trans (I.s5 (by simpa using h)),
    fun h => (put_other _ (by decide)).trans (I.s6 (by simpa using h)),
    fun h => (put_other _ (by decide)).trans (I.s7 (by simpa using h)),
    fun h => by obtain ⟨p1, p2, cs, p3, p4, p5⟩ := I.s8 (by simpa using h); exact ⟨(put_other _ (by decide)).trans p1, p2, cs, p3, p4.bel hu, fun h2 => p5 (by simpa using h2)⟩,
    fun h => by have h2 := I.e12 (by simpa using h); simp [h2],
    fun h => by obtain ⟨p1, p2, cs, p3, p4, p5⟩ := I.s9 (by simpa using h); exact ⟨(put_other _ (by decide)).trans p1, p2, cs, p3, p4.bel hu, fun h2 => p5 (by simpa using h2)⟩,
    fun h => by have h2 := I.e13 (by simpa using h); simp [h2],
    fun h => by obtain ⟨p1, p2, cs, p3, p4, p5⟩ := I.s10 (by simpa using h); exact ⟨(put_other _ (by decide)).trans p1, p2, cs, p3, p4.bel hu, fun h2 => p5 (by simpa using h2)⟩,
    fun h => by have h2 := I.e14 (by simpa using h); simp [h2],
    fun h => by obtain ⟨p1, p2, cs, p3, p4, p5⟩ := I.s11 (by simpa using h); exact ⟨(put_other _ (by decide)).trans p1, p2, cs, p3, p4.bel hu, fun h2 => p5 (by simpa using h2)⟩,
    fun h => by have h2 := I.e15 (by simpa using h); simp [h2],
    fun h h2 => I.n1_0 (by simpa using h) (by simpa using h2),
    fun h h2 => I.n2_0 (by simpa using h) (by simpa using h2),
    fun h h2 => I.n2_1 (by simpa using h) (by simpa using h2),
    fun h h2 => I.n3_0 (by simpa using h) (by simpa using h2),
    fun h h2 => I.n3_1 (by simpa using h) (by simpa using h2),
    fun h h2 => I.n3_2 (by simpa using h) (by simpa using h2)⟩
set_option maxRecDepth 100000 in
set_option maxHeartbeats 4000000 in
theorem HkI.next4 {Q P M T : Nat → Int} {p0 p1 B0 : Nat} {w V : World} {a0 : Act} {b : Nat → Bool} {q9 q10 q11 q12 : Nat} {a : Act} {u : World} (I : HkI Q P M T p0 p1 B0 w V a0 b q9 q10 q11 q12 a u) (hn : 28 < a0.tmps.size) {u' : World} (hu : Below u.heap.size u u') : HkI Q P M T p0 p1 B0 w V a0 (fun x => x == 4 || b x) q9 q10 q11 q12 (a.put (some 28) (.pointer (some ⟨p1, 0, none⟩))) u' :=
  ⟨I.sk.put (by decide) _,
    I.bel.trans (hu.mono I.sz),
    Nat.le_trans I.sz hu.size,
    I.x0,
    I.x1,
    I.h0.bel hu,
    I.h1.bel hu,
    fun h => (put_other _ (by decide)).trans (I.s0 (by simpa using h)),
    fun h => (put_other _ (by decide)).trans (I.s1 (by simpa using h)),
    fun h => (put_other _ (by decide)).trans (I.s2 (by simpa using h)),
    fun h => (put_other _ (by decide)).trans (I.s3 (by simpa using h)),
    fun _ => put_same _ (by rw [I.sk.size]; exact hn),
    fun h => (put_other _ (by decide)).trans (I.s5 (by simpa using h)),
    fun h => (put_other _ (by decide)).trans (I.s6 (by simpa using h)),
    fun h => (put_other _ (by decide)).trans (I.s7 (by simpa using h)),
    fun h => by obtain ⟨p1, p2, cs, p3, p4, p5⟩ := I.s8 (by simpa using h); exact ⟨(put_other _ (by decide)).trans p1, p2, cs, p3, p4.bel hu, fun h2 => p5 (by simpa using h2)⟩,
    fun h => by have h2 := I.e12 (by simpa using h); simp [h2],
    fun h => by obtain ⟨p1, p2, cs, p3, p4, p5⟩ := I.s9 (by simpa using h); exact ⟨(put_other _ (by decide)).trans p1, p2, cs, p3, p4.bel hu, fun h2 => p5 (by simpa using h2)⟩,
    fun h => by have h2 := I.e13 (by simpa using h); simp [h2],
    fun h => by obtain ⟨p1, p2, cs, p3, p4, p5⟩ := I.s10 (by simpa using h); exact ⟨(put_other _ (by decide)).trans p1, p2, cs, p3, p4.bel hu, fun h2 => p5 (by simpa using h2)⟩,
    fun h => by have h2 := I.e14 (by simpa using h); simp [h2],
    fun h => by obtain ⟨p1, p2, cs, p3, p4, p5⟩ := I.s11 (by simpa using h); exact ⟨(put_other _ (by decide)).trans p1, p2, cs, p3, p4.bel hu, fun h2 => p5 (by simpa using h2)⟩,
    fun h => by have h2 := I.e15 (by simpa using h); simp [h2],
    fun h h2 => I.n1_0 (by simpa using h) (by simpa using h2),
    fun h h2 => I.n2_0 (by simpa using h) (by simpa using h2),
    fun h h2 => I.n2_1 (by simpa using h) (by simpa using h2),
    fun h h2 => I.n3_0 (by simpa using h) (by simpa using h2),
    fun h h2 => I.n3_1 (by simpa using h) (by simpa using h2),
    fun h h2 => I.n3_2 (by simpa using h) (by simpa using h2)⟩
set_option maxRecDepth 100000 in
set_option maxHeartbeats 4000000 in
theorem HkI.next5 {Q P M T : Nat → Int} {p0 p1 B0 : Nat} {w V : World} {a0 : Act} {b : Nat → Bool} {q9 q10 q11 q12 : Nat} {a : Act} {u : World} (I : HkI Q P M T p0 p1 B0 w V a0 b q9 q10 q11 q12 a u) (hn : 29 < a0.tmps.size) {u' : World} (hu : Below u.heap.size u u') : HkI Q P M T p0 p1 B0 w V a0 (fun x => x == 5 || b x) q9 q10 q11 q12 (a.put (some 29) (.agg #[.int .i64 (M 0), .int .i64 (M 1)])) u' :=
  ⟨I.sk.put (by decide) _,
    I.bel.trans (hu.mono I.sz),
    Nat.le_trans I.sz hu.size,
    I.x0,
    I.x1,
    I.h0.bel hu,
    I.h1.bel hu,
    fun h => (put_other _ (by decide)).trans (I.s0 (by simpa using h)),
    fun h => (put_other _ (by decide)).trans (I.s1 (by simpa using h)),
    fun h => (put_other _ (by decide)).trans (I.s2 (by simpa using h)),
    fun h => (put_other _ (by decide)).trans (I.s3 (by simpa using h)),
    fun h => (put_other _ (by decide)).trans (I.s4 (by simpa using h)),
    fun _ => put_same _ (by rw [I.sk.size]; exact hn),
    fun h => (put_other _ (by decide)).trans (I.s6 (by simpa using h)),
    fun h => (put_other _ (by decide)).trans (I.s7 (by simpa using h)),
    fun h => by obtain ⟨p1, p2, cs, p3, p4, p5⟩ := I.s8 (by simpa using h); exact ⟨(put_other _ (by decide)).trans p1, p2, cs, p3, p4.bel hu, fun h2 => p5 (by simpa using h2)⟩,
    fun h => by have h2 := I.e12 (by simpa using h); simp [h2],
    fun h => by obtain ⟨p1, p2, cs, p3, p4, p5⟩ := I.s9 (by simpa using h); exact ⟨(put_other _ (by decide)).trans p1, p2, cs, p3, p4.bel hu, fun h2 => p5 (by simpa using h2)⟩,
    fun h => by have h2 := I.e13 (by simpa using h); simp [h2],
    fun h => by obtain ⟨p1, p2, cs, p3, p4, p5⟩ := I.s10 (by simpa using h); exact ⟨(put_other _ (by decide)).trans p1, p2, cs, p3, p4.bel hu, fun h2 => p5 (by simpa using h2)⟩,
    fun h => by have h2 := I.e14 (by simpa using h); simp [h2],
    fun h => by obtain ⟨p1, p2, cs, p3, p4, p5⟩ := I.s11 (by simpa using h); exact ⟨(put_other _ (by decide)).trans p1, p2, cs, p3, p4.bel hu, fun h2 => p5 (by simpa using h2)⟩,
    fun h => by have h2 := I.e15 (by simpa using h); simp [h2],
    fun h h2 => I.n1_0 (by simpa using h) (by simpa using h2),
    fun h h2 => I.n2_0 (by simpa using h) (by simpa using h2),
    fun h h2 => I.n2_1 (by simpa using h) (by simpa using h2),
    fun h h2 => I.n3_0 (by simpa using h) (by simpa using h2),
    fun h h2 => I.n3_1 (by simpa using h) (by simpa using h2),
    fun h h2 => I.n3_2 (by simpa using h) (by simpa using h2)⟩
set_option maxRecDepth 100000 in
set_option maxHeartbeats 4000000 in
theorem HkI.next6 {Q P M T : Nat → Int} {p0 p1 B0 : Nat} {w V : World} {a0 : Act} {b : Nat → Bool} {q9 q10 q11 q12 : Nat} {a : Act} {u : World} (I : HkI Q P M T p0 p1 B0 w V a0 b q9 q10 q11 q12 a u) (hn : 30 < a0.tmps.size) {u' : World} (hu : Below u.heap.size u u') : HkI Q P M T p0 p1 B0 w V a0 (fun x => x == 6 || b x) q9 q10 q11 q12 (a.put (some 30) (.pointer (some ⟨p1, 2, none⟩))) u' :=
  ⟨I.sk.put (by decide) _,
    I.bel.trans (hu.mono I.sz),
    Nat.le_trans I.sz hu.size,
    I.x0,
    I.x1,
    I.h0.bel hu,
    I.h1.bel hu,
    fun h => (put_other _ (by decide)).trans (I.s0 (by simpa using h)),
    fun h => (put_other _ (by decide)).trans (I.s1 (by simpa using h)),
    fun h => (put_other _ (by decide)).trans (I.s2 (by simpa using h)),
    fun h => (put_other _ (by decide)).trans (I.s3 (by simpa using h)),
    fun h => (put_other _ (by decide)).trans (I.s4 (by simpa using h)),
    fun h => (put_other _ (by decide)).trans (I.s5 (by simpa using h)),
    fun _ => put_same _ (by rw [I.sk.size]; exact hn),
    fun h => (put_other _ (by decide)).trans (I.s7 (by simpa using h)),
    fun h => by obtain ⟨p1, p2, cs, p3, p4, p5⟩ := I.s8 (by simpa using h); exact ⟨(put_other _ (by decide)).trans p1, p2, cs, p3, p4.bel hu, fun h2 => p5 (by simpa using h2)⟩,
    fun h => by have h2 := I.e12 (by simpa using h); simp [h2],
    fun h => by obtain ⟨p1, p2, cs, p3, p4, p5⟩ := I.s9 (by simpa using h); exact ⟨(put_other _ (by decide)).trans p1, p2, cs, p3, p4.bel hu, fun h2 => p5 (by simpa using h2)⟩,
    fun h => by have h2 := I.e13 (by simpa using h); simp [h2],
    fun h => by obtain ⟨p1, p2, cs, p3, p4, p5⟩ := I.s10 (by simpa using h); exact ⟨(put_other _ (by decide)).trans p1, p2, cs, p3, p4.bel hu, fun h2 => p5 (by simpa using h2)⟩,
    fun h => by have h2 := I.e14 (by simpa using h); simp [h2],
    fun h => by obtain ⟨p1, p2, cs, p3, p4, p5⟩ := I.s11 (by simpa using h); exact ⟨(put_other _ (by decide)).trans p1, p2, cs, p3, p4.bel hu, fun h2 => p5 (by simpa using h2)⟩,
    fun h => by have h2 := I.e15 (by simpa using h); simp [h2],
    fun h h2 => I.n1_0 (by simpa using h) (by simpa using h2),
    fun h h2 => I.n2_0 (by simpa using h) (by simpa using h2),
    fun h h2 => I.n2_1 (by simpa using h) (by simpa using h2),
    fun h h2 => I.n3_0 (by simpa using h) (by simpa using h2),
    fun h h2 => I.n3_1 (by simpa using h) (by simpa using h2),
    fun h h2 => I.n3_2 (by simpa using h) (by simpa using h2)⟩
set_option maxRecDepth 100000 in
set_option maxHeartbeats 4000000 in
theorem HkI.next7 {Q P M T : Nat → Int} {p0 p1 B0 : Nat} {w V : World} {a0 : Act} {b : Nat → Bool} {q9 q10 q11 q12 : Nat} {a : Act} {u : World} (I : HkI Q P M T p0 p1 B0 w V a0 b q9 q10 q11 q12 a u) (hn : 31 < a0.tmps.size) {u' : World} (hu : Below u.heap.size u u') : HkI Q P M T p0 p1 B0 w V a0 (fun x => x == 7 || b x) q9 q10 q11 q12 (a.put (some 31) (.agg #[.int .i64 (T 0), .int .i64 (T 1)])) u' :=
  ⟨I.sk.put (by decide) _,
    I.bel.trans (hu.mono I.sz),
    Nat.le_trans I.sz hu.size,
    I.x0,
    I.x1,
    I.h0.bel hu,
    I.h1.bel hu,
    fun h => (put_other _ (by decide)).trans (I.s0 (by simpa using h)),
    fun h => (put_other _ (by decide)).trans (I.s1 (by simpa using h)),
    fun h => (put_other _ (by decide)).trans (I.s2 (by simpa using h)),
    fun h => (put_other _ (by decide)).trans (I.s3 (by simpa using h)),
    fun h => (put_other _ (by decide)).trans (I.s4 (by simpa using h)),
    fun h => (put_other _ (by decide)).trans (I.s5 (by simpa using h)),
    fun h => (put_other _ (by decide)).trans (I.s6 (by simpa using h)),
    fun _ => put_same _ (by rw [I.sk.size]; exact hn),
    fun h => by obtain ⟨p1, p2, cs, p3, p4, p5⟩ := I.s8 (by simpa using h); exact ⟨(put_other _ (by decide)).trans p1, p2, cs, p3, p4.bel hu, fun h2 => p5 (by simpa using h2)⟩,
    fun h => by have h2 := I.e12 (by simpa using h); simp [h2],
    fun h => by obtain ⟨p1, p2, cs, p3, p4, p5⟩ := I.s9 (by simpa using h); exact ⟨(put_other _ (by decide)).trans p1, p2, cs, p3, p4.bel hu, fun h2 => p5 (by simpa using h2)⟩,
    fun h => by have h2 := I.e13 (by simpa using h); simp [h2],
    fun h => by obtain ⟨p1, p2, cs, p3, p4, p5⟩ := I.s10 (by simpa using h); exact ⟨(put_other _ (by decide)).trans p1, p2, cs, p3, p4.bel hu, fun h2 => p5 (by simpa using h2)⟩,
    fun h => by have h2 := I.e14 (by simpa using h); simp [h2],
    fun h => by obtain ⟨p1, p2, cs, p3, p4, p5⟩ := I.s11 (by simpa using h); exact ⟨(put_other _ (by decide)).trans p1, p2, cs, p3, p4.bel hu, fun h2 => p5 (by simpa using h2)⟩,
    fun h => by have h2 := I.e15 (by simpa using h); simp [h2],
    fun h h2 => I.n1_0 (by simpa using h) (by simpa using h2),
    fun h h2 => I.n2_0 (by simpa using h) (by simpa using h2),
    fun h h2 => I.n2_1 (by simpa using h) (by simpa using h2),
    fun h h2 => I.n3_0 (by simpa using h) (by simpa using h2),
    fun h h2 => I.n3_1 (by simpa using h) (by simpa using h2),
    fun h h2 => I.n3_2 (by simpa using h) (by simpa using h2)⟩
set_option maxRecDepth 100000 in
set_option maxHeartbeats 4000000 in
theorem HkI.next8 {Q P M T : Nat → Int} {p0 p1 B0 : Nat} {w V : World} {a0 : Act} {b : Nat → Bool} {q9 q10 q11 q12 : Nat} {a : Act} {u : World} (I : HkI Q P M T p0 p1 B0 w V a0 b q9 q10 q11 q12 a u) (hn : 9 < a0.tmps.size) (hf : b 8 = false) : HkI Q P M T p0 p1 B0 w V a0 (fun x => x == 8 || b x) u.heap.size q10 q11 q12 (a.put (some 9) (.pointer (some ⟨u.heap.size, 0, none⟩))) (u.alloc (.cells #[.int .i64 0, .int .i64 0] 51)) :=
  ⟨I.sk.put (by decide) _,
    I.bel.alloc I.sz _,
    by have := I.sz; simp; omega,
    I.x0,
    I.x1,
    I.h0.alloc _,
    I.h1.alloc _,
    fun h => (put_other _ (by decide)).trans (I.s0 (by simpa using h)),
    fun h => (put_other _ (by decide)).trans (I.s1 (by simpa using h)),
    fun h => (put_other _ (by decide)).trans (I.s2 (by simpa using h)),
    fun h => (put_other _ (by decide)).trans (I.s3 (by simpa using h)),
    fun h => (put_other _ (by decide)).trans (I.s4 (by simpa using h)),
    fun h => (put_other _ (by decide)).trans (I.s5 (by simpa using h)),
    fun h => (put_other _ (by decide)).trans (I.s6 (by simpa using h)),
    fun h => (put_other _ (by decide)).trans (I.s7 (by simpa using h)),
    fun _ => ⟨put_same _ (by rw [I.sk.size]; exact hn), I.sz, [.int .i64 0, .int .i64 0], rfl, Held.new u [.int .i64 0, .int .i64 0] _, fun h => by have h2 := I.e12 (by simpa using h); rw [hf] at h2; cases h2⟩,
    fun h => by have h2 := I.e12 (by simpa using h); simp [h2],
    fun h => by obtain ⟨p1, p2, cs, p3, p4, p5⟩ := I.s9 (by simpa using h); exact ⟨(put_other _ (by decide)).trans p1, p2, cs, p3, p4.alloc _, fun h2 => p5 (by simpa using h2)⟩,
    fun h => by have h2 := I.e13 (by simpa using h); simp [h2],
    fun h => by obtain ⟨p1, p2, cs, p3, p4, p5⟩ := I.s10 (by simpa using h); exact ⟨(put_other _ (by decide)).trans p1, p2, cs, p3, p4.alloc _, fun h2 => p5 (by simpa using h2)⟩,
    fun h => by have h2 := I.e14 (by simpa using h); simp [h2],
    fun h => by obtain ⟨p1, p2, cs, p3, p4, p5⟩ := I.s11 (by simpa using h); exact ⟨(put_other _ (by decide)).trans p1, p2, cs, p3, p4.alloc _, fun h2 => p5 (by simpa using h2)⟩,
    fun h => by have h2 := I.e15 (by simpa using h); simp [h2],
    fun h _ => by obtain ⟨-, -, cs, -, p4, -⟩ := I.s9 (by simpa using h); have := p4.lt; omega,
    fun h _ => by obtain ⟨-, -, cs, -, p4, -⟩ := I.s10 (by simpa using h); have := p4.lt; omega,
    fun h h2 => I.n2_1 (by simpa using h) (by simpa using h2),
    fun h _ => by obtain ⟨-, -, cs, -, p4, -⟩ := I.s11 (by simpa using h); have := p4.lt; omega,
    fun h h2 => I.n3_1 (by simpa using h) (by simpa using h2),
    fun h h2 => I.n3_2 (by simpa using h) (by simpa using h2)⟩
set_option maxRecDepth 100000 in
set_option maxHeartbeats 4000000 in
theorem HkI.next12 {Q P M T : Nat → Int} {p0 p1 B0 : Nat} {w V : World} {a0 : Act} {b : Nat → Bool} {q9 q10 q11 q12 : Nat} {a : Act} {u : World} (I : HkI Q P M T p0 p1 B0 w V a0 b q9 q10 q11 q12 a u) (ha : b 8 = true) : HkI Q P M T p0 p1 B0 w V a0 (fun x => x == 12 || b x) q9 q10 q11 q12 a ((u.setCell ⟨q9, 0, none⟩ (.int .i64 (Q 0))).setCell ⟨q9, 1, none⟩ (.int .i64 (Q 1))) := by
  obtain ⟨-, hq, cs0, hc0, hh0, -⟩ := I.s8 ha
  obtain ⟨u9, e9, h9, hb⟩ := l2_laid hh0 hc0 Q
  have ho : Only q9 u u9 := by rw [e9]; exact (((Only.refl q9 u).setCell (p := ⟨q9, 0, none⟩) (.int .i64 (Q 0))).setCell (p := ⟨q9, 1, none⟩) (.int .i64 (Q 1)))
  have hne1 : b 9 = true → q10 ≠ q9 := fun h => I.n1_0 h ha
  have hne2 : b 10 = true → q11 ≠ q9 := fun h => I.n2_0 h ha
  have hne3 : b 11 = true → q12 ≠ q9 := fun h => I.n3_0 h ha
  have hx0 := I.x0
  have hx1 := I.x1
  rw [← e9]
  exact ⟨I.sk,
    I.bel.trans (hb.mono hq),
    by have := hb.size; have := I.sz; omega,
    I.x0,
    I.x1,
    I.h0.only ho (by omega),
    I.h1.only ho (by omega),
    fun h => I.s0 (by simpa using h),
    fun h => I.s1 (by simpa using h),
    fun h => I.s2 (by simpa using h),
    fun h => I.s3 (by simpa using h),
    fun h => I.s4 (by simpa using h),
    fun h => I.s5 (by simpa using h),
    fun h => I.s6 (by simpa using h),
    fun h => I.s7 (by simpa using h),
    fun h => by obtain ⟨p1, p2, cs, p3, p4, p5⟩ := I.s8 (by simpa using h); exact ⟨p1, p2, _, rfl, h9, fun _ => rfl⟩,
    fun h => by simpa using ha,
    fun h => by obtain ⟨p1, p2, cs, p3, p4, p5⟩ := I.s9 (by simpa using h); exact ⟨p1, p2, cs, p3, p4.only ho (hne1 (by simpa using h)), fun h2 => p5 (by simpa using h2)⟩,
    fun h => by have h2 := I.e13 (by simpa using h); simp [h2],
    fun h => by obtain ⟨p1, p2, cs, p3, p4, p5⟩ := I.s10 (by simpa using h); exact ⟨p1, p2, cs, p3, p4.only ho (hne2 (by simpa using h)), fun h2 => p5 (by simpa using h2)⟩,
    fun h => by have h2 := I.e14 (by simpa using h); simp [h2],
    fun h => by obtain ⟨p1, p2, cs, p3, p4, p5⟩ := I.s11 (by simpa using h); exact ⟨p1, p2, cs, p3, p4.only ho (hne3 (by simpa using h)), fun h2 => p5 (by simpa using h2)⟩,
    fun h => by have h2 := I.e15 (by simpa using h); simp [h2],
    fun h h2 => I.n1_0 (by simpa using h) (by simpa using h2),
    fun h h2 => I.n2_0 (by simpa using h) (by simpa using h2),
    fun h h2 => I.n2_1 (by simpa using h) (by simpa using h2),
    fun h h2 => I.n3_0 (by simpa using h) (by simpa using h2),
    fun h h2 => I.n3_1 (by simpa using h) (by simpa using h2),
    fun h h2 => I.n3_2 (by simpa using h) (by simpa using h2)⟩
set_option maxRecDepth 100000 in
set_option maxHeartbeats 4000000 in
theorem HkI.next9 {Q P M T : Nat → Int} {p0 p1 B0 : Nat} {w V : World} {a0 : Act} {b : Nat → Bool} {q9 q10 q11 q12 : Nat} {a : Act} {u : World} (I : HkI Q P M T p0 p1 B0 w V a0 b q9 q10 q11 q12 a u) (hn : 10 < a0.tmps.size) (hf : b 9 = false) : HkI Q P M T p0 p1 B0 w V a0 (fun x => x == 9 || b x) q9 u.heap.size q11 q12 (a.put (some 10) (.pointer (some ⟨u.heap.size, 0, none⟩))) (u.alloc (.cells #[.int .i64 0, .int .i64 0] 51)) :=
  ⟨I.sk.put (by decide) _,
    I.bel.alloc I.sz _,
    by have := I.sz; simp; omega,
    I.x0,
    I.x1,
    I.h0.alloc _,
    I.h1.alloc _,
    fun h => (put_other _ (by decide)).trans (I.s0 (by simpa using h)),
    fun h => (put_other _ (by decide)).trans (I.s1 (by simpa using h)),
    fun h => (put_other _ (by decide)).trans (I.s2 (by simpa using h)),
    fun h => (put_other _ (by decide)).trans (I.s3 (by simpa using h)),
    fun h => (put_other _ (by decide)).trans (I.s4 (by simpa using h)),
    fun h => (put_other _ (by decide)).trans (I.s5 (by simpa using h)),
    fun h => (put_other _ (by decide)).trans (I.s6 (by simpa using h)),
    fun h => (put_other _ (by decide)).trans (I.s7 (by simpa using h)),
    fun h => by obtain ⟨p1, p2, cs, p3, p4, p5⟩ := I.s8 (by simpa using h); exact ⟨(put_other _ (by decide)).trans p1, p2, cs, p3, p4.alloc _, fun h2 => p5 (by simpa using h2)⟩,
    fun h => by have h2 := I.e12 (by simpa using h); simp [h2],
    fun _ => ⟨put_same _ (by rw [I.sk.size]; exact hn), I.sz, [.int .i64 0, .int .i64 0], rfl, Held.new u [.int .i64 0, .int .i64 0] _, fun h => by have h2 := I.e13 (by simpa using h); rw [hf] at h2; cases h2⟩,
    fun h => by have h2 := I.e13 (by simpa using h); simp [h2],
    fun h => by obtain ⟨p1, p2, cs, p3, p4, p5⟩ := I.s10 (by simpa using h); exact ⟨(put_other _ (by decide)).trans p1, p2, cs, p3, p4.alloc _, fun h2 => p5 (by simpa using h2)⟩,
    fun h => by have h2 := I.e14 (by simpa using h); simp [h2],
    fun h => by obtain ⟨p1, p2, cs, p3, p4, p5⟩ := I.s11 (by simpa using h); exact ⟨(put_other _ (by decide)).trans p1, p2, cs, p3, p4.alloc _, fun h2 => p5 (by simpa using h2)⟩,
    fun h => by have h2 := I.e15 (by simpa using h); simp [h2],
    fun _ h => by obtain ⟨-, -, cs, -, p4, -⟩ := I.s8 (by simpa using h); have := p4.lt; omega,
    fun h h2 => I.n2_0 (by simpa using h) (by simpa using h2),
    fun h _ => by obtain ⟨-, -, cs, -, p4, -⟩ := I.s10 (by simpa using h); have := p4.lt; omega,
    fun h h2 => I.n3_0 (by simpa using h) (by simpa using h2),
    fun h _ => by obtain ⟨-, -, cs, -, p4, -⟩ := I.s11 (by simpa using h); have := p4.lt; omega,
    fun h h2 => I.n3_2 (by simpa using h) (by simpa using h2)⟩
set_option maxRecDepth 100000 in
set_option maxHeartbeats 4000000 in
theorem HkI.next13 {Q P M T : Nat → Int} {p0 p1 B0 : Nat} {w V : World} {a0 : Act} {b : Nat → Bool} {q9 q10 q11 q12 : Nat} {a : Act} {u : World} (I : HkI Q P M T p0 p1 B0 w V a0 b q9 q10 q11 q12 a u) (ha : b 9 = true) : HkI Q P M T p0 p1 B0 w V a0 (fun x => x == 13 || b x) q9 q10 q11 q12 a ((u.setCell ⟨q10, 0, none⟩ (.int .i64 (P 0))).setCell ⟨q10, 1, none⟩ (.int .i64 (P 1))) := by
  obtain ⟨-, hq, cs0, hc0, hh0, -⟩ := I.s9 ha
  obtain ⟨u9, e9, h9, hb⟩ := l2_laid hh0 hc0 P
  have ho : Only q10 u u9 := by rw [e9]; exact (((Only.refl q10 u).setCell (p := ⟨q10, 0, none⟩) (.int .i64 (P 0))).setCell (p := ⟨q10, 1, none⟩) (.int .i64 (P 1)))
  have hne0 : b 8 = true → q9 ≠ q10 := fun h => (I.n1_0 ha h).symm
  have hne2 : b 10 = true → q11 ≠ q10 := fun h => I.n2_1 h ha
  have hne3 : b 11 = true → q12 ≠ q10 := fun h => I.n3_1 h ha
  have hx0 := I.x0
  have hx1 := I.x1
  rw [← e9]
  exact ⟨I.sk,
    I.bel.trans (hb.mono hq),
    by have := hb.size; have := I.sz; omega,
    I.x0,
    I.x1,
    I.h0.only ho (by omega),
    I.h1.only ho (by omega),
    fun h => I.s0 (by simpa using h),
    fun h => I.s1 (by simpa using h),
    fun h => I.s2 (by simpa using h),
    fun h => I.s3 (by simpa using h),
    fun h => I.s4 (by simpa using h),
    fun h => I.s5 (by simpa using h),
    fun h => I.s6 (by simpa using h),
    fun h => I.s7 (by simpa using h),
    fun h => by obtain ⟨p1, p2, cs, p3, p4, p5⟩ := I.s8 (by simpa using h); exact ⟨p1, p2, cs, p3, p4.only ho (hne0 (by simpa using h)), fun h2 => p5 (by simpa using h2)⟩,
    fun h => by have h2 := I.e12 (by simpa using h); simp [h2],
    fun h => by obtain ⟨p1, p2, cs, p3, p4, p5⟩ := I.s9 (by simpa using h); exact ⟨p1, p2, _, rfl, h9, fun _ => rfl⟩,
    fun h => by simpa using ha,
    fun h => by obtain ⟨p1, p2, cs, p3, p4, p5⟩ := I.s10 (by simpa using h); exact ⟨p1, p2, cs, p3, p4.only ho (hne2 (by simpa using h)), fun h2 => p5 (by simpa using h2)⟩,
    fun h => by have h2 := I.e14 (by simpa using h); simp [h2],
    fun h => by obtain ⟨p1, p2, cs, p3, p4, p5⟩ := I.s11 (by simpa using h); exact ⟨p1, p2, cs, p3, p4.only ho (hne3 (by simpa using h)), fun h2 => p5 (by simpa using h2)⟩,
    fun h => by have h2 := I.e15 (by simpa using h); simp [h2],
    fun h h2 => I.n1_0 (by simpa using h) (by simpa using h2),
    fun h h2 => I.n2_0 (by simpa using h) (by simpa using h2),
    fun h h2 => I.n2_1 (by simpa using h) (by simpa using h2),
    fun h h2 => I.n3_0 (by simpa using h) (by simpa using h2),
    fun h h2 => I.n3_1 (by simpa using h) (by simpa using h2),
    fun h h2 => I.n3_2 (by simpa using h) (by simpa using h2)⟩
set_option maxRecDepth 100000 in
set_option maxHeartbeats 4000000 in
theorem HkI.next10 {Q P M T : Nat → Int} {p0 p1 B0 : Nat} {w V : World} {a0 : Act} {b : Nat → Bool} {q9 q10 q11 q12 : Nat} {a : Act} {u : World} (I : HkI Q P M T p0 p1 B0 w V a0 b q9 q10 q11 q12 a u) (hn : 11 < a0.tmps.size) (hf : b 10 = false) : HkI Q P M T p0 p1 B0 w V a0 (fun x => x == 10 || b x) q9 q10 u.heap.size q12 (a.put (some 11) (.pointer (some ⟨u.heap.size, 0, none⟩))) (u.alloc (.cells #[.int .i64 0, .int .i64 0] 51)) :=
  ⟨I.sk.put (by decide) _,
    I.bel.alloc I.sz _,
    by have := I.sz; simp; omega,
    I.x0,
    I.x1,
    I.h0.alloc _,
    I.h1.alloc _,
    fun h => (put_other _ (by decide)).trans (I.s0 (by simpa using h)),
    fun h => (put_other _ (by decide)).trans (I.s1 (by simpa using h)),
    fun h => (put_other _ (by decide)).trans (I.s2 (by simpa using h)),
    fun h => (put_other _ (by decide)).trans (I.s3 (by simpa using h)),
    fun h => (put_other _ (by decide)).trans (I.s4 (by simpa using h)),
    fun h => (put_other _ (by decide)).trans (I.s5 (by simpa using h)),
    fun h => (put_other _ (by decide)).trans (I.s6 (by simpa using h)),
    fun h => (put_other _ (by decide)).trans (I.s7 (by simpa using h)),
    fun h => by obtain ⟨p1, p2, cs, p3, p4, p5⟩ := I.s8 (by simpa using h); exact ⟨(put_other _ (by decide)).trans p1, p2, cs, p3, p4.alloc _, fun h2 => p5 (by simpa using h2)⟩,
    fun h => by have h2 := I.e12 (by simpa using h); simp [h2],
    fun h => by obtain ⟨p1, p2, cs, p3, p4, p5⟩ := I.s9 (by simpa using h); exact ⟨(put_other _ (by decide)).trans p1, p2, cs, p3, p4.alloc _, fun h2 => p5 (by simpa using h2)⟩,
    fun h => by have h2 := I.e13 (by simpa using h); simp [h2],
    fun _ => ⟨put_same _ (by rw [I.sk.size]; exact hn), I.sz, [.int .i64 0, .int .i64 0], rfl, Held.new u [.int .i64 0, .int .i64 0] _, fun h => by have h2 := I.e14 (by simpa using h); rw [hf] at h2; cases h2⟩,
    fun h => by have h2 := I.e14 (by simpa using h); simp [h2],
    fun h => by obtain ⟨p1, p2, cs, p3, p4, p5⟩ := I.s11 (by simpa using h); exact ⟨(put_other _ (by decide)).trans p1, p2, cs, p3, p4.alloc _, fun h2 => p5 (by simpa using h2)⟩,
    fun h => by have h2 := I.e15 (by simpa using h); simp [h2],
    fun h h2 => I.n1_0 (by simpa using h) (by simpa using h2),
    fun _ h => by obtain ⟨-, -, cs, -, p4, -⟩ := I.s8 (by simpa using h); have := p4.lt; omega,
    fun _ h => by obtain ⟨-, -, cs, -, p4, -⟩ := I.s9 (by simpa using h); have := p4.lt; omega,
    fun h h2 => I.n3_0 (by simpa using h) (by simpa using h2),
    fun h h2 => I.n3_1 (by simpa using h) (by simpa using h2),
    fun h _ => by obtain ⟨-, -, cs, -, p4, -⟩ := I.s11 (by simpa using h); have := p4.lt; omega⟩
set_option maxRecDepth 100000 in
set_option maxHeartbeats 4000000 in
theorem HkI.next14 {Q P M T : Nat → Int} {p0 p1 B0 : Nat} {w V : World} {a0 : Act} {b : Nat → Bool} {q9 q10 q11 q12 : Nat} {a : Act} {u : World} (I : HkI Q P M T p0 p1 B0 w V a0 b q9 q10 q11 q12 a u) (ha : b 10 = true) : HkI Q P M T p0 p1 B0 w V a0 (fun x => x == 14 || b x) q9 q10 q11 q12 a ((u.setCell ⟨q11, 0, none⟩ (.int .i64 (M 0))).setCell ⟨q11, 1, none⟩ (.int .i64 (M 1))) := by
  obtain ⟨-, hq, cs0, hc0, hh0, -⟩ := I.s10 ha
  obtain ⟨u9, e9, h9, hb⟩ := l2_laid hh0 hc0 M
  have ho : Only q11 u u9 := by rw [e9]; exact (((Only.refl q11 u).setCell (p := ⟨q11, 0, none⟩) (.int .i64 (M 0))).setCell (p := ⟨q11, 1, none⟩) (.int .i64 (M 1)))
  have hne0 : b 8 = true → q9 ≠ q11 := fun h => (I.n2_0 ha h).symm
  have hne1 : b 9 = true → q10 ≠ q11 := fun h => (I.n2_1 ha h).symm
  have hne3 : b 11 = true → q12 ≠ q11 := fun h => I.n3_2 h ha
  have hx0 := I.x0
  have hx1 := I.x1
  rw [← e9]
  exact ⟨I.sk,
    I.bel.trans (hb.mono hq),
    by have := hb.size; have := I.sz; omega,
    I.x0,
    I.x1,
    I.h0.only ho (by omega),
    I.h1.only ho (by omega),
    fun h => I.s0 (by simpa using h),
    fun h => I.s1 (by simpa using h),
    fun h => I.s2 (by simpa using h),
    fun h => I.s3 (by simpa using h),
    fun h => I.s4 (by simpa using h),
    fun h => I.s5 (by simpa using h),
    fun h => I.s6 (by simpa using h),
    fun h => I.s7 (by simpa using h),
    fun h => by obtain ⟨p1, p2, cs, p3, p4, p5⟩ := I.s8 (by simpa using h); exact ⟨p1, p2, cs, p3, p4.only ho (hne0 (by simpa using h)), fun h2 => p5 (by simpa using h2)⟩,
    fun h => by have h2 := I.e12 (by simpa using h); simp [h2],
    fun h => by obtain ⟨p1, p2, cs, p3, p4, p5⟩ := I.s9 (by simpa using h); exact ⟨p1, p2, cs, p3, p4.only ho (hne1 (by simpa using h)), fun h2 => p5 (by simpa using h2)⟩,
    fun h => by have h2 := I.e13 (by simpa using h); simp [h2],
    fun h => by obtain ⟨p1, p2, cs, p3, p4, p5⟩ := I.s10 (by simpa using h); exact ⟨p1, p2, _, rfl, h9, fun _ => rfl⟩,
    fun h => by simpa using ha,
    fun h => by obtain ⟨p1, p2, cs, p3, p4, p5⟩ := I.s11 (by simpa using h); exact ⟨p1, p2, cs, p3, p4.only ho (hne3 (by simpa using h)), fun h2 => p5 (by simpa using h2)⟩,
    fun h => by have h2 := I.e15 (by simpa using h); simp [h2],
    fun h h2 => I.n1_0 (by simpa using h) (by simpa using h2),
    fun h h2 => I.n2_0 (by simpa using h) (by simpa using h2),
    fun h h2 => I.n2_1 (by simpa using h) (by simpa using h2),
    fun h h2 => I.n3_0 (by simpa using h) (by simpa using h2),
    fun h h2 => I.n3_1 (by simpa using h) (by simpa using h2),
    fun h h2 => I.n3_2 (by simpa using h) (by simpa using h2)⟩
set_option maxRecDepth 100000 in
set_option maxHeartbeats 4000000 in
theorem HkI.next11 {Q P M T : Nat → Int} {p0 p1 B0 : Nat} {w V : World} {a0 : Act} {b : Nat → Bool} {q9 q10 q11 q12 : Nat} {a : Act} {u : World} (I : HkI Q P M T p0 p1 B0 w V a0 b q9 q10 q11 q12 a u) (hn : 12 < a0.tmps.size) (hf : b 11 = false) : HkI Q P M T p0 p1 B0 w V a0 (fun x => x == 11 || b x) q9 q10 q11 u.heap.size (a.put (some 12) (.pointer (some ⟨u.heap.size, 0, none⟩))) (u.alloc (.cells #[.int .i64 0, .int .i64 0] 51)) :=
  ⟨I.sk.put (by decide) _,
    I.bel.alloc I.sz _,
    by have := I.sz; simp; omega,
    I.x0,
    I.x1,
    I.h0.alloc _,
    I.h1.alloc _,
    fun h => (put_other _ (by decide)).trans (I.s0 (by simpa using h)),
    fun h => (put_other _ (by decide)).trans (I.s1 (by simpa using h)),
    fun h => (put_other _ (by decide)).trans (I.s2 (by simpa using h)),
    fun h => (put_other _ (by decide)).trans (I.s3 (by simpa using h)),
    fun h => (put_other _ (by decide)).trans (I.s4 (by simpa using h)),
    fun h => (put_other _ (by decide)).trans (I.s5 (by simpa using h)),
    fun h => (put_other _ (by decide)).trans (I.s6 (by simpa using h)),
    fun h => (put_other _ (by decide)).trans (I.s7 (by simpa using h)),
    fun h => by obtain ⟨p1, p2, cs, p3, p4, p5⟩ := I.s8 (by simpa using h); exact ⟨(put_other _ (by decide)).trans p1, p2, cs, p3, p4.alloc _, fun h2 => p5 (by simpa using h2)⟩,
    fun h => by have h2 := I.e12 (by simpa using h); simp [h2],
    fun h => by obtain ⟨p1, p2, cs, p3, p4, p5⟩ := I.s9 (by simpa using h); exact ⟨(put_other _ (by decide)).trans p1, p2, cs, p3, p4.alloc _, fun h2 => p5 (by simpa using h2)⟩,
    fun h => by have h2 := I.e13 (by simpa using h); simp [h2],
    fun h => by obtain ⟨p1, p2, cs, p3, p4, p5⟩ := I.s10 (by simpa using h); exact ⟨(put_other _ (by decide)).trans p1, p2, cs, p3, p4.alloc _, fun h2 => p5 (by simpa using h2)⟩,
    fun h => by have h2 := I.e14 (by simpa using h); simp [h2],
    fun _ => ⟨put_same _ (by rw [I.sk.size]; exact hn), I.sz, [.int .i64 0, .int .i64 0], rfl, Held.new u [.int .i64 0, .int .i64 0] _, fun h => by have h2 := I.e15 (by simpa using h); rw [hf] at h2; cases h2⟩,
    fun h => by have h2 := I.e15 (by simpa using h); simp [h2],
    fun h h2 => I.n1_0 (by simpa using h) (by simpa using h2),
    fun h h2 => I.n2_0 (by simpa using h) (by simpa using h2),
    fun h h2 => I.n2_1 (by simpa using h) (by simpa using h2),
    fun _ h => by obtain ⟨-, -, cs, -, p4, -⟩ := I.s8 (by simpa using h); have := p4.lt; omega,
    fun _ h => by obtain ⟨-, -, cs, -, p4, -⟩ := I.s9 (by simpa using h); have := p4.lt; omega,
    fun _ h => by obtain ⟨-, -, cs, -, p4, -⟩ := I.s10 (by simpa using h); have := p4.lt; omega⟩
set_option maxRecDepth 100000 in
set_option maxHeartbeats 4000000 in
theorem HkI.next15 {Q P M T : Nat → Int} {p0 p1 B0 : Nat} {w V : World} {a0 : Act} {b : Nat → Bool} {q9 q10 q11 q12 : Nat} {a : Act} {u : World} (I : HkI Q P M T p0 p1 B0 w V a0 b q9 q10 q11 q12 a u) (ha : b 11 = true) : HkI Q P M T p0 p1 B0 w V a0 (fun x => x == 15 || b x) q9 q10 q11 q12 a ((u.setCell ⟨q12, 0, none⟩ (.int .i64 (T 0))).setCell ⟨q12, 1, none⟩ (.int .i64 (T 1))) := by
  obtain ⟨-, hq, cs0, hc0, hh0, -⟩ := I.s11 ha
  obtain ⟨u9, e9, h9, hb⟩ := l2_laid hh0 hc0 T
  have ho : Only q12 u u9 := by rw [e9]; exact (((Only.refl q12 u).setCell (p := ⟨q12, 0, none⟩) (.int .i64 (T 0))).setCell (p := ⟨q12, 1, none⟩) (.int .i64 (T 1)))
  have hne0 : b 8 = true → q9 ≠ q12 := fun h => (I.n3_0 ha h).symm
  have hne1 : b 9 = true → q10 ≠ q12 := fun h => (I.n3_1 ha h).symm
  have hne2 : b 10 = true → q11 ≠ q12 := fun h => (I.n3_2 ha h).symm
  have hx0 := I.x0
  have hx1 := I.x1
  rw [← e9]
  exact ⟨I.sk,
    I.bel.trans (hb.mono hq),
    by have := hb.size; have := I.sz; omega,
    I.x0,
    I.x1,
    I.h0.only ho (by omega),
    I.h1.only ho (by omega),
    fun h => I.s0 (by simpa using h),
    fun h => I.s1 (by simpa using h),
    fun h => I.s2 (by simpa using h),
    fun h => I.s3 (by simpa using h),
    fun h => I.s4 (by simpa using h),
    fun h => I.s5 (by simpa using h),
    fun h => I.s6 (by simpa using h),
    fun h => I.s7 (by simpa using h),
    fun h => by obtain ⟨p1, p2, cs, p3, p4, p5⟩ := I.s8 (by simpa using h); exact ⟨p1, p2, cs, p3, p4.only ho (hne0 (by simpa using h)), fun h2 => p5 (by simpa using h2)⟩,
    fun h => by have h2 := I.e12 (by simpa using h); simp [h2],
    fun h => by obtain ⟨p1, p2, cs, p3, p4, p5⟩ := I.s9 (by simpa using h); exact ⟨p1, p2, cs, p3, p4.only ho (hne1 (by simpa using h)), fun h2 => p5 (by simpa using h2)⟩,
    fun h => by have h2 := I.e13 (by simpa using h); simp [h2],
    fun h => by obtain ⟨p1, p2, cs, p3, p4, p5⟩ := I.s10 (by simpa using h); exact ⟨p1, p2, cs, p3, p4.only ho (hne2 (by simpa using h)), fun h2 => p5 (by simpa using h2)⟩,
    fun h => by have h2 := I.e14 (by simpa using h); simp [h2],
    fun h => by obtain ⟨p1, p2, cs, p3, p4, p5⟩ := I.s11 (by simpa using h); exact ⟨p1, p2, _, rfl, h9, fun _ => rfl⟩,
    fun h => by simpa using ha,
    fun h h2 => I.n1_0 (by simpa using h) (by simpa using h2),
    fun h h2 => I.n2_0 (by simpa using h) (by simpa using h2),
    fun h h2 => I.n2_1 (by simpa using h) (by simpa using h2),
    fun h h2 => I.n3_0 (by simpa using h) (by simpa using h2),
    fun h h2 => I.n3_1 (by simpa using h) (by simpa using h2),
    fun h h2 => I.n3_2 (by simpa using h) (by simpa using h2)⟩
set_option maxRecDepth 100000 in
set_option maxHeartbeats 4000000 in
theorem HkI.fin {Q P M T : Nat → Int} {p0 p1 B0 : Nat} {w V : World} {a0 : Act} {b : Nat → Bool} {q9 q10 q11 q12 : Nat} {a : Act} {u : World} (I : HkI Q P M T p0 p1 B0 w V a0 b q9 q10 q11 q12 a u) (hb : ∀ i, i < 100 → i < 16 → b i = true) (hn : 31 < a0.tmps.size) : a = ((((((((((((a0.put (some 24) (.pointer (some ⟨p0, 0, none⟩))).put (some 25) (.agg #[.int .i64 (Q 0), .int .i64 (Q 1)])).put (some 26) (.pointer (some ⟨p0, 2, none⟩))).put (some 27) (.agg #[.int .i64 (P 0), .int .i64 (P 1)])).put (some 28) (.pointer (some ⟨p1, 0, none⟩))).put (some 29) (.agg #[.int .i64 (M 0), .int .i64 (M 1)])).put (some 30) (.pointer (some ⟨p1, 2, none⟩))).put (some 31) (.agg #[.int .i64 (T 0), .int .i64 (T 1)])).put (some 9) (.pointer (some ⟨q9, 0, none⟩))).put (some 10) (.pointer (some ⟨q10, 0, none⟩))).put (some 11) (.pointer (some ⟨q11, 0, none⟩))).put (some 12) (.pointer (some ⟨q12, 0, none⟩))) := by
  refine act_ext (by simp only [put_defers]; exact I.sk.defers) (by simp only [put_size]; exact I.sk.size) (fun s hs => ?_)
  by_cases hd : s ∈ ([24, 25, 26, 27, 28, 29, 30, 31, 9, 10, 11, 12] : List Nat)
  · simp only [List.mem_cons, List.not_mem_nil, or_false] at hd
    rcases hd with rfl | rfl | rfl | rfl | rfl | rfl | rfl | rfl | rfl | rfl | rfl | rfl
    · refine (I.s0 (hb 0 (by omega) (by omega))).trans (Eq.symm ?_)
      exact (put_other _ (by decide)).trans ((put_other _ (by decide)).trans ((put_other _ (by decide)).trans ((put_other _ (by decide)).trans ((put_other _ (by decide)).trans ((put_other _ (by decide)).trans ((put_other _ (by decide)).trans ((put_other _ (by decide)).trans ((put_other _ (by decide)).trans ((put_other _ (by decide)).trans ((put_other _ (by decide)).trans (put_same _ (by (try simp only [put_size]); omega))))))))))))
    · refine (I.s1 (hb 1 (by omega) (by omega))).trans (Eq.symm ?_)
      exact (put_other _ (by decide)).trans ((put_other _ (by decide)).trans ((put_other _ (by decide)).trans ((put_other _ (by decide)).trans ((put_other _ (by decide)).trans ((put_other _ (by decide)).trans ((put_other _ (by decide)).trans ((put_other _ (by decide)).trans ((put_other _ (by decide)).trans ((put_other _ (by decide)).trans (put_same _ (by (try simp only [put_size]); omega)))))))))))
    · refine (I.s2 (hb 2 (by omega) (by omega))).trans (Eq.symm ?_)
      exact (put_other _ (by decide)).trans ((put_other _ (by decide)).trans ((put_other _ (by decide)).trans ((put_other _ (by decide)).trans ((put_other _ (by decide)).trans ((put_other _ (by decide)).trans ((put_other _ (by decide)).trans ((put_other _ (by decide)).trans ((put_other _ (by decide)).trans (put_same _ (by (try simp only [put_size]); omega))))))))))
    · refine (I.s3 (hb 3 (by omega) (by omega))).trans (Eq.symm ?_)
      exact (put_other _ (by decide)).trans ((put_other _ (by decide)).trans ((put_other _ (by decide)).trans ((put_other _ (by decide)).trans ((put_other _ (by decide)).trans ((put_other _ (by decide)).trans ((put_other _ (by decide)).trans ((put_other _ (by decide)).trans (put_same _ (by (try simp only [put_size]); omega)))))))))
    · refine (I.s4 (hb 4 (by omega) (by omega))).trans (Eq.symm ?_)
      exact (put_other _ (by decide)).trans ((put_other _ (by decide)).trans ((put_other _ (by decide)).trans ((put_other _ (by decide)).trans ((put_other _ (by decide)).trans ((put_other _ (by decide)).trans ((put_other _ (by decide)).trans (put_same _ (by (try simp only [put_size]); omega))))))))
    · refine (I.s5 (hb 5 (by omega) (by omega))).trans (Eq.symm ?_)
      exact (put_other _ (by decide)).trans ((put_other _ (by decide)).trans ((put_other _ (by decide)).trans ((put_other _ (by decide)).trans ((put_other _ (by decide)).trans ((put_other _ (by decide)).trans (put_same _ (by (try simp only [put_size]); omega)))))))
    · refine (I.s6 (hb 6 (by omega) (by omega))).trans (Eq.symm ?_)
      exact (put_other _ (by decide)).trans ((put_other _ (by decide)).trans ((put_other _ (by decide)).trans ((put_other _ (by decide)).trans ((put_other _ (by decide)).trans (put_same _ (by (try simp only [put_size]); omega))))))
    · refine (I.s7 (hb 7 (by omega) (by omega))).trans (Eq.symm ?_)
      exact (put_other _ (by decide)).trans ((put_other _ (by decide)).trans ((put_other _ (by decide)).trans ((put_other _ (by decide)).trans (put_same _ (by (try simp only [put_size]); omega)))))
    · refine ((I.s8 (hb 8 (by omega) (by omega))).1).trans (Eq.symm ?_)
      exact (put_other _ (by decide)).trans ((put_other _ (by decide)).trans ((put_other _ (by decide)).trans (put_same _ (by (try simp only [put_size]); omega))))
    · refine ((I.s9 (hb 9 (by omega) (by omega))).1).trans (Eq.symm ?_)
      exact (put_other _ (by decide)).trans ((put_other _ (by decide)).trans (put_same _ (by (try simp only [put_size]); omega)))
    · refine ((I.s10 (hb 10 (by omega) (by omega))).1).trans (Eq.symm ?_)
      exact (put_other _ (by decide)).trans (put_same _ (by (try simp only [put_size]); omega))
    · refine ((I.s11 (hb 11 (by omega) (by omega))).1).trans (Eq.symm ?_)
      exact put_same _ (by (try simp only [put_size]); omega)
  · refine (I.sk.slot s hd).trans (Eq.symm ?_)
    simp only [List.mem_cons, List.not_mem_nil, or_false, not_or] at hd
    obtain ⟨g0, g1, g2, g3, g4, g5, g6, g7, g8, g9, g10, g11⟩ := hd
    exact (put_other _ g11).trans ((put_other _ g10).trans ((put_other _ g9).trans ((put_other _ g8).trans ((put_other _ g7).trans ((put_other _ g6).trans ((put_other _ g5).trans ((put_other _ g4).trans ((put_other _ g3).trans ((put_other _ g2).trans ((put_other _ g1).trans ((put_other _ g0).trans (rfl))))))))))))
/-- What HullMakes holds. -/
structure HkK (Q P M T : Nat → Int) (q9 q10 q11 q12 g off : Nat) (A B C D : Nat → Int) (e : Nat) (wa u : World) : Prop where
  k9 : Held q9 [.int .i64 (Q 0), .int .i64 (Q 1)] u
  k10 : Held q10 [.int .i64 (P 0), .int .i64 (P 1)] u
  k11 : Held q11 [.int .i64 (M 0), .int .i64 (M 1)] u
  k12 : Held q12 [.int .i64 (T 0), .int .i64 (T 1)] u
  z0 : Held e [.int .i64 (A 0), .int .i64 (A 1)] u
  z1 : Held (e + 1) [.int .i64 (B 0), .int .i64 (B 1)] u
  z2 : Held (e + 1 + 1) [.int .i64 (C 0), .int .i64 (C 1)] u
  z3 : Held (e + 1 + 1 + 1) [.int .i64 (D 0), .int .i64 (D 1)] u
  sc : StC wa g off u
  aw : AirW wa u
  lt : wa.heap.size < q9 ∧ wa.heap.size < q10 ∧ wa.heap.size < q11 ∧ wa.heap.size < q12 ∧ q9 < e ∧ q10 < e ∧ q11 < e ∧ q12 < e ∧ g < e
theorem HkK.bel {Q P M T : Nat → Int} {q9 q10 q11 q12 g off : Nat} {A B C D : Nat → Int} {e : Nat} {wa u u' : World} (h : HkK Q P M T q9 q10 q11 q12 g off A B C D e wa u) (k : Below u.heap.size u u') : HkK Q P M T q9 q10 q11 q12 g off A B C D e wa u' := ⟨h.k9.bel k, h.k10.bel k, h.k11.bel k, h.k12.bel k, h.z0.bel k, h.z1.bel k, h.z2.bel k, h.z3.bel k, h.sc.bel k, h.aw.bel k, h.lt⟩
theorem StC.far {w u u' : World} {g off b : Nat} (h : StC w g off u) (k : Beside b u u') (hb : g ≠ b) : StC w g off u' :=
  ⟨h.ne, Nat.lt_of_lt_of_le h.lt k.size, fun i hi => (World.cell?_of_block (a := ⟨g, off + i, none⟩) (k.block g h.lt hb)).trans (h.c i hi)⟩
theorem two_beside (u : World) (b : Nat) (x y : Value) : Beside b u ((u.setCell ⟨b, 0, none⟩ x).setCell ⟨b, 1, none⟩ y) := ((Beside.of_below (Below.refl _ _)).setCell (p := ⟨b, 0, none⟩) x).setCell (p := ⟨b, 1, none⟩) y
theorem HkK.air {Q P M T : Nat → Int} {q9 q10 q11 q12 g off : Nat} {A B C D : Nat → Int} {e : Nat} {wa u u' : World} (h : HkK Q P M T q9 q10 q11 q12 g off A B C D e wa u) (m : AirW wa u') (kb : Beside wa.heap.size u u') : HkK Q P M T q9 q10 q11 q12 g off A B C D e wa u' := by
  have l := h.lt
  have l2 := h.sc.ne
  exact ⟨h.k9.beside kb (by omega), h.k10.beside kb (by omega), h.k11.beside kb (by omega), h.k12.beside kb (by omega), h.z0.beside kb (by omega), h.z1.beside kb (by omega), h.z2.beside kb (by omega), h.z3.beside kb (by omega), h.sc.far kb (by omega), m, h.lt⟩
theorem HkK.st0 {Q P M T : Nat → Int} {q9 q10 q11 q12 g off : Nat} {A B C D : Nat → Int} {e : Nat} {wa u : World} (h : HkK Q P M T q9 q10 q11 q12 g off A B C D e wa u) (A' : Nat → Int) : HkK Q P M T q9 q10 q11 q12 g off A' B C D e wa ((u.setCell ⟨e, 0, none⟩ (.int .i64 (A' 0))).setCell ⟨e, 1, none⟩ (.int .i64 (A' 1))) := by
  have kb := two_beside u (e) (.int .i64 (A' 0)) (.int .i64 (A' 1))
  have hz := (h.z0.set 0 (.int .i64 (A' 0)) (by simp)).set 1 (.int .i64 (A' 1)) (by simp)
  have l := h.lt
  exact ⟨h.k9.beside kb (by omega), h.k10.beside kb (by omega), h.k11.beside kb (by omega), h.k12.beside kb (by omega), hz, h.z1.beside kb (by omega), h.z2.beside kb (by omega), h.z3.beside kb (by omega), h.sc.far kb (by omega), h.aw.cells2 (by omega) _ _, h.lt⟩
theorem HkK.st1 {Q P M T : Nat → Int} {q9 q10 q11 q12 g off : Nat} {A B C D : Nat → Int} {e : Nat} {wa u : World} (h : HkK Q P M T q9 q10 q11 q12 g off A B C D e wa u) (B' : Nat → Int) : HkK Q P M T q9 q10 q11 q12 g off A B' C D e wa ((u.setCell ⟨e + 1, 0, none⟩ (.int .i64 (B' 0))).setCell ⟨e + 1, 1, none⟩ (.int .i64 (B' 1))) := by
  have kb := two_beside u (e + 1) (.int .i64 (B' 0)) (.int .i64 (B' 1))
  have hz := (h.z1.set 0 (.int .i64 (B' 0)) (by simp)).set 1 (.int .i64 (B' 1)) (by simp)
  have l := h.lt
  exact ⟨h.k9.beside kb (by omega), h.k10.beside kb (by omega), h.k11.beside kb (by omega), h.k12.beside kb (by omega), h.z0.beside kb (by omega), hz, h.z2.beside kb (by omega), h.z3.beside kb (by omega), h.sc.far kb (by omega), h.aw.cells2 (by omega) _ _, h.lt⟩
theorem HkK.st2 {Q P M T : Nat → Int} {q9 q10 q11 q12 g off : Nat} {A B C D : Nat → Int} {e : Nat} {wa u : World} (h : HkK Q P M T q9 q10 q11 q12 g off A B C D e wa u) (C' : Nat → Int) : HkK Q P M T q9 q10 q11 q12 g off A B C' D e wa ((u.setCell ⟨e + 1 + 1, 0, none⟩ (.int .i64 (C' 0))).setCell ⟨e + 1 + 1, 1, none⟩ (.int .i64 (C' 1))) := by
  have kb := two_beside u (e + 1 + 1) (.int .i64 (C' 0)) (.int .i64 (C' 1))
  have hz := (h.z2.set 0 (.int .i64 (C' 0)) (by simp)).set 1 (.int .i64 (C' 1)) (by simp)
  have l := h.lt
  exact ⟨h.k9.beside kb (by omega), h.k10.beside kb (by omega), h.k11.beside kb (by omega), h.k12.beside kb (by omega), h.z0.beside kb (by omega), h.z1.beside kb (by omega), hz, h.z3.beside kb (by omega), h.sc.far kb (by omega), h.aw.cells2 (by omega) _ _, h.lt⟩
theorem HkK.st3 {Q P M T : Nat → Int} {q9 q10 q11 q12 g off : Nat} {A B C D : Nat → Int} {e : Nat} {wa u : World} (h : HkK Q P M T q9 q10 q11 q12 g off A B C D e wa u) (D' : Nat → Int) : HkK Q P M T q9 q10 q11 q12 g off A B C D' e wa ((u.setCell ⟨e + 1 + 1 + 1, 0, none⟩ (.int .i64 (D' 0))).setCell ⟨e + 1 + 1 + 1, 1, none⟩ (.int .i64 (D' 1))) := by
  have kb := two_beside u (e + 1 + 1 + 1) (.int .i64 (D' 0)) (.int .i64 (D' 1))
  have hz := (h.z3.set 0 (.int .i64 (D' 0)) (by simp)).set 1 (.int .i64 (D' 1)) (by simp)
  have l := h.lt
  exact ⟨h.k9.beside kb (by omega), h.k10.beside kb (by omega), h.k11.beside kb (by omega), h.k12.beside kb (by omega), h.z0.beside kb (by omega), h.z1.beside kb (by omega), h.z2.beside kb (by omega), hz, h.sc.far kb (by omega), h.aw.cells2 (by omega) _ _, h.lt⟩
theorem z4_box (w V : World) (e : V = (((w.alloc (.cells #[.int .i64 0, .int .i64 0] 51)).alloc (.cells #[.int .i64 0, .int .i64 0] 51)).alloc (.cells #[.int .i64 0, .int .i64 0] 51)).alloc (.cells #[.int .i64 0, .int .i64 0] 51)) : Held w.heap.size [.int .i64 0, .int .i64 0] V ∧ Held (w.heap.size + 1) [.int .i64 0, .int .i64 0] V ∧ Held (w.heap.size + 1 + 1) [.int .i64 0, .int .i64 0] V ∧ Held (w.heap.size + 1 + 1 + 1) [.int .i64 0, .int .i64 0] V := by
  rw [e]
  refine ⟨(((Held.new w [.int .i64 0, .int .i64 0] _).alloc _).alloc _).alloc _, ?_, ?_, ?_⟩
  · have h := Held.new (w.alloc (.cells #[.int .i64 0, .int .i64 0] 51)) [.int .i64 0, .int .i64 0] 51
    rw [show (w.alloc (.cells #[.int .i64 0, .int .i64 0] 51)).heap.size = w.heap.size + 1 by simp] at h
    exact (h.alloc _).alloc _
  · have h := Held.new ((w.alloc (.cells #[.int .i64 0, .int .i64 0] 51)).alloc (.cells #[.int .i64 0, .int .i64 0] 51)) [.int .i64 0, .int .i64 0] 51
    rw [show ((w.alloc (.cells #[.int .i64 0, .int .i64 0] 51)).alloc (.cells #[.int .i64 0, .int .i64 0] 51)).heap.size = w.heap.size + 1 + 1 by simp] at h
    exact h.alloc _
  · have h := Held.new (((w.alloc (.cells #[.int .i64 0, .int .i64 0] 51)).alloc (.cells #[.int .i64 0, .int .i64 0] 51)).alloc (.cells #[.int .i64 0, .int .i64 0] 51)) [.int .i64 0, .int .i64 0] 51
    rw [show (((w.alloc (.cells #[.int .i64 0, .int .i64 0] 51)).alloc (.cells #[.int .i64 0, .int .i64 0] 51)).alloc (.cells #[.int .i64 0, .int .i64 0] 51)).heap.size = w.heap.size + 1 + 1 + 1 by simp] at h
    exact h
theorem hk_box (Q P M T : Nat → Int) (w : World) : ∃ (Z : Array Value) (wa U : World), (∀ u, (zeroValue 36).run Tryz.prog u = .ok (.agg Z) u) ∧ wa = (w.alloc (.cells #[.int .i64 (Q 0), .int .i64 (Q 1), .int .i64 (P 0), .int .i64 (P 1)] 52)).alloc (.cells #[.int .i64 (M 0), .int .i64 (M 1), .int .i64 (T 0), .int .i64 (T 1)] 52) ∧ U = wa.alloc (.cells Z 36) ∧ AirW wa U ∧ Below w.heap.size w wa ∧ wa.heap.size = w.heap.size + 2 ∧ Held w.heap.size [.int .i64 (Q 0), .int .i64 (Q 1), .int .i64 (P 0), .int .i64 (P 1)] wa ∧ Held (w.heap.size + 1) [.int .i64 (M 0), .int .i64 (M 1), .int .i64 (T 0), .int .i64 (T 1)] wa := by
  obtain ⟨wa, ewa⟩ : ∃ wa, wa = (w.alloc (.cells #[.int .i64 (Q 0), .int .i64 (Q 1), .int .i64 (P 0), .int .i64 (P 1)] 52)).alloc (.cells #[.int .i64 (M 0), .int .i64 (M 1), .int .i64 (T 0), .int .i64 (T 1)] 52) := ⟨_, rfl⟩
  obtain ⟨Z, U, hZ, hU, hA⟩ := air_newW wa
  have hx : Held w.heap.size [.int .i64 (Q 0), .int .i64 (Q 1), .int .i64 (P 0), .int .i64 (P 1)] wa := by rw [ewa]; exact (Held.new w [.int .i64 (Q 0), .int .i64 (Q 1), .int .i64 (P 0), .int .i64 (P 1)] 52).alloc _
  have hv : Held (w.heap.size + 1) [.int .i64 (M 0), .int .i64 (M 1), .int .i64 (T 0), .int .i64 (T 1)] wa := by
    rw [ewa]
    have := Held.new (w.alloc (.cells #[.int .i64 (Q 0), .int .i64 (Q 1), .int .i64 (P 0), .int .i64 (P 1)] 52)) [.int .i64 (M 0), .int .i64 (M 1), .int .i64 (T 0), .int .i64 (T 1)] 52
    simpa using this
  have hb : Below w.heap.size w wa := by rw [ewa]; exact (by repeat (first | exact Below.refl _ _ | assumption | apply Below.drew | apply below_drewN | (refine Below.alloc ?_ (by first | exact Nat.le_refl _ | omega | (simp <;> omega)) _) | (refine Below.setCell ?_ (by first | exact Nat.le_refl _ | omega | (simp <;> omega)) _)))
  have hs : wa.heap.size = w.heap.size + 2 := by rw [ewa]; simp
  exact ⟨Z, wa, U, hZ, ewa, hU, hA, hb, hs, hx, hv⟩
set_option maxRecDepth 100000 in
set_option maxHeartbeats 8000000 in
theorem law_HullMakes (Q P M T : Nat → Int) (r : Int) (gQ : ∀ i, i < 2 → Dbl (Q i)) (gP : ∀ i, i < 2 → Dbl (P i)) (gM : ∀ i, i < 2 → Dbl (M i)) (gT : ∀ i, i < 2 → Dbl (T i)) (w : World) : Calls Tryz.prog 5 #[.agg #[.int .i64 (Q 0), .int .i64 (Q 1), .int .i64 (P 0), .int .i64 (P 1)], .agg #[.int .i64 (M 0), .int .i64 (M 1), .int .i64 (T 0), .int .i64 (T 1)], .int .i64 r] w fun e w' => e = .returned (.bool true) ∧ Below w.heap.size w w' := by
  obtain ⟨Z, wa, U, hZ, ewa, eU, AW, hbw, hs, hX0, hY0⟩ := hk_box Q P M T w
  replace eU := Lib.hid (show ((w.alloc (.cells #[.int .i64 (Q 0), .int .i64 (Q 1), .int .i64 (P 0), .int .i64 (P 1)] 52)).alloc (.cells #[.int .i64 (M 0), .int .i64 (M 1), .int .i64 (T 0), .int .i64 (T 1)] 52)).alloc (.cells Z 36) = U by rw [eU, ewa])
  have hla := AW.r.lt
  have RS := Lib.hid (rstepsW wa U AW)
  replace hX0 := Lib.hid hX0
  replace hY0 := Lib.hid hY0
  replace hbw := Lib.hid hbw
  have HS := Lib.hid hs
  clear hs ewa AW
  go_enter Tryz.func5, Tryz.ntmps5
  go_upto_region 2 with (fail)
  rw [eU.out]
  go_wp2_with fail
  refine RS.out.mono ?_
  rintro e V ⟨g, off, cap, rfl, sc, aw⟩
  have hX := hX0.out.below aw.b (by have := hX0.out.lt; omega)
  have hY := hY0.out.below aw.b (by have := hY0.out.lt; omega)
  have HZ := Lib.hid (show w.heap.size + 3 ≤ V.heap.size by have := aw.r.lt; have := HS.out; omega)
  replace sc := Lib.hid sc
  replace aw := Lib.hid aw
  clear RS hla eU
  go_upto_region 3 with (fail)
  go_cut [9, 10, 11, 12] from 13 (fun s9 s10 s11 s12 u => ∃ q9 q10 q11 q12, s9 = .pointer (some ⟨q9, 0, none⟩) ∧ s10 = .pointer (some ⟨q10, 0, none⟩) ∧ s11 = .pointer (some ⟨q11, 0, none⟩) ∧ s12 = .pointer (some ⟨q12, 0, none⟩) ∧ Hid (Held q9 [.int .i64 (Q 0), .int .i64 (Q 1)] u) ∧ Hid (Held q10 [.int .i64 (P 0), .int .i64 (P 1)] u) ∧ Hid (Held q11 [.int .i64 (M 0), .int .i64 (M 1)] u) ∧ Hid (Held q12 [.int .i64 (T 0), .int .i64 (T 1)] u) ∧ Hid (Below V.heap.size V u) ∧ Hid (V.heap.size ≤ q9 ∧ V.heap.size ≤ q10 ∧ V.heap.size ≤ q11 ∧ V.heap.size ≤ q12))
  case first =>
    as_aux_lemma =>
      refine region_inv_at (fun a_ V_ b a u => ∃ q9 q10 q11 q12, HkI Q P M T w.heap.size (w.heap.size + 1) V.heap.size w V a_ b q9 q10 q11 q12 a u) (by kernel_rfl) (by kernel_rfl) ⟨0, 0, 0, 0, ⟨Sk.refl _ _, (Below.refl _ _).drew, Nat.le_refl _, hX.lt, hY.lt, hX.drew, hY.drew, by simp, by simp, by simp, by simp, by simp, by simp, by simp, by simp, by simp, by simp, by simp, by simp, by simp, by simp, by simp, by simp, by simp, by simp, by simp, by simp, by simp, by simp⟩⟩ ?_ ?_
      · intro i o ho b a u I hb hd K hK
        obtain ⟨q9, q10, q11, q12, I⟩ := I
        have hi : i < 16 := (Array.getElem?_eq_some_iff.1 ho).1
        rcases (show i = 0 ∨ i = 1 ∨ i = 2 ∨ i = 3 ∨ i = 4 ∨ i = 5 ∨ i = 6 ∨ i = 7 ∨ i = 8 ∨ i = 9 ∨ i = 10 ∨ i = 11 ∨ i = 12 ∨ i = 13 ∨ i = 14 ∨ i = 15 by omega) with rfl | rfl | rfl | rfl | rfl | rfl | rfl | rfl | rfl | rfl | rfl | rfl | rfl | rfl | rfl | rfl
        · obtain rfl := Option.some.inj ho
          have d0 : a.tmps.getD 3 undef = .pointer (some ⟨w.heap.size, 0, none⟩) := (I.sk.slot 3 (by decide)).trans rfl
          have I' := Lib.hid I
          clear I hd hb
          go_simp
          exact hK.out _ _ ⟨q9, q10, q11, q12, I'.out.next0 (by show _ < 172; omega) (Below.refl _ _)⟩
        · obtain rfl := Option.some.inj ho
          have d0 := I.s0 (hd 0 (by decide))
          have hXX := I.h0
          obtain ⟨c0, f0⟩ := hXX.one 0 rfl
          obtain ⟨c1, f1⟩ := hXX.one 1 rfl
          obtain ⟨c2, f2⟩ := hXX.one 2 rfl
          obtain ⟨c3, f3⟩ := hXX.one 3 rfl
          clear hXX
          have I' := Lib.hid I
          clear I hd hb
          go_simp
          exact hK.out _ _ ⟨q9, q10, q11, q12, I'.out.next1 (by show _ < 172; omega) (Below.refl _ _)⟩
        · obtain rfl := Option.some.inj ho
          have d0 : a.tmps.getD 3 undef = .pointer (some ⟨w.heap.size, 0, none⟩) := (I.sk.slot 3 (by decide)).trans rfl
          have I' := Lib.hid I
          clear I hd hb
          go_simp
          exact hK.out _ _ ⟨q9, q10, q11, q12, I'.out.next2 (by show _ < 172; omega) (Below.refl _ _)⟩
        · obtain rfl := Option.some.inj ho
          have d0 := I.s2 (hd 2 (by decide))
          have hXX := I.h0
          obtain ⟨c0, f0⟩ := hXX.one 0 rfl
          obtain ⟨c1, f1⟩ := hXX.one 1 rfl
          obtain ⟨c2, f2⟩ := hXX.one 2 rfl
          obtain ⟨c3, f3⟩ := hXX.one 3 rfl
          clear hXX
          have I' := Lib.hid I
          clear I hd hb
          go_simp
          exact hK.out _ _ ⟨q9, q10, q11, q12, I'.out.next3 (by show _ < 172; omega) (Below.refl _ _)⟩
        · obtain rfl := Option.some.inj ho
          have d0 : a.tmps.getD 4 undef = .pointer (some ⟨w.heap.size + 1, 0, none⟩) := (I.sk.slot 4 (by decide)).trans rfl
          have I' := Lib.hid I
          clear I hd hb
          go_simp
          exact hK.out _ _ ⟨q9, q10, q11, q12, I'.out.next4 (by show _ < 172; omega) (Below.refl _ _)⟩
        · obtain rfl := Option.some.inj ho
          have d0 := I.s4 (hd 4 (by decide))
          have hXX := I.h1
          obtain ⟨c0, f0⟩ := hXX.one 0 rfl
          obtain ⟨c1, f1⟩ := hXX.one 1 rfl
          obtain ⟨c2, f2⟩ := hXX.one 2 rfl
          obtain ⟨c3, f3⟩ := hXX.one 3 rfl
          clear hXX
          have I' := Lib.hid I
          clear I hd hb
          go_simp
          exact hK.out _ _ ⟨q9, q10, q11, q12, I'.out.next5 (by show _ < 172; omega) (Below.refl _ _)⟩
        · obtain rfl := Option.some.inj ho
          have d0 : a.tmps.getD 4 undef = .pointer (some ⟨w.heap.size + 1, 0, none⟩) := (I.sk.slot 4 (by decide)).trans rfl
          have I' := Lib.hid I
          clear I hd hb
          go_simp
          exact hK.out _ _ ⟨q9, q10, q11, q12, I'.out.next6 (by show _ < 172; omega) (Below.refl _ _)⟩
        · obtain rfl := Option.some.inj ho
          have d0 := I.s6 (hd 6 (by decide))
          have hXX := I.h1
          obtain ⟨c0, f0⟩ := hXX.one 0 rfl
          obtain ⟨c1, f1⟩ := hXX.one 1 rfl
          obtain ⟨c2, f2⟩ := hXX.one 2 rfl
          obtain ⟨c3, f3⟩ := hXX.one 3 rfl
          clear hXX
          have I' := Lib.hid I
          clear I hd hb
          go_simp
          exact hK.out _ _ ⟨q9, q10, q11, q12, I'.out.next7 (by show _ < 172; omega) (Below.refl _ _)⟩
        · obtain rfl := Option.some.inj ho
          have I' := Lib.hid I
          have hbb := Lib.hid hb
          clear I hd hb
          go_simp
          exact hK.out _ _ ⟨_, q10, q11, q12, I'.out.next8 (by show _ < 172; omega) hbb.out⟩
        · obtain rfl := Option.some.inj ho
          have I' := Lib.hid I
          have hbb := Lib.hid hb
          clear I hd hb
          go_simp
          exact hK.out _ _ ⟨q9, _, q11, q12, I'.out.next9 (by show _ < 172; omega) hbb.out⟩
        · obtain rfl := Option.some.inj ho
          have I' := Lib.hid I
          have hbb := Lib.hid hb
          clear I hd hb
          go_simp
          exact hK.out _ _ ⟨q9, q10, _, q12, I'.out.next10 (by show _ < 172; omega) hbb.out⟩
        · obtain rfl := Option.some.inj ho
          have I' := Lib.hid I
          have hbb := Lib.hid hb
          clear I hd hb
          go_simp
          exact hK.out _ _ ⟨q9, q10, q11, _, I'.out.next11 (by show _ < 172; omega) hbb.out⟩
        · obtain rfl := Option.some.inj ho
          have ha := hd 8 (by decide)
          have h2 := I.s1 (hd 1 (by decide))
          obtain ⟨h3, -, cs, hc, hh, -⟩ := I.s8 ha
          obtain ⟨x0, x1, rfl⟩ := l2x hc
          obtain ⟨c0, f0⟩ := hh.one 0 rfl
          obtain ⟨c1, f1⟩ := hh.one 1 rfl
          have I' := Lib.hid (I.next12 ha)
          clear I hd hb hh hc
          go_simp
          exact hK.out _ _ ⟨q9, q10, q11, q12, I'.out⟩
        · obtain rfl := Option.some.inj ho
          have ha := hd 9 (by decide)
          have h2 := I.s3 (hd 3 (by decide))
          obtain ⟨h3, -, cs, hc, hh, -⟩ := I.s9 ha
          obtain ⟨x0, x1, rfl⟩ := l2x hc
          obtain ⟨c0, f0⟩ := hh.one 0 rfl
          obtain ⟨c1, f1⟩ := hh.one 1 rfl
          have I' := Lib.hid (I.next13 ha)
          clear I hd hb hh hc
          go_simp
          exact hK.out _ _ ⟨q9, q10, q11, q12, I'.out⟩
        · obtain rfl := Option.some.inj ho
          have ha := hd 10 (by decide)
          have h2 := I.s5 (hd 5 (by decide))
          obtain ⟨h3, -, cs, hc, hh, -⟩ := I.s10 ha
          obtain ⟨x0, x1, rfl⟩ := l2x hc
          obtain ⟨c0, f0⟩ := hh.one 0 rfl
          obtain ⟨c1, f1⟩ := hh.one 1 rfl
          have I' := Lib.hid (I.next14 ha)
          clear I hd hb hh hc
          go_simp
          exact hK.out _ _ ⟨q9, q10, q11, q12, I'.out⟩
        · obtain rfl := Option.some.inj ho
          have ha := hd 11 (by decide)
          have h2 := I.s7 (hd 7 (by decide))
          obtain ⟨h3, -, cs, hc, hh, -⟩ := I.s11 ha
          obtain ⟨x0, x1, rfl⟩ := l2x hc
          obtain ⟨c0, f0⟩ := hh.one 0 rfl
          obtain ⟨c1, f1⟩ := hh.one 1 rfl
          have I' := Lib.hid (I.next15 ha)
          clear I hd hb hh hc
          go_simp
          exact hK.out _ _ ⟨q9, q10, q11, q12, I'.out⟩
      · intro b a u hall I
        obtain ⟨q9, q10, q11, q12, I⟩ := I
        have ea := I.fin (fun i _ h => hall i h) (by show _ < 172; omega)
        obtain ⟨-, r0, cs0, -, k0, j0⟩ := I.s8 (hall 8 (by decide))
        rw [j0 (hall 12 (by decide))] at k0
        obtain ⟨-, r1, cs1, -, k1, j1⟩ := I.s9 (hall 9 (by decide))
        rw [j1 (hall 13 (by decide))] at k1
        obtain ⟨-, r2, cs2, -, k2, j2⟩ := I.s10 (hall 10 (by decide))
        rw [j2 (hall 14 (by decide))] at k2
        obtain ⟨-, r3, cs3, -, k3, j3⟩ := I.s11 (hall 11 (by decide))
        rw [j3 (hall 15 (by decide))] at k3
        subst ea
        clear hall j0 j1 j2 j3
        simp only [Act.put, List.setIfInBounds_toArray, List.set_cons_zero, List.set_cons_succ]
        go_wp2_with fail
        go_meet
        case rel => exact ⟨_, _, _, _, rfl, rfl, rfl, rfl, Lib.hid k0, Lib.hid k1, Lib.hid k2, Lib.hid k3, Lib.hid I.bel, Lib.hid ⟨r0, r1, r2, r3⟩⟩
  case rest =>
    as_aux_lemma =>
      obtain ⟨q9, q10, q11, q12, rfl, rfl, rfl, rfl, K9, K10, K11, K12, BV, QS⟩ := hcut
      obtain ⟨U4, eU4⟩ : ∃ U4, U4 = (((wc.alloc (.cells #[.int .i64 0, .int .i64 0] 51)).alloc (.cells #[.int .i64 0, .int .i64 0] 51)).alloc (.cells #[.int .i64 0, .int .i64 0] 51)).alloc (.cells #[.int .i64 0, .int .i64 0] 51) := ⟨_, rfl⟩
      have hb4 : Below wc.heap.size wc U4 := by rw [eU4]; exact ((((Below.refl _ _).alloc (Nat.le_refl _) _).alloc (by simp) _).alloc (by simp; omega) _).alloc (by simp; omega) _
      have hZ4 := z4_box wc U4 eU4
      have K := Lib.hid (show HkK Q P M T q9 q10 q11 q12 g off z0F z0F z0F z0F wc.heap.size wa U4 from ⟨K9.out.bel hb4, K10.out.bel hb4, K11.out.bel hb4, K12.out.bel hb4, hZ4.1, hZ4.2.1, hZ4.2.2.1, hZ4.2.2.2, (sc.out.bel BV.out).bel hb4, (aw.out.bel BV.out).bel hb4, by have := QS.out; have := aw.out.r.lt; have := K9.out.lt; have := K10.out.lt; have := K11.out.lt; have := K12.out.lt; have := sc.out.lt; have := BV.out.size; omega⟩)
      clear K9 K10 K11 K12 BV QS hb4 hZ4 hX hY sc aw
      replace eU4 := Lib.hid eU4
      go_upto_region 5 with (fail)
      rw [← eU4.out]
      clear eU4
      generalize wc.heap.size = e4 at *
      have hp := K.out.k10
      obtain ⟨c0, f0⟩ := hp.one 0 rfl
      obtain ⟨c1, f1⟩ := hp.one 1 rfl
      clear hp
      go_wp2_with fail
      refine (lwright _ _ _).mono ?_
      rintro e w5 ⟨rfl, hb⟩
      have K2 := Lib.hid (K.out.bel hb)
      clear hb K c0 c1 f0 f1
      go_upto_if 37 with (fail)
      go_cut [] from 23 (fun u => Hid (HkK Q P M T q9 q10 q11 q12 g off (zAF P) z0F z0F z0F e4 wa u))
      case first =>
        as_aux_lemma =>
          by_cases hP : P 0 ≤ P 1
          · have hp := K2.out.k10
            obtain ⟨c0, f0⟩ := hp.one 0 rfl
            obtain ⟨c1, f1⟩ := hp.one 1 rfl
            clear hp
            go_wp2_with fail
            refine region_moves (fun u => u.cell? ⟨q10, 1, none⟩ = some (.int .i64 (P 1)) ∧ u.cell? ⟨q10, 0, none⟩ = some (.int .i64 (P 0))) [(9, [(8, 9), (7, 9), (0, 9), (1, 9), (2, 9), (3, 9), (4, 9), (5, 9), (6, 9)])] [(.free, 0), (.free, 1), (.take, 2), (.free, 4), (.free, 5), (.take, 6), (.step, 3), (.step, 7), (.free, 8), (.late, 9)] _ (by kernel_rfl) (by kernel_rfl) (by kernel_rfl) (by kernel_rfl) (by decide) rfl (fun _ _ _ _ _ h => h) ?_
            simp only [List.filterMap_cons, List.filterMap_nil, List.getElem?_toArray, List.getElem?_cons_zero, List.getElem?_cons_succ, Option.map_some]
            iterate 2
              first
                | (refine mv_free ?_ (Or.inl ⟨by rfl, ?_⟩) (⟨c1, c0⟩) ?_
                   rotate_left 1
                   · intro u
                     go_simp
                     try with_reducible rfl
                   simp only [Act.put, List.setIfInBounds_toArray, List.set_cons_zero, List.set_cons_succ])
                | (refine mv_free _ (Or.inr ⟨by rfl, rfl⟩) (⟨c1, c0⟩) ?_
                   simp only [Act.put, List.setIfInBounds_toArray, List.set_cons_zero, List.set_cons_succ])
            iterate 1
              first
                | (refine mv_take ?_ (Or.inl ⟨by rfl, ?_⟩) (⟨c1, c0⟩) ?_
                   rotate_left 1
                   · intro u hu
                     (try dsimp only at hu)
                     go_simp
                     try with_reducible rfl
                   simp only [Act.put, List.setIfInBounds_toArray, List.set_cons_zero, List.set_cons_succ])
                | (refine mv_take _ (Or.inr ⟨by rfl, rfl⟩) (⟨c1, c0⟩) ?_
                   simp only [Act.put, List.setIfInBounds_toArray, List.set_cons_zero, List.set_cons_succ])
            iterate 2
              first
                | (refine mv_free ?_ (Or.inl ⟨by rfl, ?_⟩) (⟨c1, c0⟩) ?_
                   rotate_left 1
                   · intro u
                     go_simp
                     try with_reducible rfl
                   simp only [Act.put, List.setIfInBounds_toArray, List.set_cons_zero, List.set_cons_succ])
                | (refine mv_free _ (Or.inr ⟨by rfl, rfl⟩) (⟨c1, c0⟩) ?_
                   simp only [Act.put, List.setIfInBounds_toArray, List.set_cons_zero, List.set_cons_succ])
            iterate 1
              first
                | (refine mv_take ?_ (Or.inl ⟨by rfl, ?_⟩) (⟨c1, c0⟩) ?_
                   rotate_left 1
                   · intro u hu
                     (try dsimp only at hu)
                     go_simp
                     try with_reducible rfl
                   simp only [Act.put, List.setIfInBounds_toArray, List.set_cons_zero, List.set_cons_succ])
                | (refine mv_take _ (Or.inr ⟨by rfl, rfl⟩) (⟨c1, c0⟩) ?_
                   simp only [Act.put, List.setIfInBounds_toArray, List.set_cons_zero, List.set_cons_succ])
            refine mv_step (fun K hK => ?_)
            go_simp
            refine (rheight g off cap (P 1) _ K2.out.sc.drew.c).mono ?_
            rintro e w6 ⟨rfl, hb⟩
            have K3 := Lib.hid ((K2.out.bel (Below.refl _ _).drew).bel hb)
            clear hb c0 c1 f0 f1
            have hp := K3.out.k10
            obtain ⟨c0, f0⟩ := hp.one 0 rfl
            obtain ⟨c1, f1⟩ := hp.one 1 rfl
            clear hp
            go_wp2_with fail
            refine hK.out _ _ _ (fun u hu => hu) (⟨c1, c0⟩) ?_
            clear hK K
            refine mv_step (fun K hK => ?_)
            go_simp
            refine (rheight g off cap (P 0) _ K3.out.sc.c).mono ?_
            rintro e w7 ⟨rfl, hb⟩
            have K4 := Lib.hid (K3.out.bel hb)
            clear hb c0 c1 f0 f1
            have hp := K4.out.k10
            obtain ⟨c0, f0⟩ := hp.one 0 rfl
            obtain ⟨c1, f1⟩ := hp.one 1 rfl
            clear hp
            go_wp2_with fail
            refine hK.out _ _ _ (fun u hu => hu) (⟨c1, c0⟩) ?_
            clear hK K
            iterate 1
              first
                | (refine mv_free ?_ (Or.inl ⟨by rfl, ?_⟩) (⟨c1, c0⟩) ?_
                   rotate_left 1
                   · intro u
                     go_simp
                     try with_reducible rfl
                   simp only [Act.put, List.setIfInBounds_toArray, List.set_cons_zero, List.set_cons_succ])
                | (refine mv_free _ (Or.inr ⟨by rfl, rfl⟩) (⟨c1, c0⟩) ?_
                   simp only [Act.put, List.setIfInBounds_toArray, List.set_cons_zero, List.set_cons_succ])
            have hz := K4.out.z0
            obtain ⟨d0, v0⟩ := hz.one 0 rfl
            obtain ⟨d1, v1⟩ := hz.one 1 rfl
            clear hz
            refine mv_late (fun K hK => ?_)
            go_simp
            refine hK.out (fun _ => True) _ _ ?_
            clear hK K
            refine mv_done ?_
            have K5 := K4.out.st0 (zAF P)
            rw [show zAF P 0 = heV (P 1) from by unfold zAF; rw [if_pos hP]; rfl, show zAF P 1 = heV (P 0) from by unfold zAF; rw [if_pos hP]; rfl] at K5
            go_wp2_with fail
            go_meet
            case rel => exact Lib.hid K5
          · go_wp2_with fail
            go_meet
            case rel => exact Lib.hid (by rw [show zAF P = z0F from by funext i; unfold zAF z0F; rw [if_neg (by omega)]]; exact K2.out)
      case rest =>
        as_aux_lemma =>
          have K := hcut
          clear hcut K2
          have hp := K.out.k9
          obtain ⟨c0, f0⟩ := hp.one 0 rfl
          obtain ⟨c1, f1⟩ := hp.one 1 rfl
          clear hp
          go_wp2_with fail
          refine (lwright _ _ _).mono ?_
          rintro e w5 ⟨rfl, hb⟩
          have K2 := Lib.hid (K.out.bel hb)
          clear hb K c0 c1 f0 f1
          go_upto_if 48 with (fail)
          go_cut [] from 23 (fun u => Hid (HkK Q P M T q9 q10 q11 q12 g off (zAF P) (zBF Q) z0F z0F e4 wa u))
          case first =>
            as_aux_lemma =>
              by_cases hQ : Q 0 ≤ Q 1
              · have g0 := gQ 0 (by omega)
                have g1 := gQ 1 (by omega)
                have C0 := Lib.hid (fun u => rcal9_any (Q 0) u g0.1 g0.2)
                have C1 := Lib.hid (fun u => rcal9_any (Q 1) u g1.1 g1.2)
                clear g0 g1
                have hp := K2.out.k9
                obtain ⟨c0, f0⟩ := hp.one 0 rfl
                obtain ⟨c1, f1⟩ := hp.one 1 rfl
                clear hp
                go_wp2_with fail
                refine region_moves (fun u => u.cell? ⟨q9, 0, none⟩ = some (.int .i64 (Q 0)) ∧ u.cell? ⟨q9, 1, none⟩ = some (.int .i64 (Q 1))) [(7, [(6, 7), (5, 7), (0, 7), (1, 7), (2, 7), (3, 7), (4, 7)])] [(.free, 0), (.take, 1), (.free, 3), (.take, 4), (.step, 2), (.step, 5), (.free, 6), (.late, 7)] _ (by kernel_rfl) (by kernel_rfl) (by kernel_rfl) (by kernel_rfl) (by decide) rfl (fun _ _ _ _ _ h => h) ?_
                simp only [List.filterMap_cons, List.filterMap_nil, List.getElem?_toArray, List.getElem?_cons_zero, List.getElem?_cons_succ, Option.map_some]
                iterate 1
                  first
                    | (refine mv_free ?_ (Or.inl ⟨by rfl, ?_⟩) (⟨c0, c1⟩) ?_
                       rotate_left 1
                       · intro u
                         go_simp
                         try with_reducible rfl
                       simp only [Act.put, List.setIfInBounds_toArray, List.set_cons_zero, List.set_cons_succ])
                    | (refine mv_free _ (Or.inr ⟨by rfl, rfl⟩) (⟨c0, c1⟩) ?_
                       simp only [Act.put, List.setIfInBounds_toArray, List.set_cons_zero, List.set_cons_succ])
                iterate 1
                  first
                    | (refine mv_take ?_ (Or.inl ⟨by rfl, ?_⟩) (⟨c0, c1⟩) ?_
                       rotate_left 1
                       · intro u hu
                         (try dsimp only at hu)
                         go_simp
                         try with_reducible rfl
                       simp only [Act.put, List.setIfInBounds_toArray, List.set_cons_zero, List.set_cons_succ])
                    | (refine mv_take _ (Or.inr ⟨by rfl, rfl⟩) (⟨c0, c1⟩) ?_
                       simp only [Act.put, List.setIfInBounds_toArray, List.set_cons_zero, List.set_cons_succ])
                iterate 1
                  first
                    | (refine mv_free ?_ (Or.inl ⟨by rfl, ?_⟩) (⟨c0, c1⟩) ?_
                       rotate_left 1
                       · intro u
                         go_simp
                         try with_reducible rfl
                       simp only [Act.put, List.setIfInBounds_toArray, List.set_cons_zero, List.set_cons_succ])
                    | (refine mv_free _ (Or.inr ⟨by rfl, rfl⟩) (⟨c0, c1⟩) ?_
                       simp only [Act.put, List.setIfInBounds_toArray, List.set_cons_zero, List.set_cons_succ])
                iterate 1
                  first
                    | (refine mv_take ?_ (Or.inl ⟨by rfl, ?_⟩) (⟨c0, c1⟩) ?_
                       rotate_left 1
                       · intro u hu
                         (try dsimp only at hu)
                         go_simp
                         try with_reducible rfl
                       simp only [Act.put, List.setIfInBounds_toArray, List.set_cons_zero, List.set_cons_succ])
                    | (refine mv_take _ (Or.inr ⟨by rfl, rfl⟩) (⟨c0, c1⟩) ?_
                       simp only [Act.put, List.setIfInBounds_toArray, List.set_cons_zero, List.set_cons_succ])
                refine mv_step (fun K hK => ?_)
                go_simp
                refine (C0.out _).mono ?_
                rintro e w6 ⟨rfl, hb⟩
                have K3 := Lib.hid ((K2.out.bel (Below.refl _ _).drew).bel hb)
                clear hb c0 c1 f0 f1
                have hp := K3.out.k9
                obtain ⟨c0, f0⟩ := hp.one 0 rfl
                obtain ⟨c1, f1⟩ := hp.one 1 rfl
                clear hp
                go_wp2_with fail
                refine hK.out _ _ _ (fun u hu => hu) (⟨c0, c1⟩) ?_
                clear hK K
                refine mv_step (fun K hK => ?_)
                go_simp
                refine (C1.out _).mono ?_
                rintro e w7 ⟨rfl, hb⟩
                have K4 := Lib.hid (K3.out.bel hb)
                clear hb c0 c1 f0 f1
                have hp := K4.out.k9
                obtain ⟨c0, f0⟩ := hp.one 0 rfl
                obtain ⟨c1, f1⟩ := hp.one 1 rfl
                clear hp
                go_wp2_with fail
                refine hK.out _ _ _ (fun u hu => hu) (⟨c0, c1⟩) ?_
                clear hK K
                iterate 1
                  first
                    | (refine mv_free ?_ (Or.inl ⟨by rfl, ?_⟩) (⟨c0, c1⟩) ?_
                       rotate_left 1
                       · intro u
                         go_simp
                         try with_reducible rfl
                       simp only [Act.put, List.setIfInBounds_toArray, List.set_cons_zero, List.set_cons_succ])
                    | (refine mv_free _ (Or.inr ⟨by rfl, rfl⟩) (⟨c0, c1⟩) ?_
                       simp only [Act.put, List.setIfInBounds_toArray, List.set_cons_zero, List.set_cons_succ])
                have hz := K4.out.z1
                obtain ⟨d0, v0⟩ := hz.one 0 rfl
                obtain ⟨d1, v1⟩ := hz.one 1 rfl
                clear hz
                refine mv_late (fun K hK => ?_)
                go_simp
                refine hK.out (fun _ => True) _ _ ?_
                clear hK K
                refine mv_done ?_
                have K5 := K4.out.st1 (zBF Q)
                rw [show zBF Q 0 = spCa (Q 0) from by unfold zBF; rw [if_pos hQ]; rfl, show zBF Q 1 = spCa (Q 1) from by unfold zBF; rw [if_pos hQ]; rfl] at K5
                go_wp2_with fail
                go_meet
                case rel => exact Lib.hid K5
              · go_wp2_with fail
                go_meet
                case rel => exact Lib.hid (by rw [show zBF Q = z0F from by funext i; unfold zBF z0F; rw [if_neg (by omega)]]; exact K2.out)
          case rest =>
            as_aux_lemma =>
              have KH := hcut
              clear hcut K2
              go_upto_region 9 with (fail)
              go_cut [61] from 23 (fun s u => s = .bool (decide (M 0 ≤ M 1 ∧ T 0 ≤ T 1)) ∧ Hid (HkK Q P M T q9 q10 q11 q12 g off (zAF P) (zBF Q) z0F z0F e4 wa u))
              case first =>
                as_aux_lemma =>
                  have RM := fun u => lwright (M 0) (M 1) u
                  have RT := Lib.hid (fun u => lwright (T 0) (T 1) u)
                  have hp := KH.out.k11
                  obtain ⟨c0, f0⟩ := hp.one 0 rfl
                  obtain ⟨c1, f1⟩ := hp.one 1 rfl
                  clear hp
                  have hp := KH.out.k12
                  obtain ⟨d0, v0⟩ := hp.one 0 rfl
                  obtain ⟨d1, v1⟩ := hp.one 1 rfl
                  clear hp
                  by_cases hM : M 0 ≤ M 1
                  · rw [decide_eq_true hM] at RM
                    replace RM := Lib.hid RM
                    go_wp2_with fail
                    refine (RM.out _).mono ?_
                    rintro e w5 ⟨rfl, hb⟩
                    have K2 := Lib.hid (KH.out.bel hb)
                    clear hb KH
                    clear c0 c1 f0 f1 d0 d1 v0 v1
                    have hp := K2.out.k12
                    obtain ⟨d0, v0⟩ := hp.one 0 rfl
                    obtain ⟨d1, v1⟩ := hp.one 1 rfl
                    clear hp
                    go_wp2_with fail
                    refine (RT.out _).mono ?_
                    rintro e w6 ⟨rfl, hb⟩
                    have K3 := Lib.hid (K2.out.bel hb)
                    clear hb K2
                    go_wp2_with fail
                    go_meet
                    case rel => exact ⟨by simp [hM], K3⟩
                  · rw [decide_eq_false hM] at RM
                    replace RM := Lib.hid RM
                    go_wp2_with fail
                    refine (RM.out _).mono ?_
                    rintro e w5 ⟨rfl, hb⟩
                    have K2 := Lib.hid (KH.out.bel hb)
                    clear hb KH
                    clear c0 c1 f0 f1 d0 d1 v0 v1
                    go_wp2_with fail
                    go_meet
                    case rel => exact ⟨by rw [decide_eq_false (show ¬ (M 0 ≤ M 1 ∧ T 0 ≤ T 1) by omega)], K2⟩
              case rest =>
                as_aux_lemma =>
                  clear KH
                  obtain ⟨rfl, KH⟩ := hcut
                  go_upto_if 61 with (fail)
                  go_cut [] from 23 (fun u => Hid (HkK Q P M T q9 q10 q11 q12 g off (zAF P) (zBF Q) (zCF M T r) (zDF M T) e4 wa u))
                  case first =>
                    as_aux_lemma =>
                      by_cases hv : M 0 ≤ M 1 ∧ T 0 ≤ T 1
                      · have hd := decide_eq_true hv
                        simp only [hd]
                        clear hd
                        have hp := KH.out.k11
                        obtain ⟨c0, f0⟩ := hp.one 0 rfl
                        obtain ⟨c1, f1⟩ := hp.one 1 rfl
                        clear hp
                        have hp := KH.out.k12
                        obtain ⟨d0, v0⟩ := hp.one 0 rfl
                        obtain ⟨d1, v1⟩ := hp.one 1 rfl
                        clear hp
                        go_wp2_with fail
                        refine region_moves (fun u => u.cell? ⟨q12, 0, none⟩ = some (.int .i64 (T 0)) ∧ u.cell? ⟨q11, 1, none⟩ = some (.int .i64 (M 1)) ∧ u.cell? ⟨q12, 1, none⟩ = some (.int .i64 (T 1)) ∧ u.cell? ⟨q11, 0, none⟩ = some (.int .i64 (M 0))) [(13, [(12, 13), (11, 13), (0, 13), (1, 13), (2, 13), (3, 13), (4, 13), (5, 13), (6, 13), (7, 13), (8, 13), (9, 13), (10, 13)])] [(.free, 0), (.take, 1), (.free, 2), (.take, 3), (.free, 4), (.free, 6), (.take, 7), (.free, 8), (.take, 9), (.free, 10), (.step, 5), (.step, 11), (.free, 12), (.late, 13)] _ (by kernel_rfl) (by kernel_rfl) (by kernel_rfl) (by kernel_rfl) (by decide) rfl (fun _ _ _ _ _ h => h) ?_
                        simp only [List.filterMap_cons, List.filterMap_nil, List.getElem?_toArray, List.getElem?_cons_zero, List.getElem?_cons_succ, Option.map_some]
                        iterate 1
                          first
                            | (refine mv_free ?_ (Or.inl ⟨by rfl, ?_⟩) (⟨d0, c1, d1, c0⟩) ?_
                               rotate_left 1
                               · intro u
                                 go_simp
                                 try with_reducible rfl
                               simp only [Act.put, List.setIfInBounds_toArray, List.set_cons_zero, List.set_cons_succ])
                            | (refine mv_free _ (Or.inr ⟨by rfl, rfl⟩) (⟨d0, c1, d1, c0⟩) ?_
                               simp only [Act.put, List.setIfInBounds_toArray, List.set_cons_zero, List.set_cons_succ])
                        iterate 1
                          first
                            | (refine mv_take ?_ (Or.inl ⟨by rfl, ?_⟩) (⟨d0, c1, d1, c0⟩) ?_
                               rotate_left 1
                               · intro u hu
                                 (try dsimp only at hu)
                                 go_simp
                                 try with_reducible rfl
                               simp only [Act.put, List.setIfInBounds_toArray, List.set_cons_zero, List.set_cons_succ])
                            | (refine mv_take _ (Or.inr ⟨by rfl, rfl⟩) (⟨d0, c1, d1, c0⟩) ?_
                               simp only [Act.put, List.setIfInBounds_toArray, List.set_cons_zero, List.set_cons_succ])
                        iterate 1
                          first
                            | (refine mv_free ?_ (Or.inl ⟨by rfl, ?_⟩) (⟨d0, c1, d1, c0⟩) ?_
                               rotate_left 1
                               · intro u
                                 go_simp
                                 try with_reducible rfl
                               simp only [Act.put, List.setIfInBounds_toArray, List.set_cons_zero, List.set_cons_succ])
                            | (refine mv_free _ (Or.inr ⟨by rfl, rfl⟩) (⟨d0, c1, d1, c0⟩) ?_
                               simp only [Act.put, List.setIfInBounds_toArray, List.set_cons_zero, List.set_cons_succ])
                        iterate 1
                          first
                            | (refine mv_take ?_ (Or.inl ⟨by rfl, ?_⟩) (⟨d0, c1, d1, c0⟩) ?_
                               rotate_left 1
                               · intro u hu
                                 (try dsimp only at hu)
                                 go_simp
                                 try with_reducible rfl
                               simp only [Act.put, List.setIfInBounds_toArray, List.set_cons_zero, List.set_cons_succ])
                            | (refine mv_take _ (Or.inr ⟨by rfl, rfl⟩) (⟨d0, c1, d1, c0⟩) ?_
                               simp only [Act.put, List.setIfInBounds_toArray, List.set_cons_zero, List.set_cons_succ])
                        iterate 2
                          first
                            | (refine mv_free ?_ (Or.inl ⟨by rfl, ?_⟩) (⟨d0, c1, d1, c0⟩) ?_
                               rotate_left 1
                               · intro u
                                 go_simp
                                 try with_reducible rfl
                               simp only [Act.put, List.setIfInBounds_toArray, List.set_cons_zero, List.set_cons_succ])
                            | (refine mv_free _ (Or.inr ⟨by rfl, rfl⟩) (⟨d0, c1, d1, c0⟩) ?_
                               simp only [Act.put, List.setIfInBounds_toArray, List.set_cons_zero, List.set_cons_succ])
                        iterate 1
                          first
                            | (refine mv_take ?_ (Or.inl ⟨by rfl, ?_⟩) (⟨d0, c1, d1, c0⟩) ?_
                               rotate_left 1
                               · intro u hu
                                 (try dsimp only at hu)
                                 go_simp
                                 try with_reducible rfl
                               simp only [Act.put, List.setIfInBounds_toArray, List.set_cons_zero, List.set_cons_succ])
                            | (refine mv_take _ (Or.inr ⟨by rfl, rfl⟩) (⟨d0, c1, d1, c0⟩) ?_
                               simp only [Act.put, List.setIfInBounds_toArray, List.set_cons_zero, List.set_cons_succ])
                        iterate 1
                          first
                            | (refine mv_free ?_ (Or.inl ⟨by rfl, ?_⟩) (⟨d0, c1, d1, c0⟩) ?_
                               rotate_left 1
                               · intro u
                                 go_simp
                                 try with_reducible rfl
                               simp only [Act.put, List.setIfInBounds_toArray, List.set_cons_zero, List.set_cons_succ])
                            | (refine mv_free _ (Or.inr ⟨by rfl, rfl⟩) (⟨d0, c1, d1, c0⟩) ?_
                               simp only [Act.put, List.setIfInBounds_toArray, List.set_cons_zero, List.set_cons_succ])
                        iterate 1
                          first
                            | (refine mv_take ?_ (Or.inl ⟨by rfl, ?_⟩) (⟨d0, c1, d1, c0⟩) ?_
                               rotate_left 1
                               · intro u hu
                                 (try dsimp only at hu)
                                 go_simp
                                 try with_reducible rfl
                               simp only [Act.put, List.setIfInBounds_toArray, List.set_cons_zero, List.set_cons_succ])
                            | (refine mv_take _ (Or.inr ⟨by rfl, rfl⟩) (⟨d0, c1, d1, c0⟩) ?_
                               simp only [Act.put, List.setIfInBounds_toArray, List.set_cons_zero, List.set_cons_succ])
                        iterate 1
                          first
                            | (refine mv_free ?_ (Or.inl ⟨by rfl, ?_⟩) (⟨d0, c1, d1, c0⟩) ?_
                               rotate_left 1
                               · intro u
                                 go_simp
                                 try with_reducible rfl
                               simp only [Act.put, List.setIfInBounds_toArray, List.set_cons_zero, List.set_cons_succ])
                            | (refine mv_free _ (Or.inr ⟨by rfl, rfl⟩) (⟨d0, c1, d1, c0⟩) ?_
                               simp only [Act.put, List.setIfInBounds_toArray, List.set_cons_zero, List.set_cons_succ])
                        refine mv_step (fun K hK => ?_)
                        go_simp
                        refine (rstatic_any (T 0) (M 1) r _).mono ?_
                        rintro e w100 ⟨rfl, hb⟩
                        have Kx0 := Lib.hid ((KH.out.bel (Below.refl _ _).drew).bel hb)
                        clear hb
                        clear c0 c1 f0 f1 d0 d1 v0 v1
                        have hp := Kx0.out.k11
                        obtain ⟨c0, f0⟩ := hp.one 0 rfl
                        obtain ⟨c1, f1⟩ := hp.one 1 rfl
                        clear hp
                        have hp := Kx0.out.k12
                        obtain ⟨d0, v0⟩ := hp.one 0 rfl
                        obtain ⟨d1, v1⟩ := hp.one 1 rfl
                        clear hp
                        go_wp2_with fail
                        refine hK.out _ _ _ (fun u hu => hu) (⟨d0, c1, d1, c0⟩) ?_
                        clear hK K
                        refine mv_step (fun K hK => ?_)
                        go_simp
                        refine (rstatic_any (T 1) (M 0) r _).mono ?_
                        rintro e w101 ⟨rfl, hb⟩
                        have Kx1 := Lib.hid (Kx0.out.bel hb)
                        clear hb
                        clear c0 c1 f0 f1 d0 d1 v0 v1
                        have hp := Kx1.out.k11
                        obtain ⟨c0, f0⟩ := hp.one 0 rfl
                        obtain ⟨c1, f1⟩ := hp.one 1 rfl
                        clear hp
                        have hp := Kx1.out.k12
                        obtain ⟨d0, v0⟩ := hp.one 0 rfl
                        obtain ⟨d1, v1⟩ := hp.one 1 rfl
                        clear hp
                        go_wp2_with fail
                        refine hK.out _ _ _ (fun u hu => hu) (⟨d0, c1, d1, c0⟩) ?_
                        clear hK K
                        iterate 1
                          first
                            | (refine mv_free ?_ (Or.inl ⟨by rfl, ?_⟩) (⟨d0, c1, d1, c0⟩) ?_
                               rotate_left 1
                               · intro u
                                 go_simp
                                 try with_reducible rfl
                               simp only [Act.put, List.setIfInBounds_toArray, List.set_cons_zero, List.set_cons_succ])
                            | (refine mv_free _ (Or.inr ⟨by rfl, rfl⟩) (⟨d0, c1, d1, c0⟩) ?_
                               simp only [Act.put, List.setIfInBounds_toArray, List.set_cons_zero, List.set_cons_succ])
                        have hz := Kx1.out.z2
                        obtain ⟨x0, y0⟩ := hz.one 0 rfl
                        obtain ⟨x1, y1⟩ := hz.one 1 rfl
                        clear hz
                        refine mv_late (fun K hK => ?_)
                        go_simp
                        refine hK.out (fun _ => True) _ _ ?_
                        clear hK K
                        refine mv_done ?_
                        have KN := Kx1.out.st2 (zCF M T r)
                        rw [show zCF M T r 0 = htS (T 0) (M 1) r from by unfold zCF; rw [if_pos hv]; rfl, show zCF M T r 1 = htS (T 1) (M 0) r from by unfold zCF; rw [if_pos hv]; rfl] at KN
                        have K4 := Lib.hid KN
                        clear KN Kx1 x0 x1 y0 y1
                        clear c0 c1 f0 f1 d0 d1 v0 v1
                        generalize ((w101.setCell ⟨e4 + 1 + 1, 0, none⟩ (.int .i64 (htS (T 0) (M 1) r))).setCell ⟨e4 + 1 + 1, 1, none⟩ (.int .i64 (htS (T 1) (M 0) r))) = w4 at *
                        have hp := K4.out.k11
                        obtain ⟨c0, f0⟩ := hp.one 0 rfl
                        obtain ⟨c1, f1⟩ := hp.one 1 rfl
                        clear hp
                        have hp := K4.out.k12
                        obtain ⟨d0, v0⟩ := hp.one 0 rfl
                        obtain ⟨d1, v1⟩ := hp.one 1 rfl
                        clear hp
                        go_wp2_with fail
                        refine region_moves (fun u => u.cell? ⟨q11, 0, none⟩ = some (.int .i64 (M 0)) ∧ u.cell? ⟨q12, 0, none⟩ = some (.int .i64 (T 0)) ∧ u.cell? ⟨q11, 1, none⟩ = some (.int .i64 (M 1)) ∧ u.cell? ⟨q12, 1, none⟩ = some (.int .i64 (T 1))) [(11, [(10, 11), (9, 11), (0, 11), (1, 11), (2, 11), (3, 11), (4, 11), (5, 11), (6, 11), (7, 11), (8, 11)])] [(.free, 0), (.take, 1), (.free, 2), (.take, 3), (.free, 5), (.take, 6), (.free, 7), (.take, 8), (.step, 4), (.step, 9), (.free, 10), (.late, 11)] _ (by kernel_rfl) (by kernel_rfl) (by kernel_rfl) (by kernel_rfl) (by decide) rfl (fun _ _ _ _ _ h => h) ?_
                        simp only [List.filterMap_cons, List.filterMap_nil, List.getElem?_toArray, List.getElem?_cons_zero, List.getElem?_cons_succ, Option.map_some]
                        iterate 1
                          first
                            | (refine mv_free ?_ (Or.inl ⟨by rfl, ?_⟩) (⟨c0, d0, c1, d1⟩) ?_
                               rotate_left 1
                               · intro u
                                 go_simp
                                 try with_reducible rfl
                               simp only [Act.put, List.setIfInBounds_toArray, List.set_cons_zero, List.set_cons_succ])
                            | (refine mv_free _ (Or.inr ⟨by rfl, rfl⟩) (⟨c0, d0, c1, d1⟩) ?_
                               simp only [Act.put, List.setIfInBounds_toArray, List.set_cons_zero, List.set_cons_succ])
                        iterate 1
                          first
                            | (refine mv_take ?_ (Or.inl ⟨by rfl, ?_⟩) (⟨c0, d0, c1, d1⟩) ?_
                               rotate_left 1
                               · intro u hu
                                 (try dsimp only at hu)
                                 go_simp
                                 try with_reducible rfl
                               simp only [Act.put, List.setIfInBounds_toArray, List.set_cons_zero, List.set_cons_succ])
                            | (refine mv_take _ (Or.inr ⟨by rfl, rfl⟩) (⟨c0, d0, c1, d1⟩) ?_
                               simp only [Act.put, List.setIfInBounds_toArray, List.set_cons_zero, List.set_cons_succ])
                        iterate 1
                          first
                            | (refine mv_free ?_ (Or.inl ⟨by rfl, ?_⟩) (⟨c0, d0, c1, d1⟩) ?_
                               rotate_left 1
                               · intro u
                                 go_simp
                                 try with_reducible rfl
                               simp only [Act.put, List.setIfInBounds_toArray, List.set_cons_zero, List.set_cons_succ])
                            | (refine mv_free _ (Or.inr ⟨by rfl, rfl⟩) (⟨c0, d0, c1, d1⟩) ?_
                               simp only [Act.put, List.setIfInBounds_toArray, List.set_cons_zero, List.set_cons_succ])
                        iterate 1
                          first
                            | (refine mv_take ?_ (Or.inl ⟨by rfl, ?_⟩) (⟨c0, d0, c1, d1⟩) ?_
                               rotate_left 1
                               · intro u hu
                                 (try dsimp only at hu)
                                 go_simp
                                 try with_reducible rfl
                               simp only [Act.put, List.setIfInBounds_toArray, List.set_cons_zero, List.set_cons_succ])
                            | (refine mv_take _ (Or.inr ⟨by rfl, rfl⟩) (⟨c0, d0, c1, d1⟩) ?_
                               simp only [Act.put, List.setIfInBounds_toArray, List.set_cons_zero, List.set_cons_succ])
                        iterate 1
                          first
                            | (refine mv_free ?_ (Or.inl ⟨by rfl, ?_⟩) (⟨c0, d0, c1, d1⟩) ?_
                               rotate_left 1
                               · intro u
                                 go_simp
                                 try with_reducible rfl
                               simp only [Act.put, List.setIfInBounds_toArray, List.set_cons_zero, List.set_cons_succ])
                            | (refine mv_free _ (Or.inr ⟨by rfl, rfl⟩) (⟨c0, d0, c1, d1⟩) ?_
                               simp only [Act.put, List.setIfInBounds_toArray, List.set_cons_zero, List.set_cons_succ])
                        iterate 1
                          first
                            | (refine mv_take ?_ (Or.inl ⟨by rfl, ?_⟩) (⟨c0, d0, c1, d1⟩) ?_
                               rotate_left 1
                               · intro u hu
                                 (try dsimp only at hu)
                                 go_simp
                                 try with_reducible rfl
                               simp only [Act.put, List.setIfInBounds_toArray, List.set_cons_zero, List.set_cons_succ])
                            | (refine mv_take _ (Or.inr ⟨by rfl, rfl⟩) (⟨c0, d0, c1, d1⟩) ?_
                               simp only [Act.put, List.setIfInBounds_toArray, List.set_cons_zero, List.set_cons_succ])
                        iterate 1
                          first
                            | (refine mv_free ?_ (Or.inl ⟨by rfl, ?_⟩) (⟨c0, d0, c1, d1⟩) ?_
                               rotate_left 1
                               · intro u
                                 go_simp
                                 try with_reducible rfl
                               simp only [Act.put, List.setIfInBounds_toArray, List.set_cons_zero, List.set_cons_succ])
                            | (refine mv_free _ (Or.inr ⟨by rfl, rfl⟩) (⟨c0, d0, c1, d1⟩) ?_
                               simp only [Act.put, List.setIfInBounds_toArray, List.set_cons_zero, List.set_cons_succ])
                        iterate 1
                          first
                            | (refine mv_take ?_ (Or.inl ⟨by rfl, ?_⟩) (⟨c0, d0, c1, d1⟩) ?_
                               rotate_left 1
                               · intro u hu
                                 (try dsimp only at hu)
                                 go_simp
                                 try with_reducible rfl
                               simp only [Act.put, List.setIfInBounds_toArray, List.set_cons_zero, List.set_cons_succ])
                            | (refine mv_take _ (Or.inr ⟨by rfl, rfl⟩) (⟨c0, d0, c1, d1⟩) ?_
                               simp only [Act.put, List.setIfInBounds_toArray, List.set_cons_zero, List.set_cons_succ])
                        refine mv_step (fun K hK => ?_)
                        go_simp
                        refine (rtrue_any (M 0) (T 0) _).mono ?_
                        rintro e w110 ⟨rfl, hw⟩
                        subst w110
                        have K4x0 := Lib.hid (K4.out.bel (Below.refl _ _).drew)
                        clear c0 c1 f0 f1 d0 d1 v0 v1
                        have hp := K4x0.out.k11
                        obtain ⟨c0, f0⟩ := hp.one 0 rfl
                        obtain ⟨c1, f1⟩ := hp.one 1 rfl
                        clear hp
                        have hp := K4x0.out.k12
                        obtain ⟨d0, v0⟩ := hp.one 0 rfl
                        obtain ⟨d1, v1⟩ := hp.one 1 rfl
                        clear hp
                        go_wp2_with fail
                        refine hK.out _ _ _ (fun u hu => hu) (⟨c0, d0, c1, d1⟩) ?_
                        clear hK K
                        refine mv_step (fun K hK => ?_)
                        go_simp
                        refine (rtrue_any (M 1) (T 1) _).mono ?_
                        rintro e w111 ⟨rfl, hw⟩
                        subst w111
                        have K4x1 := Lib.hid (K4x0.out)
                        clear c0 c1 f0 f1 d0 d1 v0 v1
                        have hp := K4x1.out.k11
                        obtain ⟨c0, f0⟩ := hp.one 0 rfl
                        obtain ⟨c1, f1⟩ := hp.one 1 rfl
                        clear hp
                        have hp := K4x1.out.k12
                        obtain ⟨d0, v0⟩ := hp.one 0 rfl
                        obtain ⟨d1, v1⟩ := hp.one 1 rfl
                        clear hp
                        go_wp2_with fail
                        refine hK.out _ _ _ (fun u hu => hu) (⟨c0, d0, c1, d1⟩) ?_
                        clear hK K
                        iterate 1
                          first
                            | (refine mv_free ?_ (Or.inl ⟨by rfl, ?_⟩) (⟨c0, d0, c1, d1⟩) ?_
                               rotate_left 1
                               · intro u
                                 go_simp
                                 try with_reducible rfl
                               simp only [Act.put, List.setIfInBounds_toArray, List.set_cons_zero, List.set_cons_succ])
                            | (refine mv_free _ (Or.inr ⟨by rfl, rfl⟩) (⟨c0, d0, c1, d1⟩) ?_
                               simp only [Act.put, List.setIfInBounds_toArray, List.set_cons_zero, List.set_cons_succ])
                        have hz := K4x1.out.z3
                        obtain ⟨x0, y0⟩ := hz.one 0 rfl
                        obtain ⟨x1, y1⟩ := hz.one 1 rfl
                        clear hz
                        have hz := K4.out.z3
                        obtain ⟨xx0, yy0⟩ := hz.one 0 rfl
                        obtain ⟨xx1, yy1⟩ := hz.one 1 rfl
                        clear hz
                        refine mv_late (fun K hK => ?_)
                        go_simp
                        refine hK.out (fun _ => True) _ _ ?_
                        clear hK K
                        refine mv_done ?_
                        have KN := K4x1.out.st3 (zDF M T)
                        rw [show zDF M T 0 = spTr (M 0) (T 0) from by unfold zDF; rw [if_pos hv]; rfl, show zDF M T 1 = spTr (M 1) (T 1) from by unfold zDF; rw [if_pos hv]; rfl] at KN
                        have K5 := Lib.hid KN
                        clear KN K4x1 x0 x1 y0 y1 xx0 xx1 yy0 yy1
                        clear c0 c1 f0 f1 d0 d1 v0 v1
                        go_wp2_with fail
                        go_meet
                        case rel => exact K5
                      · have hd := decide_eq_false hv
                        simp only [hd]
                        go_wp2_with fail
                        go_meet
                        case rel => exact Lib.hid (by rw [show zCF M T r = z0F from by funext i; unfold zCF z0F; rw [if_neg hv], show zDF M T = z0F from by funext i; unfold zDF z0F; rw [if_neg hv]]; exact KH.out)
                  case rest =>
                    as_aux_lemma =>
                      clear KH
                      have KH := hcut
                      clear hcut
                      have es : wa.heap.size = w.heap.size + 1 + 1 := by have := HS.out; omega
                      have HE := fun u (m : AirW wa u) => he_all P wa u m
                      rw [es] at HE
                      replace HE := Lib.hid HE
                      have ES := Lib.hid es
                      clear es
                      have SE := Lib.hid (fun u => se_all Q (gQ 0 (by omega)) (gQ 1 (by omega)) u)
                      have TE := Lib.hid (fun u => te_all M T r u)
                      have TR := Lib.hid (fun u => tr_all M T u)
                      have FIN := Lib.hid (fun u (k : HkK Q P M T q9 q10 q11 q12 g off (zAF P) (zBF Q) (zCF M T r) (zDF M T) e4 wa u) => show Below w.heap.size w u from hbw.out.trans (k.aw.b.mono hbw.out.size))
                      go_upto_region 12 with (fail)
                      go_cut [110] from 23 (fun s u => s = .bool false ∧ Hid (HkK Q P M T q9 q10 q11 q12 g off (zAF P) (zBF Q) (zCF M T r) (zDF M T) e4 wa u))
                      case first =>
                        as_aux_lemma =>
                          have hp := KH.out.k9
                          obtain ⟨ca0, fa0⟩ := hp.one 0 rfl
                          obtain ⟨ca1, fa1⟩ := hp.one 1 rfl
                          clear hp
                          have hp := KH.out.k10
                          obtain ⟨cb0, fb0⟩ := hp.one 0 rfl
                          obtain ⟨cb1, fb1⟩ := hp.one 1 rfl
                          clear hp
                          have hp := KH.out.k11
                          obtain ⟨cc0, fc0⟩ := hp.one 0 rfl
                          obtain ⟨cc1, fc1⟩ := hp.one 1 rfl
                          clear hp
                          have hp := KH.out.k12
                          obtain ⟨cd0, fd0⟩ := hp.one 0 rfl
                          obtain ⟨cd1, fd1⟩ := hp.one 1 rfl
                          clear hp
                          have hp := KH.out.z0
                          obtain ⟨ce0, fe0⟩ := hp.one 0 rfl
                          obtain ⟨ce1, fe1⟩ := hp.one 1 rfl
                          clear hp
                          have hp := KH.out.z1
                          obtain ⟨cf0, ff0⟩ := hp.one 0 rfl
                          obtain ⟨cf1, ff1⟩ := hp.one 1 rfl
                          clear hp
                          have hp := KH.out.z2
                          obtain ⟨cg0, fg0⟩ := hp.one 0 rfl
                          obtain ⟨cg1, fg1⟩ := hp.one 1 rfl
                          clear hp
                          have hp := KH.out.z3
                          obtain ⟨ch0, fh0⟩ := hp.one 0 rfl
                          obtain ⟨ch1, fh1⟩ := hp.one 1 rfl
                          clear hp
                          refine region_moves (fun u => u.cell? ⟨q9, 0, none⟩ = some (.int .i64 (Q 0)) ∧ u.cell? ⟨q9, 1, none⟩ = some (.int .i64 (Q 1)) ∧ u.cell? ⟨q10, 0, none⟩ = some (.int .i64 (P 0)) ∧ u.cell? ⟨q10, 1, none⟩ = some (.int .i64 (P 1)) ∧ u.cell? ⟨q11, 0, none⟩ = some (.int .i64 (M 0)) ∧ u.cell? ⟨q11, 1, none⟩ = some (.int .i64 (M 1)) ∧ u.cell? ⟨q12, 0, none⟩ = some (.int .i64 (T 0)) ∧ u.cell? ⟨q12, 1, none⟩ = some (.int .i64 (T 1)) ∧ u.cell? ⟨e4, 0, none⟩ = some (.int .i64 (zAF P 0)) ∧ u.cell? ⟨e4, 1, none⟩ = some (.int .i64 (zAF P 1)) ∧ u.cell? ⟨e4 + 1, 0, none⟩ = some (.int .i64 (zBF Q 0)) ∧ u.cell? ⟨e4 + 1, 1, none⟩ = some (.int .i64 (zBF Q 1)) ∧ u.cell? ⟨e4 + 1 + 1, 0, none⟩ = some (.int .i64 (zCF M T r 0)) ∧ u.cell? ⟨e4 + 1 + 1, 1, none⟩ = some (.int .i64 (zCF M T r 1)) ∧ u.cell? ⟨e4 + 1 + 1 + 1, 0, none⟩ = some (.int .i64 (zDF M T 0)) ∧ u.cell? ⟨e4 + 1 + 1 + 1, 1, none⟩ = some (.int .i64 (zDF M T 1))) [] [(.take, 0), (.take, 2), (.step, 1), (.free, 3), (.free, 4), (.take, 5), (.take, 7), (.step, 6), (.free, 8), (.free, 9), (.free, 10), (.take, 11), (.take, 12), (.free, 13), (.take, 15), (.step, 14), (.free, 16), (.free, 17), (.free, 18), (.take, 19), (.take, 20), (.take, 22), (.step, 21), (.free, 23), (.free, 24)] _ (by kernel_rfl) (by kernel_rfl) (by kernel_rfl) (by kernel_rfl) (by decide) rfl (fun _ _ _ _ _ h => h) ?_
                          simp only [List.filterMap_cons, List.filterMap_nil, List.getElem?_toArray, List.getElem?_cons_zero, List.getElem?_cons_succ, Option.map_some]
                          iterate 2
                            first
                              | (refine mv_take ?_ (Or.inl ⟨by rfl, ?_⟩) (⟨ca0, ca1, cb0, cb1, cc0, cc1, cd0, cd1, ce0, ce1, cf0, cf1, cg0, cg1, ch0, ch1⟩) ?_
                                 rotate_left 1
                                 · intro u hu
                                   (try dsimp only at hu)
                                   go_simp
                                   try with_reducible rfl
                                 simp only [Act.put, List.setIfInBounds_toArray, List.set_cons_zero, List.set_cons_succ])
                              | (refine mv_take _ (Or.inr ⟨by rfl, rfl⟩) (⟨ca0, ca1, cb0, cb1, cc0, cc1, cd0, cd1, ce0, ce1, cf0, cf1, cg0, cg1, ch0, ch1⟩) ?_
                                 simp only [Act.put, List.setIfInBounds_toArray, List.set_cons_zero, List.set_cons_succ])
                          refine mv_step (fun K hK => ?_)
                          go_simp
                          refine (HE.out _ KH.out.aw.drew).mono ?_
                          rintro e w200 ⟨rfl, hm, hbs⟩
                          have Ka := Lib.hid ((KH.out.bel (Below.refl _ _).drew).air hm (by rw [ES.out]; exact hbs))
                          clear hm hbs KH
                          clear ca0 ca1 fa0 fa1 cb0 cb1 fb0 fb1 cc0 cc1 fc0 fc1 cd0 cd1 fd0 fd1 ce0 ce1 fe0 fe1 cf0 cf1 ff0 ff1 cg0 cg1 fg0 fg1 ch0 ch1 fh0 fh1
                          have hp := Ka.out.k9
                          obtain ⟨ca0, fa0⟩ := hp.one 0 rfl
                          obtain ⟨ca1, fa1⟩ := hp.one 1 rfl
                          clear hp
                          have hp := Ka.out.k10
                          obtain ⟨cb0, fb0⟩ := hp.one 0 rfl
                          obtain ⟨cb1, fb1⟩ := hp.one 1 rfl
                          clear hp
                          have hp := Ka.out.k11
                          obtain ⟨cc0, fc0⟩ := hp.one 0 rfl
                          obtain ⟨cc1, fc1⟩ := hp.one 1 rfl
                          clear hp
                          have hp := Ka.out.k12
                          obtain ⟨cd0, fd0⟩ := hp.one 0 rfl
                          obtain ⟨cd1, fd1⟩ := hp.one 1 rfl
                          clear hp
                          have hp := Ka.out.z0
                          obtain ⟨ce0, fe0⟩ := hp.one 0 rfl
                          obtain ⟨ce1, fe1⟩ := hp.one 1 rfl
                          clear hp
                          have hp := Ka.out.z1
                          obtain ⟨cf0, ff0⟩ := hp.one 0 rfl
                          obtain ⟨cf1, ff1⟩ := hp.one 1 rfl
                          clear hp
                          have hp := Ka.out.z2
                          obtain ⟨cg0, fg0⟩ := hp.one 0 rfl
                          obtain ⟨cg1, fg1⟩ := hp.one 1 rfl
                          clear hp
                          have hp := Ka.out.z3
                          obtain ⟨ch0, fh0⟩ := hp.one 0 rfl
                          obtain ⟨ch1, fh1⟩ := hp.one 1 rfl
                          clear hp
                          go_wp2_with fail
                          refine hK.out _ _ _ (fun u hu => hu) (⟨ca0, ca1, cb0, cb1, cc0, cc1, cd0, cd1, ce0, ce1, cf0, cf1, cg0, cg1, ch0, ch1⟩) ?_
                          clear hK K
                          iterate 2
                            first
                              | (refine mv_free ?_ (Or.inl ⟨by rfl, ?_⟩) (⟨ca0, ca1, cb0, cb1, cc0, cc1, cd0, cd1, ce0, ce1, cf0, cf1, cg0, cg1, ch0, ch1⟩) ?_
                                 rotate_left 1
                                 · intro u
                                   go_simp
                                   try with_reducible rfl
                                 simp only [Act.put, List.setIfInBounds_toArray, List.set_cons_zero, List.set_cons_succ])
                              | (refine mv_free _ (Or.inr ⟨by rfl, rfl⟩) (⟨ca0, ca1, cb0, cb1, cc0, cc1, cd0, cd1, ce0, ce1, cf0, cf1, cg0, cg1, ch0, ch1⟩) ?_
                                 simp only [Act.put, List.setIfInBounds_toArray, List.set_cons_zero, List.set_cons_succ])
                          iterate 2
                            first
                              | (refine mv_take ?_ (Or.inl ⟨by rfl, ?_⟩) (⟨ca0, ca1, cb0, cb1, cc0, cc1, cd0, cd1, ce0, ce1, cf0, cf1, cg0, cg1, ch0, ch1⟩) ?_
                                 rotate_left 1
                                 · intro u hu
                                   (try dsimp only at hu)
                                   go_simp
                                   try with_reducible rfl
                                 simp only [Act.put, List.setIfInBounds_toArray, List.set_cons_zero, List.set_cons_succ])
                              | (refine mv_take _ (Or.inr ⟨by rfl, rfl⟩) (⟨ca0, ca1, cb0, cb1, cc0, cc1, cd0, cd1, ce0, ce1, cf0, cf1, cg0, cg1, ch0, ch1⟩) ?_
                                 simp only [Act.put, List.setIfInBounds_toArray, List.set_cons_zero, List.set_cons_succ])
                          refine mv_step (fun K hK => ?_)
                          go_simp
                          refine (SE.out _).mono ?_
                          rintro e w201 ⟨rfl, hb⟩
                          have Kb := Lib.hid (Ka.out.bel hb)
                          clear hb Ka
                          clear ca0 ca1 fa0 fa1 cb0 cb1 fb0 fb1 cc0 cc1 fc0 fc1 cd0 cd1 fd0 fd1 ce0 ce1 fe0 fe1 cf0 cf1 ff0 ff1 cg0 cg1 fg0 fg1 ch0 ch1 fh0 fh1
                          have hp := Kb.out.k9
                          obtain ⟨ca0, fa0⟩ := hp.one 0 rfl
                          obtain ⟨ca1, fa1⟩ := hp.one 1 rfl
                          clear hp
                          have hp := Kb.out.k10
                          obtain ⟨cb0, fb0⟩ := hp.one 0 rfl
                          obtain ⟨cb1, fb1⟩ := hp.one 1 rfl
                          clear hp
                          have hp := Kb.out.k11
                          obtain ⟨cc0, fc0⟩ := hp.one 0 rfl
                          obtain ⟨cc1, fc1⟩ := hp.one 1 rfl
                          clear hp
                          have hp := Kb.out.k12
                          obtain ⟨cd0, fd0⟩ := hp.one 0 rfl
                          obtain ⟨cd1, fd1⟩ := hp.one 1 rfl
                          clear hp
                          have hp := Kb.out.z0
                          obtain ⟨ce0, fe0⟩ := hp.one 0 rfl
                          obtain ⟨ce1, fe1⟩ := hp.one 1 rfl
                          clear hp
                          have hp := Kb.out.z1
                          obtain ⟨cf0, ff0⟩ := hp.one 0 rfl
                          obtain ⟨cf1, ff1⟩ := hp.one 1 rfl
                          clear hp
                          have hp := Kb.out.z2
                          obtain ⟨cg0, fg0⟩ := hp.one 0 rfl
                          obtain ⟨cg1, fg1⟩ := hp.one 1 rfl
                          clear hp
                          have hp := Kb.out.z3
                          obtain ⟨ch0, fh0⟩ := hp.one 0 rfl
                          obtain ⟨ch1, fh1⟩ := hp.one 1 rfl
                          clear hp
                          go_wp2_with fail
                          refine hK.out _ _ _ (fun u hu => hu) (⟨ca0, ca1, cb0, cb1, cc0, cc1, cd0, cd1, ce0, ce1, cf0, cf1, cg0, cg1, ch0, ch1⟩) ?_
                          clear hK K
                          iterate 3
                            first
                              | (refine mv_free ?_ (Or.inl ⟨by rfl, ?_⟩) (⟨ca0, ca1, cb0, cb1, cc0, cc1, cd0, cd1, ce0, ce1, cf0, cf1, cg0, cg1, ch0, ch1⟩) ?_
                                 rotate_left 1
                                 · intro u
                                   go_simp
                                   try with_reducible rfl
                                 simp only [Act.put, List.setIfInBounds_toArray, List.set_cons_zero, List.set_cons_succ])
                              | (refine mv_free _ (Or.inr ⟨by rfl, rfl⟩) (⟨ca0, ca1, cb0, cb1, cc0, cc1, cd0, cd1, ce0, ce1, cf0, cf1, cg0, cg1, ch0, ch1⟩) ?_
                                 simp only [Act.put, List.setIfInBounds_toArray, List.set_cons_zero, List.set_cons_succ])
                          iterate 2
                            first
                              | (refine mv_take ?_ (Or.inl ⟨by rfl, ?_⟩) (⟨ca0, ca1, cb0, cb1, cc0, cc1, cd0, cd1, ce0, ce1, cf0, cf1, cg0, cg1, ch0, ch1⟩) ?_
                                 rotate_left 1
                                 · intro u hu
                                   (try dsimp only at hu)
                                   go_simp
                                   try with_reducible rfl
                                 simp only [Act.put, List.setIfInBounds_toArray, List.set_cons_zero, List.set_cons_succ])
                              | (refine mv_take _ (Or.inr ⟨by rfl, rfl⟩) (⟨ca0, ca1, cb0, cb1, cc0, cc1, cd0, cd1, ce0, ce1, cf0, cf1, cg0, cg1, ch0, ch1⟩) ?_
                                 simp only [Act.put, List.setIfInBounds_toArray, List.set_cons_zero, List.set_cons_succ])
                          iterate 1
                            first
                              | (refine mv_free ?_ (Or.inl ⟨by rfl, ?_⟩) (⟨ca0, ca1, cb0, cb1, cc0, cc1, cd0, cd1, ce0, ce1, cf0, cf1, cg0, cg1, ch0, ch1⟩) ?_
                                 rotate_left 1
                                 · intro u
                                   go_simp
                                   try with_reducible rfl
                                 simp only [Act.put, List.setIfInBounds_toArray, List.set_cons_zero, List.set_cons_succ])
                              | (refine mv_free _ (Or.inr ⟨by rfl, rfl⟩) (⟨ca0, ca1, cb0, cb1, cc0, cc1, cd0, cd1, ce0, ce1, cf0, cf1, cg0, cg1, ch0, ch1⟩) ?_
                                 simp only [Act.put, List.setIfInBounds_toArray, List.set_cons_zero, List.set_cons_succ])
                          iterate 1
                            first
                              | (refine mv_take ?_ (Or.inl ⟨by rfl, ?_⟩) (⟨ca0, ca1, cb0, cb1, cc0, cc1, cd0, cd1, ce0, ce1, cf0, cf1, cg0, cg1, ch0, ch1⟩) ?_
                                 rotate_left 1
                                 · intro u hu
                                   (try dsimp only at hu)
                                   go_simp
                                   try with_reducible rfl
                                 simp only [Act.put, List.setIfInBounds_toArray, List.set_cons_zero, List.set_cons_succ])
                              | (refine mv_take _ (Or.inr ⟨by rfl, rfl⟩) (⟨ca0, ca1, cb0, cb1, cc0, cc1, cd0, cd1, ce0, ce1, cf0, cf1, cg0, cg1, ch0, ch1⟩) ?_
                                 simp only [Act.put, List.setIfInBounds_toArray, List.set_cons_zero, List.set_cons_succ])
                          refine mv_step (fun K hK => ?_)
                          go_simp
                          refine (TE.out _).mono ?_
                          rintro e w202 ⟨rfl, hb⟩
                          have Kc := Lib.hid (Kb.out.bel hb)
                          clear hb Kb
                          clear ca0 ca1 fa0 fa1 cb0 cb1 fb0 fb1 cc0 cc1 fc0 fc1 cd0 cd1 fd0 fd1 ce0 ce1 fe0 fe1 cf0 cf1 ff0 ff1 cg0 cg1 fg0 fg1 ch0 ch1 fh0 fh1
                          have hp := Kc.out.k9
                          obtain ⟨ca0, fa0⟩ := hp.one 0 rfl
                          obtain ⟨ca1, fa1⟩ := hp.one 1 rfl
                          clear hp
                          have hp := Kc.out.k10
                          obtain ⟨cb0, fb0⟩ := hp.one 0 rfl
                          obtain ⟨cb1, fb1⟩ := hp.one 1 rfl
                          clear hp
                          have hp := Kc.out.k11
                          obtain ⟨cc0, fc0⟩ := hp.one 0 rfl
                          obtain ⟨cc1, fc1⟩ := hp.one 1 rfl
                          clear hp
                          have hp := Kc.out.k12
                          obtain ⟨cd0, fd0⟩ := hp.one 0 rfl
                          obtain ⟨cd1, fd1⟩ := hp.one 1 rfl
                          clear hp
                          have hp := Kc.out.z0
                          obtain ⟨ce0, fe0⟩ := hp.one 0 rfl
                          obtain ⟨ce1, fe1⟩ := hp.one 1 rfl
                          clear hp
                          have hp := Kc.out.z1
                          obtain ⟨cf0, ff0⟩ := hp.one 0 rfl
                          obtain ⟨cf1, ff1⟩ := hp.one 1 rfl
                          clear hp
                          have hp := Kc.out.z2
                          obtain ⟨cg0, fg0⟩ := hp.one 0 rfl
                          obtain ⟨cg1, fg1⟩ := hp.one 1 rfl
                          clear hp
                          have hp := Kc.out.z3
                          obtain ⟨ch0, fh0⟩ := hp.one 0 rfl
                          obtain ⟨ch1, fh1⟩ := hp.one 1 rfl
                          clear hp
                          go_wp2_with fail
                          refine hK.out _ _ _ (fun u hu => hu) (⟨ca0, ca1, cb0, cb1, cc0, cc1, cd0, cd1, ce0, ce1, cf0, cf1, cg0, cg1, ch0, ch1⟩) ?_
                          clear hK K
                          iterate 3
                            first
                              | (refine mv_free ?_ (Or.inl ⟨by rfl, ?_⟩) (⟨ca0, ca1, cb0, cb1, cc0, cc1, cd0, cd1, ce0, ce1, cf0, cf1, cg0, cg1, ch0, ch1⟩) ?_
                                 rotate_left 1
                                 · intro u
                                   go_simp
                                   try with_reducible rfl
                                 simp only [Act.put, List.setIfInBounds_toArray, List.set_cons_zero, List.set_cons_succ])
                              | (refine mv_free _ (Or.inr ⟨by rfl, rfl⟩) (⟨ca0, ca1, cb0, cb1, cc0, cc1, cd0, cd1, ce0, ce1, cf0, cf1, cg0, cg1, ch0, ch1⟩) ?_
                                 simp only [Act.put, List.setIfInBounds_toArray, List.set_cons_zero, List.set_cons_succ])
                          iterate 3
                            first
                              | (refine mv_take ?_ (Or.inl ⟨by rfl, ?_⟩) (⟨ca0, ca1, cb0, cb1, cc0, cc1, cd0, cd1, ce0, ce1, cf0, cf1, cg0, cg1, ch0, ch1⟩) ?_
                                 rotate_left 1
                                 · intro u hu
                                   (try dsimp only at hu)
                                   go_simp
                                   try with_reducible rfl
                                 simp only [Act.put, List.setIfInBounds_toArray, List.set_cons_zero, List.set_cons_succ])
                              | (refine mv_take _ (Or.inr ⟨by rfl, rfl⟩) (⟨ca0, ca1, cb0, cb1, cc0, cc1, cd0, cd1, ce0, ce1, cf0, cf1, cg0, cg1, ch0, ch1⟩) ?_
                                 simp only [Act.put, List.setIfInBounds_toArray, List.set_cons_zero, List.set_cons_succ])
                          refine mv_step (fun K hK => ?_)
                          go_simp
                          refine (TR.out _).mono ?_
                          rintro e w203 ⟨rfl, hb⟩
                          have Kd := Lib.hid (Kc.out.bel hb)
                          clear hb Kc
                          clear ca0 ca1 fa0 fa1 cb0 cb1 fb0 fb1 cc0 cc1 fc0 fc1 cd0 cd1 fd0 fd1 ce0 ce1 fe0 fe1 cf0 cf1 ff0 ff1 cg0 cg1 fg0 fg1 ch0 ch1 fh0 fh1
                          have hp := Kd.out.k9
                          obtain ⟨ca0, fa0⟩ := hp.one 0 rfl
                          obtain ⟨ca1, fa1⟩ := hp.one 1 rfl
                          clear hp
                          have hp := Kd.out.k10
                          obtain ⟨cb0, fb0⟩ := hp.one 0 rfl
                          obtain ⟨cb1, fb1⟩ := hp.one 1 rfl
                          clear hp
                          have hp := Kd.out.k11
                          obtain ⟨cc0, fc0⟩ := hp.one 0 rfl
                          obtain ⟨cc1, fc1⟩ := hp.one 1 rfl
                          clear hp
                          have hp := Kd.out.k12
                          obtain ⟨cd0, fd0⟩ := hp.one 0 rfl
                          obtain ⟨cd1, fd1⟩ := hp.one 1 rfl
                          clear hp
                          have hp := Kd.out.z0
                          obtain ⟨ce0, fe0⟩ := hp.one 0 rfl
                          obtain ⟨ce1, fe1⟩ := hp.one 1 rfl
                          clear hp
                          have hp := Kd.out.z1
                          obtain ⟨cf0, ff0⟩ := hp.one 0 rfl
                          obtain ⟨cf1, ff1⟩ := hp.one 1 rfl
                          clear hp
                          have hp := Kd.out.z2
                          obtain ⟨cg0, fg0⟩ := hp.one 0 rfl
                          obtain ⟨cg1, fg1⟩ := hp.one 1 rfl
                          clear hp
                          have hp := Kd.out.z3
                          obtain ⟨ch0, fh0⟩ := hp.one 0 rfl
                          obtain ⟨ch1, fh1⟩ := hp.one 1 rfl
                          clear hp
                          go_wp2_with fail
                          refine hK.out _ _ _ (fun u hu => hu) (⟨ca0, ca1, cb0, cb1, cc0, cc1, cd0, cd1, ce0, ce1, cf0, cf1, cg0, cg1, ch0, ch1⟩) ?_
                          clear hK K
                          iterate 2
                            first
                              | (refine mv_free ?_ (Or.inl ⟨by rfl, ?_⟩) (⟨ca0, ca1, cb0, cb1, cc0, cc1, cd0, cd1, ce0, ce1, cf0, cf1, cg0, cg1, ch0, ch1⟩) ?_
                                 rotate_left 1
                                 · intro u
                                   go_simp
                                   try with_reducible rfl
                                 simp only [Act.put, List.setIfInBounds_toArray, List.set_cons_zero, List.set_cons_succ])
                              | (refine mv_free _ (Or.inr ⟨by rfl, rfl⟩) (⟨ca0, ca1, cb0, cb1, cc0, cc1, cd0, cd1, ce0, ce1, cf0, cf1, cg0, cg1, ch0, ch1⟩) ?_
                                 simp only [Act.put, List.setIfInBounds_toArray, List.set_cons_zero, List.set_cons_succ])
                          refine mv_done ?_
                          go_wp2_with fail
                          go_meet
                          case rel => exact ⟨by simp, Kd⟩
                      case rest =>
                        as_aux_lemma =>
                          obtain ⟨rfl, KI⟩ := hcut
                          clear KH HE SE TE TR
                          have LV := Lib.hid (fun u => lives35 u)
                          by_cases hk : Q 0 ≤ Q 1 ∧ P 0 ≤ P 1 ∧ 0 ≤ Q 0 ∧ 1 ≤ P 0
                          · have MA := Lib.hid (fun u => ma_yes Q P (gQ 0 (by omega)) (gQ 1 (by omega)) (gP 0 (by omega)) (gP 1 (by omega)) hk u)
                            have A0 := Lib.hid (fun u => rat8_any (Q 0) (P 1) u (gQ 0 (by omega)).1 (gQ 0 (by omega)).2 (gP 1 (by omega)).1 (gP 1 (by omega)).2)
                            have A1 := Lib.hid (fun u => rat8_any (Q 1) (P 0) u (gQ 1 (by omega)).1 (gQ 1 (by omega)).2 (gP 0 (by omega)).1 (gP 0 (by omega)).2)
                            obtain ⟨n0, en0⟩ : ∃ y, maV (Q 0) (P 1) = y := ⟨_, rfl⟩
                            obtain ⟨n1, en1⟩ : ∃ y, maV (Q 1) (P 0) = y := ⟨_, rfl⟩
                            rw [en0] at MA A0
                            rw [en1] at MA A1
                            clear en0 en1 gQ gP gM gT
                            have g0 : decide (Q 0 ≤ Q 1) = true := decide_eq_true hk.1
                            have g1 : decide (P 0 ≤ P 1) = true := decide_eq_true hk.2.1
                            have g2 : ¬ Q 0 < 0 := by omega
                            have g3 : ¬ P 0 < 1 := by omega
                            clear hk
                            have RQ := fun u => lwright (Q 0) (Q 1) u
                            have RP := fun u => lwright (P 0) (P 1) u
                            rw [g0] at RQ
                            rw [g1] at RP
                            replace RQ := Lib.hid RQ
                            replace RP := Lib.hid RP
                            clear g0 g1
                            have hp := KI.out.k9
                            obtain ⟨ca0, fa0⟩ := hp.one 0 rfl
                            obtain ⟨ca1, fa1⟩ := hp.one 1 rfl
                            clear hp
                            have hp := KI.out.k10
                            obtain ⟨cb0, fb0⟩ := hp.one 0 rfl
                            obtain ⟨cb1, fb1⟩ := hp.one 1 rfl
                            clear hp
                            go_wp2_with fail
                            refine (MA.out _).mono ?_
                            rintro e w300 ⟨rfl, hb⟩
                            have K1 := Lib.hid (KI.out.bel hb)
                            clear ca0 ca1 fa0 fa1 cb0 cb1 fb0 fb1
                            clear KI MA
                            obtain ⟨U, eU⟩ : ∃ U, U = w300.alloc (.cells #[.int .i64 n0, .int .i64 n1] 51) := ⟨_, rfl⟩
                            have hbU : Below w300.heap.size w300 U := by rw [eU]; exact (Below.refl _ _).alloc (Nat.le_refl _) _
                            have NH : Held w300.heap.size [.int .i64 n0, .int .i64 n1] U := by rw [eU]; exact Held.new w300 _ _
                            have K2 := Lib.hid (K1.out.bel hbU)
                            replace NH := Lib.hid NH
                            replace eU := Lib.hid eU
                            clear hbU K1
                            go_upto_region 15 with (fail)
                            rw [← eU.out]
                            clear eU
                            generalize w300.heap.size = n9 at *
                            have hp := K2.out.k9
                            obtain ⟨ca0, fa0⟩ := hp.one 0 rfl
                            obtain ⟨ca1, fa1⟩ := hp.one 1 rfl
                            clear hp
                            have hp := K2.out.k10
                            obtain ⟨cb0, fb0⟩ := hp.one 0 rfl
                            obtain ⟨cb1, fb1⟩ := hp.one 1 rfl
                            clear hp
                            go_wp2_with fail
                            refine (RQ.out _).mono ?_
                            rintro e w301 ⟨rfl, hb⟩
                            have K3 := Lib.hid (K2.out.bel hb)
                            replace NH := Lib.hid (NH.out.bel hb)
                            clear hb K2
                            clear ca0 ca1 fa0 fa1 cb0 cb1 fb0 fb1
                            have hp := K3.out.k9
                            obtain ⟨ca0, fa0⟩ := hp.one 0 rfl
                            obtain ⟨ca1, fa1⟩ := hp.one 1 rfl
                            clear hp
                            have hp := K3.out.k10
                            obtain ⟨cb0, fb0⟩ := hp.one 0 rfl
                            obtain ⟨cb1, fb1⟩ := hp.one 1 rfl
                            clear hp
                            go_wp2_with fail
                            refine (RP.out _).mono ?_
                            rintro e w302 ⟨rfl, hb⟩
                            have K4 := Lib.hid (K3.out.bel hb)
                            replace NH := Lib.hid (NH.out.bel hb)
                            clear hb K3
                            clear ca0 ca1 fa0 fa1 cb0 cb1 fb0 fb1
                            have hp := K4.out.k9
                            obtain ⟨ca0, fa0⟩ := hp.one 0 rfl
                            obtain ⟨ca1, fa1⟩ := hp.one 1 rfl
                            clear hp
                            have hp := K4.out.k10
                            obtain ⟨cb0, fb0⟩ := hp.one 0 rfl
                            obtain ⟨cb1, fb1⟩ := hp.one 1 rfl
                            clear hp
                            go_wp2_with fail
                            refine (A0.out _).mono ?_
                            rintro e w303 ⟨rfl, hb⟩
                            have K5 := Lib.hid (K4.out.bel hb)
                            replace NH := Lib.hid (NH.out.bel hb)
                            clear hb K4
                            clear ca0 ca1 fa0 fa1 cb0 cb1 fb0 fb1
                            have hp := K5.out.k9
                            obtain ⟨ca0, fa0⟩ := hp.one 0 rfl
                            obtain ⟨ca1, fa1⟩ := hp.one 1 rfl
                            clear hp
                            have hp := K5.out.k10
                            obtain ⟨cb0, fb0⟩ := hp.one 0 rfl
                            obtain ⟨cb1, fb1⟩ := hp.one 1 rfl
                            clear hp
                            go_wp2_with fail
                            refine (A1.out _).mono ?_
                            rintro e w304 ⟨rfl, hb⟩
                            have K6 := Lib.hid (K5.out.bel hb)
                            replace NH := Lib.hid (NH.out.bel hb)
                            clear hb K5
                            clear ca0 ca1 fa0 fa1 cb0 cb1 fb0 fb1
                            have hp := NH.out
                            obtain ⟨cn0, fn0⟩ := hp.one 0 rfl
                            obtain ⟨cn1, fn1⟩ := hp.one 1 rfl
                            clear hp
                            go_wp2_with fail
                            refine (LV.out _).mono ?_
                            rintro e w305 ⟨rfl, hb⟩
                            have hf := Lib.hid (FIN.out _ (K6.out.bel hb))
                            clear hb
                            go_wp2_with fail
                            go_ret
                            exact ⟨rfl, hf.out⟩
                          · have MA := Lib.hid (fun u => ma_no Q P (gQ 0 (by omega)) (gQ 1 (by omega)) (gP 0 (by omega)) (gP 1 (by omega)) hk u)
                            clear gQ gP gM gT
                            have hp := KI.out.k9
                            obtain ⟨ca0, fa0⟩ := hp.one 0 rfl
                            obtain ⟨ca1, fa1⟩ := hp.one 1 rfl
                            clear hp
                            have hp := KI.out.k10
                            obtain ⟨cb0, fb0⟩ := hp.one 0 rfl
                            obtain ⟨cb1, fb1⟩ := hp.one 1 rfl
                            clear hp
                            go_wp2_with fail
                            refine (MA.out _).mono ?_
                            rintro e w300 ⟨rfl, hb⟩
                            have K1 := Lib.hid (KI.out.bel hb)
                            clear ca0 ca1 fa0 fa1 cb0 cb1 fb0 fb1
                            clear KI MA
                            obtain ⟨U, eU⟩ : ∃ U, U = w300.alloc (.cells #[.int .i64 0, .int .i64 0] 51) := ⟨_, rfl⟩
                            have hbU : Below w300.heap.size w300 U := by rw [eU]; exact (Below.refl _ _).alloc (Nat.le_refl _) _
                            have NH : Held w300.heap.size [.int .i64 0, .int .i64 0] U := by rw [eU]; exact Held.new w300 _ _
                            have K2 := Lib.hid (K1.out.bel hbU)
                            replace NH := Lib.hid NH
                            replace eU := Lib.hid eU
                            clear hbU K1
                            go_upto_region 15 with (fail)
                            rw [← eU.out]
                            clear eU
                            generalize w300.heap.size = n9 at *
                            go_cut [134] from 23 (fun s u => s = .bool true ∧ Hid (Held n9 [.int .i64 0, .int .i64 0] u) ∧ Hid (HkK Q P M T q9 q10 q11 q12 g off (zAF P) (zBF Q) (zCF M T r) (zDF M T) e4 wa u))
                            case first =>
                              as_aux_lemma =>
                                have RQ := fun u => lwright (Q 0) (Q 1) u
                                have RP := fun u => lwright (P 0) (P 1) u
                                have hp := K2.out.k9
                                obtain ⟨ca0, fa0⟩ := hp.one 0 rfl
                                obtain ⟨ca1, fa1⟩ := hp.one 1 rfl
                                clear hp
                                have hp := K2.out.k10
                                obtain ⟨cb0, fb0⟩ := hp.one 0 rfl
                                obtain ⟨cb1, fb1⟩ := hp.one 1 rfl
                                clear hp
                                by_cases g0 : Q 0 ≤ Q 1
                                · rw [decide_eq_true g0] at RQ
                                  replace RQ := Lib.hid RQ
                                  go_wp2_with fail
                                  refine (RQ.out _).mono ?_
                                  rintro e w301 ⟨rfl, hb⟩
                                  have K3 := Lib.hid (K2.out.bel hb)
                                  replace NH := Lib.hid (NH.out.bel hb)
                                  clear hb K2
                                  clear ca0 ca1 fa0 fa1 cb0 cb1 fb0 fb1
                                  have hp := K3.out.k9
                                  obtain ⟨ca0, fa0⟩ := hp.one 0 rfl
                                  obtain ⟨ca1, fa1⟩ := hp.one 1 rfl
                                  clear hp
                                  have hp := K3.out.k10
                                  obtain ⟨cb0, fb0⟩ := hp.one 0 rfl
                                  obtain ⟨cb1, fb1⟩ := hp.one 1 rfl
                                  clear hp
                                  by_cases g1 : P 0 ≤ P 1
                                  · rw [decide_eq_true g1] at RP
                                    replace RP := Lib.hid RP
                                    go_wp2_with fail
                                    refine (RP.out _).mono ?_
                                    rintro e w302 ⟨rfl, hb⟩
                                    have K4 := Lib.hid (K3.out.bel hb)
                                    replace NH := Lib.hid (NH.out.bel hb)
                                    clear hb K3
                                    clear ca0 ca1 fa0 fa1 cb0 cb1 fb0 fb1
                                    have hp := K4.out.k9
                                    obtain ⟨ca0, fa0⟩ := hp.one 0 rfl
                                    obtain ⟨ca1, fa1⟩ := hp.one 1 rfl
                                    clear hp
                                    have hp := K4.out.k10
                                    obtain ⟨cb0, fb0⟩ := hp.one 0 rfl
                                    obtain ⟨cb1, fb1⟩ := hp.one 1 rfl
                                    clear hp
                                    by_cases g2 : Q 0 < 0
                                    · clear hk
                                      go_wp2_with fail
                                      go_meet
                                      case rel => exact ⟨by simp, NH, K4⟩
                                    · have g3 : P 0 < 1 := by omega
                                      clear hk
                                      go_wp2_with fail
                                      go_meet
                                      case rel => exact ⟨by simp, NH, K4⟩
                                  · rw [decide_eq_false g1] at RP
                                    replace RP := Lib.hid RP
                                    clear hk
                                    go_wp2_with fail
                                    refine (RP.out _).mono ?_
                                    rintro e w302 ⟨rfl, hb⟩
                                    have K4 := Lib.hid (K3.out.bel hb)
                                    replace NH := Lib.hid (NH.out.bel hb)
                                    clear hb K3
                                    clear ca0 ca1 fa0 fa1 cb0 cb1 fb0 fb1
                                    have hp := K4.out.k9
                                    obtain ⟨ca0, fa0⟩ := hp.one 0 rfl
                                    obtain ⟨ca1, fa1⟩ := hp.one 1 rfl
                                    clear hp
                                    have hp := K4.out.k10
                                    obtain ⟨cb0, fb0⟩ := hp.one 0 rfl
                                    obtain ⟨cb1, fb1⟩ := hp.one 1 rfl
                                    clear hp
                                    go_wp2_with fail
                                    go_meet
                                    case rel => exact ⟨by simp, NH, K4⟩
                                · rw [decide_eq_false g0] at RQ
                                  replace RQ := Lib.hid RQ
                                  clear hk
                                  go_wp2_with fail
                                  refine (RQ.out _).mono ?_
                                  rintro e w301 ⟨rfl, hb⟩
                                  have K3 := Lib.hid (K2.out.bel hb)
                                  replace NH := Lib.hid (NH.out.bel hb)
                                  clear hb K2
                                  clear ca0 ca1 fa0 fa1 cb0 cb1 fb0 fb1
                                  have hp := K3.out.k9
                                  obtain ⟨ca0, fa0⟩ := hp.one 0 rfl
                                  obtain ⟨ca1, fa1⟩ := hp.one 1 rfl
                                  clear hp
                                  have hp := K3.out.k10
                                  obtain ⟨cb0, fb0⟩ := hp.one 0 rfl
                                  obtain ⟨cb1, fb1⟩ := hp.one 1 rfl
                                  clear hp
                                  go_wp2_with fail
                                  go_meet
                                  case rel => exact ⟨by simp, NH, K3⟩
                            case rest =>
                              as_aux_lemma =>
                                clear NH K2 hk
                                obtain ⟨rfl, NH, K6⟩ := hcut
                                have hp := NH.out
                                obtain ⟨cn0, fn0⟩ := hp.one 0 rfl
                                obtain ⟨cn1, fn1⟩ := hp.one 1 rfl
                                clear hp
                                go_wp2_with fail
                                refine (LV.out _).mono ?_
                                rintro e w305 ⟨rfl, hb⟩
                                have hf := Lib.hid (FIN.out _ (K6.out.bel hb))
                                clear hb
                                go_wp2_with fail
                                go_ret
                                exact ⟨rfl, hf.out⟩
              end Go.Proofs.YtecpmffmmiogfaaGreat
