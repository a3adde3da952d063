/- The law MatrixShapes, walked. -/
import Derived.Test.YtakocggclopngaaMat11
import Derived.Test.YtakocggclopngaaMat13
namespace Go.Proofs.Ytakocggclopngaa
open Go.ChangeShapes Go.WideShapes Go.ChangeAt Go.RowKit
set_option linter.unusedVariables false
set_option linter.unusedSimpArgs false
structure MsI (X D : Nat → Int) (w V : World) (a0 : Act) (b : Nat → Bool) (q5 q6 q7 : Nat) (a : Act) (u : World) : Prop where
  sk : Sk [13, 14, 15, 16, 17, 18, 19, 20, 5, 6, 7] a0 a
  bel : Below (w.heap.size + 2) V u
  sz : w.heap.size + 2 ≤ u.heap.size
  h0 : Held w.heap.size [.int .i64 (X 0), .int .i64 (X 1), .int .i64 (X 2), .int .i64 (X 3), .int .i64 (X 4), .int .i64 (X 5), .int .i64 (X 6), .int .i64 (X 7), .int .i64 (X 8)] u
  h1 : Held (w.heap.size + 1) [.int .i64 (D 0), .int .i64 (D 1), .int .i64 (D 2)] u
  s0 : b 0 = true → a.tmps.getD 13 undef = .agg #[.int .i64 (unt 0), .int .i64 (unt 1), .int .i64 (unt 2), .int .i64 (unt 3), .int .i64 (unt 4), .int .i64 (unt 5), .int .i64 (unt 6), .int .i64 (unt 7), .int .i64 (unt 8)]
  s1 : b 1 = true → a.tmps.getD 14 undef = .agg #[.int .i64 (unt 0), .int .i64 (unt 1), .int .i64 (unt 2), .int .i64 (unt 3), .int .i64 (unt 4), .int .i64 (unt 5), .int .i64 (unt 6), .int .i64 (unt 7), .int .i64 (unt 8)]
  s2 : b 2 = true → a.tmps.getD 15 undef = .agg #[.int .i64 (D 0), .int .i64 (D 1), .int .i64 (D 2)]
  s3 : b 3 = true → a.tmps.getD 16 undef = .agg #[.int .i64 ((dgl D) 0), .int .i64 ((dgl D) 1), .int .i64 ((dgl D) 2), .int .i64 ((dgl D) 3), .int .i64 ((dgl D) 4), .int .i64 ((dgl D) 5), .int .i64 ((dgl D) 6), .int .i64 ((dgl D) 7), .int .i64 ((dgl D) 8)]
  s4 : b 4 = true → a.tmps.getD 17 undef = .agg #[.int .i64 ((dgl D) 0), .int .i64 ((dgl D) 1), .int .i64 ((dgl D) 2), .int .i64 ((dgl D) 3), .int .i64 ((dgl D) 4), .int .i64 ((dgl D) 5), .int .i64 ((dgl D) 6), .int .i64 ((dgl D) 7), .int .i64 ((dgl D) 8)]
  s5 : b 5 = true → a.tmps.getD 18 undef = .agg #[.int .i64 (X 0), .int .i64 (X 1), .int .i64 (X 2), .int .i64 (X 3), .int .i64 (X 4), .int .i64 (X 5), .int .i64 (X 6), .int .i64 (X 7), .int .i64 (X 8)]
  s6 : b 6 = true → a.tmps.getD 19 undef = .agg #[.int .i64 ((mir X) 0), .int .i64 ((mir X) 1), .int .i64 ((mir X) 2), .int .i64 ((mir X) 3), .int .i64 ((mir X) 4), .int .i64 ((mir X) 5), .int .i64 ((mir X) 6), .int .i64 ((mir X) 7), .int .i64 ((mir X) 8)]
  s7 : b 7 = true → a.tmps.getD 20 undef = .agg #[.int .i64 ((mir X) 0), .int .i64 ((mir X) 1), .int .i64 ((mir X) 2), .int .i64 ((mir X) 3), .int .i64 ((mir X) 4), .int .i64 ((mir X) 5), .int .i64 ((mir X) 6), .int .i64 ((mir X) 7), .int .i64 ((mir X) 8)]
  s8 : b 8 = true → a.tmps.getD 5 undef = .pointer (some ⟨q5, 0, none⟩) ∧ w.heap.size + 2 ≤ q5 ∧ ∃ cs : List Value, cs.length = 9 ∧ Held q5 cs u ∧ (b 11 = true → cs = [.int .i64 (unt 0), .int .i64 (unt 1), .int .i64 (unt 2), .int .i64 (unt 3), .int .i64 (unt 4), .int .i64 (unt 5), .int .i64 (unt 6), .int .i64 (unt 7), .int .i64 (unt 8)])
  e11 : b 11 = true → b 8 = true
  s9 : b 9 = true → a.tmps.getD 6 undef = .pointer (some ⟨q6, 0, none⟩) ∧ w.heap.size + 2 ≤ q6 ∧ ∃ cs : List Value, cs.length = 9 ∧ Held q6 cs u ∧ (b 12 = true → cs = [.int .i64 ((dgl D) 0), .int .i64 ((dgl D) 1), .int .i64 ((dgl D) 2), .int .i64 ((dgl D) 3), .int .i64 ((dgl D) 4), .int .i64 ((dgl D) 5), .int .i64 ((dgl D) 6), .int .i64 ((dgl D) 7), .int .i64 ((dgl D) 8)])
  e12 : b 12 = true → b 9 = true
  s10 : b 10 = true → a.tmps.getD 7 undef = .pointer (some ⟨q7, 0, none⟩) ∧ w.heap.size + 2 ≤ q7 ∧ ∃ cs : List Value, cs.length = 9 ∧ Held q7 cs u ∧ (b 13 = true → cs = [.int .i64 ((mir X) 0), .int .i64 ((mir X) 1), .int .i64 ((mir X) 2), .int .i64 ((mir X) 3), .int .i64 ((mir X) 4), .int .i64 ((mir X) 5), .int .i64 ((mir X) 6), .int .i64 ((mir X) 7), .int .i64 ((mir X) 8)])
  e13 : b 13 = true → b 10 = true
  n1_0 : b 9 = true → b 8 = true → q6 ≠ q5
  n2_0 : b 10 = true → b 8 = true → q7 ≠ q5
  n2_1 : b 10 = true → b 9 = true → q7 ≠ q6
set_option maxRecDepth 100000 in
set_option maxHeartbeats 4000000 in
theorem MsI.next0 {X D : Nat → Int} {w V : World} {a0 : Act} {b : Nat → Bool} {q5 q6 q7 : Nat} {a : Act} {u : World} (I : MsI X D w V a0 b q5 q6 q7 a u) (hn : 13 < a0.tmps.size) {u' : World} (hu : Below u.heap.size u u') : MsI X D w V a0 (fun x => x == 0 || b x) q5 q6 q7 (a.put (some 13) (.agg #[.int .i64 (unt 0), .int .i64 (unt 1), .int .i64 (unt 2), .int .i64 (unt 3), .int .i64 (unt 4), .int .i64 (unt 5), .int .i64 (unt 6), .int .i64 (unt 7), .int .i64 (unt 8)])) u' :=
  ⟨I.sk.put (by decide) _,
    I.bel.trans (hu.mono I.sz),
    Nat.le_trans I.sz hu.size,
    I.h0.bel hu,
    I.h1.bel hu,
    fun _ => put_same _ (by rw [I.sk.size]; exact hn),
    fun h => (put_other _ (by decide)).trans (I.s1 (by simpa using h)),
    fun h => (put_other _ (by decide)).trans (I.s2 (by simpa using h)),
    fun h => (put_other _ (by decide)).trans (I.s3 (by simpa using h)),
    fun h => (put_other _ (by decide)).trans (I.s4 (by simpa using h)),
    fun h => (put_other _ (by decide)).trans (I.s5 (by simpa using h)),
    fun h => (put_other _ (by decide)).trans (I.s6 (by simpa using h)),
    fun h => (put_other _ (by decide)).trans (I.s7 (by simpa using h)),
    fun h => by obtain ⟨p1, p2, cs, p3, p4, p5⟩ := I.s8 (by simpa using h); exact ⟨(put_other _ (by decide)).trans p1, p2, cs, p3, p4.bel hu, fun h2 => p5 (by simpa using h2)⟩,
    fun h => by have h2 := I.e11 (by simpa using h); simp [h2],
    fun h => by obtain ⟨p1, p2, cs, p3, p4, p5⟩ := I.s9 (by simpa using h); exact ⟨(put_other _ (by decide)).trans p1, p2, cs, p3, p4.bel hu, fun h2 => p5 (by simpa using h2)⟩,
    fun h => by have h2 := I.e12 (by simpa using h); simp [h2],
    fun h => by obtain ⟨p1, p2, cs, p3, p4, p5⟩ := I.s10 (by simpa using h); exact ⟨(put_other _ (by decide)).trans p1, p2, cs, p3, p4.bel hu, fun h2 => p5 (by simpa using h2)⟩,
    fun h => by have h2 := I.e13 (by simpa using h); simp [h2],
    fun h h2 => I.n1_0 (by simpa using h) (by simpa using h2),
    fun h h2 => I.n2_0 (by simpa using h) (by simpa using h2),
    fun h h2 => I.n2_1 (by simpa using h) (by simpa using h2)⟩
set_option maxRecDepth 100000 in
set_option maxHeartbeats 4000000 in
theorem MsI.next1 {X D : Nat → Int} {w V : World} {a0 : Act} {b : Nat → Bool} {q5 q6 q7 : Nat} {a : Act} {u : World} (I : MsI X D w V a0 b q5 q6 q7 a u) (hn : 14 < a0.tmps.size) {u' : World} (hu : Below u.heap.size u u') : MsI X D w V a0 (fun x => x == 1 || b x) q5 q6 q7 (a.put (some 14) (.agg #[.int .i64 (unt 0), .int .i64 (unt 1), .int .i64 (unt 2), .int .i64 (unt 3), .int .i64 (unt 4), .int .i64 (unt 5), .int .i64 (unt 6), .int .i64 (unt 7), .int .i64 (unt 8)])) u' :=
  ⟨I.sk.put (by decide) _,
    I.bel.trans (hu.mono I.sz),
    Nat.le_trans I.sz hu.size,
    I.h0.bel hu,
    I.h1.bel hu,
    fun h => (put_other _ (by decide)).trans (I.s0 (by simpa using h)),
    fun _ => put_same _ (by rw [I.sk.size]; exact hn),
    fun h => (put_other _ (by decide)).trans (I.s2 (by simpa using h)),
    fun h => (put_other _ (by decide)).trans (I.s3 (by simpa using h)),
    fun h => (put_other _ (by decide)).trans (I.s4 (by simpa using h)),
    fun h => (put_other _ (by decide)).trans (I.s5 (by simpa using h)),
    fun h => (put_other _ (by decide)).trans (I.s6 (by simpa using h)),
    fun h => (put_other _ (by decide)).trans (I.s7 (by simpa using h)),
    fun h => by obtain ⟨p1, p2, cs, p3, p4, p5⟩ := I.s8 (by simpa using h); exact ⟨(put_other _ (by decide)).trans p1, p2, cs, p3, p4.bel hu, fun h2 => p5 (by simpa using h2)⟩,
    fun h => by have h2 := I.e11 (by simpa using h); simp [h2],
    fun h => by obtain ⟨p1, p2, cs, p3, p4, p5⟩ := I.s9 (by simpa using h); exact ⟨(put_other _ (by decide)).trans p1, p2, cs, p3, p4.bel hu, fun h2 => p5 (by simpa using h2)⟩,
    fun h => by have h2 := I.e12 (by simpa using h); simp [h2],
    fun h => by obtain ⟨p1, p2, cs, p3, p4, p5⟩ := I.s10 (by simpa using h); exact ⟨(put_other _ (by decide)).trans p1, p2, cs, p3, p4.bel hu, fun h2 => p5 (by simpa using h2)⟩,
    fun h => by have h2 := I.e13 (by simpa using h); simp [h2],
    fun h h2 => I.n1_0 (by simpa using h) (by simpa using h2),
    fun h h2 => I.n2_0 (by simpa using h) (by simpa using h2),
    fun h h2 => I.n2_1 (by simpa using h) (by simpa using h2)⟩
set_option maxRecDepth 100000 in
set_option maxHeartbeats 4000000 in
theorem MsI.next2 {X D : Nat → Int} {w V : World} {a0 : Act} {b : Nat → Bool} {q5 q6 q7 : Nat} {a : Act} {u : World} (I : MsI X D w V a0 b q5 q6 q7 a u) (hn : 15 < a0.tmps.size) {u' : World} (hu : Below u.heap.size u u') : MsI X D w V a0 (fun x => x == 2 || b x) q5 q6 q7 (a.put (some 15) (.agg #[.int .i64 (D 0), .int .i64 (D 1), .int .i64 (D 2)])) u' :=
  ⟨I.sk.put (by decide) _,
    I.bel.trans (hu.mono I.sz),
    Nat.le_trans I.sz hu.size,
    I.h0.bel hu,
    I.h1.bel hu,
    fun h => (put_other _ (by decide)).trans (I.s0 (by simpa using h)),
    fun h => (put_other _ (by decide)).trans (I.s1 (by simpa using h)),
    fun _ => put_same _ (by rw [I.sk.size]; exact hn),
    fun h => (put_other _ (by decide)).trans (I.s3 (by simpa using h)),
    fun h => (put_other _ (by decide)).trans (I.s4 (by simpa using h)),
    fun h => (put_other _ (by decide)).trans (I.s5 (by simpa using h)),
    fun h => (put_other _ (by decide)).trans (I.s6 (by simpa using h)),
    fun h => (put_other _ (by decide)).trans (I.s7 (by simpa using h)),
    fun h => by obtain ⟨p1, p2, cs, p3, p4, p5⟩ := I.s8 (by simpa using h); exact ⟨(put_other _ (by decide)).trans p1, p2, cs, p3, p4.bel hu, fun h2 => p5 (by simpa using h2)⟩,
    fun h => by have h2 := I.e11 (by simpa using h); simp [h2],
    fun h => by obtain ⟨p1, p2, cs, p3, p4, p5⟩ := I.s9 (by simpa using h); exact ⟨(put_other _ (by decide)).trans p1, p2, cs, p3, p4.bel hu, fun h2 => p5 (by simpa using h2)⟩,
    fun h => by have h2 := I.e12 (by simpa using h); simp [h2],
    fun h => by obtain ⟨p1, p2, cs, p3, p4, p5⟩ := I.s10 (by simpa using h); exact ⟨(put_other _ (by decide)).trans p1, p2, cs, p3, p4.bel hu, fun h2 => p5 (by simpa using h2)⟩,
    fun h => by have h2 := I.e13 (by simpa using h); simp [h2],
    fun h h2 => I.n1_0 (by simpa using h) (by simpa using h2),
    fun h h2 => I.n2_0 (by simpa using h) (by simpa using h2),
    fun h h2 => I.n2_1 (by simpa using h) (by simpa using h2)⟩
set_option maxRecDepth 100000 in
set_option maxHeartbeats 4000000 in
theorem MsI.next3 {X D : Nat → Int} {w V : World} {a0 : Act} {b : Nat → Bool} {q5 q6 q7 : Nat} {a : Act} {u : World} (I : MsI X D w V a0 b q5 q6 q7 a u) (hn : 16 < a0.tmps.size) {u' : World} (hu : Below u.heap.size u u') : MsI X D w V a0 (fun x => x == 3 || b x) q5 q6 q7 (a.put (some 16) (.agg #[.int .i64 ((dgl D) 0), .int .i64 ((dgl D) 1), .int .i64 ((dgl D) 2), .int .i64 ((dgl D) 3), .int .i64 ((dgl D) 4), .int .i64 ((dgl D) 5), .int .i64 ((dgl D) 6), .int .i64 ((dgl D) 7), .int .i64 ((dgl D) 8)])) u' :=
  ⟨I.sk.put (by decide) _,
    I.bel.trans (hu.mono I.sz),
    Nat.le_trans I.sz hu.size,
    I.h0.bel hu,
    I.h1.bel hu,
    fun h => (put_other _ (by decide)).trans (I.s0 (by simpa using h)),
    fun h => (put_other _ (by decide)).trans (I.s1 (by simpa using h)),
    fun h => (put_other _ (by decide)).trans (I.s2 (by simpa using h)),
    fun _ => put_same _ (by rw [I.sk.size]; exact hn),
    fun h => (put_other _ (by decide)).trans (I.s4 (by simpa using h)),
    fun h => (put_other _ (by decide)).trans (I.s5 (by simpa using h)),
    fun h => (put_other _ (by decide)).trans (I.s6 (by simpa using h)),
    fun h => (put_other _ (by decide)).trans (I.s7 (by simpa using h)),
    fun h => by obtain ⟨p1, p2, cs, p3, p4, p5⟩ := I.s8 (by simpa using h); exact ⟨(put_other _ (by decide)).trans p1, p2, cs, p3, p4.bel hu, fun h2 => p5 (by simpa using h2)⟩,
    fun h => by have h2 := I.e11 (by simpa using h); simp [h2],
    fun h => by obtain ⟨p1, p2, cs, p3, p4, p5⟩ := I.s9 (by simpa using h); exact ⟨(put_other _ (by decide)).trans p1, p2, cs, p3, p4.bel hu, fun h2 => p5 (by simpa using h2)⟩,
    fun h => by have h2 := I.e12 (by simpa using h); simp [h2],
    fun h => by obtain ⟨p1, p2, cs, p3, p4, p5⟩ := I.s10 (by simpa using h); exact ⟨(put_other _ (by decide)).trans p1, p2, cs, p3, p4.bel hu, fun h2 => p5 (by simpa using h2)⟩,
    fun h => by have h2 := I.e13 (by simpa using h); simp [h2],
    fun h h2 => I.n1_0 (by simpa using h) (by simpa using h2),
    fun h h2 => I.n2_0 (by simpa using h) (by simpa using h2),
    fun h h2 => I.n2_1 (by simpa using h) (by simpa using h2)⟩
set_option maxRecDepth 100000 in
set_option maxHeartbeats 4000000 in
theorem MsI.next4 {X D : Nat → Int} {w V : World} {a0 : Act} {b : Nat → Bool} {q5 q6 q7 : Nat} {a : Act} {u : World} (I : MsI X D w V a0 b q5 q6 q7 a u) (hn : 17 < a0.tmps.size) {u' : World} (hu : Below u.heap.size u u') : MsI X D w V a0 (fun x => x == 4 || b x) q5 q6 q7 (a.put (some 17) (.agg #[.int .i64 ((dgl D) 0), .int .i64 ((dgl D) 1), .int .i64 ((dgl D) 2), .int .i64 ((dgl D) 3), .int .i64 ((dgl D) 4), .int .i64 ((dgl D) 5), .int .i64 ((dgl D) 6), .int .i64 ((dgl D) 7), .int .i64 ((dgl D) 8)])) u' :=
  ⟨I.sk.put (by decide) _,
    I.bel.trans (hu.mono I.sz),
    Nat.le_trans I.sz hu.size,
    I.h0.bel hu,
    I.h1.bel hu,
    fun h => (put_other _ (by decide)).trans (I.s0 (by simpa using h)),
    fun h => (put_other _ (by decide)).trans (I.s1 (by simpa using h)),
    fun h => (put_other _ (by decide)).trans (I.s2 (by simpa using h)),
    fun h => (put_other _ (by decide)).trans (I.s3 (by simpa using h)),
    fun _ => put_same _ (by rw [I.sk.size]; exact hn),
    fun h => (put_other _ (by decide)).trans (I.s5 (by simpa using h)),
    fun h => (put_other _ (by decide)).trans (I.s6 (by simpa using h)),
    fun h => (put_other _ (by decide)).trans (I.s7 (by simpa using h)),
    fun h => by obtain ⟨p1, p2, cs, p3, p4, p5⟩ := I.s8 (by simpa using h); exact ⟨(put_other _ (by decide)).trans p1, p2, cs, p3, p4.bel hu, fun h2 => p5 (by simpa using h2)⟩,
    fun h => by have h2 := I.e11 (by simpa using h); simp [h2],
    fun h => by obtain ⟨p1, p2, cs, p3, p4, p5⟩ := I.s9 (by simpa using h); exact ⟨(put_other _ (by decide)).trans p1, p2, cs, p3, p4.bel hu, fun h2 => p5 (by simpa using h2)⟩,
    fun h => by have h2 := I.e12 (by simpa using h); simp [h2],
    fun h => by obtain ⟨p1, p2, cs, p3, p4, p5⟩ := I.s10 (by simpa using h); exact ⟨(put_other _ (by decide)).trans p1, p2, cs, p3, p4.bel hu, fun h2 => p5 (by simpa using h2)⟩,
    fun h => by have h2 := I.e13 (by simpa using h); simp [h2],
    fun h h2 => I.n1_0 (by simpa using h) (by simpa using h2),
    fun h h2 => I.n2_0 (by simpa using h) (by simpa using h2),
    fun h h2 => I.n2_1 (by simpa using h) (by simpa using h2)⟩
set_option maxRecDepth 100000 in
set_option maxHeartbeats 4000000 in
theorem MsI.next5 {X D : Nat → Int} {w V : World} {a0 : Act} {b : Nat → Bool} {q5 q6 q7 : Nat} {a : Act} {u : World} (I : MsI X D w V a0 b q5 q6 q7 a u) (hn : 18 < a0.tmps.size) {u' : World} (hu : Below u.heap.size u u') : MsI X D w V a0 (fun x => x == 5 || b x) q5 q6 q7 (a.put (some 18) (.agg #[.int .i64 (X 0), .int .i64 (X 1), .int .i64 (X 2), .int .i64 (X 3), .int .i64 (X 4), .int .i64 (X 5), .int .i64 (X 6), .int .i64 (X 7), .int .i64 (X 8)])) u' :=
  ⟨I.sk.put (by decide) _,
    I.bel.trans (hu.mono I.sz),
    Nat.le_trans I.sz hu.size,
    I.h0.bel hu,
    I.h1.bel hu,
    fun h => (put_other _ (by decide)).trans (I.s0 (by simpa using h)),
    fun h => (put_other _ (by decide)).trans (I.s1 (by simpa using h)),
    fun h => (put_other _ (by decide)).trans (I.s2 (by simpa using h)),
    fun h => (put_other _ (by decide)).trans (I.s3 (by simpa using h)),
    fun h => (put_other _ (by decide)).trans (I.s4 (by simpa using h)),
    fun _ => put_same _ (by rw [I.sk.size]; exact hn),
    fun h => (put_other _ (by decide)).trans (I.s6 (by simpa using h)),
    fun h => (put_other _ (by decide)).trans (I.s7 (by simpa using h)),
    fun h => by obtain ⟨p1, p2, cs, p3, p4, p5⟩ := I.s8 (by simpa using h); exact ⟨(put_other _ (by decide)).trans p1, p2, cs, p3, p4.bel hu, fun h2 => p5 (by simpa using h2)⟩,
    fun h => by have h2 := I.e11 (by simpa using h); simp [h2],
    fun h => by obtain ⟨p1, p2, cs, p3, p4, p5⟩ := I.s9 (by simpa using h); exact ⟨(put_other _ (by decide)).trans p1, p2, cs, p3, p4.bel hu, fun h2 => p5 (by simpa using h2)⟩,
    fun h => by have h2 := I.e12 (by simpa using h); simp [h2],
    fun h => by obtain ⟨p1, p2, cs, p3, p4, p5⟩ := I.s10 (by simpa using h); exact ⟨(put_other _ (by decide)).trans p1, p2, cs, p3, p4.bel hu, fun h2 => p5 (by simpa using h2)⟩,
    fun h => by have h2 := I.e13 (by simpa using h); simp [h2],
    fun h h2 => I.n1_0 (by simpa using h) (by simpa using h2),
    fun h h2 => I.n2_0 (by simpa using h) (by simpa using h2),
    fun h h2 => I.n2_1 (by simpa using h) (by simpa using h2)⟩
set_option maxRecDepth 100000 in
set_option maxHeartbeats 4000000 in
theorem MsI.next6 {X D : Nat → Int} {w V : World} {a0 : Act} {b : Nat → Bool} {q5 q6 q7 : Nat} {a : Act} {u : World} (I : MsI X D w V a0 b q5 q6 q7 a u) (hn : 19 < a0.tmps.size) {u' : World} (hu : Below u.heap.size u u') : MsI X D w V a0 (fun x => x == 6 || b x) q5 q6 q7 (a.put (some 19) (.agg #[.int .i64 ((mir X) 0), .int .i64 ((mir X) 1), .int .i64 ((mir X) 2), .int .i64 ((mir X) 3), .int .i64 ((mir X) 4), .int .i64 ((mir X) 5), .int .i64 ((mir X) 6), .int .i64 ((mir X) 7), .int .i64 ((mir X) 8)])) u' :=
  ⟨I.sk.put (by decide) _,
    I.bel.trans (hu.mono I.sz),
    Nat.le_trans I.sz hu.size,
    I.h0.bel hu,
    I.h1.bel hu,
    fun h => (put_other _ (by decide)).trans (I.s0 (by simpa using h)),
    fun h => (put_other _ (by decide)).trans (I.s1 (by simpa using h)),
    fun h => (put_other _ (by decide)).trans (I.s2 (by simpa using h)),
    fun h => (put_other _ (by decide)).trans (I.s3 (by simpa using h)),
    fun h => (put_other _ (by decide)).trans (I.s4 (by simpa using h)),
    fun h => (put_other _ (by decide)).trans (I.s5 (by simpa using h)),
    fun _ => put_same _ (by rw [I.sk.size]; exact hn),
    fun h => (put_other _ (by decide)).trans (I.s7 (by simpa using h)),
    fun h => by obtain ⟨p1, p2, cs, p3, p4, p5⟩ := I.s8 (by simpa using h); exact ⟨(put_other _ (by decide)).trans p1, p2, cs, p3, p4.bel hu, fun h2 => p5 (by simpa using h2)⟩,
    fun h => by have h2 := I.e11 (by simpa using h); simp [h2],
    fun h => by obtain ⟨p1, p2, cs, p3, p4, p5⟩ := I.s9 (by simpa using h); exact ⟨(put_other _ (by decide)).trans p1, p2, cs, p3, p4.bel hu, fun h2 => p5 (by simpa using h2)⟩,
    fun h => by have h2 := I.e12 (by simpa using h); simp [h2],
    fun h => by obtain ⟨p1, p2, cs, p3, p4, p5⟩ := I.s10 (by simpa using h); exact ⟨(put_other _ (by decide)).trans p1, p2, cs, p3, p4.bel hu, fun h2 => p5 (by simpa using h2)⟩,
    fun h => by have h2 := I.e13 (by simpa using h); simp [h2],
    fun h h2 => I.n1_0 (by simpa using h) (by simpa using h2),
    fun h h2 => I.n2_0 (by simpa using h) (by simpa using h2),
    fun h h2 => I.n2_1 (by simpa using h) (by simpa using h2)⟩
set_option maxRecDepth 100000 in
set_option maxHeartbeats 4000000 in
theorem MsI.next7 {X D : Nat → Int} {w V : World} {a0 : Act} {b : Nat → Bool} {q5 q6 q7 : Nat} {a : Act} {u : World} (I : MsI X D w V a0 b q5 q6 q7 a u) (hn : 20 < a0.tmps.size) {u' : World} (hu : Below u.heap.size u u') : MsI X D w V a0 (fun x => x == 7 || b x) q5 q6 q7 (a.put (some 20) (.agg #[.int .i64 ((mir X) 0), .int .i64 ((mir X) 1), .int .i64 ((mir X) 2), .int .i64 ((mir X) 3), .int .i64 ((mir X) 4), .int .i64 ((mir X) 5), .int .i64 ((mir X) 6), .int .i64 ((mir X) 7), .int .i64 ((mir X) 8)])) u' :=
  ⟨I.sk.put (by decide) _,
    I.bel.trans (hu.mono I.sz),
    Nat.le_trans I.sz hu.size,
    I.h0.bel hu,
    I.h1.bel hu,
    fun h => (put_other _ (by decide)).trans (I.s0 (by simpa using h)),
    fun h => (put_other _ (by decide)).trans (I.s1 (by simpa using h)),
    fun h => (put_other _ (by decide)).trans (I.s2 (by simpa using h)),
    fun h => (put_other _ (by decide)).trans (I.s3 (by simpa using h)),
    fun h => (put_other _ (by decide)).trans (I.s4 (by simpa using h)),
    fun h => (put_other _ (by decide)).trans (I.s5 (by simpa using h)),
    fun h => (put_other _ (by decide)).trans (I.s6 (by simpa using h)),
    fun _ => put_same _ (by rw [I.sk.size]; exact hn),
    fun h => by obtain ⟨p1, p2, cs, p3, p4, p5⟩ := I.s8 (by simpa using h); exact ⟨(put_other _ (by decide)).trans p1, p2, cs, p3, p4.bel hu, fun h2 => p5 (by simpa using h2)⟩,
    fun h => by have h2 := I.e11 (by simpa using h); simp [h2],
    fun h => by obtain ⟨p1, p2, cs, p3, p4, p5⟩ := I.s9 (by simpa using h); exact ⟨(put_other _ (by decide)).trans p1, p2, cs, p3, p4.bel hu, fun h2 => p5 (by simpa using h2)⟩,
    fun h => by have h2 := I.e12 (by simpa using h); simp [h2],
    fun h => by obtain ⟨p1, p2, cs, p3, p4, p5⟩ := I.s10 (by simpa using h); exact ⟨(put_other _ (by decide)).trans p1, p2, cs, p3, p4.bel hu, fun h2 => p5 (by simpa using h2)⟩,
    fun h => by have h2 := I.e13 (by simpa using h); simp [h2],
    fun h h2 => I.n1_0 (by simpa using h) (by simpa using h2),
    fun h h2 => I.n2_0 (by simpa using h) (by simpa using h2),
    fun h h2 => I.n2_1 (by simpa using h) (by simpa using h2)⟩
set_option maxRecDepth 100000 in
set_option maxHeartbeats 4000000 in
theorem MsI.next8 {X D : Nat → Int} {w V : World} {a0 : Act} {b : Nat → Bool} {q5 q6 q7 : Nat} {a : Act} {u : World} (I : MsI X D w V a0 b q5 q6 q7 a u) (hn : 5 < a0.tmps.size) (hf : b 8 = false) : MsI X D w V a0 (fun x => x == 8 || b x) u.heap.size q6 q7 (a.put (some 5) (.pointer (some ⟨u.heap.size, 0, none⟩))) (u.alloc (.cells #[.int .i64 0, .int .i64 0, .int .i64 0, .int .i64 0, .int .i64 0, .int .i64 0, .int .i64 0, .int .i64 0, .int .i64 0] 58)) :=
  ⟨I.sk.put (by decide) _,
    I.bel.alloc I.sz _,
    by have := I.sz; simp; omega,
    I.h0.alloc _,
    I.h1.alloc _,
    fun h => (put_other _ (by decide)).trans (I.s0 (by simpa using h)),
    fun h => (put_other _ (by decide)).trans (I.s1 (by simpa using h)),
    fun h => (put_other _ (by decide)).trans (I.s2 (by simpa using h)),
    fun h => (put_other _ (by decide)).trans (I.s3 (by simpa using h)),
    fun h => (put_other _ (by decide)).trans (I.s4 (by simpa using h)),
    fun h => (put_other _ (by decide)).trans (I.s5 (by simpa using h)),
    fun h => (put_other _ (by decide)).trans (I.s6 (by simpa using h)),
    fun h => (put_other _ (by decide)).trans (I.s7 (by simpa using h)),
    fun _ => ⟨put_same _ (by rw [I.sk.size]; exact hn), I.sz, [.int .i64 0, .int .i64 0, .int .i64 0, .int .i64 0, .int .i64 0, .int .i64 0, .int .i64 0, .int .i64 0, .int .i64 0], rfl, Held.new u [.int .i64 0, .int .i64 0, .int .i64 0, .int .i64 0, .int .i64 0, .int .i64 0, .int .i64 0, .int .i64 0, .int .i64 0] _, fun h => by have h2 := I.e11 (by simpa using h); rw [hf] at h2; cases h2⟩,
    fun h => by have h2 := I.e11 (by simpa using h); simp [h2],
    fun h => by obtain ⟨p1, p2, cs, p3, p4, p5⟩ := I.s9 (by simpa using h); exact ⟨(put_other _ (by decide)).trans p1, p2, cs, p3, p4.alloc _, fun h2 => p5 (by simpa using h2)⟩,
    fun h => by have h2 := I.e12 (by simpa using h); simp [h2],
    fun h => by obtain ⟨p1, p2, cs, p3, p4, p5⟩ := I.s10 (by simpa using h); exact ⟨(put_other _ (by decide)).trans p1, p2, cs, p3, p4.alloc _, fun h2 => p5 (by simpa using h2)⟩,
    fun h => by have h2 := I.e13 (by simpa using h); simp [h2],
    fun h _ => by obtain ⟨-, -, cs, -, p4, -⟩ := I.s9 (by simpa using h); have := p4.lt; omega,
    fun h _ => by obtain ⟨-, -, cs, -, p4, -⟩ := I.s10 (by simpa using h); have := p4.lt; omega,
    fun h h2 => I.n2_1 (by simpa using h) (by simpa using h2)⟩
set_option maxRecDepth 100000 in
set_option maxHeartbeats 4000000 in
theorem MsI.next11 {X D : Nat → Int} {w V : World} {a0 : Act} {b : Nat → Bool} {q5 q6 q7 : Nat} {a : Act} {u : World} (I : MsI X D w V a0 b q5 q6 q7 a u) (ha : b 8 = true) : MsI X D w V a0 (fun x => x == 11 || b x) q5 q6 q7 a (((((((((u.setCell ⟨q5, 0, none⟩ (.int .i64 (unt 0))).setCell ⟨q5, 1, none⟩ (.int .i64 (unt 1))).setCell ⟨q5, 2, none⟩ (.int .i64 (unt 2))).setCell ⟨q5, 3, none⟩ (.int .i64 (unt 3))).setCell ⟨q5, 4, none⟩ (.int .i64 (unt 4))).setCell ⟨q5, 5, none⟩ (.int .i64 (unt 5))).setCell ⟨q5, 6, none⟩ (.int .i64 (unt 6))).setCell ⟨q5, 7, none⟩ (.int .i64 (unt 7))).setCell ⟨q5, 8, none⟩ (.int .i64 (unt 8))) := by
  obtain ⟨-, hq, cs0, hc0, hh0, -⟩ := I.s8 ha
  obtain ⟨u9, e9, h9, hb⟩ := ml_laid hh0 hc0 unt
  have ho : Only q5 u u9 := by rw [e9]; exact ((((((((((Only.refl q5 u).setCell (p := ⟨q5, 0, none⟩) (.int .i64 (unt 0))).setCell (p := ⟨q5, 1, none⟩) (.int .i64 (unt 1))).setCell (p := ⟨q5, 2, none⟩) (.int .i64 (unt 2))).setCell (p := ⟨q5, 3, none⟩) (.int .i64 (unt 3))).setCell (p := ⟨q5, 4, none⟩) (.int .i64 (unt 4))).setCell (p := ⟨q5, 5, none⟩) (.int .i64 (unt 5))).setCell (p := ⟨q5, 6, none⟩) (.int .i64 (unt 6))).setCell (p := ⟨q5, 7, none⟩) (.int .i64 (unt 7))).setCell (p := ⟨q5, 8, none⟩) (.int .i64 (unt 8)))
  have hne1 : b 9 = true → q6 ≠ q5 := fun h => I.n1_0 h ha
  have hne2 : b 10 = true → q7 ≠ q5 := fun h => I.n2_0 h ha
  rw [← e9]
  exact ⟨I.sk,
    I.bel.trans (hb.mono hq),
    by have := hb.size; have := I.sz; omega,
    I.h0.only ho (by omega),
    I.h1.only ho (by omega),
    fun h => I.s0 (by simpa using h),
    fun h => I.s1 (by simpa using h),
    fun h => I.s2 (by simpa using h),
    fun h => I.s3 (by simpa using h),
    fun h => I.s4 (by simpa using h),
    fun h => I.s5 (by simpa using h),
    fun h => I.s6 (by simpa using h),
    fun h => I.s7 (by simpa using h),
    fun h => by obtain ⟨p1, p2, cs, p3, p4, p5⟩ := I.s8 (by simpa using h); exact ⟨p1, p2, _, rfl, h9, fun _ => rfl⟩,
    fun h => by simpa using ha,
    fun h => by obtain ⟨p1, p2, cs, p3, p4, p5⟩ := I.s9 (by simpa using h); exact ⟨p1, p2, cs, p3, p4.only ho (hne1 (by simpa using h)), fun h2 => p5 (by simpa using h2)⟩,
    fun h => by have h2 := I.e12 (by simpa using h); simp [h2],
    fun h => by obtain ⟨p1, p2, cs, p3, p4, p5⟩ := I.s10 (by simpa using h); exact ⟨p1, p2, cs, p3, p4.only ho (hne2 (by simpa using h)), fun h2 => p5 (by simpa using h2)⟩,
    fun h => by have h2 := I.e13 (by simpa using h); simp [h2],
    fun h h2 => I.n1_0 (by simpa using h) (by simpa using h2),
    fun h h2 => I.n2_0 (by simpa using h) (by simpa using h2),
    fun h h2 => I.n2_1 (by simpa using h) (by simpa using h2)⟩
set_option maxRecDepth 100000 in
set_option maxHeartbeats 4000000 in
theorem MsI.next9 {X D : Nat → Int} {w V : World} {a0 : Act} {b : Nat → Bool} {q5 q6 q7 : Nat} {a : Act} {u : World} (I : MsI X D w V a0 b q5 q6 q7 a u) (hn : 6 < a0.tmps.size) (hf : b 9 = false) : MsI X D w V a0 (fun x => x == 9 || b x) q5 u.heap.size q7 (a.put (some 6) (.pointer (some ⟨u.heap.size, 0, none⟩))) (u.alloc (.cells #[.int .i64 0, .int .i64 0, .int .i64 0, .int .i64 0, .int .i64 0, .int .i64 0, .int .i64 0, .int .i64 0, .int .i64 0] 58)) :=
  ⟨I.sk.put (by decide) _,
    I.bel.alloc I.sz _,
    by have := I.sz; simp; omega,
    I.h0.alloc _,
    I.h1.alloc _,
    fun h => (put_other _ (by decide)).trans (I.s0 (by simpa using h)),
    fun h => (put_other _ (by decide)).trans (I.s1 (by simpa using h)),
    fun h => (put_other _ (by decide)).trans (I.s2 (by simpa using h)),
    fun h => (put_other _ (by decide)).trans (I.s3 (by simpa using h)),
    fun h => (put_other _ (by decide)).trans (I.s4 (by simpa using h)),
    fun h => (put_other _ (by decide)).trans (I.s5 (by simpa using h)),
    fun h => (put_other _ (by decide)).trans (I.s6 (by simpa using h)),
    fun h => (put_other _ (by decide)).trans (I.s7 (by simpa using h)),
    fun h => by obtain ⟨p1, p2, cs, p3, p4, p5⟩ := I.s8 (by simpa using h); exact ⟨(put_other _ (by decide)).trans p1, p2, cs, p3, p4.alloc _, fun h2 => p5 (by simpa using h2)⟩,
    fun h => by have h2 := I.e11 (by simpa using h); simp [h2],
    fun _ => ⟨put_same _ (by rw [I.sk.size]; exact hn), I.sz, [.int .i64 0, .int .i64 0, .int .i64 0, .int .i64 0, .int .i64 0, .int .i64 0, .int .i64 0, .int .i64 0, .int .i64 0], rfl, Held.new u [.int .i64 0, .int .i64 0, .int .i64 0, .int .i64 0, .int .i64 0, .int .i64 0, .int .i64 0, .int .i64 0, .int .i64 0] _, fun h => by have h2 := I.e12 (by simpa using h); rw [hf] at h2; cases h2⟩,
    fun h => by have h2 := I.e12 (by simpa using h); simp [h2],
    fun h => by obtain ⟨p1, p2, cs, p3, p4, p5⟩ := I.s10 (by simpa using h); exact ⟨(put_other _ (by decide)).trans p1, p2, cs, p3, p4.alloc _, fun h2 => p5 (by simpa using h2)⟩,
    fun h => by have h2 := I.e13 (by simpa using h); simp [h2],
    fun _ h => by obtain ⟨-, -, cs, -, p4, -⟩ := I.s8 (by simpa using h); have := p4.lt; omega,
    fun h h2 => I.n2_0 (by simpa using h) (by simpa using h2),
    fun h _ => by obtain ⟨-, -, cs, -, p4, -⟩ := I.s10 (by simpa using h); have := p4.lt; omega⟩
set_option maxRecDepth 100000 in
set_option maxHeartbeats 4000000 in
theorem MsI.next12 {X D : Nat → Int} {w V : World} {a0 : Act} {b : Nat → Bool} {q5 q6 q7 : Nat} {a : Act} {u : World} (I : MsI X D w V a0 b q5 q6 q7 a u) (ha : b 9 = true) : MsI X D w V a0 (fun x => x == 12 || b x) q5 q6 q7 a (((((((((u.setCell ⟨q6, 0, none⟩ (.int .i64 ((dgl D) 0))).setCell ⟨q6, 1, none⟩ (.int .i64 ((dgl D) 1))).setCell ⟨q6, 2, none⟩ (.int .i64 ((dgl D) 2))).setCell ⟨q6, 3, none⟩ (.int .i64 ((dgl D) 3))).setCell ⟨q6, 4, none⟩ (.int .i64 ((dgl D) 4))).setCell ⟨q6, 5, none⟩ (.int .i64 ((dgl D) 5))).setCell ⟨q6, 6, none⟩ (.int .i64 ((dgl D) 6))).setCell ⟨q6, 7, none⟩ (.int .i64 ((dgl D) 7))).setCell ⟨q6, 8, none⟩ (.int .i64 ((dgl D) 8))) := by
  obtain ⟨-, hq, cs0, hc0, hh0, -⟩ := I.s9 ha
  obtain ⟨u9, e9, h9, hb⟩ := ml_laid hh0 hc0 (dgl D)
  have ho : Only q6 u u9 := by rw [e9]; exact ((((((((((Only.refl q6 u).setCell (p := ⟨q6, 0, none⟩) (.int .i64 ((dgl D) 0))).setCell (p := ⟨q6, 1, none⟩) (.int .i64 ((dgl D) 1))).setCell (p := ⟨q6, 2, none⟩) (.int .i64 ((dgl D) 2))).setCell (p := ⟨q6, 3, none⟩) (.int .i64 ((dgl D) 3))).setCell (p := ⟨q6, 4, none⟩) (.int .i64 ((dgl D) 4))).setCell (p := ⟨q6, 5, none⟩) (.int .i64 ((dgl D) 5))).setCell (p := ⟨q6, 6, none⟩) (.int .i64 ((dgl D) 6))).setCell (p := ⟨q6, 7, none⟩) (.int .i64 ((dgl D) 7))).setCell (p := ⟨q6, 8, none⟩) (.int .i64 ((dgl D) 8)))
  have hne0 : b 8 = true → q5 ≠ q6 := fun h => (I.n1_0 ha h).symm
  have hne2 : b 10 = true → q7 ≠ q6 := fun h => I.n2_1 h ha
  rw [← e9]
  exact ⟨I.sk,
    I.bel.trans (hb.mono hq),
    by have := hb.size; have := I.sz; omega,
    I.h0.only ho (by omega),
    I.h1.only ho (by omega),
    fun h => I.s0 (by simpa using h),
    fun h => I.s1 (by simpa using h),
    fun h => I.s2 (by simpa using h),
    fun h => I.s3 (by simpa using h),
    fun h => I.s4 (by simpa using h),
    fun h => I.s5 (by simpa using h),
    fun h => I.s6 (by simpa using h),
    fun h => I.s7 (by simpa using h),
    fun h => by obtain ⟨p1, p2, cs, p3, p4, p5⟩ := I.s8 (by simpa using h); exact ⟨p1, p2, cs, p3, p4.only ho (hne0 (by simpa using h)), fun h2 => p5 (by simpa using h2)⟩,
    fun h => by have h2 := I.e11 (by simpa using h); simp [h2],
    fun h => by obtain ⟨p1, p2, cs, p3, p4, p5⟩ := I.s9 (by simpa using h); exact ⟨p1, p2, _, rfl, h9, fun _ => rfl⟩,
    fun h => by simpa using ha,
    fun h => by obtain ⟨p1, p2, cs, p3, p4, p5⟩ := I.s10 (by simpa using h); exact ⟨p1, p2, cs, p3, p4.only ho (hne2 (by simpa using h)), fun h2 => p5 (by simpa using h2)⟩,
    fun h => by have h2 := I.e13 (by simpa using h); simp [h2],
    fun h h2 => I.n1_0 (by simpa using h) (by simpa using h2),
    fun h h2 => I.n2_0 (by simpa using h) (by simpa using h2),
    fun h h2 => I.n2_1 (by simpa using h) (by simpa using h2)⟩
set_option maxRecDepth 100000 in
set_option maxHeartbeats 4000000 in
theorem MsI.next10 {X D : Nat → Int} {w V : World} {a0 : Act} {b : Nat → Bool} {q5 q6 q7 : Nat} {a : Act} {u : World} (I : MsI X D w V a0 b q5 q6 q7 a u) (hn : 7 < a0.tmps.size) (hf : b 10 = false) : MsI X D w V a0 (fun x => x == 10 || b x) q5 q6 u.heap.size (a.put (some 7) (.pointer (some ⟨u.heap.size, 0, none⟩))) (u.alloc (.cells #[.int .i64 0, .int .i64 0, .int .i64 0, .int .i64 0, .int .i64 0, .int .i64 0, .int .i64 0, .int .i64 0, .int .i64 0] 58)) :=
  ⟨I.sk.put (by decide) _,
    I.bel.alloc I.sz _,
    by have := I.sz; simp; omega,
    I.h0.alloc _,
    I.h1.alloc _,
    fun h => (put_other _ (by decide)).trans (I.s0 (by simpa using h)),
    fun h => (put_other _ (by decide)).trans (I.s1 (by simpa using h)),
    fun h => (put_other _ (by decide)).trans (I.s2 (by simpa using h)),
    fun h => (put_other _ (by decide)).trans (I.s3 (by simpa using h)),
    fun h => (put_other _ (by decide)).trans (I.s4 (by simpa using h)),
    fun h => (put_other _ (by decide)).trans (I.s5 (by simpa using h)),
    fun h => (put_other _ (by decide)).trans (I.s6 (by simpa using h)),
    fun h => (put_other _ (by decide)).trans (I.s7 (by simpa using h)),
    fun h => by obtain ⟨p1, p2, cs, p3, p4, p5⟩ := I.s8 (by simpa using h); exact ⟨(put_other _ (by decide)).trans p1, p2, cs, p3, p4.alloc _, fun h2 => p5 (by simpa using h2)⟩,
    fun h => by have h2 := I.e11 (by simpa using h); simp [h2],
    fun h => by obtain ⟨p1, p2, cs, p3, p4, p5⟩ := I.s9 (by simpa using h); exact ⟨(put_other _ (by decide)).trans p1, p2, cs, p3, p4.alloc _, fun h2 => p5 (by simpa using h2)⟩,
    fun h => by have h2 := I.e12 (by simpa using h); simp [h2],
    fun _ => ⟨put_same _ (by rw [I.sk.size]; exact hn), I.sz, [.int .i64 0, .int .i64 0, .int .i64 0, .int .i64 0, .int .i64 0, .int .i64 0, .int .i64 0, .int .i64 0, .int .i64 0], rfl, Held.new u [.int .i64 0, .int .i64 0, .int .i64 0, .int .i64 0, .int .i64 0, .int .i64 0, .int .i64 0, .int .i64 0, .int .i64 0] _, fun h => by have h2 := I.e13 (by simpa using h); rw [hf] at h2; cases h2⟩,
    fun h => by have h2 := I.e13 (by simpa using h); simp [h2],
    fun h h2 => I.n1_0 (by simpa using h) (by simpa using h2),
    fun _ h => by obtain ⟨-, -, cs, -, p4, -⟩ := I.s8 (by simpa using h); have := p4.lt; omega,
    fun _ h => by obtain ⟨-, -, cs, -, p4, -⟩ := I.s9 (by simpa using h); have := p4.lt; omega⟩
set_option maxRecDepth 100000 in
set_option maxHeartbeats 4000000 in
theorem MsI.next13 {X D : Nat → Int} {w V : World} {a0 : Act} {b : Nat → Bool} {q5 q6 q7 : Nat} {a : Act} {u : World} (I : MsI X D w V a0 b q5 q6 q7 a u) (ha : b 10 = true) : MsI X D w V a0 (fun x => x == 13 || b x) q5 q6 q7 a (((((((((u.setCell ⟨q7, 0, none⟩ (.int .i64 ((mir X) 0))).setCell ⟨q7, 1, none⟩ (.int .i64 ((mir X) 1))).setCell ⟨q7, 2, none⟩ (.int .i64 ((mir X) 2))).setCell ⟨q7, 3, none⟩ (.int .i64 ((mir X) 3))).setCell ⟨q7, 4, none⟩ (.int .i64 ((mir X) 4))).setCell ⟨q7, 5, none⟩ (.int .i64 ((mir X) 5))).setCell ⟨q7, 6, none⟩ (.int .i64 ((mir X) 6))).setCell ⟨q7, 7, none⟩ (.int .i64 ((mir X) 7))).setCell ⟨q7, 8, none⟩ (.int .i64 ((mir X) 8))) := by
  obtain ⟨-, hq, cs0, hc0, hh0, -⟩ := I.s10 ha
  obtain ⟨u9, e9, h9, hb⟩ := ml_laid hh0 hc0 (mir X)
  have ho : Only q7 u u9 := by rw [e9]; exact ((((((((((Only.refl q7 u).setCell (p := ⟨q7, 0, none⟩) (.int .i64 ((mir X) 0))).setCell (p := ⟨q7, 1, none⟩) (.int .i64 ((mir X) 1))).setCell (p := ⟨q7, 2, none⟩) (.int .i64 ((mir X) 2))).setCell (p := ⟨q7, 3, none⟩) (.int .i64 ((mir X) 3))).setCell (p := ⟨q7, 4, none⟩) (.int .i64 ((mir X) 4))).setCell (p := ⟨q7, 5, none⟩) (.int .i64 ((mir X) 5))).setCell (p := ⟨q7, 6, none⟩) (.int .i64 ((mir X) 6))).setCell (p := ⟨q7, 7, none⟩) (.int .i64 ((mir X) 7))).setCell (p := ⟨q7, 8, none⟩) (.int .i64 ((mir X) 8)))
  have hne0 : b 8 = true → q5 ≠ q7 := fun h => (I.n2_0 ha h).symm
  have hne1 : b 9 = true → q6 ≠ q7 := fun h => (I.n2_1 ha h).symm
  rw [← e9]
  exact ⟨I.sk,
    I.bel.trans (hb.mono hq),
    by have := hb.size; have := I.sz; omega,
    I.h0.only ho (by omega),
    I.h1.only ho (by omega),
    fun h => I.s0 (by simpa using h),
    fun h => I.s1 (by simpa using h),
    fun h => I.s2 (by simpa using h),
    fun h => I.s3 (by simpa using h),
    fun h => I.s4 (by simpa using h),
    fun h => I.s5 (by simpa using h),
    fun h => I.s6 (by simpa using h),
    fun h => I.s7 (by simpa using h),
    fun h => by obtain ⟨p1, p2, cs, p3, p4, p5⟩ := I.s8 (by simpa using h); exact ⟨p1, p2, cs, p3, p4.only ho (hne0 (by simpa using h)), fun h2 => p5 (by simpa using h2)⟩,
    fun h => by have h2 := I.e11 (by simpa using h); simp [h2],
    fun h => by obtain ⟨p1, p2, cs, p3, p4, p5⟩ := I.s9 (by simpa using h); exact ⟨p1, p2, cs, p3, p4.only ho (hne1 (by simpa using h)), fun h2 => p5 (by simpa using h2)⟩,
    fun h => by have h2 := I.e12 (by simpa using h); simp [h2],
    fun h => by obtain ⟨p1, p2, cs, p3, p4, p5⟩ := I.s10 (by simpa using h); exact ⟨p1, p2, _, rfl, h9, fun _ => rfl⟩,
    fun h => by simpa using ha,
    fun h h2 => I.n1_0 (by simpa using h) (by simpa using h2),
    fun h h2 => I.n2_0 (by simpa using h) (by simpa using h2),
    fun h h2 => I.n2_1 (by simpa using h) (by simpa using h2)⟩
set_option maxRecDepth 100000 in
set_option maxHeartbeats 4000000 in
theorem MsI.fin {X D : Nat → Int} {w V : World} {a0 : Act} {b : Nat → Bool} {q5 q6 q7 : Nat} {a : Act} {u : World} (I : MsI X D w V a0 b q5 q6 q7 a u) (hb : ∀ i, i < 100 → i < 14 → b i = true) (hn : 20 < a0.tmps.size) : a = (((((((((((a0.put (some 13) (.agg #[.int .i64 (unt 0), .int .i64 (unt 1), .int .i64 (unt 2), .int .i64 (unt 3), .int .i64 (unt 4), .int .i64 (unt 5), .int .i64 (unt 6), .int .i64 (unt 7), .int .i64 (unt 8)])).put (some 14) (.agg #[.int .i64 (unt 0), .int .i64 (unt 1), .int .i64 (unt 2), .int .i64 (unt 3), .int .i64 (unt 4), .int .i64 (unt 5), .int .i64 (unt 6), .int .i64 (unt 7), .int .i64 (unt 8)])).put (some 15) (.agg #[.int .i64 (D 0), .int .i64 (D 1), .int .i64 (D 2)])).put (some 16) (.agg #[.int .i64 ((dgl D) 0), .int .i64 ((dgl D) 1), .int .i64 ((dgl D) 2), .int .i64 ((dgl D) 3), .int .i64 ((dgl D) 4), .int .i64 ((dgl D) 5), .int .i64 ((dgl D) 6), .int .i64 ((dgl D) 7), .int .i64 ((dgl D) 8)])).put (some 17) (.agg #[.int .i64 ((dgl D) 0), .int .i64 ((dgl D) 1), .int .i64 ((dgl D) 2), .int .i64 ((dgl D) 3), .int .i64 ((dgl D) 4), .int .i64 ((dgl D) 5), .int .i64 ((dgl D) 6), .int .i64 ((dgl D) 7), .int .i64 ((dgl D) 8)])).put (some 18) (.agg #[.int .i64 (X 0), .int .i64 (X 1), .int .i64 (X 2), .int .i64 (X 3), .int .i64 (X 4), .int .i64 (X 5), .int .i64 (X 6), .int .i64 (X 7), .int .i64 (X 8)])).put (some 19) (.agg #[.int .i64 ((mir X) 0), .int .i64 ((mir X) 1), .int .i64 ((mir X) 2), .int .i64 ((mir X) 3), .int .i64 ((mir X) 4), .int .i64 ((mir X) 5), .int .i64 ((mir X) 6), .int .i64 ((mir X) 7), .int .i64 ((mir X) 8)])).put (some 20) (.agg #[.int .i64 ((mir X) 0), .int .i64 ((mir X) 1), .int .i64 ((mir X) 2), .int .i64 ((mir X) 3), .int .i64 ((mir X) 4), .int .i64 ((mir X) 5), .int .i64 ((mir X) 6), .int .i64 ((mir X) 7), .int .i64 ((mir X) 8)])).put (some 5) (.pointer (some ⟨q5, 0, none⟩))).put (some 6) (.pointer (some ⟨q6, 0, none⟩))).put (some 7) (.pointer (some ⟨q7, 0, none⟩))) := by
  refine act_ext (by simp only [put_defers]; exact I.sk.defers) (by simp only [put_size]; exact I.sk.size) (fun s hs => ?_)
  by_cases hd : s ∈ ([13, 14, 15, 16, 17, 18, 19, 20, 5, 6, 7] : List Nat)
  · simp only [List.mem_cons, List.not_mem_nil, or_false] at hd
    rcases hd with rfl | rfl | rfl | rfl | rfl | rfl | rfl | rfl | rfl | rfl | rfl
    · refine (I.s0 (hb 0 (by omega) (by omega))).trans (Eq.symm ?_)
      exact (put_other _ (by decide)).trans ((put_other _ (by decide)).trans ((put_other _ (by decide)).trans ((put_other _ (by decide)).trans ((put_other _ (by decide)).trans ((put_other _ (by decide)).trans ((put_other _ (by decide)).trans ((put_other _ (by decide)).trans ((put_other _ (by decide)).trans ((put_other _ (by decide)).trans (put_same _ (by (try simp only [put_size]); omega)))))))))))
    · refine (I.s1 (hb 1 (by omega) (by omega))).trans (Eq.symm ?_)
      exact (put_other _ (by decide)).trans ((put_other _ (by decide)).trans ((put_other _ (by decide)).trans ((put_other _ (by decide)).trans ((put_other _ (by decide)).trans ((put_other _ (by decide)).trans ((put_other _ (by decide)).trans ((put_other _ (by decide)).trans ((put_other _ (by decide)).trans (put_same _ (by (try simp only [put_size]); omega))))))))))
    · refine (I.s2 (hb 2 (by omega) (by omega))).trans (Eq.symm ?_)
      exact (put_other _ (by decide)).trans ((put_other _ (by decide)).trans ((put_other _ (by decide)).trans ((put_other _ (by decide)).trans ((put_other _ (by decide)).trans ((put_other _ (by decide)).trans ((put_other _ (by decide)).trans ((put_other _ (by decide)).trans (put_same _ (by (try simp only [put_size]); omega)))))))))
    · refine (I.s3 (hb 3 (by omega) (by omega))).trans (Eq.symm ?_)
      exact (put_other _ (by decide)).trans ((put_other _ (by decide)).trans ((put_other _ (by decide)).trans ((put_other _ (by decide)).trans ((put_other _ (by decide)).trans ((put_other _ (by decide)).trans ((put_other _ (by decide)).trans (put_same _ (by (try simp only [put_size]); omega))))))))
    · refine (I.s4 (hb 4 (by omega) (by omega))).trans (Eq.symm ?_)
      exact (put_other _ (by decide)).trans ((put_other _ (by decide)).trans ((put_other _ (by decide)).trans ((put_other _ (by decide)).trans ((put_other _ (by decide)).trans ((put_other _ (by decide)).trans (put_same _ (by (try simp only [put_size]); omega)))))))
    · refine (I.s5 (hb 5 (by omega) (by omega))).trans (Eq.symm ?_)
      exact (put_other _ (by decide)).trans ((put_other _ (by decide)).trans ((put_other _ (by decide)).trans ((put_other _ (by decide)).trans ((put_other _ (by decide)).trans (put_same _ (by (try simp only [put_size]); omega))))))
    · refine (I.s6 (hb 6 (by omega) (by omega))).trans (Eq.symm ?_)
      exact (put_other _ (by decide)).trans ((put_other _ (by decide)).trans ((put_other _ (by decide)).trans ((put_other _ (by decide)).trans (put_same _ (by (try simp only [put_size]); omega)))))
    · refine (I.s7 (hb 7 (by omega) (by omega))).trans (Eq.symm ?_)
      exact (put_other _ (by decide)).trans ((put_other _ (by decide)).trans ((put_other _ (by decide)).trans (put_same _ (by (try simp only [put_size]); omega))))
    · refine ((I.s8 (hb 8 (by omega) (by omega))).1).trans (Eq.symm ?_)
      exact (put_other _ (by decide)).trans ((put_other _ (by decide)).trans (put_same _ (by (try simp only [put_size]); omega)))
    · refine ((I.s9 (hb 9 (by omega) (by omega))).1).trans (Eq.symm ?_)
      exact (put_other _ (by decide)).trans (put_same _ (by (try simp only [put_size]); omega))
    · refine ((I.s10 (hb 10 (by omega) (by omega))).1).trans (Eq.symm ?_)
      exact put_same _ (by (try simp only [put_size]); omega)
  · refine (I.sk.slot s hd).trans (Eq.symm ?_)
    simp only [List.mem_cons, List.not_mem_nil, or_false, not_or] at hd
    obtain ⟨g0, g1, g2, g3, g4, g5, g6, g7, g8, g9, g10⟩ := hd
    exact (put_other _ g10).trans ((put_other _ g9).trans ((put_other _ g8).trans ((put_other _ g7).trans ((put_other _ g6).trans ((put_other _ g5).trans ((put_other _ g4).trans ((put_other _ g3).trans ((put_other _ g2).trans ((put_other _ g1).trans ((put_other _ g0).trans (rfl)))))))))))
theorem mshp_box (w : World) (X D : Nat → Int) : ∃ V, V = ((w.alloc (.cells #[.int .i64 (X 0), .int .i64 (X 1), .int .i64 (X 2), .int .i64 (X 3), .int .i64 (X 4), .int .i64 (X 5), .int .i64 (X 6), .int .i64 (X 7), .int .i64 (X 8)] 56)).alloc (.cells #[.int .i64 (D 0), .int .i64 (D 1), .int .i64 (D 2)] 65)) ∧ Below w.heap.size w V ∧ Held w.heap.size [.int .i64 (X 0), .int .i64 (X 1), .int .i64 (X 2), .int .i64 (X 3), .int .i64 (X 4), .int .i64 (X 5), .int .i64 (X 6), .int .i64 (X 7), .int .i64 (X 8)] V ∧ Held (w.heap.size + 1) [.int .i64 (D 0), .int .i64 (D 1), .int .i64 (D 2)] V ∧ V.heap.size = w.heap.size + 2 := by
  refine ⟨_, rfl, (by repeat (first | exact Below.refl _ _ | assumption | apply Below.drew | apply below_drewN | (refine Below.alloc ?_ (by first | exact Nat.le_refl _ | omega | (simp <;> omega)) _) | (refine Below.setCell ?_ (by first | exact Nat.le_refl _ | omega | (simp <;> omega)) _))), (Held.new w [.int .i64 (X 0), .int .i64 (X 1), .int .i64 (X 2), .int .i64 (X 3), .int .i64 (X 4), .int .i64 (X 5), .int .i64 (X 6), .int .i64 (X 7), .int .i64 (X 8)] 56).alloc _, ?_, by simp⟩
  have h := Held.new (w.alloc (.cells #[.int .i64 (X 0), .int .i64 (X 1), .int .i64 (X 2), .int .i64 (X 3), .int .i64 (X 4), .int .i64 (X 5), .int .i64 (X 6), .int .i64 (X 7), .int .i64 (X 8)] 56)) [.int .i64 (D 0), .int .i64 (D 1), .int .i64 (D 2)] 65
  have e : (w.alloc (.cells #[.int .i64 (X 0), .int .i64 (X 1), .int .i64 (X 2), .int .i64 (X 3), .int .i64 (X 4), .int .i64 (X 5), .int .i64 (X 6), .int .i64 (X 7), .int .i64 (X 8)] 56)).heap.size = w.heap.size + 1 := by simp
  rw [e] at h
  exact h
theorem mx_box (w : World) (X : Nat → Int) : ∃ V, V = (w.alloc (.cells #[.int .i64 (X 0), .int .i64 (X 1), .int .i64 (X 2), .int .i64 (X 3), .int .i64 (X 4), .int .i64 (X 5), .int .i64 (X 6), .int .i64 (X 7), .int .i64 (X 8)] 58)) ∧ Below w.heap.size w V ∧ Held w.heap.size [.int .i64 (X 0), .int .i64 (X 1), .int .i64 (X 2), .int .i64 (X 3), .int .i64 (X 4), .int .i64 (X 5), .int .i64 (X 6), .int .i64 (X 7), .int .i64 (X 8)] V := ⟨_, rfl, (by repeat (first | exact Below.refl _ _ | assumption | apply Below.drew | apply below_drewN | (refine Below.alloc ?_ (by first | exact Nat.le_refl _ | omega | (simp <;> omega)) _) | (refine Below.setCell ?_ (by first | exact Nat.le_refl _ | omega | (simp <;> omega)) _))), Held.new w [.int .i64 (X 0), .int .i64 (X 1), .int .i64 (X 2), .int .i64 (X 3), .int .i64 (X 4), .int .i64 (X 5), .int .i64 (X 6), .int .i64 (X 7), .int .i64 (X 8)] 58⟩
set_option maxRecDepth 100000 in
set_option maxHeartbeats 8000000 in
theorem law_MatrixShapes (X D : Nat → Int) (w : World) : Calls Try.prog 6 #[.agg #[.int .i64 (X 0), .int .i64 (X 1), .int .i64 (X 2), .int .i64 (X 3), .int .i64 (X 4), .int .i64 (X 5), .int .i64 (X 6), .int .i64 (X 7), .int .i64 (X 8)], .agg #[.int .i64 (D 0), .int .i64 (D 1), .int .i64 (D 2)]] w fun e w' => e = .returned (.bool true) ∧ Below w.heap.size w w' := by
  obtain ⟨V, eV, hb0, hX, hD, hz⟩ := mshp_box w X D
  have UN := Lib.hid (fun u => munit u)
  have NU := Lib.hid (fun u => mnine unt u)
  have DG := Lib.hid (fun u => mdiag D u)
  have ND := Lib.hid (fun u => mnine (dgl D) u)
  have MI := Lib.hid (fun u => mmirror X u)
  have NM := Lib.hid (fun u => mnine (mir X) u)
  have NX := Lib.hid (fun u => mnine X u)
  have SY := Lib.hid (fun u => msymg X u)
  have TU := Lib.hid (fun u => rturn X u)
  have LV := Lib.hid (fun u => lives40 u)
  replace eV := Lib.hid eV
  have HZ := Lib.hid hz
  have HB0 := Lib.hid hb0
  clear hb0
  go_enter Try.func6, Try.ntmps6
  go_upto_region 1 with (fail)
  rw [← eV.out]
  refine region_inv_at (fun a_ V_ b a u => ∃ q5 q6 q7, MsI X D w V a_ b q5 q6 q7 a u) (by kernel_rfl) (by kernel_rfl) ⟨0, 0, 0, ⟨Sk.refl _ _, (Below.refl _ _).drew, Nat.le_of_eq HZ.out.symm, hX.drew, hD.drew, by simp, by simp, by simp, by simp, by simp, by simp, by simp, by simp, by simp, by simp, by simp, by simp, by simp, by simp, by simp, by simp, by simp⟩⟩ ?_ ?_
  · intro i o ho b a u I hb hd K hK
    obtain ⟨q5, q6, q7, I⟩ := I
    have hi : i < 14 := (Array.getElem?_eq_some_iff.1 ho).1
    rcases (show i = 0 ∨ i = 1 ∨ i = 2 ∨ i = 3 ∨ i = 4 ∨ i = 5 ∨ i = 6 ∨ i = 7 ∨ i = 8 ∨ i = 9 ∨ i = 10 ∨ i = 11 ∨ i = 12 ∨ i = 13 by omega) with rfl | rfl | rfl | rfl | rfl | rfl | rfl | rfl | rfl | rfl | rfl | rfl | rfl | rfl
    · obtain rfl := Option.some.inj ho
      have I' := Lib.hid I
      clear I hd hb
      go_simp
      refine (UN.out _).mono ?_
      rintro e u1 ⟨rfl, hu⟩
      go_simp
      exact hK.out _ _ ⟨q5, q6, q7, I'.out.next0 (by show _ < 77; omega) hu⟩
    · obtain rfl := Option.some.inj ho
      have d0 := I.s0 (hd 0 (by decide))
      have I' := Lib.hid I
      clear I hd hb
      go_simp
      refine (NU.out _).mono ?_
      rintro e u1 ⟨rfl, hu⟩
      go_simp
      exact hK.out _ _ ⟨q5, q6, q7, I'.out.next1 (by show _ < 77; omega) hu⟩
    · obtain rfl := Option.some.inj ho
      have d0 : a.tmps.getD 3 undef = .pointer (some ⟨w.heap.size + 1, 0, none⟩) := (I.sk.slot 3 (by decide)).trans rfl
      have hXX := I.h1
      obtain ⟨c0, f0⟩ := hXX.one 0 rfl
      obtain ⟨c1, f1⟩ := hXX.one 1 rfl
      obtain ⟨c2, f2⟩ := hXX.one 2 rfl
      clear hXX
      have I' := Lib.hid I
      clear I hd hb
      go_simp
      exact hK.out _ _ ⟨q5, q6, q7, I'.out.next2 (by show _ < 77; omega) (Below.refl _ _)⟩
    · obtain rfl := Option.some.inj ho
      have d0 := I.s2 (hd 2 (by decide))
      have I' := Lib.hid I
      clear I hd hb
      go_simp
      refine (DG.out _).mono ?_
      rintro e u1 ⟨rfl, hu⟩
      go_simp
      exact hK.out _ _ ⟨q5, q6, q7, I'.out.next3 (by show _ < 77; omega) hu⟩
    · obtain rfl := Option.some.inj ho
      have d0 := I.s3 (hd 3 (by decide))
      have I' := Lib.hid I
      clear I hd hb
      go_simp
      refine (ND.out _).mono ?_
      rintro e u1 ⟨rfl, hu⟩
      go_simp
      exact hK.out _ _ ⟨q5, q6, q7, I'.out.next4 (by show _ < 77; omega) hu⟩
    · obtain rfl := Option.some.inj ho
      have d0 : a.tmps.getD 2 undef = .pointer (some ⟨w.heap.size, 0, none⟩) := (I.sk.slot 2 (by decide)).trans rfl
      have hXX := I.h0
      obtain ⟨c0, f0⟩ := hXX.one 0 rfl
      obtain ⟨c1, f1⟩ := hXX.one 1 rfl
      obtain ⟨c2, f2⟩ := hXX.one 2 rfl
      obtain ⟨c3, f3⟩ := hXX.one 3 rfl
      obtain ⟨c4, f4⟩ := hXX.one 4 rfl
      obtain ⟨c5, f5⟩ := hXX.one 5 rfl
      obtain ⟨c6, f6⟩ := hXX.one 6 rfl
      obtain ⟨c7, f7⟩ := hXX.one 7 rfl
      obtain ⟨c8, f8⟩ := hXX.one 8 rfl
      clear hXX
      have I' := Lib.hid I
      clear I hd hb
      go_simp
      exact hK.out _ _ ⟨q5, q6, q7, I'.out.next5 (by show _ < 77; omega) (Below.refl _ _)⟩
    · obtain rfl := Option.some.inj ho
      have d0 := I.s5 (hd 5 (by decide))
      have I' := Lib.hid I
      clear I hd hb
      go_simp
      refine (MI.out _).mono ?_
      rintro e u1 ⟨rfl, hu⟩
      go_simp
      exact hK.out _ _ ⟨q5, q6, q7, I'.out.next6 (by show _ < 77; omega) hu⟩
    · obtain rfl := Option.some.inj ho
      have d0 := I.s6 (hd 6 (by decide))
      have I' := Lib.hid I
      clear I hd hb
      go_simp
      refine (NM.out _).mono ?_
      rintro e u1 ⟨rfl, hu⟩
      go_simp
      exact hK.out _ _ ⟨q5, q6, q7, I'.out.next7 (by show _ < 77; omega) hu⟩
    · obtain rfl := Option.some.inj ho
      have I' := Lib.hid I
      have hbb := Lib.hid hb
      clear I hd hb
      go_simp
      exact hK.out _ _ ⟨_, q6, q7, I'.out.next8 (by show _ < 77; omega) hbb.out⟩
    · obtain rfl := Option.some.inj ho
      have I' := Lib.hid I
      have hbb := Lib.hid hb
      clear I hd hb
      go_simp
      exact hK.out _ _ ⟨q5, _, q7, I'.out.next9 (by show _ < 77; omega) hbb.out⟩
    · obtain rfl := Option.some.inj ho
      have I' := Lib.hid I
      have hbb := Lib.hid hb
      clear I hd hb
      go_simp
      exact hK.out _ _ ⟨q5, q6, _, I'.out.next10 (by show _ < 77; omega) hbb.out⟩
    · obtain rfl := Option.some.inj ho
      have ha := hd 8 (by decide)
      have h2 := I.s1 (hd 1 (by decide))
      obtain ⟨h3, -, cs, hc, hh, -⟩ := I.s8 ha
      obtain ⟨x0, x1, x2, x3, x4, x5, x6, x7, x8, rfl⟩ := l9x hc
      obtain ⟨c0, f0⟩ := hh.one 0 rfl
      obtain ⟨c1, f1⟩ := hh.one 1 rfl
      obtain ⟨c2, f2⟩ := hh.one 2 rfl
      obtain ⟨c3, f3⟩ := hh.one 3 rfl
      obtain ⟨c4, f4⟩ := hh.one 4 rfl
      obtain ⟨c5, f5⟩ := hh.one 5 rfl
      obtain ⟨c6, f6⟩ := hh.one 6 rfl
      obtain ⟨c7, f7⟩ := hh.one 7 rfl
      obtain ⟨c8, f8⟩ := hh.one 8 rfl
      have I' := Lib.hid (I.next11 ha)
      clear I hd hb hh hc
      go_simp
      exact hK.out _ _ ⟨q5, q6, q7, I'.out⟩
    · obtain rfl := Option.some.inj ho
      have ha := hd 9 (by decide)
      have h2 := I.s4 (hd 4 (by decide))
      obtain ⟨h3, -, cs, hc, hh, -⟩ := I.s9 ha
      obtain ⟨x0, x1, x2, x3, x4, x5, x6, x7, x8, rfl⟩ := l9x hc
      obtain ⟨c0, f0⟩ := hh.one 0 rfl
      obtain ⟨c1, f1⟩ := hh.one 1 rfl
      obtain ⟨c2, f2⟩ := hh.one 2 rfl
      obtain ⟨c3, f3⟩ := hh.one 3 rfl
      obtain ⟨c4, f4⟩ := hh.one 4 rfl
      obtain ⟨c5, f5⟩ := hh.one 5 rfl
      obtain ⟨c6, f6⟩ := hh.one 6 rfl
      obtain ⟨c7, f7⟩ := hh.one 7 rfl
      obtain ⟨c8, f8⟩ := hh.one 8 rfl
      have I' := Lib.hid (I.next12 ha)
      clear I hd hb hh hc
      go_simp
      exact hK.out _ _ ⟨q5, q6, q7, I'.out⟩
    · obtain rfl := Option.some.inj ho
      have ha := hd 10 (by decide)
      have h2 := I.s7 (hd 7 (by decide))
      obtain ⟨h3, -, cs, hc, hh, -⟩ := I.s10 ha
      obtain ⟨x0, x1, x2, x3, x4, x5, x6, x7, x8, rfl⟩ := l9x hc
      obtain ⟨c0, f0⟩ := hh.one 0 rfl
      obtain ⟨c1, f1⟩ := hh.one 1 rfl
      obtain ⟨c2, f2⟩ := hh.one 2 rfl
      obtain ⟨c3, f3⟩ := hh.one 3 rfl
      obtain ⟨c4, f4⟩ := hh.one 4 rfl
      obtain ⟨c5, f5⟩ := hh.one 5 rfl
      obtain ⟨c6, f6⟩ := hh.one 6 rfl
      obtain ⟨c7, f7⟩ := hh.one 7 rfl
      obtain ⟨c8, f8⟩ := hh.one 8 rfl
      have I' := Lib.hid (I.next13 ha)
      clear I hd hb hh hc
      go_simp
      exact hK.out _ _ ⟨q5, q6, q7, I'.out⟩
  · intro b a u hall I
    obtain ⟨q5, q6, q7, I⟩ := I
    have ea := I.fin (fun i _ h => hall i h) (by show _ < 77; omega)
    obtain ⟨-, r0, cs0, -, k0, j0⟩ := I.s8 (hall 8 (by decide))
    rw [j0 (hall 11 (by decide))] at k0
    obtain ⟨-, r1, cs1, -, k1, j1⟩ := I.s9 (hall 9 (by decide))
    rw [j1 (hall 12 (by decide))] at k1
    obtain ⟨-, r2, cs2, -, k2, j2⟩ := I.s10 (hall 10 (by decide))
    rw [j2 (hall 13 (by decide))] at k2
    have KX := Lib.hid I.h0
    have KD := Lib.hid I.h1
    have KU := Lib.hid k0
    have KG := Lib.hid k1
    have KM := Lib.hid k2
    have BB := Lib.hid I.bel
    have Z0 := Lib.hid (show q5 < u.heap.size ∧ q6 < u.heap.size ∧ q7 < u.heap.size ∧ w.heap.size + 2 ≤ u.heap.size from ⟨k0.lt, k1.lt, k2.lt, I.sz⟩)
    subst ea
    clear I hall eV k0 k1 k2 j0 j1 j2 hX hD hz
    simp only [Act.put, List.setIfInBounds_toArray, List.set_cons_zero, List.set_cons_succ]
    have hh_ := KX.out
    obtain ⟨c0, f0⟩ := hh_.one 0 rfl
    obtain ⟨c1, f1⟩ := hh_.one 1 rfl
    obtain ⟨c2, f2⟩ := hh_.one 2 rfl
    obtain ⟨c3, f3⟩ := hh_.one 3 rfl
    obtain ⟨c4, f4⟩ := hh_.one 4 rfl
    obtain ⟨c5, f5⟩ := hh_.one 5 rfl
    obtain ⟨c6, f6⟩ := hh_.one 6 rfl
    obtain ⟨c7, f7⟩ := hh_.one 7 rfl
    obtain ⟨c8, f8⟩ := hh_.one 8 rfl
    clear hh_
    go_wp2_with fail
    refine (NX.out _).mono ?_
    rintro e w2 ⟨rfl, hq⟩
    replace KX := Lib.hid (KX.out.bel hq)
    replace KD := Lib.hid (KD.out.bel hq)
    replace KU := Lib.hid (KU.out.bel hq)
    replace KG := Lib.hid (KG.out.bel hq)
    replace KM := Lib.hid (KM.out.bel hq)
    replace BB := Lib.hid (BB.out.trans (hq.mono (by have := Z0.out; omega)))
    have hs2 := Lib.hid (show w.heap.size + 2 ≤ w2.heap.size by have := hq.size; have := Z0.out; omega)
    clear c0 f0 c1 f1 c2 f2 c3 f3 c4 f4 c5 f5 c6 f6 c7 f7 c8 f8
    clear hq
    go_upto_region 3 with (fail)
    obtain ⟨V2, eV2, hb2, hN⟩ := mx_box w2 X
    rw [← eV2]
    replace KX := Lib.hid (KX.out.bel hb2)
    replace KD := Lib.hid (KD.out.bel hb2)
    replace KU := Lib.hid (KU.out.bel hb2)
    replace KG := Lib.hid (KG.out.bel hb2)
    replace KM := Lib.hid (KM.out.bel hb2)
    replace BB := Lib.hid (BB.out.trans (hb2.mono hs2.out))
    have KN := Lib.hid hN
    generalize w2.heap.size = q8 at *
    clear eV2 hb2 hN
    go_wp2_with fail
    go_loopw [9] (fun i v => ∃ k : Nat, k ≤ 9 ∧ i = .int .i64 (k : Int) ∧ Hid (Held w.heap.size [.int .i64 (X 0), .int .i64 (X 1), .int .i64 (X 2), .int .i64 (X 3), .int .i64 (X 4), .int .i64 (X 5), .int .i64 (X 6), .int .i64 (X 7), .int .i64 (X 8)] v) ∧ Hid (Held (w.heap.size + 1) [.int .i64 (D 0), .int .i64 (D 1), .int .i64 (D 2)] v) ∧ Hid (Held q5 [.int .i64 (unt 0), .int .i64 (unt 1), .int .i64 (unt 2), .int .i64 (unt 3), .int .i64 (unt 4), .int .i64 (unt 5), .int .i64 (unt 6), .int .i64 (unt 7), .int .i64 (unt 8)] v) ∧ Hid (Held q6 [.int .i64 ((dgl D) 0), .int .i64 ((dgl D) 1), .int .i64 ((dgl D) 2), .int .i64 ((dgl D) 3), .int .i64 ((dgl D) 4), .int .i64 ((dgl D) 5), .int .i64 ((dgl D) 6), .int .i64 ((dgl D) 7), .int .i64 ((dgl D) 8)] v) ∧ Hid (Held q7 [.int .i64 ((mir X) 0), .int .i64 ((mir X) 1), .int .i64 ((mir X) 2), .int .i64 ((mir X) 3), .int .i64 ((mir X) 4), .int .i64 ((mir X) 5), .int .i64 ((mir X) 6), .int .i64 ((mir X) 7), .int .i64 ((mir X) 8)] v) ∧ Hid (Held q8 [.int .i64 (X 0), .int .i64 (X 1), .int .i64 (X 2), .int .i64 (X 3), .int .i64 (X 4), .int .i64 (X 5), .int .i64 (X 6), .int .i64 (X 7), .int .i64 (X 8)] v) ∧ Hid (Below (w.heap.size + 2) V v)) (fun i _ => 9 - (intOf i).toNat)
    case atStart => exact ⟨0, by omega, rfl, KX, KD, KU, KG, KM, KN, BB⟩
    case round =>
      clear KX KD KU KG KM KN BB
      obtain ⟨k, hk, rfl, KX, KD, KU, KG, KM, KN, BB⟩ := hrel
      rcases (show k = 0 ∨ k = 1 ∨ k = 2 ∨ k = 3 ∨ k = 4 ∨ k = 5 ∨ k = 6 ∨ k = 7 ∨ k = 8 ∨ k = 9 by omega) with rfl | rfl | rfl | rfl | rfl | rfl | rfl | rfl | rfl | rfl
      · have kk : ((0 : Nat) : Int) = 0 := rfl
        have a0 : wr.cell? ⟨q5, 0, none⟩ = some (.int .i64 1048576) := KU.out.c 0 _ rfl
        have a1 : wr.cell? ⟨q6, 0, none⟩ = some (.int .i64 (D 0)) := KG.out.c 0 _ rfl
        have a2 : wr.cell? ⟨q8, 0, none⟩ = some (.int .i64 (X 0)) := KN.out.c 0 _ rfl
        have a3 : wr.cell? ⟨q7, 0, none⟩ = some (.int .i64 (X 0)) := KM.out.c 0 _ rfl
        have a4 : wr.cell? ⟨w.heap.size + 1, 0, none⟩ = some (.int .i64 (D 0)) := KD.out.c 0 _ rfl
        go_wp2
        go_roundw
        case rel => exact ⟨0 + 1, by omega, by first | rfl | go_num, KX, KD, KU, KG, KM, KN, BB⟩
        case measure => simp [intOf]
      · have kk : ((1 : Nat) : Int) = 1 := rfl
        have a0 : wr.cell? ⟨q5, 1, none⟩ = some (.int .i64 0) := KU.out.c 1 _ rfl
        have a1 : wr.cell? ⟨q6, 1, none⟩ = some (.int .i64 0) := KG.out.c 1 _ rfl
        have a2 : wr.cell? ⟨q8, 1, none⟩ = some (.int .i64 (X 1)) := KN.out.c 1 _ rfl
        have a3 : wr.cell? ⟨q7, 1, none⟩ = some (.int .i64 (X 1)) := KM.out.c 1 _ rfl
        go_wp2
        go_roundw
        case rel => exact ⟨1 + 1, by omega, by first | rfl | go_num, KX, KD, KU, KG, KM, KN, BB⟩
        case measure => simp [intOf]
      · have kk : ((2 : Nat) : Int) = 2 := rfl
        have a0 : wr.cell? ⟨q5, 2, none⟩ = some (.int .i64 0) := KU.out.c 2 _ rfl
        have a1 : wr.cell? ⟨q6, 2, none⟩ = some (.int .i64 0) := KG.out.c 2 _ rfl
        have a2 : wr.cell? ⟨q8, 2, none⟩ = some (.int .i64 (X 2)) := KN.out.c 2 _ rfl
        have a3 : wr.cell? ⟨q7, 2, none⟩ = some (.int .i64 (X 2)) := KM.out.c 2 _ rfl
        go_wp2
        go_roundw
        case rel => exact ⟨2 + 1, by omega, by first | rfl | go_num, KX, KD, KU, KG, KM, KN, BB⟩
        case measure => simp [intOf]
      · have kk : ((3 : Nat) : Int) = 3 := rfl
        have a0 : wr.cell? ⟨q5, 3, none⟩ = some (.int .i64 0) := KU.out.c 3 _ rfl
        have a1 : wr.cell? ⟨q6, 3, none⟩ = some (.int .i64 0) := KG.out.c 3 _ rfl
        have a2 : wr.cell? ⟨q8, 3, none⟩ = some (.int .i64 (X 3)) := KN.out.c 3 _ rfl
        have a3 : wr.cell? ⟨q7, 3, none⟩ = some (.int .i64 (X 1)) := KM.out.c 3 _ rfl
        have a5 : wr.cell? ⟨q8, 1, none⟩ = some (.int .i64 (X 1)) := KN.out.c 1 _ rfl
        go_wp2
        go_roundw
        case rel => exact ⟨3 + 1, by omega, by first | rfl | go_num, KX, KD, KU, KG, KM, KN, BB⟩
        case measure => simp [intOf]
      · have kk : ((4 : Nat) : Int) = 4 := rfl
        have a0 : wr.cell? ⟨q5, 4, none⟩ = some (.int .i64 1048576) := KU.out.c 4 _ rfl
        have a1 : wr.cell? ⟨q6, 4, none⟩ = some (.int .i64 (D 1)) := KG.out.c 4 _ rfl
        have a2 : wr.cell? ⟨q8, 4, none⟩ = some (.int .i64 (X 4)) := KN.out.c 4 _ rfl
        have a3 : wr.cell? ⟨q7, 4, none⟩ = some (.int .i64 (X 4)) := KM.out.c 4 _ rfl
        have a4 : wr.cell? ⟨w.heap.size + 1, 1, none⟩ = some (.int .i64 (D 1)) := KD.out.c 1 _ rfl
        go_wp2
        go_roundw
        case rel => exact ⟨4 + 1, by omega, by first | rfl | go_num, KX, KD, KU, KG, KM, KN, BB⟩
        case measure => simp [intOf]
      · have kk : ((5 : Nat) : Int) = 5 := rfl
        have a0 : wr.cell? ⟨q5, 5, none⟩ = some (.int .i64 0) := KU.out.c 5 _ rfl
        have a1 : wr.cell? ⟨q6, 5, none⟩ = some (.int .i64 0) := KG.out.c 5 _ rfl
        have a2 : wr.cell? ⟨q8, 5, none⟩ = some (.int .i64 (X 5)) := KN.out.c 5 _ rfl
        have a3 : wr.cell? ⟨q7, 5, none⟩ = some (.int .i64 (X 5)) := KM.out.c 5 _ rfl
        go_wp2
        go_roundw
        case rel => exact ⟨5 + 1, by omega, by first | rfl | go_num, KX, KD, KU, KG, KM, KN, BB⟩
        case measure => simp [intOf]
      · have kk : ((6 : Nat) : Int) = 6 := rfl
        have a0 : wr.cell? ⟨q5, 6, none⟩ = some (.int .i64 0) := KU.out.c 6 _ rfl
        have a1 : wr.cell? ⟨q6, 6, none⟩ = some (.int .i64 0) := KG.out.c 6 _ rfl
        have a2 : wr.cell? ⟨q8, 6, none⟩ = some (.int .i64 (X 6)) := KN.out.c 6 _ rfl
        have a3 : wr.cell? ⟨q7, 6, none⟩ = some (.int .i64 (X 2)) := KM.out.c 6 _ rfl
        have a5 : wr.cell? ⟨q8, 2, none⟩ = some (.int .i64 (X 2)) := KN.out.c 2 _ rfl
        go_wp2
        go_roundw
        case rel => exact ⟨6 + 1, by omega, by first | rfl | go_num, KX, KD, KU, KG, KM, KN, BB⟩
        case measure => simp [intOf]
      · have kk : ((7 : Nat) : Int) = 7 := rfl
        have a0 : wr.cell? ⟨q5, 7, none⟩ = some (.int .i64 0) := KU.out.c 7 _ rfl
        have a1 : wr.cell? ⟨q6, 7, none⟩ = some (.int .i64 0) := KG.out.c 7 _ rfl
        have a2 : wr.cell? ⟨q8, 7, none⟩ = some (.int .i64 (X 7)) := KN.out.c 7 _ rfl
        have a3 : wr.cell? ⟨q7, 7, none⟩ = some (.int .i64 (X 5)) := KM.out.c 7 _ rfl
        have a5 : wr.cell? ⟨q8, 5, none⟩ = some (.int .i64 (X 5)) := KN.out.c 5 _ rfl
        go_wp2
        go_roundw
        case rel => exact ⟨7 + 1, by omega, by first | rfl | go_num, KX, KD, KU, KG, KM, KN, BB⟩
        case measure => simp [intOf]
      · have kk : ((8 : Nat) : Int) = 8 := rfl
        have a0 : wr.cell? ⟨q5, 8, none⟩ = some (.int .i64 1048576) := KU.out.c 8 _ rfl
        have a1 : wr.cell? ⟨q6, 8, none⟩ = some (.int .i64 (D 2)) := KG.out.c 8 _ rfl
        have a2 : wr.cell? ⟨q8, 8, none⟩ = some (.int .i64 (X 8)) := KN.out.c 8 _ rfl
        have a3 : wr.cell? ⟨q7, 8, none⟩ = some (.int .i64 (X 8)) := KM.out.c 8 _ rfl
        have a4 : wr.cell? ⟨w.heap.size + 1, 2, none⟩ = some (.int .i64 (D 2)) := KD.out.c 2 _ rfl
        go_wp2
        go_roundw
        case rel => exact ⟨8 + 1, by omega, by first | rfl | go_num, KX, KD, KU, KG, KM, KN, BB⟩
        case measure => simp [intOf]
      · have kk : ((9 : Nat) : Int) = 9 := rfl
        have EQ := fun u => neqg (X 0) (X 1) (X 2) (X 3) (X 4) (X 5) (X 6) (X 7) (X 8) (X 0) (X 3) (X 6) (X 1) (X 4) (X 7) (X 2) (X 5) (X 8) u
        have hE : ((X 0 == X 0) && (X 1 == X 3) && (X 2 == X 6) && (X 3 == X 1) && (X 4 == X 4) && (X 5 == X 7) && (X 6 == X 2) && (X 7 == X 5) && (X 8 == X 8)) = smB X := by simp [smB, trp, Bool.and_assoc]
        rw [hE] at EQ
        clear hE
        generalize smB X = sb at *
        have hh_ := KX.out
        obtain ⟨c0, f0⟩ := hh_.one 0 rfl
        obtain ⟨c1, f1⟩ := hh_.one 1 rfl
        obtain ⟨c2, f2⟩ := hh_.one 2 rfl
        obtain ⟨c3, f3⟩ := hh_.one 3 rfl
        obtain ⟨c4, f4⟩ := hh_.one 4 rfl
        obtain ⟨c5, f5⟩ := hh_.one 5 rfl
        obtain ⟨c6, f6⟩ := hh_.one 6 rfl
        obtain ⟨c7, f7⟩ := hh_.one 7 rfl
        obtain ⟨c8, f8⟩ := hh_.one 8 rfl
        clear hh_
        have hh_ := KN.out
        obtain ⟨d0, g0⟩ := hh_.one 0 rfl
        obtain ⟨d1, g1⟩ := hh_.one 1 rfl
        obtain ⟨d2, g2⟩ := hh_.one 2 rfl
        obtain ⟨d3, g3⟩ := hh_.one 3 rfl
        obtain ⟨d4, g4⟩ := hh_.one 4 rfl
        obtain ⟨d5, g5⟩ := hh_.one 5 rfl
        obtain ⟨d6, g6⟩ := hh_.one 6 rfl
        obtain ⟨d7, g7⟩ := hh_.one 7 rfl
        obtain ⟨d8, g8⟩ := hh_.one 8 rfl
        clear hh_
        go_wp2_with fail
        refine region_moves (fun u => u.cell? ⟨w.heap.size, 0, none⟩ = some (.int .i64 (X 0)) ∧ u.cell? ⟨w.heap.size, 1, none⟩ = some (.int .i64 (X 1)) ∧ u.cell? ⟨w.heap.size, 2, none⟩ = some (.int .i64 (X 2)) ∧ u.cell? ⟨w.heap.size, 3, none⟩ = some (.int .i64 (X 3)) ∧ u.cell? ⟨w.heap.size, 4, none⟩ = some (.int .i64 (X 4)) ∧ u.cell? ⟨w.heap.size, 5, none⟩ = some (.int .i64 (X 5)) ∧ u.cell? ⟨w.heap.size, 6, none⟩ = some (.int .i64 (X 6)) ∧ u.cell? ⟨w.heap.size, 7, none⟩ = some (.int .i64 (X 7)) ∧ u.cell? ⟨w.heap.size, 8, none⟩ = some (.int .i64 (X 8)) ∧ u.cell? ⟨q8, 0, none⟩ = some (.int .i64 (X 0)) ∧ u.cell? ⟨q8, 1, none⟩ = some (.int .i64 (X 1)) ∧ u.cell? ⟨q8, 2, none⟩ = some (.int .i64 (X 2)) ∧ u.cell? ⟨q8, 3, none⟩ = some (.int .i64 (X 3)) ∧ u.cell? ⟨q8, 4, none⟩ = some (.int .i64 (X 4)) ∧ u.cell? ⟨q8, 5, none⟩ = some (.int .i64 (X 5)) ∧ u.cell? ⟨q8, 6, none⟩ = some (.int .i64 (X 6)) ∧ u.cell? ⟨q8, 7, none⟩ = some (.int .i64 (X 7)) ∧ u.cell? ⟨q8, 8, none⟩ = some (.int .i64 (X 8))) [] [(.take, 0), (.take, 2), (.take, 3), (.step, 1), (.step, 4), (.free, 5), (.free, 6), (.free, 7), (.step, 8), (.free, 9), (.free, 10)] _ (by kernel_rfl) (by kernel_rfl) (by kernel_rfl) (by kernel_rfl) (by decide) rfl (fun _ _ _ _ _ h => h) ?_
        simp only [List.filterMap_cons, List.filterMap_nil, List.getElem?_toArray, List.getElem?_cons_zero, List.getElem?_cons_succ, Option.map_some]
        iterate 3
          first
            | (refine mv_take ?_ (Or.inl ⟨by rfl, ?_⟩) (⟨c0, c1, c2, c3, c4, c5, c6, c7, c8, d0, d1, d2, d3, d4, d5, d6, d7, d8⟩) ?_
               rotate_left 1
               · intro u hu
                 (try dsimp only at hu)
                 go_simp
                 try with_reducible rfl
               simp only [Act.put, List.setIfInBounds_toArray, List.set_cons_zero, List.set_cons_succ])
            | (refine mv_take _ (Or.inr ⟨by rfl, rfl⟩) (⟨c0, c1, c2, c3, c4, c5, c6, c7, c8, d0, d1, d2, d3, d4, d5, d6, d7, d8⟩) ?_
               simp only [Act.put, List.setIfInBounds_toArray, List.set_cons_zero, List.set_cons_succ])
        refine mv_step (fun K hK => ?_)
        go_simp
        refine (SY.out _).mono ?_
        rintro e w3 ⟨rfl, hq⟩
        replace KX := Lib.hid (KX.out.drew.bel hq)
        replace KN := Lib.hid (KN.out.drew.bel hq)
        replace BB := Lib.hid (BB.out.drew.trans (hq.mono (by have := BB.out.size; have := HZ.out; show _ ≤ _; first | omega | (show _ ≤ wr.heap.size; omega))))
        clear c0 f0 c1 f1 c2 f2 c3 f3 c4 f4 c5 f5 c6 f6 c7 f7 c8 f8
        clear d0 g0 d1 g1 d2 g2 d3 g3 d4 g4 d5 g5 d6 g6 d7 g7 d8 g8
        clear hq
        have hh_ := KX.out
        obtain ⟨c0, f0⟩ := hh_.one 0 rfl
        obtain ⟨c1, f1⟩ := hh_.one 1 rfl
        obtain ⟨c2, f2⟩ := hh_.one 2 rfl
        obtain ⟨c3, f3⟩ := hh_.one 3 rfl
        obtain ⟨c4, f4⟩ := hh_.one 4 rfl
        obtain ⟨c5, f5⟩ := hh_.one 5 rfl
        obtain ⟨c6, f6⟩ := hh_.one 6 rfl
        obtain ⟨c7, f7⟩ := hh_.one 7 rfl
        obtain ⟨c8, f8⟩ := hh_.one 8 rfl
        clear hh_
        have hh_ := KN.out
        obtain ⟨d0, g0⟩ := hh_.one 0 rfl
        obtain ⟨d1, g1⟩ := hh_.one 1 rfl
        obtain ⟨d2, g2⟩ := hh_.one 2 rfl
        obtain ⟨d3, g3⟩ := hh_.one 3 rfl
        obtain ⟨d4, g4⟩ := hh_.one 4 rfl
        obtain ⟨d5, g5⟩ := hh_.one 5 rfl
        obtain ⟨d6, g6⟩ := hh_.one 6 rfl
        obtain ⟨d7, g7⟩ := hh_.one 7 rfl
        obtain ⟨d8, g8⟩ := hh_.one 8 rfl
        clear hh_
        go_wp2_with fail
        refine hK.out _ _ _ (fun u hu => hu) (⟨c0, c1, c2, c3, c4, c5, c6, c7, c8, d0, d1, d2, d3, d4, d5, d6, d7, d8⟩) ?_
        clear hK K
        refine mv_step (fun K hK => ?_)
        go_simp
        refine (TU.out _).mono ?_
        rintro e w4 ⟨rfl, hq⟩
        replace KX := Lib.hid (KX.out.bel hq)
        replace KN := Lib.hid (KN.out.bel hq)
        replace BB := Lib.hid (BB.out.trans (hq.mono (by have := BB.out.size; have := HZ.out; show _ ≤ _; first | omega | (show _ ≤ wr.heap.size; omega))))
        clear c0 f0 c1 f1 c2 f2 c3 f3 c4 f4 c5 f5 c6 f6 c7 f7 c8 f8
        clear d0 g0 d1 g1 d2 g2 d3 g3 d4 g4 d5 g5 d6 g6 d7 g7 d8 g8
        clear hq
        have hh_ := KX.out
        obtain ⟨c0, f0⟩ := hh_.one 0 rfl
        obtain ⟨c1, f1⟩ := hh_.one 1 rfl
        obtain ⟨c2, f2⟩ := hh_.one 2 rfl
        obtain ⟨c3, f3⟩ := hh_.one 3 rfl
        obtain ⟨c4, f4⟩ := hh_.one 4 rfl
        obtain ⟨c5, f5⟩ := hh_.one 5 rfl
        obtain ⟨c6, f6⟩ := hh_.one 6 rfl
        obtain ⟨c7, f7⟩ := hh_.one 7 rfl
        obtain ⟨c8, f8⟩ := hh_.one 8 rfl
        clear hh_
        have hh_ := KN.out
        obtain ⟨d0, g0⟩ := hh_.one 0 rfl
        obtain ⟨d1, g1⟩ := hh_.one 1 rfl
        obtain ⟨d2, g2⟩ := hh_.one 2 rfl
        obtain ⟨d3, g3⟩ := hh_.one 3 rfl
        obtain ⟨d4, g4⟩ := hh_.one 4 rfl
        obtain ⟨d5, g5⟩ := hh_.one 5 rfl
        obtain ⟨d6, g6⟩ := hh_.one 6 rfl
        obtain ⟨d7, g7⟩ := hh_.one 7 rfl
        obtain ⟨d8, g8⟩ := hh_.one 8 rfl
        clear hh_
        go_wp2_with fail
        refine hK.out _ _ _ (fun u hu => hu) (⟨c0, c1, c2, c3, c4, c5, c6, c7, c8, d0, d1, d2, d3, d4, d5, d6, d7, d8⟩) ?_
        clear hK K
        iterate 3
          first
            | (refine mv_free ?_ (Or.inl ⟨by rfl, ?_⟩) (⟨c0, c1, c2, c3, c4, c5, c6, c7, c8, d0, d1, d2, d3, d4, d5, d6, d7, d8⟩) ?_
               rotate_left 1
               · intro u
                 go_simp
                 try simp only [d1]
                 try simp only [d2]
                 try simp only [d3]
                 try with_reducible rfl
               simp only [Act.put, List.setIfInBounds_toArray, List.set_cons_zero, List.set_cons_succ])
            | (refine mv_free _ (Or.inr ⟨by rfl, rfl⟩) (⟨c0, c1, c2, c3, c4, c5, c6, c7, c8, d0, d1, d2, d3, d4, d5, d6, d7, d8⟩) ?_
               simp only [Act.put, List.setIfInBounds_toArray, List.set_cons_zero, List.set_cons_succ])
        refine mv_step (fun K hK => ?_)
        go_simp
        refine (LV.out _).mono ?_
        rintro e w5 ⟨rfl, hq⟩
        replace KX := Lib.hid (KX.out.bel hq)
        replace KN := Lib.hid (KN.out.bel hq)
        replace BB := Lib.hid (BB.out.trans (hq.mono (by have := BB.out.size; have := HZ.out; show _ ≤ _; first | omega | (show _ ≤ wr.heap.size; omega))))
        clear c0 f0 c1 f1 c2 f2 c3 f3 c4 f4 c5 f5 c6 f6 c7 f7 c8 f8
        clear d0 g0 d1 g1 d2 g2 d3 g3 d4 g4 d5 g5 d6 g6 d7 g7 d8 g8
        clear hq
        have hh_ := KX.out
        obtain ⟨c0, f0⟩ := hh_.one 0 rfl
        obtain ⟨c1, f1⟩ := hh_.one 1 rfl
        obtain ⟨c2, f2⟩ := hh_.one 2 rfl
        obtain ⟨c3, f3⟩ := hh_.one 3 rfl
        obtain ⟨c4, f4⟩ := hh_.one 4 rfl
        obtain ⟨c5, f5⟩ := hh_.one 5 rfl
        obtain ⟨c6, f6⟩ := hh_.one 6 rfl
        obtain ⟨c7, f7⟩ := hh_.one 7 rfl
        obtain ⟨c8, f8⟩ := hh_.one 8 rfl
        clear hh_
        have hh_ := KN.out
        obtain ⟨d0, g0⟩ := hh_.one 0 rfl
        obtain ⟨d1, g1⟩ := hh_.one 1 rfl
        obtain ⟨d2, g2⟩ := hh_.one 2 rfl
        obtain ⟨d3, g3⟩ := hh_.one 3 rfl
        obtain ⟨d4, g4⟩ := hh_.one 4 rfl
        obtain ⟨d5, g5⟩ := hh_.one 5 rfl
        obtain ⟨d6, g6⟩ := hh_.one 6 rfl
        obtain ⟨d7, g7⟩ := hh_.one 7 rfl
        obtain ⟨d8, g8⟩ := hh_.one 8 rfl
        clear hh_
        go_wp2_with fail
        refine hK.out _ _ _ (fun u hu => hu) (⟨c0, c1, c2, c3, c4, c5, c6, c7, c8, d0, d1, d2, d3, d4, d5, d6, d7, d8⟩) ?_
        clear hK K
        iterate 2
          first
            | (refine mv_free ?_ (Or.inl ⟨by rfl, ?_⟩) (⟨c0, c1, c2, c3, c4, c5, c6, c7, c8, d0, d1, d2, d3, d4, d5, d6, d7, d8⟩) ?_
               rotate_left 1
               · intro u
                 go_simp
                 try simp only [d1]
                 try simp only [d2]
                 try simp only [d3]
                 try with_reducible rfl
               simp only [Act.put, List.setIfInBounds_toArray, List.set_cons_zero, List.set_cons_succ])
            | (refine mv_free _ (Or.inr ⟨by rfl, rfl⟩) (⟨c0, c1, c2, c3, c4, c5, c6, c7, c8, d0, d1, d2, d3, d4, d5, d6, d7, d8⟩) ?_
               simp only [Act.put, List.setIfInBounds_toArray, List.set_cons_zero, List.set_cons_succ])
        refine mv_done ?_
        go_wp2
        go_ret
        exact ⟨rfl, HB0.out.trans (BB.out.mono (by omega))⟩
end Go.Proofs.Ytakocggclopngaa
