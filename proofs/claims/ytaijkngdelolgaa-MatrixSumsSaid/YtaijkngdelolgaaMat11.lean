/- The law MatrixProducts, walked; its first region by an invariant. -/
import Derived.Test.YtaijkngdelolgaaMat10
import Derived.Test.YtaijkngdelolgaaMat12
import Derived.Test.YtaijkngdelolgaaInv
namespace Go.Proofs.Ytaijkngdelolgaa
open Go.ChangeShapes Go.WideShapes Go.ChangeAt Go.RowKit
set_option linter.unusedVariables false
set_option linter.unusedSimpArgs false
structure MpI (X Y : Nat → Int) (w V : World) (a0 : Act) (b : Nat → Bool) (q5 q6 : Nat) (a : Act) (u : World) : Prop where
  sk : Sk [9, 10, 11, 12, 5, 6] a0 a
  bel : Below (w.heap.size + 2) V u
  sz : w.heap.size + 2 ≤ u.heap.size
  h0 : Held w.heap.size [.int .i64 (X 0), .int .i64 (X 1), .int .i64 (X 2), .int .i64 (X 3), .int .i64 (X 4), .int .i64 (X 5), .int .i64 (X 6), .int .i64 (X 7), .int .i64 (X 8)] u
  h1 : Held (w.heap.size + 1) [.int .i64 (Y 0), .int .i64 (Y 1), .int .i64 (Y 2), .int .i64 (Y 3), .int .i64 (Y 4), .int .i64 (Y 5), .int .i64 (Y 6), .int .i64 (Y 7), .int .i64 (Y 8)] u
  s0 : b 0 = true → a.tmps.getD 9 undef = .agg #[.int .i64 (X 0), .int .i64 (X 1), .int .i64 (X 2), .int .i64 (X 3), .int .i64 (X 4), .int .i64 (X 5), .int .i64 (X 6), .int .i64 (X 7), .int .i64 (X 8)]
  s1 : b 1 = true → a.tmps.getD 10 undef = .agg #[.int .i64 (X 0), .int .i64 (X 1), .int .i64 (X 2), .int .i64 (X 3), .int .i64 (X 4), .int .i64 (X 5), .int .i64 (X 6), .int .i64 (X 7), .int .i64 (X 8)]
  s2 : b 2 = true → a.tmps.getD 11 undef = .agg #[.int .i64 (Y 0), .int .i64 (Y 1), .int .i64 (Y 2), .int .i64 (Y 3), .int .i64 (Y 4), .int .i64 (Y 5), .int .i64 (Y 6), .int .i64 (Y 7), .int .i64 (Y 8)]
  s3 : b 3 = true → a.tmps.getD 12 undef = .agg #[.int .i64 (Y 0), .int .i64 (Y 1), .int .i64 (Y 2), .int .i64 (Y 3), .int .i64 (Y 4), .int .i64 (Y 5), .int .i64 (Y 6), .int .i64 (Y 7), .int .i64 (Y 8)]
  s4 : b 4 = true → a.tmps.getD 5 undef = .pointer (some ⟨q5, 0, none⟩) ∧ w.heap.size + 2 ≤ q5 ∧ ∃ cs : List Value, cs.length = 9 ∧ Held q5 cs u ∧ (b 6 = true → cs = [.int .i64 (X 0), .int .i64 (X 1), .int .i64 (X 2), .int .i64 (X 3), .int .i64 (X 4), .int .i64 (X 5), .int .i64 (X 6), .int .i64 (X 7), .int .i64 (X 8)])
  e6 : b 6 = true → b 4 = true
  s5 : b 5 = true → a.tmps.getD 6 undef = .pointer (some ⟨q6, 0, none⟩) ∧ w.heap.size + 2 ≤ q6 ∧ ∃ cs : List Value, cs.length = 9 ∧ Held q6 cs u ∧ (b 7 = true → cs = [.int .i64 (Y 0), .int .i64 (Y 1), .int .i64 (Y 2), .int .i64 (Y 3), .int .i64 (Y 4), .int .i64 (Y 5), .int .i64 (Y 6), .int .i64 (Y 7), .int .i64 (Y 8)])
  e7 : b 7 = true → b 5 = true
  n1_0 : b 5 = true → b 4 = true → q6 ≠ q5
set_option maxRecDepth 100000
set_option maxHeartbeats 2000000
theorem MpI.next0 {X Y : Nat → Int} {w V : World} {a0 : Act} {b : Nat → Bool} {q5 q6 : Nat} {a : Act} {u : World} (I : MpI X Y w V a0 b q5 q6 a u) (hn : 9 < a0.tmps.size) {u' : World} (hu : Below u.heap.size u u') : MpI X Y w V a0 (fun x => x == 0 || b x) q5 q6 (a.put (some 9) (.agg #[.int .i64 (X 0), .int .i64 (X 1), .int .i64 (X 2), .int .i64 (X 3), .int .i64 (X 4), .int .i64 (X 5), .int .i64 (X 6), .int .i64 (X 7), .int .i64 (X 8)])) u' :=
  ⟨I.sk.put (by decide) _,
    I.bel.trans (hu.mono I.sz),
    Nat.le_trans I.sz hu.size,
    I.h0.bel hu,
    I.h1.bel hu,
    fun _ => put_same _ (by rw [I.sk.size]; exact hn),
    fun h => (put_other _ (by decide)).trans (I.s1 (by simpa using h)),
    fun h => (put_other _ (by decide)).trans (I.s2 (by simpa using h)),
    fun h => (put_other _ (by decide)).trans (I.s3 (by simpa using h)),
    fun h => by obtain ⟨p1, p2, cs, p3, p4, p5⟩ := I.s4 (by simpa using h); exact ⟨(put_other _ (by decide)).trans p1, p2, cs, p3, p4.bel hu, fun h2 => p5 (by simpa using h2)⟩,
    fun h => by have h2 := I.e6 (by simpa using h); simp [h2],
    fun h => by obtain ⟨p1, p2, cs, p3, p4, p5⟩ := I.s5 (by simpa using h); exact ⟨(put_other _ (by decide)).trans p1, p2, cs, p3, p4.bel hu, fun h2 => p5 (by simpa using h2)⟩,
    fun h => by have h2 := I.e7 (by simpa using h); simp [h2],
    fun h h2 => I.n1_0 (by simpa using h) (by simpa using h2)⟩
theorem MpI.next1 {X Y : Nat → Int} {w V : World} {a0 : Act} {b : Nat → Bool} {q5 q6 : Nat} {a : Act} {u : World} (I : MpI X Y w V a0 b q5 q6 a u) (hn : 10 < a0.tmps.size) {u' : World} (hu : Below u.heap.size u u') : MpI X Y w V a0 (fun x => x == 1 || b x) q5 q6 (a.put (some 10) (.agg #[.int .i64 (X 0), .int .i64 (X 1), .int .i64 (X 2), .int .i64 (X 3), .int .i64 (X 4), .int .i64 (X 5), .int .i64 (X 6), .int .i64 (X 7), .int .i64 (X 8)])) u' :=
  ⟨I.sk.put (by decide) _,
    I.bel.trans (hu.mono I.sz),
    Nat.le_trans I.sz hu.size,
    I.h0.bel hu,
    I.h1.bel hu,
    fun h => (put_other _ (by decide)).trans (I.s0 (by simpa using h)),
    fun _ => put_same _ (by rw [I.sk.size]; exact hn),
    fun h => (put_other _ (by decide)).trans (I.s2 (by simpa using h)),
    fun h => (put_other _ (by decide)).trans (I.s3 (by simpa using h)),
    fun h => by obtain ⟨p1, p2, cs, p3, p4, p5⟩ := I.s4 (by simpa using h); exact ⟨(put_other _ (by decide)).trans p1, p2, cs, p3, p4.bel hu, fun h2 => p5 (by simpa using h2)⟩,
    fun h => by have h2 := I.e6 (by simpa using h); simp [h2],
    fun h => by obtain ⟨p1, p2, cs, p3, p4, p5⟩ := I.s5 (by simpa using h); exact ⟨(put_other _ (by decide)).trans p1, p2, cs, p3, p4.bel hu, fun h2 => p5 (by simpa using h2)⟩,
    fun h => by have h2 := I.e7 (by simpa using h); simp [h2],
    fun h h2 => I.n1_0 (by simpa using h) (by simpa using h2)⟩
theorem MpI.next2 {X Y : Nat → Int} {w V : World} {a0 : Act} {b : Nat → Bool} {q5 q6 : Nat} {a : Act} {u : World} (I : MpI X Y w V a0 b q5 q6 a u) (hn : 11 < a0.tmps.size) {u' : World} (hu : Below u.heap.size u u') : MpI X Y w V a0 (fun x => x == 2 || b x) q5 q6 (a.put (some 11) (.agg #[.int .i64 (Y 0), .int .i64 (Y 1), .int .i64 (Y 2), .int .i64 (Y 3), .int .i64 (Y 4), .int .i64 (Y 5), .int .i64 (Y 6), .int .i64 (Y 7), .int .i64 (Y 8)])) u' :=
  ⟨I.sk.put (by decide) _,
    I.bel.trans (hu.mono I.sz),
    Nat.le_trans I.sz hu.size,
    I.h0.bel hu,
    I.h1.bel hu,
    fun h => (put_other _ (by decide)).trans (I.s0 (by simpa using h)),
    fun h => (put_other _ (by decide)).trans (I.s1 (by simpa using h)),
    fun _ => put_same _ (by rw [I.sk.size]; exact hn),
    fun h => (put_other _ (by decide)).trans (I.s3 (by simpa using h)),
    fun h => by obtain ⟨p1, p2, cs, p3, p4, p5⟩ := I.s4 (by simpa using h); exact ⟨(put_other _ (by decide)).trans p1, p2, cs, p3, p4.bel hu, fun h2 => p5 (by simpa using h2)⟩,
    fun h => by have h2 := I.e6 (by simpa using h); simp [h2],
    fun h => by obtain ⟨p1, p2, cs, p3, p4, p5⟩ := I.s5 (by simpa using h); exact ⟨(put_other _ (by decide)).trans p1, p2, cs, p3, p4.bel hu, fun h2 => p5 (by simpa using h2)⟩,
    fun h => by have h2 := I.e7 (by simpa using h); simp [h2],
    fun h h2 => I.n1_0 (by simpa using h) (by simpa using h2)⟩
theorem MpI.next3 {X Y : Nat → Int} {w V : World} {a0 : Act} {b : Nat → Bool} {q5 q6 : Nat} {a : Act} {u : World} (I : MpI X Y w V a0 b q5 q6 a u) (hn : 12 < a0.tmps.size) {u' : World} (hu : Below u.heap.size u u') : MpI X Y w V a0 (fun x => x == 3 || b x) q5 q6 (a.put (some 12) (.agg #[.int .i64 (Y 0), .int .i64 (Y 1), .int .i64 (Y 2), .int .i64 (Y 3), .int .i64 (Y 4), .int .i64 (Y 5), .int .i64 (Y 6), .int .i64 (Y 7), .int .i64 (Y 8)])) u' :=
  ⟨I.sk.put (by decide) _,
    I.bel.trans (hu.mono I.sz),
    Nat.le_trans I.sz hu.size,
    I.h0.bel hu,
    I.h1.bel hu,
    fun h => (put_other _ (by decide)).trans (I.s0 (by simpa using h)),
    fun h => (put_other _ (by decide)).trans (I.s1 (by simpa using h)),
    fun h => (put_other _ (by decide)).trans (I.s2 (by simpa using h)),
    fun _ => put_same _ (by rw [I.sk.size]; exact hn),
    fun h => by obtain ⟨p1, p2, cs, p3, p4, p5⟩ := I.s4 (by simpa using h); exact ⟨(put_other _ (by decide)).trans p1, p2, cs, p3, p4.bel hu, fun h2 => p5 (by simpa using h2)⟩,
    fun h => by have h2 := I.e6 (by simpa using h); simp [h2],
    fun h => by obtain ⟨p1, p2, cs, p3, p4, p5⟩ := I.s5 (by simpa using h); exact ⟨(put_other _ (by decide)).trans p1, p2, cs, p3, p4.bel hu, fun h2 => p5 (by simpa using h2)⟩,
    fun h => by have h2 := I.e7 (by simpa using h); simp [h2],
    fun h h2 => I.n1_0 (by simpa using h) (by simpa using h2)⟩
theorem MpI.next4 {X Y : Nat → Int} {w V : World} {a0 : Act} {b : Nat → Bool} {q5 q6 : Nat} {a : Act} {u : World} (I : MpI X Y w V a0 b q5 q6 a u) (hn : 5 < a0.tmps.size) (hf : b 4 = false) : MpI X Y w V a0 (fun x => x == 4 || b x) u.heap.size q6 (a.put (some 5) (.pointer (some ⟨u.heap.size, 0, none⟩))) (u.alloc (.cells #[.int .i64 0, .int .i64 0, .int .i64 0, .int .i64 0, .int .i64 0, .int .i64 0, .int .i64 0, .int .i64 0, .int .i64 0] 74)) :=
  ⟨I.sk.put (by decide) _,
    I.bel.alloc I.sz _,
    by have := I.sz; simp; omega,
    I.h0.alloc _,
    I.h1.alloc _,
    fun h => (put_other _ (by decide)).trans (I.s0 (by simpa using h)),
    fun h => (put_other _ (by decide)).trans (I.s1 (by simpa using h)),
    fun h => (put_other _ (by decide)).trans (I.s2 (by simpa using h)),
    fun h => (put_other _ (by decide)).trans (I.s3 (by simpa using h)),
    fun _ => ⟨put_same _ (by rw [I.sk.size]; exact hn), I.sz, [.int .i64 0, .int .i64 0, .int .i64 0, .int .i64 0, .int .i64 0, .int .i64 0, .int .i64 0, .int .i64 0, .int .i64 0], rfl, Held.new u [.int .i64 0, .int .i64 0, .int .i64 0, .int .i64 0, .int .i64 0, .int .i64 0, .int .i64 0, .int .i64 0, .int .i64 0] _, fun h => by have h2 := I.e6 (by simpa using h); rw [hf] at h2; cases h2⟩,
    fun h => by have h2 := I.e6 (by simpa using h); simp [h2],
    fun h => by obtain ⟨p1, p2, cs, p3, p4, p5⟩ := I.s5 (by simpa using h); exact ⟨(put_other _ (by decide)).trans p1, p2, cs, p3, p4.alloc _, fun h2 => p5 (by simpa using h2)⟩,
    fun h => by have h2 := I.e7 (by simpa using h); simp [h2],
    fun h _ => by obtain ⟨-, -, cs, -, p4, -⟩ := I.s5 (by simpa using h); have := p4.lt; omega⟩
theorem MpI.next6 {X Y : Nat → Int} {w V : World} {a0 : Act} {b : Nat → Bool} {q5 q6 : Nat} {a : Act} {u : World} (I : MpI X Y w V a0 b q5 q6 a u) (ha : b 4 = true) : MpI X Y w V a0 (fun x => x == 6 || b x) q5 q6 a (((((((((u.setCell ⟨q5, 0, none⟩ (.int .i64 (X 0))).setCell ⟨q5, 1, none⟩ (.int .i64 (X 1))).setCell ⟨q5, 2, none⟩ (.int .i64 (X 2))).setCell ⟨q5, 3, none⟩ (.int .i64 (X 3))).setCell ⟨q5, 4, none⟩ (.int .i64 (X 4))).setCell ⟨q5, 5, none⟩ (.int .i64 (X 5))).setCell ⟨q5, 6, none⟩ (.int .i64 (X 6))).setCell ⟨q5, 7, none⟩ (.int .i64 (X 7))).setCell ⟨q5, 8, none⟩ (.int .i64 (X 8))) := by
  obtain ⟨-, hq, cs0, hc0, hh0, -⟩ := I.s4 ha
  obtain ⟨u9, e9, h9, hb⟩ := ml_laid hh0 hc0 X
  have ho : Only q5 u u9 := by rw [e9]; exact ((((((((((Only.refl q5 u).setCell (p := ⟨q5, 0, none⟩) (.int .i64 (X 0))).setCell (p := ⟨q5, 1, none⟩) (.int .i64 (X 1))).setCell (p := ⟨q5, 2, none⟩) (.int .i64 (X 2))).setCell (p := ⟨q5, 3, none⟩) (.int .i64 (X 3))).setCell (p := ⟨q5, 4, none⟩) (.int .i64 (X 4))).setCell (p := ⟨q5, 5, none⟩) (.int .i64 (X 5))).setCell (p := ⟨q5, 6, none⟩) (.int .i64 (X 6))).setCell (p := ⟨q5, 7, none⟩) (.int .i64 (X 7))).setCell (p := ⟨q5, 8, none⟩) (.int .i64 (X 8)))
  have hne1 : b 5 = true → q6 ≠ q5 := fun h => I.n1_0 h ha
  rw [← e9]
  exact ⟨I.sk,
    I.bel.trans (hb.mono hq),
    by have := hb.size; have := I.sz; omega,
    I.h0.only ho (by omega),
    I.h1.only ho (by omega),
    fun h => I.s0 (by simpa using h),
    fun h => I.s1 (by simpa using h),
    fun h => I.s2 (by simpa using h),
    fun h => I.s3 (by simpa using h),
    fun h => by obtain ⟨p1, p2, cs, p3, p4, p5⟩ := I.s4 (by simpa using h); exact ⟨p1, p2, _, rfl, h9, fun _ => rfl⟩,
    fun h => by simpa using ha,
    fun h => by obtain ⟨p1, p2, cs, p3, p4, p5⟩ := I.s5 (by simpa using h); exact ⟨p1, p2, cs, p3, p4.only ho (hne1 (by simpa using h)), fun h2 => p5 (by simpa using h2)⟩,
    fun h => by have h2 := I.e7 (by simpa using h); simp [h2],
    fun h h2 => I.n1_0 (by simpa using h) (by simpa using h2)⟩
theorem MpI.next5 {X Y : Nat → Int} {w V : World} {a0 : Act} {b : Nat → Bool} {q5 q6 : Nat} {a : Act} {u : World} (I : MpI X Y w V a0 b q5 q6 a u) (hn : 6 < a0.tmps.size) (hf : b 5 = false) : MpI X Y w V a0 (fun x => x == 5 || b x) q5 u.heap.size (a.put (some 6) (.pointer (some ⟨u.heap.size, 0, none⟩))) (u.alloc (.cells #[.int .i64 0, .int .i64 0, .int .i64 0, .int .i64 0, .int .i64 0, .int .i64 0, .int .i64 0, .int .i64 0, .int .i64 0] 74)) :=
  ⟨I.sk.put (by decide) _,
    I.bel.alloc I.sz _,
    by have := I.sz; simp; omega,
    I.h0.alloc _,
    I.h1.alloc _,
    fun h => (put_other _ (by decide)).trans (I.s0 (by simpa using h)),
    fun h => (put_other _ (by decide)).trans (I.s1 (by simpa using h)),
    fun h => (put_other _ (by decide)).trans (I.s2 (by simpa using h)),
    fun h => (put_other _ (by decide)).trans (I.s3 (by simpa using h)),
    fun h => by obtain ⟨p1, p2, cs, p3, p4, p5⟩ := I.s4 (by simpa using h); exact ⟨(put_other _ (by decide)).trans p1, p2, cs, p3, p4.alloc _, fun h2 => p5 (by simpa using h2)⟩,
    fun h => by have h2 := I.e6 (by simpa using h); simp [h2],
    fun _ => ⟨put_same _ (by rw [I.sk.size]; exact hn), I.sz, [.int .i64 0, .int .i64 0, .int .i64 0, .int .i64 0, .int .i64 0, .int .i64 0, .int .i64 0, .int .i64 0, .int .i64 0], rfl, Held.new u [.int .i64 0, .int .i64 0, .int .i64 0, .int .i64 0, .int .i64 0, .int .i64 0, .int .i64 0, .int .i64 0, .int .i64 0] _, fun h => by have h2 := I.e7 (by simpa using h); rw [hf] at h2; cases h2⟩,
    fun h => by have h2 := I.e7 (by simpa using h); simp [h2],
    fun _ h => by obtain ⟨-, -, cs, -, p4, -⟩ := I.s4 (by simpa using h); have := p4.lt; omega⟩
theorem MpI.next7 {X Y : Nat → Int} {w V : World} {a0 : Act} {b : Nat → Bool} {q5 q6 : Nat} {a : Act} {u : World} (I : MpI X Y w V a0 b q5 q6 a u) (ha : b 5 = true) : MpI X Y w V a0 (fun x => x == 7 || b x) q5 q6 a (((((((((u.setCell ⟨q6, 0, none⟩ (.int .i64 (Y 0))).setCell ⟨q6, 1, none⟩ (.int .i64 (Y 1))).setCell ⟨q6, 2, none⟩ (.int .i64 (Y 2))).setCell ⟨q6, 3, none⟩ (.int .i64 (Y 3))).setCell ⟨q6, 4, none⟩ (.int .i64 (Y 4))).setCell ⟨q6, 5, none⟩ (.int .i64 (Y 5))).setCell ⟨q6, 6, none⟩ (.int .i64 (Y 6))).setCell ⟨q6, 7, none⟩ (.int .i64 (Y 7))).setCell ⟨q6, 8, none⟩ (.int .i64 (Y 8))) := by
  obtain ⟨-, hq, cs0, hc0, hh0, -⟩ := I.s5 ha
  obtain ⟨u9, e9, h9, hb⟩ := ml_laid hh0 hc0 Y
  have ho : Only q6 u u9 := by rw [e9]; exact ((((((((((Only.refl q6 u).setCell (p := ⟨q6, 0, none⟩) (.int .i64 (Y 0))).setCell (p := ⟨q6, 1, none⟩) (.int .i64 (Y 1))).setCell (p := ⟨q6, 2, none⟩) (.int .i64 (Y 2))).setCell (p := ⟨q6, 3, none⟩) (.int .i64 (Y 3))).setCell (p := ⟨q6, 4, none⟩) (.int .i64 (Y 4))).setCell (p := ⟨q6, 5, none⟩) (.int .i64 (Y 5))).setCell (p := ⟨q6, 6, none⟩) (.int .i64 (Y 6))).setCell (p := ⟨q6, 7, none⟩) (.int .i64 (Y 7))).setCell (p := ⟨q6, 8, none⟩) (.int .i64 (Y 8)))
  have hne0 : b 4 = true → q5 ≠ q6 := fun h => (I.n1_0 ha h).symm
  rw [← e9]
  exact ⟨I.sk,
    I.bel.trans (hb.mono hq),
    by have := hb.size; have := I.sz; omega,
    I.h0.only ho (by omega),
    I.h1.only ho (by omega),
    fun h => I.s0 (by simpa using h),
    fun h => I.s1 (by simpa using h),
    fun h => I.s2 (by simpa using h),
    fun h => I.s3 (by simpa using h),
    fun h => by obtain ⟨p1, p2, cs, p3, p4, p5⟩ := I.s4 (by simpa using h); exact ⟨p1, p2, cs, p3, p4.only ho (hne0 (by simpa using h)), fun h2 => p5 (by simpa using h2)⟩,
    fun h => by have h2 := I.e6 (by simpa using h); simp [h2],
    fun h => by obtain ⟨p1, p2, cs, p3, p4, p5⟩ := I.s5 (by simpa using h); exact ⟨p1, p2, _, rfl, h9, fun _ => rfl⟩,
    fun h => by simpa using ha,
    fun h h2 => I.n1_0 (by simpa using h) (by simpa using h2)⟩
theorem MpI.fin {X Y : Nat → Int} {w V : World} {a0 : Act} {b : Nat → Bool} {q5 q6 : Nat} {a : Act} {u : World} (I : MpI X Y w V a0 b q5 q6 a u) (hb : ∀ i, i < 100 → i < 8 → b i = true) (hn : 12 < a0.tmps.size) : a = ((((((a0.put (some 9) (.agg #[.int .i64 (X 0), .int .i64 (X 1), .int .i64 (X 2), .int .i64 (X 3), .int .i64 (X 4), .int .i64 (X 5), .int .i64 (X 6), .int .i64 (X 7), .int .i64 (X 8)])).put (some 10) (.agg #[.int .i64 (X 0), .int .i64 (X 1), .int .i64 (X 2), .int .i64 (X 3), .int .i64 (X 4), .int .i64 (X 5), .int .i64 (X 6), .int .i64 (X 7), .int .i64 (X 8)])).put (some 11) (.agg #[.int .i64 (Y 0), .int .i64 (Y 1), .int .i64 (Y 2), .int .i64 (Y 3), .int .i64 (Y 4), .int .i64 (Y 5), .int .i64 (Y 6), .int .i64 (Y 7), .int .i64 (Y 8)])).put (some 12) (.agg #[.int .i64 (Y 0), .int .i64 (Y 1), .int .i64 (Y 2), .int .i64 (Y 3), .int .i64 (Y 4), .int .i64 (Y 5), .int .i64 (Y 6), .int .i64 (Y 7), .int .i64 (Y 8)])).put (some 5) (.pointer (some ⟨q5, 0, none⟩))).put (some 6) (.pointer (some ⟨q6, 0, none⟩))) := by
  refine act_ext (by simp only [put_defers]; exact I.sk.defers) (by simp only [put_size]; exact I.sk.size) (fun s hs => ?_)
  by_cases hd : s ∈ ([9, 10, 11, 12, 5, 6] : List Nat)
  · simp only [List.mem_cons, List.not_mem_nil, or_false] at hd
    rcases hd with rfl | rfl | rfl | rfl | rfl | rfl
    · refine (I.s0 (hb 0 (by omega) (by omega))).trans (Eq.symm ?_)
      exact (put_other _ (by decide)).trans ((put_other _ (by decide)).trans ((put_other _ (by decide)).trans ((put_other _ (by decide)).trans ((put_other _ (by decide)).trans (put_same _ (by (try simp only [put_size]); omega))))))
    · refine (I.s1 (hb 1 (by omega) (by omega))).trans (Eq.symm ?_)
      exact (put_other _ (by decide)).trans ((put_other _ (by decide)).trans ((put_other _ (by decide)).trans ((put_other _ (by decide)).trans (put_same _ (by (try simp only [put_size]); omega)))))
    · refine (I.s2 (hb 2 (by omega) (by omega))).trans (Eq.symm ?_)
      exact (put_other _ (by decide)).trans ((put_other _ (by decide)).trans ((put_other _ (by decide)).trans (put_same _ (by (try simp only [put_size]); omega))))
    · refine (I.s3 (hb 3 (by omega) (by omega))).trans (Eq.symm ?_)
      exact (put_other _ (by decide)).trans ((put_other _ (by decide)).trans (put_same _ (by (try simp only [put_size]); omega)))
    · refine ((I.s4 (hb 4 (by omega) (by omega))).1).trans (Eq.symm ?_)
      exact (put_other _ (by decide)).trans (put_same _ (by (try simp only [put_size]); omega))
    · refine ((I.s5 (hb 5 (by omega) (by omega))).1).trans (Eq.symm ?_)
      exact put_same _ (by (try simp only [put_size]); omega)
  · refine (I.sk.slot s hd).trans (Eq.symm ?_)
    simp only [List.mem_cons, List.not_mem_nil, or_false, not_or] at hd
    obtain ⟨g0, g1, g2, g3, g4, g5⟩ := hd
    exact (put_other _ g5).trans ((put_other _ g4).trans ((put_other _ g3).trans ((put_other _ g2).trans ((put_other _ g1).trans ((put_other _ g0).trans (rfl))))))
theorem eq_n9 (d : Nat) (T : TypeId) (hT : Try.prog.underlying T = some (.array 9 2)) (x0 x1 x2 x3 x4 x5 x6 x7 x8 : Int) (w : World) : (Op.equalIn (d + 2) T (.agg #[.int .i64 x0, .int .i64 x1, .int .i64 x2, .int .i64 x3, .int .i64 x4, .int .i64 x5, .int .i64 x6, .int .i64 x7, .int .i64 x8]) (.agg #[.int .i64 x0, .int .i64 x1, .int .i64 x2, .int .i64 x3, .int .i64 x4, .int .i64 x5, .int .i64 x6, .int .i64 x7, .int .i64 x8])).run Try.prog w = .ok true w := by
  obtain ⟨i, hi⟩ := info_i64m
  have hc := cel_i64
  rw [show d + 2 = (d + 1) + 1 from rfl, run_equalIn_array w (d + 1) _ _ hT hi, hc, show List.range 9 = [0, 1, 2, 3, 4, 5, 6, 7, 8] from rfl]
  have p0 : (part 2 #[.int .i64 x0, .int .i64 x1, .int .i64 x2, .int .i64 x3, .int .i64 x4, .int .i64 x5, .int .i64 x6, .int .i64 x7, .int .i64 x8] 0).run Try.prog w = .ok (.int .i64 x0) w := part_i64 _ _ _ w rfl
  have p1 : (part 2 #[.int .i64 x0, .int .i64 x1, .int .i64 x2, .int .i64 x3, .int .i64 x4, .int .i64 x5, .int .i64 x6, .int .i64 x7, .int .i64 x8] 1).run Try.prog w = .ok (.int .i64 x1) w := part_i64 _ _ _ w rfl
  have p2 : (part 2 #[.int .i64 x0, .int .i64 x1, .int .i64 x2, .int .i64 x3, .int .i64 x4, .int .i64 x5, .int .i64 x6, .int .i64 x7, .int .i64 x8] 2).run Try.prog w = .ok (.int .i64 x2) w := part_i64 _ _ _ w rfl
  have p3 : (part 2 #[.int .i64 x0, .int .i64 x1, .int .i64 x2, .int .i64 x3, .int .i64 x4, .int .i64 x5, .int .i64 x6, .int .i64 x7, .int .i64 x8] 3).run Try.prog w = .ok (.int .i64 x3) w := part_i64 _ _ _ w rfl
  have p4 : (part 2 #[.int .i64 x0, .int .i64 x1, .int .i64 x2, .int .i64 x3, .int .i64 x4, .int .i64 x5, .int .i64 x6, .int .i64 x7, .int .i64 x8] 4).run Try.prog w = .ok (.int .i64 x4) w := part_i64 _ _ _ w rfl
  have p5 : (part 2 #[.int .i64 x0, .int .i64 x1, .int .i64 x2, .int .i64 x3, .int .i64 x4, .int .i64 x5, .int .i64 x6, .int .i64 x7, .int .i64 x8] 5).run Try.prog w = .ok (.int .i64 x5) w := part_i64 _ _ _ w rfl
  have p6 : (part 2 #[.int .i64 x0, .int .i64 x1, .int .i64 x2, .int .i64 x3, .int .i64 x4, .int .i64 x5, .int .i64 x6, .int .i64 x7, .int .i64 x8] 6).run Try.prog w = .ok (.int .i64 x6) w := part_i64 _ _ _ w rfl
  have p7 : (part 2 #[.int .i64 x0, .int .i64 x1, .int .i64 x2, .int .i64 x3, .int .i64 x4, .int .i64 x5, .int .i64 x6, .int .i64 x7, .int .i64 x8] 7).run Try.prog w = .ok (.int .i64 x7) w := part_i64 _ _ _ w rfl
  have p8 : (part 2 #[.int .i64 x0, .int .i64 x1, .int .i64 x2, .int .i64 x3, .int .i64 x4, .int .i64 x5, .int .i64 x6, .int .i64 x7, .int .i64 x8] 8).run Try.prog w = .ok (.int .i64 x8) w := part_i64 _ _ _ w rfl
  simp [Op.eqItems, p0, p1, p2, p3, p4, p5, p6, p7, p8, eq_i64]
theorem neq9 (x0 x1 x2 x3 x4 x5 x6 x7 x8 : Int) (w : World) : (Op.equalIn 10000 74 (.agg #[.int .i64 x0, .int .i64 x1, .int .i64 x2, .int .i64 x3, .int .i64 x4, .int .i64 x5, .int .i64 x6, .int .i64 x7, .int .i64 x8]) (.agg #[.int .i64 x0, .int .i64 x1, .int .i64 x2, .int .i64 x3, .int .i64 x4, .int .i64 x5, .int .i64 x6, .int .i64 x7, .int .i64 x8])).run Try.prog w = .ok true w := eq_n9 9998 74 Try.underlying74 _ _ _ _ _ _ _ _ _ w
def mpv (X Y : Nat → Int) : Nat → Int := apl X (fun t => Y (3 + t))
def MpS (X Y : Nat → Int) (w : World) (q5 q6 qv : Nat) (u : World) : Prop := Held w.heap.size [.int .i64 (X 0), .int .i64 (X 1), .int .i64 (X 2), .int .i64 (X 3), .int .i64 (X 4), .int .i64 (X 5), .int .i64 (X 6), .int .i64 (X 7), .int .i64 (X 8)] u ∧ Held (w.heap.size + 1) [.int .i64 (Y 0), .int .i64 (Y 1), .int .i64 (Y 2), .int .i64 (Y 3), .int .i64 (Y 4), .int .i64 (Y 5), .int .i64 (Y 6), .int .i64 (Y 7), .int .i64 (Y 8)] u ∧ Held q5 [.int .i64 (X 0), .int .i64 (X 1), .int .i64 (X 2), .int .i64 (X 3), .int .i64 (X 4), .int .i64 (X 5), .int .i64 (X 6), .int .i64 (X 7), .int .i64 (X 8)] u ∧ Held q6 [.int .i64 (Y 0), .int .i64 (Y 1), .int .i64 (Y 2), .int .i64 (Y 3), .int .i64 (Y 4), .int .i64 (Y 5), .int .i64 (Y 6), .int .i64 (Y 7), .int .i64 (Y 8)] u ∧ Held qv [.int .i64 ((mpv X Y) 0), .int .i64 ((mpv X Y) 1), .int .i64 ((mpv X Y) 2)] u ∧ Below w.heap.size w u
theorem MpS.bel {X Y : Nat → Int} {w u u' : World} {q5 q6 qv : Nat} (h : MpS X Y w q5 q6 qv u) (q : Below u.heap.size u u') : MpS X Y w q5 q6 qv u' := ⟨h.1.bel q, h.2.1.bel q, h.2.2.1.bel q, h.2.2.2.1.bel q, h.2.2.2.2.1.bel q, h.2.2.2.2.2.trans (q.mono h.2.2.2.2.2.size)⟩
theorem l9x {cs : List Value} (hc : cs.length = 9) : ∃ a0 a1 a2 a3 a4 a5 a6 a7 a8, cs = [a0, a1, a2, a3, a4, a5, a6, a7, a8] := by
  match cs, hc with
  | [a0, a1, a2, a3, a4, a5, a6, a7, a8], _ => exact ⟨a0, a1, a2, a3, a4, a5, a6, a7, a8, rfl⟩
theorem mp_box (w : World) (X Y : Nat → Int) : ∃ V, V = ((w.alloc (.cells #[.int .i64 (X 0), .int .i64 (X 1), .int .i64 (X 2), .int .i64 (X 3), .int .i64 (X 4), .int .i64 (X 5), .int .i64 (X 6), .int .i64 (X 7), .int .i64 (X 8)] 72)).alloc (.cells #[.int .i64 (Y 0), .int .i64 (Y 1), .int .i64 (Y 2), .int .i64 (Y 3), .int .i64 (Y 4), .int .i64 (Y 5), .int .i64 (Y 6), .int .i64 (Y 7), .int .i64 (Y 8)] 72)) ∧ Below w.heap.size w V ∧ Held w.heap.size [.int .i64 (X 0), .int .i64 (X 1), .int .i64 (X 2), .int .i64 (X 3), .int .i64 (X 4), .int .i64 (X 5), .int .i64 (X 6), .int .i64 (X 7), .int .i64 (X 8)] V ∧ Held (w.heap.size + 1) [.int .i64 (Y 0), .int .i64 (Y 1), .int .i64 (Y 2), .int .i64 (Y 3), .int .i64 (Y 4), .int .i64 (Y 5), .int .i64 (Y 6), .int .i64 (Y 7), .int .i64 (Y 8)] V ∧ V.heap.size = w.heap.size + 2 := by
  refine ⟨_, rfl, (by repeat (first | exact Below.refl _ _ | assumption | apply Below.drew | apply below_drewN | (refine Below.alloc ?_ (by first | exact Nat.le_refl _ | omega | (simp <;> omega)) _) | (refine Below.setCell ?_ (by first | exact Nat.le_refl _ | omega | (simp <;> omega)) _))), ?_, ?_, by simp⟩
  · have := ((Held.new w [.int .i64 (X 0), .int .i64 (X 1), .int .i64 (X 2), .int .i64 (X 3), .int .i64 (X 4), .int .i64 (X 5), .int .i64 (X 6), .int .i64 (X 7), .int .i64 (X 8)] 72).alloc (.cells #[.int .i64 (Y 0), .int .i64 (Y 1), .int .i64 (Y 2), .int .i64 (Y 3), .int .i64 (Y 4), .int .i64 (Y 5), .int .i64 (Y 6), .int .i64 (Y 7), .int .i64 (Y 8)] 72))
    simpa using this
  · have := (Held.new (w.alloc (.cells #[.int .i64 (X 0), .int .i64 (X 1), .int .i64 (X 2), .int .i64 (X 3), .int .i64 (X 4), .int .i64 (X 5), .int .i64 (X 6), .int .i64 (X 7), .int .i64 (X 8)] 72)) [.int .i64 (Y 0), .int .i64 (Y 1), .int .i64 (Y 2), .int .i64 (Y 3), .int .i64 (Y 4), .int .i64 (Y 5), .int .i64 (Y 6), .int .i64 (Y 7), .int .i64 (Y 8)] 72)
    simpa using this
end Go.Proofs.Ytaijkngdelolgaa
