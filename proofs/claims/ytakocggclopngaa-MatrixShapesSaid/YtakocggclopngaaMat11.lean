/- The law MatrixProducts, walked; its first region by an invariant. -/
import Derived.Test.YtakocggclopngaaMat10
import Derived.Test.YtakocggclopngaaMat12
import Derived.Test.YtakocggclopngaaInv
namespace Go.Proofs.Ytakocggclopngaa
open Go.ChangeShapes Go.WideShapes Go.ChangeAt Go.RowKit
set_option linter.unusedVariables false
set_option linter.unusedSimpArgs false
structure MpI (X Y : Nat → Int) (w V : World) (a0 : Act) (b : Nat → Bool) (q5 q6 : Nat) (a : Act) (u : World) : Prop where
  sk : Sk [9, 10, 11, 12, 5, 6] a0 a
  bel : Below (w.heap.size + 2) V u
  sz : w.heap.size + 2 ≤ u.heap.size
  h0 : Held w.heap.size [.int .i64 (X 0), .int .i64 (X 1), .int .i64 (X 2), .int .i64 (X 3), .int .i64 (X 4), .int .i64 (X 5), .int .i64 (X 6), .int .i64 (X 7), .int .i64 (X 8)] u
  h1 : Held (w.heap.size + 1) [.int .i64 (Y 0), .int .i64 (Y 1), .int .i64 (Y 2), .int .i64 (Y 3), .int .i64 (Y 4), .int .i64 (Y 5), .int .i64 (Y 6), .int .i64 (Y 7), .int .i64 (Y 8)] u
  s0 : b 0 = true → a.tmps.getD 9 undef = .agg #[.int .i64 (X 0), .int .i64 (X 1), .int .i64 (X 2), .int .i64 (X 3), .int .i64 (X 4), .int .i64 (X 5), .int .i64 (X 6), .int .i64 (X 7), .int .i64 (X 8)]
  s1 : b 1 = true → a.tmps.getD 10 undef = .agg #[.int .i64 (X 0), .int .i64 (X 1), .int .i64 (X 2), .int .i64 (X 3), .int .i64 (X 4), .int .i64 (X 5), .int .i64 (X 6), .int .i64 (X 7), .int .i64 (X 8)]
  s2 : b 2 = true → a.tmps.getD 11 undef = .agg #[.int .i64 (Y 0), .int .i64 (Y 1), .int .i64 (Y 2), .int .i64 (Y 3), .int .i64 (Y 4), .int .i64 (Y 5), .int .i64 (Y 6), .int .i64 (Y 7), .int .i64 (Y 8)]
  s3 : b 3 = true → a.tmps.getD 12 undef = .agg #[.int .i64 (Y 0), .int .i64 (Y 1), .int .i64 (Y 2), .int .i64 (Y 3), .int .i64 (Y 4), .int .i64 (Y 5), .int .i64 (Y 6), .int .i64 (Y 7), .int .i64 (Y 8)]
  s4 : b 4 = true → a.tmps.getD 5 undef = .pointer (some ⟨q5, 0, none⟩) ∧ w.heap.size + 2 ≤ q5 ∧ ∃ cs : List Value, cs.length = 9 ∧ Held q5 cs u ∧ (b 6 = true → cs = [.int .i64 (X 0), .int .i64 (X 1), .int .i64 (X 2), .int .i64 (X 3), .int .i64 (X 4), .int .i64 (X 5), .int .i64 (X 6), .int .i64 (X 7), .int .i64 (X 8)])
  e6 : b 6 = true → b 4 = true
  s5 : b 5 = true → a.tmps.getD 6 undef = .pointer (some ⟨q6, 0, none⟩) ∧ w.heap.size + 2 ≤ q6 ∧ ∃ cs : List Value, cs.length = 9 ∧ Held q6 cs u ∧ (b 7 = true → cs = [.int .i64 (Y 0), .int .i64 (Y 1), .int .i64 (Y 2), .int .i64 (Y 3), .int .i64 (Y 4), .int .i64 (Y 5), .int .i64 (Y 6), .int .i64 (Y 7), .int .i64 (Y 8)])
  e7 : b 7 = true → b 5 = true
  n1_0 : b 5 = true → b 4 = true → q6 ≠ q5
set_option maxRecDepth 100000
set_option maxHeartbeats 2000000
theorem MpI.next0 {X Y : Nat → Int} {w V : World} {a0 : Act} {b : Nat → Bool} {q5 q6 : Nat} {a : Act} {u : World} (I : MpI X Y w V a0 b q5 q6 a u) (hn : 9 < a0.tmps.size) {u' : World} (hu : Below u.heap.size u u') : MpI X Y w V a0 (fun x => x == 0 || b x) q5 q6 (a.put (some 9) (.agg #[.int .i64 (X 0), .int .i64 (X 1), .int .i64 (X 2), .int .i64 (X 3), .int .i64 (X 4), .int .i64 (X 5), .int .i64 (X 6), .int .i64 (X 7), .int .i64 (X 8)])) u' :=
  ⟨I.sk.put (by decide) _,
    I.bel.trans (hu.mono I.sz),
    Nat.le_trans I.sz hu.size,
    I.h0.bel hu,
    I.h1.bel hu,
    fun _ => put_same _ (by rw [I.sk.size]; exact hn),
    fun h => (put_other _ (by decide)).trans (I.s1 (by simpa using h)),
    fun h => (put_other _ (by decide)).trans (I.s2 (by simpa using h)),
    fun h => (put_other _ (by decide)).trans (I.s3 (by simpa using h)),
    fun h => by obtain ⟨p1, p2, cs, p3, p4, p5⟩ := I.s4 (by simpa using h); exact ⟨(put_other _ (by decide)).trans p1, p2, cs, p3, p4.bel hu, fun h2 => p5 (by simpa using h2)⟩,
    fun h => by have h2 := I.e6 (by simpa using h); simp [h2],
    fun h => by obtain ⟨p1, p2, cs, p3, p4, p5⟩ := I.s5 (by simpa using h); exact ⟨(put_other _ (by decide)).trans p1, p2, cs, p3, p4.bel hu, fun h2 => p5 (by simpa using h2)⟩,
    fun h => by have h2 := I.e7 (by simpa using h); simp [h2],
    fun h h2 => I.n1_0 (by simpa using h) (by simpa using h2)⟩
theorem MpI.next1 {X Y : Nat → Int} {w V : World} {a0 : Act} {b : Nat → Bool} {q5 q6 : Nat} {a : Act} {u : World} (I : MpI X Y w V a0 b q5 q6 a u) (hn : 10 < a0.tmps.size) {u' : World} (hu : Below u.heap.size u u') : MpI X Y w V a0 (fun x => x == 1 || b x) q5 q6 (a.put (some 10) (.agg #[.int .i64 (X 0), .int .i64 (X 1), .int .i64 (X 2), .int .i64 (X 3), .int .i64 (X 4), .int .i64 (X 5), .int .i64 (X 6), .int .i64 (X 7), .int .i64 (X 8)])) u' :=
  ⟨I.sk.put (by decide) _,
    I.bel.trans (hu.mono I.sz),
    Nat.le_trans I.sz hu.size,
    I.h0.bel hu,
    I.h1.bel hu,
    fun h => (put_other _ (by decide)).trans (I.s0 (by simpa using h)),
    fun _ => put_same _ (by rw [I.sk.size]; exact hn),
    fun h => (put_other _ (by decide)).trans (I.s2 (by simpa using h)),
    fun h => (put_other _ (by decide)).trans (I.s3 (by simpa using h)),
    fun h => by obtain ⟨p1, p2, cs, p3, p4, p5⟩ := I.s4 (by simpa using h); exact ⟨(put_other _ (by decide)).trans p1, p2, cs, p3, p4.bel hu, fun h2 => p5 (by simpa using h2)⟩,
    fun h => by have h2 := I.e6 (by simpa using h); simp [h2],
    fun h => by obtain ⟨p1, p2, cs, p3, p4, p5⟩ := I.s5 (by simpa using h); exact ⟨(put_other _ (by decide)).trans p1, p2, cs, p3, p4.bel hu, fun h2 => p5 (by simpa using h2)⟩,
    fun h => by have h2 := I.e7 (by simpa using h); simp [h2],
    fun h h2 => I.n1_0 (by simpa using h) (by simpa using h2)⟩
theorem MpI.next2 {X Y : Nat → Int} {w V : World} {a0 : Act} {b : Nat → Bool} {q5 q6 : Nat} {a : Act} {u : World} (I : MpI X Y w V a0 b q5 q6 a u) (hn : 11 < a0.tmps.size) {u' : World} (hu : Below u.heap.size u u') : MpI X Y w V a0 (fun x => x == 2 || b x) q5 q6 (a.put (some 11) (.agg #[.int .i64 (Y 0), .int .i64 (Y 1), .int .i64 (Y 2), .int .i64 (Y 3), .int .i64 (Y 4), .int .i64 (Y 5), .int .i64 (Y 6), .int .i64 (Y 7), .int .i64 (Y 8)])) u' :=
  ⟨I.sk.put (by decide) _,
    I.bel.trans (hu.mono I.sz),
    Nat.le_trans I.sz hu.size,
    I.h0.bel hu,
    I.h1.bel hu,
    fun h => (put_other _ (by decide)).trans (I.s0 (by simpa using h)),
    fun h => (put_other _ (by decide)).trans (I.s1 (by simpa using h)),
    fun _ => put_same _ (by rw [I.sk.size]; exact hn),
    fun h => (put_other _ (by decide)).trans (I.s3 (by simpa using h)),
    fun h => by obtain ⟨p1, p2, cs, p3, p4, p5⟩ := I.s4 (by simpa using h); exact ⟨(put_other _ (by decide)).trans p1, p2, cs, p3, p4.bel hu, fun h2 => p5 (by simpa using h2)⟩,
    fun h => by have h2 := I.e6 (by simpa using h); simp [h2],
    fun h => by obtain ⟨p1, p2, cs, p3, p4, p5⟩ := I.s5 (by simpa using h); exact ⟨(put_other _ (by decide)).trans p1, p2, cs, p3, p4.bel hu, fun h2 => p5 (by simpa using h2)⟩,
    fun h => by have h2 := I.e7 (by simpa using h); simp [h2],
    fun h h2 => I.n1_0 (by simpa using h) (by simpa using h2)⟩
theorem MpI.next3 {X Y : Nat → Int} {w V : World} {a0 : Act} {b : Nat → Bool} {q5 q6 : Nat} {a : Act} {u : World} (I : MpI X Y w V a0 b q5 q6 a u) (hn : 12 < a0.tmps.size) {u' : World} (hu : Below u.heap.size u u') : MpI X Y w V a0 (fun x => x == 3 || b x) q5 q6 (a.put (some 12) (.agg #[.int .i64 (Y 0), .int .i64 (Y 1), .int .i64 (Y 2), .int .i64 (Y 3), .int .i64 (Y 4), .int .i64 (Y 5), .int .i64 (Y 6), .int .i64 (Y 7), .int .i64 (Y 8)])) u' :=
  ⟨I.sk.put (by decide) _,
    I.bel.trans (hu.mono I.sz),
    Nat.le_trans I.sz hu.size,
    I.h0.bel hu,
    I.h1.bel hu,
    fun h => (put_other _ (by decide)).trans (I.s0 (by simpa using h)),
    fun h => (put_other _ (by decide)).trans (I.s1 (by simpa using h)),
    fun h => (put_other _ (by decide)).trans (I.s2 (by simpa using h)),
    fun _ => put_same _ (by rw [I.sk.size]; exact hn),
    fun h => by obtain ⟨p1, p2, cs, p3, p4, p5⟩ := I.s4 (by simpa using h); exact ⟨(put_other _ (by decide)).trans p1, p2, cs, p3, p4.bel hu, fun h2 => p5 (by simpa using h2)⟩,
    fun h => by have h2 := I.e6 (by simpa using h); simp [h2],
    fun h => by obtain ⟨p1, p2, cs, p3, p4, p5⟩ := I.s5 (by simpa using h); exact ⟨(put_other _ (by decide)).trans p1, p2, cs, p3, p4.bel hu, fun h2 => p5 (by simpa using h2)⟩,
    fun h => by have h2 := I.e7 (by simpa using h); simp [h2],
    fun h h2 => I.n1_0 (by simpa using h) (by simpa using h2)⟩
theorem MpI.next4 {X Y : Nat → Int} {w V : World} {a0 : Act} {b : Nat → Bool} {q5 q6 : Nat} {a : Act} {u : World} (I : MpI X Y w V a0 b q5 q6 a u) (hn : 5 < a0.tmps.size) (hf : b 4 = false) : MpI X Y w V a0 (fun x => x == 4 || b x) u.heap.size q6 (a.put (some 5) (.pointer (some ⟨u.heap.size, 0, none⟩))) (u.alloc (.cells #[.int .i64 0, .int .i64 0, .int .i64 0, .int .i64 0, .int .i64 0, .int .i64 0, .int .i64 0, .int .i64 0, .int .i64 0] 58)) :=
  ⟨I.sk.put (by decide) _,
    I.bel.alloc I.sz _,
    by have := I.sz; simp; omega,
    I.h0.alloc _,
    I.h1.alloc _,
    fun h => (put_other _ (by decide)).trans (I.s0 (by simpa using h)),
    fun h => (put_other _ (by decide)).trans (I.s1 (by simpa using h)),
    fun h => (put_other _ (by decide)).trans (I.s2 (by simpa using h)),
    fun h => (put_other _ (by decide)).trans (I.s3 (by simpa using h)),
    fun _ => ⟨put_same _ (by rw [I.sk.size]; exact hn), I.sz, [.int .i64 0, .int .i64 0, .int .i64 0, .int .i64 0, .int .i64 0, .int .i64 0, .int .i64 0, .int .i64 0, .int .i64 0], rfl, Held.new u [.int .i64 0, .int .i64 0, .int .i64 0, .int .i64 0, .int .i64 0, .int .i64 0, .int .i64 0, .int .i64 0, .int .i64 0] _, fun h => by have h2 := I.e6 (by simpa using h); rw [hf] at h2; cases h2⟩,
    fun h => by have h2 := I.e6 (by simpa using h); simp [h2],
    fun h => by obtain ⟨p1, p2, cs, p3, p4, p5⟩ := I.s5 (by simpa using h); exact ⟨(put_other _ (by decide)).trans p1, p2, cs, p3, p4.alloc _, fun h2 => p5 (by simpa using h2)⟩,
    fun h => by have h2 := I.e7 (by simpa using h); simp [h2],
    fun h _ => by obtain ⟨-, -, cs, -, p4, -⟩ := I.s5 (by simpa using h); have := p4.lt; omega⟩
theorem MpI.next6 {X Y : Nat → Int} {w V : World} {a0 : Act} {b : Nat → Bool} {q5 q6 : Nat} {a : Act} {u : World} (I : MpI X Y w V a0 b q5 q6 a u) (ha : b 4 = true) : MpI X Y w V a0 (fun x => x == 6 || b x) q5 q6 a (((((((((u.setCell ⟨q5, 0, none⟩ (.int .i64 (X 0))).setCell ⟨q5, 1, none⟩ (.int .i64 (X 1))).setCell ⟨q5, 2, none⟩ (.int .i64 (X 2))).setCell ⟨q5, 3, none⟩ (.int .i64 (X 3))).setCell ⟨q5, 4, none⟩ (.int .i64 (X 4))).setCell ⟨q5, 5, none⟩ (.int .i64 (X 5))).setCell ⟨q5, 6, none⟩ (.int .i64 (X 6))).setCell ⟨q5, 7, none⟩ (.int .i64 (X 7))).setCell ⟨q5, 8, none⟩ (.int .i64 (X 8))) := by
  obtain ⟨-, hq, cs0, hc0, hh0, -⟩ := I.s4 ha
  obtain ⟨u9, e9, h9, hb⟩ := ml_laid hh0 hc0 X
  have ho : Only q5 u u9 := by rw [e9]; exact ((((((((((Only.refl q5 u).setCell (p := ⟨q5, 0, none⟩) (.int .i64 (X 0))).setCell (p := ⟨q5, 1, none⟩) (.int .i64 (X 1))).setCell (p := ⟨q5, 2, none⟩) (.int .i64 (X 2))).setCell (p := ⟨q5, 3, none⟩) (.int .i64 (X 3))).setCell (p := ⟨q5, 4, none⟩) (.int .i64 (X 4))).setCell (p := ⟨q5, 5, none⟩) (.int .i64 (X 5))).setCell (p := ⟨q5, 6, none⟩) (.int .i64 (X 6))).setCell (p := ⟨q5, 7, none⟩) (.int .i64 (X 7))).setCell (p := ⟨q5, 8, none⟩) (.int .i64 (X 8)))
  have hne1 : b 5 = true → q6 ≠ q5 := fun h => I.n1_0 h ha
  rw [← e9]
  exact ⟨I.sk,
    I.bel.trans (hb.mono hq),
    by have := hb.size; have := I.sz; omega,
    I.h0.only ho (by omega),
    I.h1.only ho (by omega),
    fun h => I.s0 (by simpa using h),
    fun h => I.s1 (by simpa using h),
    fun h => I.s2 (by simpa using h),
    fun h => I.s3 (by simpa using h),
    fun h => by obtain ⟨p1, p2, cs, p3, p4, p5⟩ := I.s4 (by simpa using h); exact ⟨p1, p2, _, rfl, h9, fun _ => rfl⟩,
    fun h => by simpa using ha,
    fun h => by obtain ⟨p1, p2, cs, p3, p4, p5⟩ := I.s5 (by simpa using h); exact ⟨p1, p2, cs, p3, p4.only ho (hne1 (by simpa using h)), fun h2 => p5 (by simpa using h2)⟩,
    fun h => by have h2 := I.e7 (by simpa using h); simp [h2],
    fun h h2 => I.n1_0 (by simpa using h) (by simpa using h2)⟩
theorem MpI.next5 {X Y : Nat → Int} {w V : World} {a0 : Act} {b : Nat → Bool} {q5 q6 : Nat} {a : Act} {u : World} (I : MpI X Y w V a0 b q5 q6 a u) (hn : 6 < a0.tmps.size) (hf : b 5 = false) : MpI X Y w V a0 (fun x => x == 5 || b x) q5 u.heap.size (a.put (some 6) (.pointer (some ⟨u.heap.size, 0, none⟩))) (u.alloc (.cells #[.int .i64 0, .int .i64 0, .int .i64 0, .int .i64 0, .int .i64 0, .int .i64 0, .int .i64 0, .int .i64 0, .int .i64 0] 58)) :=
  ⟨I.sk.put (by decide) _,
    I.bel.alloc I.sz _,
    by have := I.sz; simp; omega,
    I.h0.alloc _,
    I.h1.alloc _,
    fun h => (put_other _ (by decide)).trans (I.s0 (by simpa using h)),
    fun h => (put_other _ (by decide)).trans (I.s1 (by simpa using h)),
    fun h => (put_other _ (by decide)).trans (I.s2 (by simpa using h)),
    fun h => (put_other _ (by decide)).trans (I.s3 (by simpa using h)),
    fun h => by obtain ⟨p1, p2, cs, p3, p4, p5⟩ := I.s4 (by simpa using h); exact ⟨(put_other _ (by decide)).trans p1, p2, cs, p3, p4.alloc _, fun h2 => p5 (by simpa using h2)⟩,
    fun h => by have h2 := I.e6 (by simpa using h); simp [h2],
    fun _ => ⟨put_same _ (by rw [I.sk.size]; exact hn), I.sz, [.int .i64 0, .int .i64 0, .int .i64 0, .int .i64 0, .int .i64 0, .int .i64 0, .int .i64 0, .int .i64 0, .int .i64 0], rfl, Held.new u [.int .i64 0, .int .i64 0, .int .i64 0, .int .i64 0, .int .i64 0, .int .i64 0, .int .i64 0, .int .i64 0, .int .i64 0] _, fun h => by have h2 := I.e7 (by simpa using h); rw [hf] at h2; cases h2⟩,
    fun h => by have h2 := I.e7 (by simpa using h); simp [h2],
    fun _ h => by obtain ⟨-, -, cs, -, p4, -⟩ := I.s4 (by simpa using h); have := p4.lt; omega⟩
theorem MpI.next7 {X Y : Nat → Int} {w V : World} {a0 : Act} {b : Nat → Bool} {q5 q6 : Nat} {a : Act} {u : World} (I : MpI X Y w V a0 b q5 q6 a u) (ha : b 5 = true) : MpI X Y w V a0 (fun x => x == 7 || b x) q5 q6 a (((((((((u.setCell ⟨q6, 0, none⟩ (.int .i64 (Y 0))).setCell ⟨q6, 1, none⟩ (.int .i64 (Y 1))).setCell ⟨q6, 2, none⟩ (.int .i64 (Y 2))).setCell ⟨q6, 3, none⟩ (.int .i64 (Y 3))).setCell ⟨q6, 4, none⟩ (.int .i64 (Y 4))).setCell ⟨q6, 5, none⟩ (.int .i64 (Y 5))).setCell ⟨q6, 6, none⟩ (.int .i64 (Y 6))).setCell ⟨q6, 7, none⟩ (.int .i64 (Y 7))).setCell ⟨q6, 8, none⟩ (.int .i64 (Y 8))) := by
  obtain ⟨-, hq, cs0, hc0, hh0, -⟩ := I.s5 ha
  obtain ⟨u9, e9, h9, hb⟩ := ml_laid hh0 hc0 Y
  have ho : Only q6 u u9 := by rw [e9]; exact ((((((((((Only.refl q6 u).setCell (p := ⟨q6, 0, none⟩) (.int .i64 (Y 0))).setCell (p := ⟨q6, 1, none⟩) (.int .i64 (Y 1))).setCell (p := ⟨q6, 2, none⟩) (.int .i64 (Y 2))).setCell (p := ⟨q6, 3, none⟩) (.int .i64 (Y 3))).setCell (p := ⟨q6, 4, none⟩) (.int .i64 (Y 4))).setCell (p := ⟨q6, 5, none⟩) (.int .i64 (Y 5))).setCell (p := ⟨q6, 6, none⟩) (.int .i64 (Y 6))).setCell (p := ⟨q6, 7, none⟩) (.int .i64 (Y 7))).setCell (p := ⟨q6, 8, none⟩) (.int .i64 (Y 8)))
  have hne0 : b 4 = true → q5 ≠ q6 := fun h => (I.n1_0 ha h).symm
  rw [← e9]
  exact ⟨I.sk,
    I.bel.trans (hb.mono hq),
    by have := hb.size; have := I.sz; omega,
    I.h0.only ho (by omega),
    I.h1.only ho (by omega),
    fun h => I.s0 (by simpa using h),
    fun h => I.s1 (by simpa using h),
    fun h => I.s2 (by simpa using h),
    fun h => I.s3 (by simpa using h),
    fun h => by obtain ⟨p1, p2, cs, p3, p4, p5⟩ := I.s4 (by simpa using h); exact ⟨p1, p2, cs, p3, p4.only ho (hne0 (by simpa using h)), fun h2 => p5 (by simpa using h2)⟩,
    fun h => by have h2 := I.e6 (by simpa using h); simp [h2],
    fun h => by obtain ⟨p1, p2, cs, p3, p4, p5⟩ := I.s5 (by simpa using h); exact ⟨p1, p2, _, rfl, h9, fun _ => rfl⟩,
    fun h => by simpa using ha,
    fun h h2 => I.n1_0 (by simpa using h) (by simpa using h2)⟩
theorem MpI.fin {X Y : Nat → Int} {w V : World} {a0 : Act} {b : Nat → Bool} {q5 q6 : Nat} {a : Act} {u : World} (I : MpI X Y w V a0 b q5 q6 a u) (hb : ∀ i, i < 100 → i < 8 → b i = true) (hn : 12 < a0.tmps.size) : a = ((((((a0.put (some 9) (.agg #[.int .i64 (X 0), .int .i64 (X 1), .int .i64 (X 2), .int .i64 (X 3), .int .i64 (X 4), .int .i64 (X 5), .int .i64 (X 6), .int .i64 (X 7), .int .i64 (X 8)])).put (some 10) (.agg #[.int .i64 (X 0), .int .i64 (X 1), .int .i64 (X 2), .int .i64 (X 3), .int .i64 (X 4), .int .i64 (X 5), .int .i64 (X 6), .int .i64 (X 7), .int .i64 (X 8)])).put (some 11) (.agg #[.int .i64 (Y 0), .int .i64 (Y 1), .int .i64 (Y 2), .int .i64 (Y 3), .int .i64 (Y 4), .int .i64 (Y 5), .int .i64 (Y 6), .int .i64 (Y 7), .int .i64 (Y 8)])).put (some 12) (.agg #[.int .i64 (Y 0), .int .i64 (Y 1), .int .i64 (Y 2), .int .i64 (Y 3), .int .i64 (Y 4), .int .i64 (Y 5), .int .i64 (Y 6), .int .i64 (Y 7), .int .i64 (Y 8)])).put (some 5) (.pointer (some ⟨q5, 0, none⟩))).put (some 6) (.pointer (some ⟨q6, 0, none⟩))) := by
  refine act_ext (by simp only [put_defers]; exact I.sk.defers) (by simp only [put_size]; exact I.sk.size) (fun s hs => ?_)
  by_cases hd : s ∈ ([9, 10, 11, 12, 5, 6] : List Nat)
  · simp only [List.mem_cons, List.not_mem_nil, or_false] at hd
    rcases hd with rfl | rfl | rfl | rfl | rfl | rfl
    · refine (I.s0 (hb 0 (by omega) (by omega))).trans (Eq.symm ?_)
      exact (put_other _ (by decide)).trans ((put_other _ (by decide)).trans ((put_other _ (by decide)).trans ((put_other _ (by decide)).trans ((put_other _ (by decide)).trans (put_same _ (by (try simp only [put_size]); omega))))))
    · refine (I.s1 (hb 1 (by omega) (by omega))).trans (Eq.symm ?_)
      exact (put_other _ (by decide)).trans ((put_other _ (by decide)).trans ((put_other _ (by decide)).trans ((put_other _ (by decide)).trans (put_same _ (by (try simp only [put_size]); omega)))))
    · refine (I.s2 (hb 2 (by omega) (by omega))).trans (Eq.symm ?_)
      exact (put_other _ (by decide)).trans ((put_other _ (by decide)).trans ((put_other _ (by decide)).trans (put_same _ (by (try simp only [put_size]); omega))))
    · refine (I.s3 (hb 3 (by omega) (by omega))).trans (Eq.symm ?_)
      exact (put_other _ (by decide)).trans ((put_other _ (by decide)).trans (put_same _ (by (try simp only [put_size]); omega)))
    · refine ((I.s4 (hb 4 (by omega) (by omega))).1).trans (Eq.symm ?_)
      exact (put_other _ (by decide)).trans (put_same _ (by (try simp only [put_size]); omega))
    · refine ((I.s5 (hb 5 (by omega) (by omega))).1).trans (Eq.symm ?_)
      exact put_same _ (by (try simp only [put_size]); omega)
  · refine (I.sk.slot s hd).trans (Eq.symm ?_)
    simp only [List.mem_cons, List.not_mem_nil, or_false, not_or] at hd
    obtain ⟨g0, g1, g2, g3, g4, g5⟩ := hd
    exact (put_other _ g5).trans ((put_other _ g4).trans ((put_other _ g3).trans ((put_other _ g2).trans ((put_other _ g1).trans ((put_other _ g0).trans (rfl))))))
theorem eq_n9 (d : Nat) (T : TypeId) (hT : Try.prog.underlying T = some (.array 9 2)) (x0 x1 x2 x3 x4 x5 x6 x7 x8 : Int) (w : World) : (Op.equalIn (d + 2) T (.agg #[.int .i64 x0, .int .i64 x1, .int .i64 x2, .int .i64 x3, .int .i64 x4, .int .i64 x5, .int .i64 x6, .int .i64 x7, .int .i64 x8]) (.agg #[.int .i64 x0, .int .i64 x1, .int .i64 x2, .int .i64 x3, .int .i64 x4, .int .i64 x5, .int .i64 x6, .int .i64 x7, .int .i64 x8])).run Try.prog w = .ok true w := by
  obtain ⟨i, hi⟩ := info_i64m
  have hc := cel_i64
  rw [show d + 2 = (d + 1) + 1 from rfl, run_equalIn_array w (d + 1) _ _ hT hi, hc, show List.range 9 = [0, 1, 2, 3, 4, 5, 6, 7, 8] from rfl]
  have p0 : (part 2 #[.int .i64 x0, .int .i64 x1, .int .i64 x2, .int .i64 x3, .int .i64 x4, .int .i64 x5, .int .i64 x6, .int .i64 x7, .int .i64 x8] 0).run Try.prog w = .ok (.int .i64 x0) w := part_i64 _ _ _ w rfl
  have p1 : (part 2 #[.int .i64 x0, .int .i64 x1, .int .i64 x2, .int .i64 x3, .int .i64 x4, .int .i64 x5, .int .i64 x6, .int .i64 x7, .int .i64 x8] 1).run Try.prog w = .ok (.int .i64 x1) w := part_i64 _ _ _ w rfl
  have p2 : (part 2 #[.int .i64 x0, .int .i64 x1, .int .i64 x2, .int .i64 x3, .int .i64 x4, .int .i64 x5, .int .i64 x6, .int .i64 x7, .int .i64 x8] 2).run Try.prog w = .ok (.int .i64 x2) w := part_i64 _ _ _ w rfl
  have p3 : (part 2 #[.int .i64 x0, .int .i64 x1, .int .i64 x2, .int .i64 x3, .int .i64 x4, .int .i64 x5, .int .i64 x6, .int .i64 x7, .int .i64 x8] 3).run Try.prog w = .ok (.int .i64 x3) w := part_i64 _ _ _ w rfl
  have p4 : (part 2 #[.int .i64 x0, .int .i64 x1, .int .i64 x2, .int .i64 x3, .int .i64 x4, .int .i64 x5, .int .i64 x6, .int .i64 x7, .int .i64 x8] 4).run Try.prog w = .ok (.int .i64 x4) w := part_i64 _ _ _ w rfl
  have p5 : (part 2 #[.int .i64 x0, .int .i64 x1, .int .i64 x2, .int .i64 x3, .int .i64 x4, .int .i64 x5, .int .i64 x6, .int .i64 x7, .int .i64 x8] 5).run Try.prog w = .ok (.int .i64 x5) w := part_i64 _ _ _ w rfl
  have p6 : (part 2 #[.int .i64 x0, .int .i64 x1, .int .i64 x2, .int .i64 x3, .int .i64 x4, .int .i64 x5, .int .i64 x6, .int .i64 x7, .int .i64 x8] 6).run Try.prog w = .ok (.int .i64 x6) w := part_i64 _ _ _ w rfl
  have p7 : (part 2 #[.int .i64 x0, .int .i64 x1, .int .i64 x2, .int .i64 x3, .int .i64 x4, .int .i64 x5, .int .i64 x6, .int .i64 x7, .int .i64 x8] 7).run Try.prog w = .ok (.int .i64 x7) w := part_i64 _ _ _ w rfl
  have p8 : (part 2 #[.int .i64 x0, .int .i64 x1, .int .i64 x2, .int .i64 x3, .int .i64 x4, .int .i64 x5, .int .i64 x6, .int .i64 x7, .int .i64 x8] 8).run Try.prog w = .ok (.int .i64 x8) w := part_i64 _ _ _ w rfl
  simp [Op.eqItems, p0, p1, p2, p3, p4, p5, p6, p7, p8, eq_i64]
theorem neq9 (x0 x1 x2 x3 x4 x5 x6 x7 x8 : Int) (w : World) : (Op.equalIn 10000 58 (.agg #[.int .i64 x0, .int .i64 x1, .int .i64 x2, .int .i64 x3, .int .i64 x4, .int .i64 x5, .int .i64 x6, .int .i64 x7, .int .i64 x8]) (.agg #[.int .i64 x0, .int .i64 x1, .int .i64 x2, .int .i64 x3, .int .i64 x4, .int .i64 x5, .int .i64 x6, .int .i64 x7, .int .i64 x8])).run Try.prog w = .ok true w := eq_n9 9998 58 Try.underlying58 _ _ _ _ _ _ _ _ _ w
def mpv (X Y : Nat → Int) : Nat → Int := apl X (fun t => Y (3 + t))
def MpS (X Y : Nat → Int) (w : World) (q5 q6 qv : Nat) (u : World) : Prop := Held w.heap.size [.int .i64 (X 0), .int .i64 (X 1), .int .i64 (X 2), .int .i64 (X 3), .int .i64 (X 4), .int .i64 (X 5), .int .i64 (X 6), .int .i64 (X 7), .int .i64 (X 8)] u ∧ Held (w.heap.size + 1) [.int .i64 (Y 0), .int .i64 (Y 1), .int .i64 (Y 2), .int .i64 (Y 3), .int .i64 (Y 4), .int .i64 (Y 5), .int .i64 (Y 6), .int .i64 (Y 7), .int .i64 (Y 8)] u ∧ Held q5 [.int .i64 (X 0), .int .i64 (X 1), .int .i64 (X 2), .int .i64 (X 3), .int .i64 (X 4), .int .i64 (X 5), .int .i64 (X 6), .int .i64 (X 7), .int .i64 (X 8)] u ∧ Held q6 [.int .i64 (Y 0), .int .i64 (Y 1), .int .i64 (Y 2), .int .i64 (Y 3), .int .i64 (Y 4), .int .i64 (Y 5), .int .i64 (Y 6), .int .i64 (Y 7), .int .i64 (Y 8)] u ∧ Held qv [.int .i64 ((mpv X Y) 0), .int .i64 ((mpv X Y) 1), .int .i64 ((mpv X Y) 2)] u ∧ Below w.heap.size w u
theorem MpS.bel {X Y : Nat → Int} {w u u' : World} {q5 q6 qv : Nat} (h : MpS X Y w q5 q6 qv u) (q : Below u.heap.size u u') : MpS X Y w q5 q6 qv u' := ⟨h.1.bel q, h.2.1.bel q, h.2.2.1.bel q, h.2.2.2.1.bel q, h.2.2.2.2.1.bel q, h.2.2.2.2.2.trans (q.mono h.2.2.2.2.2.size)⟩
theorem l9x {cs : List Value} (hc : cs.length = 9) : ∃ a0 a1 a2 a3 a4 a5 a6 a7 a8, cs = [a0, a1, a2, a3, a4, a5, a6, a7, a8] := by
  match cs, hc with
  | [a0, a1, a2, a3, a4, a5, a6, a7, a8], _ => exact ⟨a0, a1, a2, a3, a4, a5, a6, a7, a8, rfl⟩
theorem mp_box (w : World) (X Y : Nat → Int) : ∃ V, V = ((w.alloc (.cells #[.int .i64 (X 0), .int .i64 (X 1), .int .i64 (X 2), .int .i64 (X 3), .int .i64 (X 4), .int .i64 (X 5), .int .i64 (X 6), .int .i64 (X 7), .int .i64 (X 8)] 56)).alloc (.cells #[.int .i64 (Y 0), .int .i64 (Y 1), .int .i64 (Y 2), .int .i64 (Y 3), .int .i64 (Y 4), .int .i64 (Y 5), .int .i64 (Y 6), .int .i64 (Y 7), .int .i64 (Y 8)] 56)) ∧ Below w.heap.size w V ∧ Held w.heap.size [.int .i64 (X 0), .int .i64 (X 1), .int .i64 (X 2), .int .i64 (X 3), .int .i64 (X 4), .int .i64 (X 5), .int .i64 (X 6), .int .i64 (X 7), .int .i64 (X 8)] V ∧ Held (w.heap.size + 1) [.int .i64 (Y 0), .int .i64 (Y 1), .int .i64 (Y 2), .int .i64 (Y 3), .int .i64 (Y 4), .int .i64 (Y 5), .int .i64 (Y 6), .int .i64 (Y 7), .int .i64 (Y 8)] V ∧ V.heap.size = w.heap.size + 2 := by
  refine ⟨_, rfl, (by repeat (first | exact Below.refl _ _ | assumption | apply Below.drew | apply below_drewN | (refine Below.alloc ?_ (by first | exact Nat.le_refl _ | omega | (simp <;> omega)) _) | (refine Below.setCell ?_ (by first | exact Nat.le_refl _ | omega | (simp <;> omega)) _))), ?_, ?_, by simp⟩
  · have := ((Held.new w [.int .i64 (X 0), .int .i64 (X 1), .int .i64 (X 2), .int .i64 (X 3), .int .i64 (X 4), .int .i64 (X 5), .int .i64 (X 6), .int .i64 (X 7), .int .i64 (X 8)] 56).alloc (.cells #[.int .i64 (Y 0), .int .i64 (Y 1), .int .i64 (Y 2), .int .i64 (Y 3), .int .i64 (Y 4), .int .i64 (Y 5), .int .i64 (Y 6), .int .i64 (Y 7), .int .i64 (Y 8)] 56))
    simpa using this
  · have := (Held.new (w.alloc (.cells #[.int .i64 (X 0), .int .i64 (X 1), .int .i64 (X 2), .int .i64 (X 3), .int .i64 (X 4), .int .i64 (X 5), .int .i64 (X 6), .int .i64 (X 7), .int .i64 (X 8)] 56)) [.int .i64 (Y 0), .int .i64 (Y 1), .int .i64 (Y 2), .int .i64 (Y 3), .int .i64 (Y 4), .int .i64 (Y 5), .int .i64 (Y 6), .int .i64 (Y 7), .int .i64 (Y 8)] 56)
    simpa using this
set_option maxRecDepth 100000 in
set_option maxHeartbeats 8000000 in
theorem law_MatrixProducts (X Y : Nat → Int) (w : World) : Calls Try.prog 5 #[.agg #[.int .i64 (X 0), .int .i64 (X 1), .int .i64 (X 2), .int .i64 (X 3), .int .i64 (X 4), .int .i64 (X 5), .int .i64 (X 6), .int .i64 (X 7), .int .i64 (X 8)], .agg #[.int .i64 (Y 0), .int .i64 (Y 1), .int .i64 (Y 2), .int .i64 (Y 3), .int .i64 (Y 4), .int .i64 (Y 5), .int .i64 (Y 6), .int .i64 (Y 7), .int .i64 (Y 8)]] w fun e w' => e = .returned (.bool true) ∧ Below w.heap.size w w' := by
  obtain ⟨V, eV, hb0, hX, hY, hz⟩ := mp_box w X Y
  have NX := Lib.hid (fun u => mnine X u)
  have NY := Lib.hid (fun u => mnine Y u)
  have z0 := hz
  replace eV := Lib.hid eV
  replace hz := Lib.hid hz
  replace hb0 := Lib.hid hb0
  go_enter Try.func5, Try.ntmps5
  go_upto_region 1 with (fail)
  rw [← eV.out]
  refine region_inv_at (fun a0 V0 b a u => ∃ q5 q6, MpI X Y w V a0 b q5 q6 a u) (by kernel_rfl) (by kernel_rfl) ⟨0, 0, ⟨Sk.refl _ _, (Below.refl _ _).drew, Nat.le_of_eq z0.symm, hX.drew, hY.drew, by simp, by simp, by simp, by simp, by simp, by simp, by simp, by simp, by simp⟩⟩ ?_ ?_
  · intro i o ho b a u I hb hd K hK
    obtain ⟨q5, q6, I⟩ := I
    have hi : i < 8 := (Array.getElem?_eq_some_iff.1 ho).1
    rcases (show i = 0 ∨ i = 1 ∨ i = 2 ∨ i = 3 ∨ i = 4 ∨ i = 5 ∨ i = 6 ∨ i = 7 by omega) with rfl | rfl | rfl | rfl | rfl | rfl | rfl | rfl
    · obtain rfl := Option.some.inj ho
      have h2 : a.tmps.getD 2 undef = .pointer (some ⟨w.heap.size, 0, none⟩) := (I.sk.slot 2 (by decide)).trans rfl
      have hXX := I.h0
      obtain ⟨c0, f0⟩ := hXX.one 0 rfl
      obtain ⟨c1, f1⟩ := hXX.one 1 rfl
      obtain ⟨c2, f2⟩ := hXX.one 2 rfl
      obtain ⟨c3, f3⟩ := hXX.one 3 rfl
      obtain ⟨c4, f4⟩ := hXX.one 4 rfl
      obtain ⟨c5, f5⟩ := hXX.one 5 rfl
      obtain ⟨c6, f6⟩ := hXX.one 6 rfl
      obtain ⟨c7, f7⟩ := hXX.one 7 rfl
      obtain ⟨c8, f8⟩ := hXX.one 8 rfl
      clear hXX
      have I' := Lib.hid I
      clear I hd hb
      go_simp
      exact hK.out _ _ ⟨q5, q6, I'.out.next0 (by show _ < 74; omega) (Below.refl _ _)⟩
    · obtain rfl := Option.some.inj ho
      have h2 := I.s0 (hd 0 (by decide))
      have I' := Lib.hid I
      clear I hd hb
      go_simp
      refine (NX.out _).mono ?_
      rintro e u1 ⟨rfl, hu⟩
      go_simp
      exact hK.out _ _ ⟨q5, q6, I'.out.next1 (by show _ < 74; omega) hu⟩
    · obtain rfl := Option.some.inj ho
      have h2 : a.tmps.getD 3 undef = .pointer (some ⟨w.heap.size + 1, 0, none⟩) := (I.sk.slot 3 (by decide)).trans rfl
      have hXX := I.h1
      obtain ⟨c0, f0⟩ := hXX.one 0 rfl
      obtain ⟨c1, f1⟩ := hXX.one 1 rfl
      obtain ⟨c2, f2⟩ := hXX.one 2 rfl
      obtain ⟨c3, f3⟩ := hXX.one 3 rfl
      obtain ⟨c4, f4⟩ := hXX.one 4 rfl
      obtain ⟨c5, f5⟩ := hXX.one 5 rfl
      obtain ⟨c6, f6⟩ := hXX.one 6 rfl
      obtain ⟨c7, f7⟩ := hXX.one 7 rfl
      obtain ⟨c8, f8⟩ := hXX.one 8 rfl
      clear hXX
      have I' := Lib.hid I
      clear I hd hb
      go_simp
      exact hK.out _ _ ⟨q5, q6, I'.out.next2 (by show _ < 74; omega) (Below.refl _ _)⟩
    · obtain rfl := Option.some.inj ho
      have h2 := I.s2 (hd 2 (by decide))
      have I' := Lib.hid I
      clear I hd hb
      go_simp
      refine (NY.out _).mono ?_
      rintro e u1 ⟨rfl, hu⟩
      go_simp
      exact hK.out _ _ ⟨q5, q6, I'.out.next3 (by show _ < 74; omega) hu⟩
    · obtain rfl := Option.some.inj ho
      have I' := Lib.hid I
      have hbb := Lib.hid hb
      clear I hd hb
      go_simp
      exact hK.out _ _ ⟨_, q6, I'.out.next4 (by show _ < 74; omega) hbb.out⟩
    · obtain rfl := Option.some.inj ho
      have I' := Lib.hid I
      have hbb := Lib.hid hb
      clear I hd hb
      go_simp
      exact hK.out _ _ ⟨q5, _, I'.out.next5 (by show _ < 74; omega) hbb.out⟩
    · obtain rfl := Option.some.inj ho
      have ha := hd 4 (by decide)
      have h2 := I.s1 (hd 1 (by decide))
      obtain ⟨h3, -, cs, hc, hh, -⟩ := I.s4 ha
      obtain ⟨x0, x1, x2, x3, x4, x5, x6, x7, x8, rfl⟩ := l9x hc
      obtain ⟨c0, f0⟩ := hh.one 0 rfl
      obtain ⟨c1, f1⟩ := hh.one 1 rfl
      obtain ⟨c2, f2⟩ := hh.one 2 rfl
      obtain ⟨c3, f3⟩ := hh.one 3 rfl
      obtain ⟨c4, f4⟩ := hh.one 4 rfl
      obtain ⟨c5, f5⟩ := hh.one 5 rfl
      obtain ⟨c6, f6⟩ := hh.one 6 rfl
      obtain ⟨c7, f7⟩ := hh.one 7 rfl
      obtain ⟨c8, f8⟩ := hh.one 8 rfl
      have I' := Lib.hid (I.next6 ha)
      clear I hd hb hh hc
      go_simp
      exact hK.out _ _ ⟨q5, q6, I'.out⟩
    · obtain rfl := Option.some.inj ho
      have ha := hd 5 (by decide)
      have h2 := I.s3 (hd 3 (by decide))
      obtain ⟨h3, -, cs, hc, hh, -⟩ := I.s5 ha
      obtain ⟨x0, x1, x2, x3, x4, x5, x6, x7, x8, rfl⟩ := l9x hc
      obtain ⟨c0, f0⟩ := hh.one 0 rfl
      obtain ⟨c1, f1⟩ := hh.one 1 rfl
      obtain ⟨c2, f2⟩ := hh.one 2 rfl
      obtain ⟨c3, f3⟩ := hh.one 3 rfl
      obtain ⟨c4, f4⟩ := hh.one 4 rfl
      obtain ⟨c5, f5⟩ := hh.one 5 rfl
      obtain ⟨c6, f6⟩ := hh.one 6 rfl
      obtain ⟨c7, f7⟩ := hh.one 7 rfl
      obtain ⟨c8, f8⟩ := hh.one 8 rfl
      have I' := Lib.hid (I.next7 ha)
      clear I hd hb hh hc
      go_simp
      exact hK.out _ _ ⟨q5, q6, I'.out⟩
  · intro b a u hall I
    obtain ⟨q5, q6, I⟩ := I
    have ea := I.fin (fun i _ h => hall i h) (by show _ < 74; omega)
    obtain ⟨-, r5, cs5, -, k5, j5⟩ := I.s4 (hall 4 (by decide))
    obtain ⟨-, r6, cs6, -, k6, j6⟩ := I.s5 (hall 5 (by decide))
    rw [j5 (hall 6 (by decide))] at k5
    rw [j6 (hall 7 (by decide))] at k6
    have hbel := Lib.hid (hb0.out.trans (I.bel.mono (by omega)))
    have b5 : w.heap.size + 2 ≤ q5 := r5
    have b6 : w.heap.size + 2 ≤ q6 := r6
    have hXu := I.h0
    have hYu := I.h1
    have zu := I.sz
    subst ea
    clear I hall NX NY eV hz hb0 hX hY j5 j6 r5 r6
    simp only [Act.put, List.setIfInBounds_toArray, List.set_cons_zero, List.set_cons_succ]
    have AA := Lib.hid (fun v => (show Calls Try.prog 32 #[.agg #[.int .i64 (X 0), .int .i64 (X 1), .int .i64 (X 2), .int .i64 (X 3), .int .i64 (X 4), .int .i64 (X 5), .int .i64 (X 6), .int .i64 (X 7), .int .i64 (X 8)], .agg #[.int .i64 (Y 3), .int .i64 (Y 4), .int .i64 (Y 5)]] v fun e w' => e = .returned (.agg #[.int .i64 ((mpv X Y) 0), .int .i64 ((mpv X Y) 1), .int .i64 ((mpv X Y) 2)]) ∧ Below v.heap.size v w' from mapply X (fun t => Y (3 + t)) v))
    have KX := Lib.hid hXu
    have KY := Lib.hid hYu
    obtain ⟨c0, f0⟩ := hXu.one 0 rfl
    obtain ⟨c1, f1⟩ := hXu.one 1 rfl
    obtain ⟨c2, f2⟩ := hXu.one 2 rfl
    obtain ⟨c3, f3⟩ := hXu.one 3 rfl
    obtain ⟨c4, f4⟩ := hXu.one 4 rfl
    obtain ⟨c5, f5⟩ := hXu.one 5 rfl
    obtain ⟨c6, f6⟩ := hXu.one 6 rfl
    obtain ⟨c7, f7⟩ := hXu.one 7 rfl
    obtain ⟨c8, f8⟩ := hXu.one 8 rfl
    obtain ⟨d0, g0⟩ := hYu.one 0 rfl
    obtain ⟨d1, g1⟩ := hYu.one 1 rfl
    obtain ⟨d2, g2⟩ := hYu.one 2 rfl
    obtain ⟨d3, g3⟩ := hYu.one 3 rfl
    obtain ⟨d4, g4⟩ := hYu.one 4 rfl
    obtain ⟨d5, g5⟩ := hYu.one 5 rfl
    obtain ⟨d6, g6⟩ := hYu.one 6 rfl
    obtain ⟨d7, g7⟩ := hYu.one 7 rfl
    obtain ⟨d8, g8⟩ := hYu.one 8 rfl
    clear hXu hYu
    go_wp2_with fail
    refine (AA.out _).mono ?_
    rintro e u1 ⟨rfl, hu1⟩
    obtain ⟨u2, e2, h2, bb⟩ : ∃ u2, u2 = u1.alloc (.cells #[.int .i64 ((mpv X Y) 0), .int .i64 ((mpv X Y) 1), .int .i64 ((mpv X Y) 2)] 65) ∧ Held u1.heap.size [.int .i64 ((mpv X Y) 0), .int .i64 ((mpv X Y) 1), .int .i64 ((mpv X Y) 2)] u2 ∧ Below u1.heap.size u1 u2 := ⟨_, rfl, Held.new u1 [.int .i64 ((mpv X Y) 0), .int .i64 ((mpv X Y) 1), .int .i64 ((mpv X Y) 2)] _, (Below.refl _ _).alloc (Nat.le_refl _) _⟩
    have S0 : Hid (MpS X Y w q5 q6 u1.heap.size u2) := Lib.hid ⟨(KX.out.bel hu1).bel bb, (KY.out.bel hu1).bel bb, (k5.bel hu1).bel bb, (k6.bel hu1).bel bb, h2, (hbel.out.trans (hu1.mono (by omega))).trans (bb.mono (by have := hu1.size; omega))⟩
    replace e2 := Lib.hid e2
    clear KX KY k5 k6 hbel hu1 bb h2 AA
    clear c0 c1 c2 c3 c4 c5 c6 c7 c8 f0 f1 f2 f3 f4 f5 f6 f7 f8 d0 d1 d2 d3 d4 d5 d6 d7 d8 g0 g1 g2 g3 g4 g5 g6 g7 g8
    go_upto_region 3 with (fail)
    rw [← e2.out]
    clear e2
    generalize u1.heap.size = qv at *
    go_wp2_with fail
    go_loopw [8] (fun i u => ∃ k : Nat, k ≤ 3 ∧ i = .int .i64 (k : Int) ∧ Hid (MpS X Y w q5 q6 qv u)) (fun i _ => 3 - (intOf i).toNat)
    case atStart => exact ⟨0, by omega, rfl, S0⟩
    case round =>
      clear S0
      obtain ⟨k, hk, rfl, S⟩ := hrel
      rcases (show k = 0 ∨ k = 1 ∨ k = 2 ∨ k = 3 by omega) with rfl | rfl | rfl | rfl
      · have RR := Lib.hid (fun u => rrow0 X u)
        have RC := Lib.hid (fun u => rrow1 Y u)
        have RD := Lib.hid (fun u => show Calls Try.prog 33 #[.agg #[.int .i64 (X 0), .int .i64 (X 1), .int .i64 (X 2)], .agg #[.int .i64 (Y 3), .int .i64 (Y 4), .int .i64 (Y 5)]] u fun e w' => e = .returned (.int .i64 (mpv X Y 0)) ∧ Below u.heap.size u w' from rdot' (X 0) (X 1) (X 2) (Y 3) (Y 4) (Y 5) u)
        have k0 : IntKind.i64.wrap 0 = 0 := by decide
        have hA := S.out.2.2.1
        have hB := S.out.2.2.2.1
        have cv := S.out.2.2.2.2.1.c 0 _ rfl
        obtain ⟨c0, f0⟩ := hA.one 0 rfl
        obtain ⟨c1, f1⟩ := hA.one 1 rfl
        obtain ⟨c2, f2⟩ := hA.one 2 rfl
        obtain ⟨c3, f3⟩ := hA.one 3 rfl
        obtain ⟨c4, f4⟩ := hA.one 4 rfl
        obtain ⟨c5, f5⟩ := hA.one 5 rfl
        obtain ⟨c6, f6⟩ := hA.one 6 rfl
        obtain ⟨c7, f7⟩ := hA.one 7 rfl
        obtain ⟨c8, f8⟩ := hA.one 8 rfl
        obtain ⟨d0, g0⟩ := hB.one 0 rfl
        obtain ⟨d1, g1⟩ := hB.one 1 rfl
        obtain ⟨d2, g2⟩ := hB.one 2 rfl
        obtain ⟨d3, g3⟩ := hB.one 3 rfl
        obtain ⟨d4, g4⟩ := hB.one 4 rfl
        obtain ⟨d5, g5⟩ := hB.one 5 rfl
        obtain ⟨d6, g6⟩ := hB.one 6 rfl
        obtain ⟨d7, g7⟩ := hB.one 7 rfl
        obtain ⟨d8, g8⟩ := hB.one 8 rfl
        clear hA hB
        go_wp2_with fail
        refine region_moves (fun u => u.cell? ⟨q5, 0, none⟩ = some (.int .i64 (X 0)) ∧ u.cell? ⟨q5, 1, none⟩ = some (.int .i64 (X 1)) ∧ u.cell? ⟨q5, 2, none⟩ = some (.int .i64 (X 2)) ∧ u.cell? ⟨q5, 3, none⟩ = some (.int .i64 (X 3)) ∧ u.cell? ⟨q5, 4, none⟩ = some (.int .i64 (X 4)) ∧ u.cell? ⟨q5, 5, none⟩ = some (.int .i64 (X 5)) ∧ u.cell? ⟨q5, 6, none⟩ = some (.int .i64 (X 6)) ∧ u.cell? ⟨q5, 7, none⟩ = some (.int .i64 (X 7)) ∧ u.cell? ⟨q5, 8, none⟩ = some (.int .i64 (X 8)) ∧ u.cell? ⟨q6, 0, none⟩ = some (.int .i64 (Y 0)) ∧ u.cell? ⟨q6, 1, none⟩ = some (.int .i64 (Y 1)) ∧ u.cell? ⟨q6, 2, none⟩ = some (.int .i64 (Y 2)) ∧ u.cell? ⟨q6, 3, none⟩ = some (.int .i64 (Y 3)) ∧ u.cell? ⟨q6, 4, none⟩ = some (.int .i64 (Y 4)) ∧ u.cell? ⟨q6, 5, none⟩ = some (.int .i64 (Y 5)) ∧ u.cell? ⟨q6, 6, none⟩ = some (.int .i64 (Y 6)) ∧ u.cell? ⟨q6, 7, none⟩ = some (.int .i64 (Y 7)) ∧ u.cell? ⟨q6, 8, none⟩ = some (.int .i64 (Y 8)) ∧ u.cell? ⟨qv, 0, none⟩ = some (.int .i64 (mpv X Y 0))) [] [(.free, 0), (.free, 1), (.take, 2), (.take, 3), (.free, 4), (.take, 6), (.step, 5), (.step, 7), (.step, 8), (.free, 9)] _ (by kernel_rfl) (by kernel_rfl) (by kernel_rfl) (by kernel_rfl) (by decide) rfl (fun _ _ _ _ _ h => h) ?_
        simp only [List.filterMap_cons, List.filterMap_nil, List.getElem?_toArray, List.getElem?_cons_zero, List.getElem?_cons_succ, Option.map_some]
        iterate 2
          first
            | (refine mv_free ?_ (Or.inl ⟨by rfl, ?_⟩) (⟨c0, c1, c2, c3, c4, c5, c6, c7, c8, d0, d1, d2, d3, d4, d5, d6, d7, d8, cv⟩) ?_
               rotate_left 1
               · intro u
                 go_simp
                 try simp only [d1]
                 try simp only [d2]
                 try simp only [d3]
                 try with_reducible rfl
               simp only [Act.put, List.setIfInBounds_toArray, List.set_cons_zero, List.set_cons_succ])
            | (refine mv_free _ (Or.inr ⟨by rfl, rfl⟩) (⟨c0, c1, c2, c3, c4, c5, c6, c7, c8, d0, d1, d2, d3, d4, d5, d6, d7, d8, cv⟩) ?_
               simp only [Act.put, List.setIfInBounds_toArray, List.set_cons_zero, List.set_cons_succ])
        iterate 2
          first
            | (refine mv_take ?_ (Or.inl ⟨by rfl, ?_⟩) (⟨c0, c1, c2, c3, c4, c5, c6, c7, c8, d0, d1, d2, d3, d4, d5, d6, d7, d8, cv⟩) ?_
               rotate_left 1
               · intro u hu
                 (try dsimp only at hu)
                 go_simp
                 try with_reducible rfl
               simp only [Act.put, List.setIfInBounds_toArray, List.set_cons_zero, List.set_cons_succ])
            | (refine mv_take _ (Or.inr ⟨by rfl, rfl⟩) (⟨c0, c1, c2, c3, c4, c5, c6, c7, c8, d0, d1, d2, d3, d4, d5, d6, d7, d8, cv⟩) ?_
               simp only [Act.put, List.setIfInBounds_toArray, List.set_cons_zero, List.set_cons_succ])
        iterate 1
          first
            | (refine mv_free ?_ (Or.inl ⟨by rfl, ?_⟩) (⟨c0, c1, c2, c3, c4, c5, c6, c7, c8, d0, d1, d2, d3, d4, d5, d6, d7, d8, cv⟩) ?_
               rotate_left 1
               · intro u
                 go_simp
                 try simp only [d1]
                 try simp only [d2]
                 try simp only [d3]
                 try with_reducible rfl
               simp only [Act.put, List.setIfInBounds_toArray, List.set_cons_zero, List.set_cons_succ])
            | (refine mv_free _ (Or.inr ⟨by rfl, rfl⟩) (⟨c0, c1, c2, c3, c4, c5, c6, c7, c8, d0, d1, d2, d3, d4, d5, d6, d7, d8, cv⟩) ?_
               simp only [Act.put, List.setIfInBounds_toArray, List.set_cons_zero, List.set_cons_succ])
        iterate 1
          first
            | (refine mv_take ?_ (Or.inl ⟨by rfl, ?_⟩) (⟨c0, c1, c2, c3, c4, c5, c6, c7, c8, d0, d1, d2, d3, d4, d5, d6, d7, d8, cv⟩) ?_
               rotate_left 1
               · intro u hu
                 (try dsimp only at hu)
                 go_simp
                 try with_reducible rfl
               simp only [Act.put, List.setIfInBounds_toArray, List.set_cons_zero, List.set_cons_succ])
            | (refine mv_take _ (Or.inr ⟨by rfl, rfl⟩) (⟨c0, c1, c2, c3, c4, c5, c6, c7, c8, d0, d1, d2, d3, d4, d5, d6, d7, d8, cv⟩) ?_
               simp only [Act.put, List.setIfInBounds_toArray, List.set_cons_zero, List.set_cons_succ])
        refine mv_step (fun K hK => ?_)
        go_simp
        refine (RR.out _).mono ?_
        rintro e w1 ⟨rfl, hb1⟩
        have S1 := Lib.hid (S.out.bel ((Below.refl _ _).drew.trans hb1))
        clear hb1
        clear cv c0 f0 d0 g0 c1 f1 d1 g1 c2 f2 d2 g2 c3 f3 d3 g3 c4 f4 d4 g4 c5 f5 d5 g5 c6 f6 d6 g6 c7 f7 d7 g7 c8 f8 d8 g8
        have hA := S1.out.2.2.1
        have hB := S1.out.2.2.2.1
        have cv := S1.out.2.2.2.2.1.c 0 _ rfl
        obtain ⟨c0, f0⟩ := hA.one 0 rfl
        obtain ⟨c1, f1⟩ := hA.one 1 rfl
        obtain ⟨c2, f2⟩ := hA.one 2 rfl
        obtain ⟨c3, f3⟩ := hA.one 3 rfl
        obtain ⟨c4, f4⟩ := hA.one 4 rfl
        obtain ⟨c5, f5⟩ := hA.one 5 rfl
        obtain ⟨c6, f6⟩ := hA.one 6 rfl
        obtain ⟨c7, f7⟩ := hA.one 7 rfl
        obtain ⟨c8, f8⟩ := hA.one 8 rfl
        obtain ⟨d0, g0⟩ := hB.one 0 rfl
        obtain ⟨d1, g1⟩ := hB.one 1 rfl
        obtain ⟨d2, g2⟩ := hB.one 2 rfl
        obtain ⟨d3, g3⟩ := hB.one 3 rfl
        obtain ⟨d4, g4⟩ := hB.one 4 rfl
        obtain ⟨d5, g5⟩ := hB.one 5 rfl
        obtain ⟨d6, g6⟩ := hB.one 6 rfl
        obtain ⟨d7, g7⟩ := hB.one 7 rfl
        obtain ⟨d8, g8⟩ := hB.one 8 rfl
        clear hA hB
        go_wp2_with fail
        refine hK.out _ _ _ (fun u hu => hu) (⟨c0, c1, c2, c3, c4, c5, c6, c7, c8, d0, d1, d2, d3, d4, d5, d6, d7, d8, cv⟩) ?_
        clear hK K
        refine mv_step (fun K hK => ?_)
        go_simp
        refine (RC.out _).mono ?_
        rintro e w2 ⟨rfl, hb2⟩
        have S2 := Lib.hid (S1.out.bel (hb2))
        clear hb2
        clear cv c0 f0 d0 g0 c1 f1 d1 g1 c2 f2 d2 g2 c3 f3 d3 g3 c4 f4 d4 g4 c5 f5 d5 g5 c6 f6 d6 g6 c7 f7 d7 g7 c8 f8 d8 g8
        have hA := S2.out.2.2.1
        have hB := S2.out.2.2.2.1
        have cv := S2.out.2.2.2.2.1.c 0 _ rfl
        obtain ⟨c0, f0⟩ := hA.one 0 rfl
        obtain ⟨c1, f1⟩ := hA.one 1 rfl
        obtain ⟨c2, f2⟩ := hA.one 2 rfl
        obtain ⟨c3, f3⟩ := hA.one 3 rfl
        obtain ⟨c4, f4⟩ := hA.one 4 rfl
        obtain ⟨c5, f5⟩ := hA.one 5 rfl
        obtain ⟨c6, f6⟩ := hA.one 6 rfl
        obtain ⟨c7, f7⟩ := hA.one 7 rfl
        obtain ⟨c8, f8⟩ := hA.one 8 rfl
        obtain ⟨d0, g0⟩ := hB.one 0 rfl
        obtain ⟨d1, g1⟩ := hB.one 1 rfl
        obtain ⟨d2, g2⟩ := hB.one 2 rfl
        obtain ⟨d3, g3⟩ := hB.one 3 rfl
        obtain ⟨d4, g4⟩ := hB.one 4 rfl
        obtain ⟨d5, g5⟩ := hB.one 5 rfl
        obtain ⟨d6, g6⟩ := hB.one 6 rfl
        obtain ⟨d7, g7⟩ := hB.one 7 rfl
        obtain ⟨d8, g8⟩ := hB.one 8 rfl
        clear hA hB
        go_wp2_with fail
        refine hK.out _ _ _ (fun u hu => hu) (⟨c0, c1, c2, c3, c4, c5, c6, c7, c8, d0, d1, d2, d3, d4, d5, d6, d7, d8, cv⟩) ?_
        clear hK K
        refine mv_step (fun K hK => ?_)
        go_simp
        refine (RD.out _).mono ?_
        rintro e w3 ⟨rfl, hb3⟩
        have S3 := Lib.hid (S2.out.bel (hb3))
        clear hb3
        clear cv c0 f0 d0 g0 c1 f1 d1 g1 c2 f2 d2 g2 c3 f3 d3 g3 c4 f4 d4 g4 c5 f5 d5 g5 c6 f6 d6 g6 c7 f7 d7 g7 c8 f8 d8 g8
        have hA := S3.out.2.2.1
        have hB := S3.out.2.2.2.1
        have cv := S3.out.2.2.2.2.1.c 0 _ rfl
        obtain ⟨c0, f0⟩ := hA.one 0 rfl
        obtain ⟨c1, f1⟩ := hA.one 1 rfl
        obtain ⟨c2, f2⟩ := hA.one 2 rfl
        obtain ⟨c3, f3⟩ := hA.one 3 rfl
        obtain ⟨c4, f4⟩ := hA.one 4 rfl
        obtain ⟨c5, f5⟩ := hA.one 5 rfl
        obtain ⟨c6, f6⟩ := hA.one 6 rfl
        obtain ⟨c7, f7⟩ := hA.one 7 rfl
        obtain ⟨c8, f8⟩ := hA.one 8 rfl
        obtain ⟨d0, g0⟩ := hB.one 0 rfl
        obtain ⟨d1, g1⟩ := hB.one 1 rfl
        obtain ⟨d2, g2⟩ := hB.one 2 rfl
        obtain ⟨d3, g3⟩ := hB.one 3 rfl
        obtain ⟨d4, g4⟩ := hB.one 4 rfl
        obtain ⟨d5, g5⟩ := hB.one 5 rfl
        obtain ⟨d6, g6⟩ := hB.one 6 rfl
        obtain ⟨d7, g7⟩ := hB.one 7 rfl
        obtain ⟨d8, g8⟩ := hB.one 8 rfl
        clear hA hB
        go_wp2_with fail
        refine hK.out _ _ _ (fun u hu => hu) (⟨c0, c1, c2, c3, c4, c5, c6, c7, c8, d0, d1, d2, d3, d4, d5, d6, d7, d8, cv⟩) ?_
        clear hK K
        iterate 1
          first
            | (refine mv_free ?_ (Or.inl ⟨by rfl, ?_⟩) (⟨c0, c1, c2, c3, c4, c5, c6, c7, c8, d0, d1, d2, d3, d4, d5, d6, d7, d8, cv⟩) ?_
               rotate_left 1
               · intro u
                 go_simp
                 try simp only [d1]
                 try simp only [d2]
                 try simp only [d3]
                 try with_reducible rfl
               simp only [Act.put, List.setIfInBounds_toArray, List.set_cons_zero, List.set_cons_succ])
            | (refine mv_free _ (Or.inr ⟨by rfl, rfl⟩) (⟨c0, c1, c2, c3, c4, c5, c6, c7, c8, d0, d1, d2, d3, d4, d5, d6, d7, d8, cv⟩) ?_
               simp only [Act.put, List.setIfInBounds_toArray, List.set_cons_zero, List.set_cons_succ])
        refine mv_done ?_
        go_wp2
        go_roundw
        case rel => exact ⟨0 + 1, by omega, by first | rfl | go_num, S3⟩
        case measure => simp [intOf]
      · have RR := Lib.hid (fun u => rrow1 X u)
        have RC := Lib.hid (fun u => rrow1 Y u)
        have RD := Lib.hid (fun u => show Calls Try.prog 33 #[.agg #[.int .i64 (X 3), .int .i64 (X 4), .int .i64 (X 5)], .agg #[.int .i64 (Y 3), .int .i64 (Y 4), .int .i64 (Y 5)]] u fun e w' => e = .returned (.int .i64 (mpv X Y 1)) ∧ Below u.heap.size u w' from rdot' (X 3) (X 4) (X 5) (Y 3) (Y 4) (Y 5) u)
        have k1 : IntKind.i64.wrap 1 = 1 := by decide
        have hA := S.out.2.2.1
        have hB := S.out.2.2.2.1
        have cv := S.out.2.2.2.2.1.c 1 _ rfl
        obtain ⟨c0, f0⟩ := hA.one 0 rfl
        obtain ⟨c1, f1⟩ := hA.one 1 rfl
        obtain ⟨c2, f2⟩ := hA.one 2 rfl
        obtain ⟨c3, f3⟩ := hA.one 3 rfl
        obtain ⟨c4, f4⟩ := hA.one 4 rfl
        obtain ⟨c5, f5⟩ := hA.one 5 rfl
        obtain ⟨c6, f6⟩ := hA.one 6 rfl
        obtain ⟨c7, f7⟩ := hA.one 7 rfl
        obtain ⟨c8, f8⟩ := hA.one 8 rfl
        obtain ⟨d0, g0⟩ := hB.one 0 rfl
        obtain ⟨d1, g1⟩ := hB.one 1 rfl
        obtain ⟨d2, g2⟩ := hB.one 2 rfl
        obtain ⟨d3, g3⟩ := hB.one 3 rfl
        obtain ⟨d4, g4⟩ := hB.one 4 rfl
        obtain ⟨d5, g5⟩ := hB.one 5 rfl
        obtain ⟨d6, g6⟩ := hB.one 6 rfl
        obtain ⟨d7, g7⟩ := hB.one 7 rfl
        obtain ⟨d8, g8⟩ := hB.one 8 rfl
        clear hA hB
        go_wp2_with fail
        refine region_moves (fun u => u.cell? ⟨q5, 0, none⟩ = some (.int .i64 (X 0)) ∧ u.cell? ⟨q5, 1, none⟩ = some (.int .i64 (X 1)) ∧ u.cell? ⟨q5, 2, none⟩ = some (.int .i64 (X 2)) ∧ u.cell? ⟨q5, 3, none⟩ = some (.int .i64 (X 3)) ∧ u.cell? ⟨q5, 4, none⟩ = some (.int .i64 (X 4)) ∧ u.cell? ⟨q5, 5, none⟩ = some (.int .i64 (X 5)) ∧ u.cell? ⟨q5, 6, none⟩ = some (.int .i64 (X 6)) ∧ u.cell? ⟨q5, 7, none⟩ = some (.int .i64 (X 7)) ∧ u.cell? ⟨q5, 8, none⟩ = some (.int .i64 (X 8)) ∧ u.cell? ⟨q6, 0, none⟩ = some (.int .i64 (Y 0)) ∧ u.cell? ⟨q6, 1, none⟩ = some (.int .i64 (Y 1)) ∧ u.cell? ⟨q6, 2, none⟩ = some (.int .i64 (Y 2)) ∧ u.cell? ⟨q6, 3, none⟩ = some (.int .i64 (Y 3)) ∧ u.cell? ⟨q6, 4, none⟩ = some (.int .i64 (Y 4)) ∧ u.cell? ⟨q6, 5, none⟩ = some (.int .i64 (Y 5)) ∧ u.cell? ⟨q6, 6, none⟩ = some (.int .i64 (Y 6)) ∧ u.cell? ⟨q6, 7, none⟩ = some (.int .i64 (Y 7)) ∧ u.cell? ⟨q6, 8, none⟩ = some (.int .i64 (Y 8)) ∧ u.cell? ⟨qv, 1, none⟩ = some (.int .i64 (mpv X Y 1))) [] [(.free, 0), (.free, 1), (.take, 2), (.take, 3), (.free, 4), (.take, 6), (.step, 5), (.step, 7), (.step, 8), (.free, 9)] _ (by kernel_rfl) (by kernel_rfl) (by kernel_rfl) (by kernel_rfl) (by decide) rfl (fun _ _ _ _ _ h => h) ?_
        simp only [List.filterMap_cons, List.filterMap_nil, List.getElem?_toArray, List.getElem?_cons_zero, List.getElem?_cons_succ, Option.map_some]
        iterate 2
          first
            | (refine mv_free ?_ (Or.inl ⟨by rfl, ?_⟩) (⟨c0, c1, c2, c3, c4, c5, c6, c7, c8, d0, d1, d2, d3, d4, d5, d6, d7, d8, cv⟩) ?_
               rotate_left 1
               · intro u
                 go_simp
                 try simp only [d1]
                 try simp only [d2]
                 try simp only [d3]
                 try with_reducible rfl
               simp only [Act.put, List.setIfInBounds_toArray, List.set_cons_zero, List.set_cons_succ])
            | (refine mv_free _ (Or.inr ⟨by rfl, rfl⟩) (⟨c0, c1, c2, c3, c4, c5, c6, c7, c8, d0, d1, d2, d3, d4, d5, d6, d7, d8, cv⟩) ?_
               simp only [Act.put, List.setIfInBounds_toArray, List.set_cons_zero, List.set_cons_succ])
        iterate 2
          first
            | (refine mv_take ?_ (Or.inl ⟨by rfl, ?_⟩) (⟨c0, c1, c2, c3, c4, c5, c6, c7, c8, d0, d1, d2, d3, d4, d5, d6, d7, d8, cv⟩) ?_
               rotate_left 1
               · intro u hu
                 (try dsimp only at hu)
                 go_simp
                 try with_reducible rfl
               simp only [Act.put, List.setIfInBounds_toArray, List.set_cons_zero, List.set_cons_succ])
            | (refine mv_take _ (Or.inr ⟨by rfl, rfl⟩) (⟨c0, c1, c2, c3, c4, c5, c6, c7, c8, d0, d1, d2, d3, d4, d5, d6, d7, d8, cv⟩) ?_
               simp only [Act.put, List.setIfInBounds_toArray, List.set_cons_zero, List.set_cons_succ])
        iterate 1
          first
            | (refine mv_free ?_ (Or.inl ⟨by rfl, ?_⟩) (⟨c0, c1, c2, c3, c4, c5, c6, c7, c8, d0, d1, d2, d3, d4, d5, d6, d7, d8, cv⟩) ?_
               rotate_left 1
               · intro u
                 go_simp
                 try simp only [d1]
                 try simp only [d2]
                 try simp only [d3]
                 try with_reducible rfl
               simp only [Act.put, List.setIfInBounds_toArray, List.set_cons_zero, List.set_cons_succ])
            | (refine mv_free _ (Or.inr ⟨by rfl, rfl⟩) (⟨c0, c1, c2, c3, c4, c5, c6, c7, c8, d0, d1, d2, d3, d4, d5, d6, d7, d8, cv⟩) ?_
               simp only [Act.put, List.setIfInBounds_toArray, List.set_cons_zero, List.set_cons_succ])
        iterate 1
          first
            | (refine mv_take ?_ (Or.inl ⟨by rfl, ?_⟩) (⟨c0, c1, c2, c3, c4, c5, c6, c7, c8, d0, d1, d2, d3, d4, d5, d6, d7, d8, cv⟩) ?_
               rotate_left 1
               · intro u hu
                 (try dsimp only at hu)
                 go_simp
                 try with_reducible rfl
               simp only [Act.put, List.setIfInBounds_toArray, List.set_cons_zero, List.set_cons_succ])
            | (refine mv_take _ (Or.inr ⟨by rfl, rfl⟩) (⟨c0, c1, c2, c3, c4, c5, c6, c7, c8, d0, d1, d2, d3, d4, d5, d6, d7, d8, cv⟩) ?_
               simp only [Act.put, List.setIfInBounds_toArray, List.set_cons_zero, List.set_cons_succ])
        refine mv_step (fun K hK => ?_)
        go_simp
        refine (RR.out _).mono ?_
        rintro e w1 ⟨rfl, hb1⟩
        have S1 := Lib.hid (S.out.bel ((Below.refl _ _).drew.trans hb1))
        clear hb1
        clear cv c0 f0 d0 g0 c1 f1 d1 g1 c2 f2 d2 g2 c3 f3 d3 g3 c4 f4 d4 g4 c5 f5 d5 g5 c6 f6 d6 g6 c7 f7 d7 g7 c8 f8 d8 g8
        have hA := S1.out.2.2.1
        have hB := S1.out.2.2.2.1
        have cv := S1.out.2.2.2.2.1.c 1 _ rfl
        obtain ⟨c0, f0⟩ := hA.one 0 rfl
        obtain ⟨c1, f1⟩ := hA.one 1 rfl
        obtain ⟨c2, f2⟩ := hA.one 2 rfl
        obtain ⟨c3, f3⟩ := hA.one 3 rfl
        obtain ⟨c4, f4⟩ := hA.one 4 rfl
        obtain ⟨c5, f5⟩ := hA.one 5 rfl
        obtain ⟨c6, f6⟩ := hA.one 6 rfl
        obtain ⟨c7, f7⟩ := hA.one 7 rfl
        obtain ⟨c8, f8⟩ := hA.one 8 rfl
        obtain ⟨d0, g0⟩ := hB.one 0 rfl
        obtain ⟨d1, g1⟩ := hB.one 1 rfl
        obtain ⟨d2, g2⟩ := hB.one 2 rfl
        obtain ⟨d3, g3⟩ := hB.one 3 rfl
        obtain ⟨d4, g4⟩ := hB.one 4 rfl
        obtain ⟨d5, g5⟩ := hB.one 5 rfl
        obtain ⟨d6, g6⟩ := hB.one 6 rfl
        obtain ⟨d7, g7⟩ := hB.one 7 rfl
        obtain ⟨d8, g8⟩ := hB.one 8 rfl
        clear hA hB
        go_wp2_with fail
        refine hK.out _ _ _ (fun u hu => hu) (⟨c0, c1, c2, c3, c4, c5, c6, c7, c8, d0, d1, d2, d3, d4, d5, d6, d7, d8, cv⟩) ?_
        clear hK K
        refine mv_step (fun K hK => ?_)
        go_simp
        refine (RC.out _).mono ?_
        rintro e w2 ⟨rfl, hb2⟩
        have S2 := Lib.hid (S1.out.bel (hb2))
        clear hb2
        clear cv c0 f0 d0 g0 c1 f1 d1 g1 c2 f2 d2 g2 c3 f3 d3 g3 c4 f4 d4 g4 c5 f5 d5 g5 c6 f6 d6 g6 c7 f7 d7 g7 c8 f8 d8 g8
        have hA := S2.out.2.2.1
        have hB := S2.out.2.2.2.1
        have cv := S2.out.2.2.2.2.1.c 1 _ rfl
        obtain ⟨c0, f0⟩ := hA.one 0 rfl
        obtain ⟨c1, f1⟩ := hA.one 1 rfl
        obtain ⟨c2, f2⟩ := hA.one 2 rfl
        obtain ⟨c3, f3⟩ := hA.one 3 rfl
        obtain ⟨c4, f4⟩ := hA.one 4 rfl
        obtain ⟨c5, f5⟩ := hA.one 5 rfl
        obtain ⟨c6, f6⟩ := hA.one 6 rfl
        obtain ⟨c7, f7⟩ := hA.one 7 rfl
        obtain ⟨c8, f8⟩ := hA.one 8 rfl
        obtain ⟨d0, g0⟩ := hB.one 0 rfl
        obtain ⟨d1, g1⟩ := hB.one 1 rfl
        obtain ⟨d2, g2⟩ := hB.one 2 rfl
        obtain ⟨d3, g3⟩ := hB.one 3 rfl
        obtain ⟨d4, g4⟩ := hB.one 4 rfl
        obtain ⟨d5, g5⟩ := hB.one 5 rfl
        obtain ⟨d6, g6⟩ := hB.one 6 rfl
        obtain ⟨d7, g7⟩ := hB.one 7 rfl
        obtain ⟨d8, g8⟩ := hB.one 8 rfl
        clear hA hB
        go_wp2_with fail
        refine hK.out _ _ _ (fun u hu => hu) (⟨c0, c1, c2, c3, c4, c5, c6, c7, c8, d0, d1, d2, d3, d4, d5, d6, d7, d8, cv⟩) ?_
        clear hK K
        refine mv_step (fun K hK => ?_)
        go_simp
        refine (RD.out _).mono ?_
        rintro e w3 ⟨rfl, hb3⟩
        have S3 := Lib.hid (S2.out.bel (hb3))
        clear hb3
        clear cv c0 f0 d0 g0 c1 f1 d1 g1 c2 f2 d2 g2 c3 f3 d3 g3 c4 f4 d4 g4 c5 f5 d5 g5 c6 f6 d6 g6 c7 f7 d7 g7 c8 f8 d8 g8
        have hA := S3.out.2.2.1
        have hB := S3.out.2.2.2.1
        have cv := S3.out.2.2.2.2.1.c 1 _ rfl
        obtain ⟨c0, f0⟩ := hA.one 0 rfl
        obtain ⟨c1, f1⟩ := hA.one 1 rfl
        obtain ⟨c2, f2⟩ := hA.one 2 rfl
        obtain ⟨c3, f3⟩ := hA.one 3 rfl
        obtain ⟨c4, f4⟩ := hA.one 4 rfl
        obtain ⟨c5, f5⟩ := hA.one 5 rfl
        obtain ⟨c6, f6⟩ := hA.one 6 rfl
        obtain ⟨c7, f7⟩ := hA.one 7 rfl
        obtain ⟨c8, f8⟩ := hA.one 8 rfl
        obtain ⟨d0, g0⟩ := hB.one 0 rfl
        obtain ⟨d1, g1⟩ := hB.one 1 rfl
        obtain ⟨d2, g2⟩ := hB.one 2 rfl
        obtain ⟨d3, g3⟩ := hB.one 3 rfl
        obtain ⟨d4, g4⟩ := hB.one 4 rfl
        obtain ⟨d5, g5⟩ := hB.one 5 rfl
        obtain ⟨d6, g6⟩ := hB.one 6 rfl
        obtain ⟨d7, g7⟩ := hB.one 7 rfl
        obtain ⟨d8, g8⟩ := hB.one 8 rfl
        clear hA hB
        go_wp2_with fail
        refine hK.out _ _ _ (fun u hu => hu) (⟨c0, c1, c2, c3, c4, c5, c6, c7, c8, d0, d1, d2, d3, d4, d5, d6, d7, d8, cv⟩) ?_
        clear hK K
        iterate 1
          first
            | (refine mv_free ?_ (Or.inl ⟨by rfl, ?_⟩) (⟨c0, c1, c2, c3, c4, c5, c6, c7, c8, d0, d1, d2, d3, d4, d5, d6, d7, d8, cv⟩) ?_
               rotate_left 1
               · intro u
                 go_simp
                 try simp only [d1]
                 try simp only [d2]
                 try simp only [d3]
                 try with_reducible rfl
               simp only [Act.put, List.setIfInBounds_toArray, List.set_cons_zero, List.set_cons_succ])
            | (refine mv_free _ (Or.inr ⟨by rfl, rfl⟩) (⟨c0, c1, c2, c3, c4, c5, c6, c7, c8, d0, d1, d2, d3, d4, d5, d6, d7, d8, cv⟩) ?_
               simp only [Act.put, List.setIfInBounds_toArray, List.set_cons_zero, List.set_cons_succ])
        refine mv_done ?_
        go_wp2
        go_roundw
        case rel => exact ⟨1 + 1, by omega, by first | rfl | go_num, S3⟩
        case measure => simp [intOf]
      · have RR := Lib.hid (fun u => rrow2 X u)
        have RC := Lib.hid (fun u => rrow1 Y u)
        have RD := Lib.hid (fun u => show Calls Try.prog 33 #[.agg #[.int .i64 (X 6), .int .i64 (X 7), .int .i64 (X 8)], .agg #[.int .i64 (Y 3), .int .i64 (Y 4), .int .i64 (Y 5)]] u fun e w' => e = .returned (.int .i64 (mpv X Y 2)) ∧ Below u.heap.size u w' from rdot' (X 6) (X 7) (X 8) (Y 3) (Y 4) (Y 5) u)
        have k2 : IntKind.i64.wrap 2 = 2 := by decide
        have hA := S.out.2.2.1
        have hB := S.out.2.2.2.1
        have cv := S.out.2.2.2.2.1.c 2 _ rfl
        obtain ⟨c0, f0⟩ := hA.one 0 rfl
        obtain ⟨c1, f1⟩ := hA.one 1 rfl
        obtain ⟨c2, f2⟩ := hA.one 2 rfl
        obtain ⟨c3, f3⟩ := hA.one 3 rfl
        obtain ⟨c4, f4⟩ := hA.one 4 rfl
        obtain ⟨c5, f5⟩ := hA.one 5 rfl
        obtain ⟨c6, f6⟩ := hA.one 6 rfl
        obtain ⟨c7, f7⟩ := hA.one 7 rfl
        obtain ⟨c8, f8⟩ := hA.one 8 rfl
        obtain ⟨d0, g0⟩ := hB.one 0 rfl
        obtain ⟨d1, g1⟩ := hB.one 1 rfl
        obtain ⟨d2, g2⟩ := hB.one 2 rfl
        obtain ⟨d3, g3⟩ := hB.one 3 rfl
        obtain ⟨d4, g4⟩ := hB.one 4 rfl
        obtain ⟨d5, g5⟩ := hB.one 5 rfl
        obtain ⟨d6, g6⟩ := hB.one 6 rfl
        obtain ⟨d7, g7⟩ := hB.one 7 rfl
        obtain ⟨d8, g8⟩ := hB.one 8 rfl
        clear hA hB
        go_wp2_with fail
        refine region_moves (fun u => u.cell? ⟨q5, 0, none⟩ = some (.int .i64 (X 0)) ∧ u.cell? ⟨q5, 1, none⟩ = some (.int .i64 (X 1)) ∧ u.cell? ⟨q5, 2, none⟩ = some (.int .i64 (X 2)) ∧ u.cell? ⟨q5, 3, none⟩ = some (.int .i64 (X 3)) ∧ u.cell? ⟨q5, 4, none⟩ = some (.int .i64 (X 4)) ∧ u.cell? ⟨q5, 5, none⟩ = some (.int .i64 (X 5)) ∧ u.cell? ⟨q5, 6, none⟩ = some (.int .i64 (X 6)) ∧ u.cell? ⟨q5, 7, none⟩ = some (.int .i64 (X 7)) ∧ u.cell? ⟨q5, 8, none⟩ = some (.int .i64 (X 8)) ∧ u.cell? ⟨q6, 0, none⟩ = some (.int .i64 (Y 0)) ∧ u.cell? ⟨q6, 1, none⟩ = some (.int .i64 (Y 1)) ∧ u.cell? ⟨q6, 2, none⟩ = some (.int .i64 (Y 2)) ∧ u.cell? ⟨q6, 3, none⟩ = some (.int .i64 (Y 3)) ∧ u.cell? ⟨q6, 4, none⟩ = some (.int .i64 (Y 4)) ∧ u.cell? ⟨q6, 5, none⟩ = some (.int .i64 (Y 5)) ∧ u.cell? ⟨q6, 6, none⟩ = some (.int .i64 (Y 6)) ∧ u.cell? ⟨q6, 7, none⟩ = some (.int .i64 (Y 7)) ∧ u.cell? ⟨q6, 8, none⟩ = some (.int .i64 (Y 8)) ∧ u.cell? ⟨qv, 2, none⟩ = some (.int .i64 (mpv X Y 2))) [] [(.free, 0), (.free, 1), (.take, 2), (.take, 3), (.free, 4), (.take, 6), (.step, 5), (.step, 7), (.step, 8), (.free, 9)] _ (by kernel_rfl) (by kernel_rfl) (by kernel_rfl) (by kernel_rfl) (by decide) rfl (fun _ _ _ _ _ h => h) ?_
        simp only [List.filterMap_cons, List.filterMap_nil, List.getElem?_toArray, List.getElem?_cons_zero, List.getElem?_cons_succ, Option.map_some]
        iterate 2
          first
            | (refine mv_free ?_ (Or.inl ⟨by rfl, ?_⟩) (⟨c0, c1, c2, c3, c4, c5, c6, c7, c8, d0, d1, d2, d3, d4, d5, d6, d7, d8, cv⟩) ?_
               rotate_left 1
               · intro u
                 go_simp
                 try simp only [d1]
                 try simp only [d2]
                 try simp only [d3]
                 try with_reducible rfl
               simp only [Act.put, List.setIfInBounds_toArray, List.set_cons_zero, List.set_cons_succ])
            | (refine mv_free _ (Or.inr ⟨by rfl, rfl⟩) (⟨c0, c1, c2, c3, c4, c5, c6, c7, c8, d0, d1, d2, d3, d4, d5, d6, d7, d8, cv⟩) ?_
               simp only [Act.put, List.setIfInBounds_toArray, List.set_cons_zero, List.set_cons_succ])
        iterate 2
          first
            | (refine mv_take ?_ (Or.inl ⟨by rfl, ?_⟩) (⟨c0, c1, c2, c3, c4, c5, c6, c7, c8, d0, d1, d2, d3, d4, d5, d6, d7, d8, cv⟩) ?_
               rotate_left 1
               · intro u hu
                 (try dsimp only at hu)
                 go_simp
                 try with_reducible rfl
               simp only [Act.put, List.setIfInBounds_toArray, List.set_cons_zero, List.set_cons_succ])
            | (refine mv_take _ (Or.inr ⟨by rfl, rfl⟩) (⟨c0, c1, c2, c3, c4, c5, c6, c7, c8, d0, d1, d2, d3, d4, d5, d6, d7, d8, cv⟩) ?_
               simp only [Act.put, List.setIfInBounds_toArray, List.set_cons_zero, List.set_cons_succ])
        iterate 1
          first
            | (refine mv_free ?_ (Or.inl ⟨by rfl, ?_⟩) (⟨c0, c1, c2, c3, c4, c5, c6, c7, c8, d0, d1, d2, d3, d4, d5, d6, d7, d8, cv⟩) ?_
               rotate_left 1
               · intro u
                 go_simp
                 try simp only [d1]
                 try simp only [d2]
                 try simp only [d3]
                 try with_reducible rfl
               simp only [Act.put, List.setIfInBounds_toArray, List.set_cons_zero, List.set_cons_succ])
            | (refine mv_free _ (Or.inr ⟨by rfl, rfl⟩) (⟨c0, c1, c2, c3, c4, c5, c6, c7, c8, d0, d1, d2, d3, d4, d5, d6, d7, d8, cv⟩) ?_
               simp only [Act.put, List.setIfInBounds_toArray, List.set_cons_zero, List.set_cons_succ])
        iterate 1
          first
            | (refine mv_take ?_ (Or.inl ⟨by rfl, ?_⟩) (⟨c0, c1, c2, c3, c4, c5, c6, c7, c8, d0, d1, d2, d3, d4, d5, d6, d7, d8, cv⟩) ?_
               rotate_left 1
               · intro u hu
                 (try dsimp only at hu)
                 go_simp
                 try with_reducible rfl
               simp only [Act.put, List.setIfInBounds_toArray, List.set_cons_zero, List.set_cons_succ])
            | (refine mv_take _ (Or.inr ⟨by rfl, rfl⟩) (⟨c0, c1, c2, c3, c4, c5, c6, c7, c8, d0, d1, d2, d3, d4, d5, d6, d7, d8, cv⟩) ?_
               simp only [Act.put, List.setIfInBounds_toArray, List.set_cons_zero, List.set_cons_succ])
        refine mv_step (fun K hK => ?_)
        go_simp
        refine (RR.out _).mono ?_
        rintro e w1 ⟨rfl, hb1⟩
        have S1 := Lib.hid (S.out.bel ((Below.refl _ _).drew.trans hb1))
        clear hb1
        clear cv c0 f0 d0 g0 c1 f1 d1 g1 c2 f2 d2 g2 c3 f3 d3 g3 c4 f4 d4 g4 c5 f5 d5 g5 c6 f6 d6 g6 c7 f7 d7 g7 c8 f8 d8 g8
        have hA := S1.out.2.2.1
        have hB := S1.out.2.2.2.1
        have cv := S1.out.2.2.2.2.1.c 2 _ rfl
        obtain ⟨c0, f0⟩ := hA.one 0 rfl
        obtain ⟨c1, f1⟩ := hA.one 1 rfl
        obtain ⟨c2, f2⟩ := hA.one 2 rfl
        obtain ⟨c3, f3⟩ := hA.one 3 rfl
        obtain ⟨c4, f4⟩ := hA.one 4 rfl
        obtain ⟨c5, f5⟩ := hA.one 5 rfl
        obtain ⟨c6, f6⟩ := hA.one 6 rfl
        obtain ⟨c7, f7⟩ := hA.one 7 rfl
        obtain ⟨c8, f8⟩ := hA.one 8 rfl
        obtain ⟨d0, g0⟩ := hB.one 0 rfl
        obtain ⟨d1, g1⟩ := hB.one 1 rfl
        obtain ⟨d2, g2⟩ := hB.one 2 rfl
        obtain ⟨d3, g3⟩ := hB.one 3 rfl
        obtain ⟨d4, g4⟩ := hB.one 4 rfl
        obtain ⟨d5, g5⟩ := hB.one 5 rfl
        obtain ⟨d6, g6⟩ := hB.one 6 rfl
        obtain ⟨d7, g7⟩ := hB.one 7 rfl
        obtain ⟨d8, g8⟩ := hB.one 8 rfl
        clear hA hB
        go_wp2_with fail
        refine hK.out _ _ _ (fun u hu => hu) (⟨c0, c1, c2, c3, c4, c5, c6, c7, c8, d0, d1, d2, d3, d4, d5, d6, d7, d8, cv⟩) ?_
        clear hK K
        refine mv_step (fun K hK => ?_)
        go_simp
        refine (RC.out _).mono ?_
        rintro e w2 ⟨rfl, hb2⟩
        have S2 := Lib.hid (S1.out.bel (hb2))
        clear hb2
        clear cv c0 f0 d0 g0 c1 f1 d1 g1 c2 f2 d2 g2 c3 f3 d3 g3 c4 f4 d4 g4 c5 f5 d5 g5 c6 f6 d6 g6 c7 f7 d7 g7 c8 f8 d8 g8
        have hA := S2.out.2.2.1
        have hB := S2.out.2.2.2.1
        have cv := S2.out.2.2.2.2.1.c 2 _ rfl
        obtain ⟨c0, f0⟩ := hA.one 0 rfl
        obtain ⟨c1, f1⟩ := hA.one 1 rfl
        obtain ⟨c2, f2⟩ := hA.one 2 rfl
        obtain ⟨c3, f3⟩ := hA.one 3 rfl
        obtain ⟨c4, f4⟩ := hA.one 4 rfl
        obtain ⟨c5, f5⟩ := hA.one 5 rfl
        obtain ⟨c6, f6⟩ := hA.one 6 rfl
        obtain ⟨c7, f7⟩ := hA.one 7 rfl
        obtain ⟨c8, f8⟩ := hA.one 8 rfl
        obtain ⟨d0, g0⟩ := hB.one 0 rfl
        obtain ⟨d1, g1⟩ := hB.one 1 rfl
        obtain ⟨d2, g2⟩ := hB.one 2 rfl
        obtain ⟨d3, g3⟩ := hB.one 3 rfl
        obtain ⟨d4, g4⟩ := hB.one 4 rfl
        obtain ⟨d5, g5⟩ := hB.one 5 rfl
        obtain ⟨d6, g6⟩ := hB.one 6 rfl
        obtain ⟨d7, g7⟩ := hB.one 7 rfl
        obtain ⟨d8, g8⟩ := hB.one 8 rfl
        clear hA hB
        go_wp2_with fail
        refine hK.out _ _ _ (fun u hu => hu) (⟨c0, c1, c2, c3, c4, c5, c6, c7, c8, d0, d1, d2, d3, d4, d5, d6, d7, d8, cv⟩) ?_
        clear hK K
        refine mv_step (fun K hK => ?_)
        go_simp
        refine (RD.out _).mono ?_
        rintro e w3 ⟨rfl, hb3⟩
        have S3 := Lib.hid (S2.out.bel (hb3))
        clear hb3
        clear cv c0 f0 d0 g0 c1 f1 d1 g1 c2 f2 d2 g2 c3 f3 d3 g3 c4 f4 d4 g4 c5 f5 d5 g5 c6 f6 d6 g6 c7 f7 d7 g7 c8 f8 d8 g8
        have hA := S3.out.2.2.1
        have hB := S3.out.2.2.2.1
        have cv := S3.out.2.2.2.2.1.c 2 _ rfl
        obtain ⟨c0, f0⟩ := hA.one 0 rfl
        obtain ⟨c1, f1⟩ := hA.one 1 rfl
        obtain ⟨c2, f2⟩ := hA.one 2 rfl
        obtain ⟨c3, f3⟩ := hA.one 3 rfl
        obtain ⟨c4, f4⟩ := hA.one 4 rfl
        obtain ⟨c5, f5⟩ := hA.one 5 rfl
        obtain ⟨c6, f6⟩ := hA.one 6 rfl
        obtain ⟨c7, f7⟩ := hA.one 7 rfl
        obtain ⟨c8, f8⟩ := hA.one 8 rfl
        obtain ⟨d0, g0⟩ := hB.one 0 rfl
        obtain ⟨d1, g1⟩ := hB.one 1 rfl
        obtain ⟨d2, g2⟩ := hB.one 2 rfl
        obtain ⟨d3, g3⟩ := hB.one 3 rfl
        obtain ⟨d4, g4⟩ := hB.one 4 rfl
        obtain ⟨d5, g5⟩ := hB.one 5 rfl
        obtain ⟨d6, g6⟩ := hB.one 6 rfl
        obtain ⟨d7, g7⟩ := hB.one 7 rfl
        obtain ⟨d8, g8⟩ := hB.one 8 rfl
        clear hA hB
        go_wp2_with fail
        refine hK.out _ _ _ (fun u hu => hu) (⟨c0, c1, c2, c3, c4, c5, c6, c7, c8, d0, d1, d2, d3, d4, d5, d6, d7, d8, cv⟩) ?_
        clear hK K
        iterate 1
          first
            | (refine mv_free ?_ (Or.inl ⟨by rfl, ?_⟩) (⟨c0, c1, c2, c3, c4, c5, c6, c7, c8, d0, d1, d2, d3, d4, d5, d6, d7, d8, cv⟩) ?_
               rotate_left 1
               · intro u
                 go_simp
                 try simp only [d1]
                 try simp only [d2]
                 try simp only [d3]
                 try with_reducible rfl
               simp only [Act.put, List.setIfInBounds_toArray, List.set_cons_zero, List.set_cons_succ])
            | (refine mv_free _ (Or.inr ⟨by rfl, rfl⟩) (⟨c0, c1, c2, c3, c4, c5, c6, c7, c8, d0, d1, d2, d3, d4, d5, d6, d7, d8, cv⟩) ?_
               simp only [Act.put, List.setIfInBounds_toArray, List.set_cons_zero, List.set_cons_succ])
        refine mv_done ?_
        go_wp2
        go_roundw
        case rel => exact ⟨2 + 1, by omega, by first | rfl | go_num, S3⟩
        case measure => simp [intOf]
      · have MU := Lib.hid (fun u => mouter X Y u)
        have NO := Lib.hid (fun u => mnine (out X Y) u)
        have RR := Lib.hid (fun u => rrow0 X u)
        have RC := Lib.hid (fun u => rrow0 Y u)
        have RO := Lib.hid (fun u => router X Y u)
        have EQ := fun u => neq9 (out X Y 0) (out X Y 1) (out X Y 2) (out X Y 3) (out X Y 4) (out X Y 5) (out X Y 6) (out X Y 7) (out X Y 8) u
        have hP := S.out.1
        have hQ := S.out.2.1
        have hA := S.out.2.2.1
        have hB := S.out.2.2.2.1
        have x0 := hP.c 0 _ rfl
        have y0 := hQ.c 0 _ rfl
        have x1 := hP.c 1 _ rfl
        have y1 := hQ.c 1 _ rfl
        have x2 := hP.c 2 _ rfl
        have y2 := hQ.c 2 _ rfl
        obtain ⟨c0, f0⟩ := hA.one 0 rfl
        obtain ⟨c1, f1⟩ := hA.one 1 rfl
        obtain ⟨c2, f2⟩ := hA.one 2 rfl
        obtain ⟨c3, f3⟩ := hA.one 3 rfl
        obtain ⟨c4, f4⟩ := hA.one 4 rfl
        obtain ⟨c5, f5⟩ := hA.one 5 rfl
        obtain ⟨c6, f6⟩ := hA.one 6 rfl
        obtain ⟨c7, f7⟩ := hA.one 7 rfl
        obtain ⟨c8, f8⟩ := hA.one 8 rfl
        obtain ⟨d0, g0⟩ := hB.one 0 rfl
        obtain ⟨d1, g1⟩ := hB.one 1 rfl
        obtain ⟨d2, g2⟩ := hB.one 2 rfl
        obtain ⟨d3, g3⟩ := hB.one 3 rfl
        obtain ⟨d4, g4⟩ := hB.one 4 rfl
        obtain ⟨d5, g5⟩ := hB.one 5 rfl
        obtain ⟨d6, g6⟩ := hB.one 6 rfl
        obtain ⟨d7, g7⟩ := hB.one 7 rfl
        obtain ⟨d8, g8⟩ := hB.one 8 rfl
        clear hA hB hP hQ
        go_wp2_with fail
        refine region_moves (fun u => u.cell? ⟨w.heap.size, 0, none⟩ = some (.int .i64 (X 0)) ∧ u.cell? ⟨w.heap.size, 1, none⟩ = some (.int .i64 (X 1)) ∧ u.cell? ⟨w.heap.size, 2, none⟩ = some (.int .i64 (X 2)) ∧ u.cell? ⟨(w.heap.size + 1), 0, none⟩ = some (.int .i64 (Y 0)) ∧ u.cell? ⟨(w.heap.size + 1), 1, none⟩ = some (.int .i64 (Y 1)) ∧ u.cell? ⟨(w.heap.size + 1), 2, none⟩ = some (.int .i64 (Y 2)) ∧ u.cell? ⟨q5, 0, none⟩ = some (.int .i64 (X 0)) ∧ u.cell? ⟨q5, 1, none⟩ = some (.int .i64 (X 1)) ∧ u.cell? ⟨q5, 2, none⟩ = some (.int .i64 (X 2)) ∧ u.cell? ⟨q5, 3, none⟩ = some (.int .i64 (X 3)) ∧ u.cell? ⟨q5, 4, none⟩ = some (.int .i64 (X 4)) ∧ u.cell? ⟨q5, 5, none⟩ = some (.int .i64 (X 5)) ∧ u.cell? ⟨q5, 6, none⟩ = some (.int .i64 (X 6)) ∧ u.cell? ⟨q5, 7, none⟩ = some (.int .i64 (X 7)) ∧ u.cell? ⟨q5, 8, none⟩ = some (.int .i64 (X 8)) ∧ u.cell? ⟨q6, 0, none⟩ = some (.int .i64 (Y 0)) ∧ u.cell? ⟨q6, 1, none⟩ = some (.int .i64 (Y 1)) ∧ u.cell? ⟨q6, 2, none⟩ = some (.int .i64 (Y 2)) ∧ u.cell? ⟨q6, 3, none⟩ = some (.int .i64 (Y 3)) ∧ u.cell? ⟨q6, 4, none⟩ = some (.int .i64 (Y 4)) ∧ u.cell? ⟨q6, 5, none⟩ = some (.int .i64 (Y 5)) ∧ u.cell? ⟨q6, 6, none⟩ = some (.int .i64 (Y 6)) ∧ u.cell? ⟨q6, 7, none⟩ = some (.int .i64 (Y 7)) ∧ u.cell? ⟨q6, 8, none⟩ = some (.int .i64 (Y 8))) [] [(.free, 0), (.take, 1), (.free, 2), (.take, 3), (.take, 6), (.take, 8), (.step, 4), (.step, 5), (.step, 7), (.step, 9), (.step, 10), (.free, 11)] _ (by kernel_rfl) (by kernel_rfl) (by kernel_rfl) (by kernel_rfl) (by decide) rfl (fun _ _ _ _ _ h => h) ?_
        simp only [List.filterMap_cons, List.filterMap_nil, List.getElem?_toArray, List.getElem?_cons_zero, List.getElem?_cons_succ, Option.map_some]
        iterate 1
          first
            | (refine mv_free ?_ (Or.inl ⟨by rfl, ?_⟩) (⟨x0, x1, x2, y0, y1, y2, c0, c1, c2, c3, c4, c5, c6, c7, c8, d0, d1, d2, d3, d4, d5, d6, d7, d8⟩) ?_
               rotate_left 1
               · intro u
                 go_simp
                 try simp only [d1]
                 try simp only [d2]
                 try simp only [d3]
                 try with_reducible rfl
               simp only [Act.put, List.setIfInBounds_toArray, List.set_cons_zero, List.set_cons_succ])
            | (refine mv_free _ (Or.inr ⟨by rfl, rfl⟩) (⟨x0, x1, x2, y0, y1, y2, c0, c1, c2, c3, c4, c5, c6, c7, c8, d0, d1, d2, d3, d4, d5, d6, d7, d8⟩) ?_
               simp only [Act.put, List.setIfInBounds_toArray, List.set_cons_zero, List.set_cons_succ])
        iterate 1
          first
            | (refine mv_take ?_ (Or.inl ⟨by rfl, ?_⟩) (⟨x0, x1, x2, y0, y1, y2, c0, c1, c2, c3, c4, c5, c6, c7, c8, d0, d1, d2, d3, d4, d5, d6, d7, d8⟩) ?_
               rotate_left 1
               · intro u hu
                 (try dsimp only at hu)
                 go_simp
                 try with_reducible rfl
               simp only [Act.put, List.setIfInBounds_toArray, List.set_cons_zero, List.set_cons_succ])
            | (refine mv_take _ (Or.inr ⟨by rfl, rfl⟩) (⟨x0, x1, x2, y0, y1, y2, c0, c1, c2, c3, c4, c5, c6, c7, c8, d0, d1, d2, d3, d4, d5, d6, d7, d8⟩) ?_
               simp only [Act.put, List.setIfInBounds_toArray, List.set_cons_zero, List.set_cons_succ])
        iterate 1
          first
            | (refine mv_free ?_ (Or.inl ⟨by rfl, ?_⟩) (⟨x0, x1, x2, y0, y1, y2, c0, c1, c2, c3, c4, c5, c6, c7, c8, d0, d1, d2, d3, d4, d5, d6, d7, d8⟩) ?_
               rotate_left 1
               · intro u
                 go_simp
                 try simp only [d1]
                 try simp only [d2]
                 try simp only [d3]
                 try with_reducible rfl
               simp only [Act.put, List.setIfInBounds_toArray, List.set_cons_zero, List.set_cons_succ])
            | (refine mv_free _ (Or.inr ⟨by rfl, rfl⟩) (⟨x0, x1, x2, y0, y1, y2, c0, c1, c2, c3, c4, c5, c6, c7, c8, d0, d1, d2, d3, d4, d5, d6, d7, d8⟩) ?_
               simp only [Act.put, List.setIfInBounds_toArray, List.set_cons_zero, List.set_cons_succ])
        iterate 3
          first
            | (refine mv_take ?_ (Or.inl ⟨by rfl, ?_⟩) (⟨x0, x1, x2, y0, y1, y2, c0, c1, c2, c3, c4, c5, c6, c7, c8, d0, d1, d2, d3, d4, d5, d6, d7, d8⟩) ?_
               rotate_left 1
               · intro u hu
                 (try dsimp only at hu)
                 go_simp
                 try with_reducible rfl
               simp only [Act.put, List.setIfInBounds_toArray, List.set_cons_zero, List.set_cons_succ])
            | (refine mv_take _ (Or.inr ⟨by rfl, rfl⟩) (⟨x0, x1, x2, y0, y1, y2, c0, c1, c2, c3, c4, c5, c6, c7, c8, d0, d1, d2, d3, d4, d5, d6, d7, d8⟩) ?_
               simp only [Act.put, List.setIfInBounds_toArray, List.set_cons_zero, List.set_cons_succ])
        refine mv_step (fun K hK => ?_)
        go_simp
        refine (MU.out _).mono ?_
        rintro e w1 ⟨rfl, hb1⟩
        have S1 := Lib.hid (S.out.bel ((Below.refl _ _).drew.trans hb1))
        clear hb1
        clear x0 y0 x1 y1 x2 y2 c0 f0 d0 g0 c1 f1 d1 g1 c2 f2 d2 g2 c3 f3 d3 g3 c4 f4 d4 g4 c5 f5 d5 g5 c6 f6 d6 g6 c7 f7 d7 g7 c8 f8 d8 g8
        have hP := S1.out.1
        have hQ := S1.out.2.1
        have hA := S1.out.2.2.1
        have hB := S1.out.2.2.2.1
        have x0 := hP.c 0 _ rfl
        have y0 := hQ.c 0 _ rfl
        have x1 := hP.c 1 _ rfl
        have y1 := hQ.c 1 _ rfl
        have x2 := hP.c 2 _ rfl
        have y2 := hQ.c 2 _ rfl
        obtain ⟨c0, f0⟩ := hA.one 0 rfl
        obtain ⟨c1, f1⟩ := hA.one 1 rfl
        obtain ⟨c2, f2⟩ := hA.one 2 rfl
        obtain ⟨c3, f3⟩ := hA.one 3 rfl
        obtain ⟨c4, f4⟩ := hA.one 4 rfl
        obtain ⟨c5, f5⟩ := hA.one 5 rfl
        obtain ⟨c6, f6⟩ := hA.one 6 rfl
        obtain ⟨c7, f7⟩ := hA.one 7 rfl
        obtain ⟨c8, f8⟩ := hA.one 8 rfl
        obtain ⟨d0, g0⟩ := hB.one 0 rfl
        obtain ⟨d1, g1⟩ := hB.one 1 rfl
        obtain ⟨d2, g2⟩ := hB.one 2 rfl
        obtain ⟨d3, g3⟩ := hB.one 3 rfl
        obtain ⟨d4, g4⟩ := hB.one 4 rfl
        obtain ⟨d5, g5⟩ := hB.one 5 rfl
        obtain ⟨d6, g6⟩ := hB.one 6 rfl
        obtain ⟨d7, g7⟩ := hB.one 7 rfl
        obtain ⟨d8, g8⟩ := hB.one 8 rfl
        clear hA hB hP hQ
        go_wp2_with fail
        refine hK.out _ _ _ (fun u hu => hu) (⟨x0, x1, x2, y0, y1, y2, c0, c1, c2, c3, c4, c5, c6, c7, c8, d0, d1, d2, d3, d4, d5, d6, d7, d8⟩) ?_
        clear hK K
        refine mv_step (fun K hK => ?_)
        go_simp
        refine (NO.out _).mono ?_
        rintro e w2 ⟨rfl, hb2⟩
        have S2 := Lib.hid (S1.out.bel (hb2))
        clear hb2
        clear x0 y0 x1 y1 x2 y2 c0 f0 d0 g0 c1 f1 d1 g1 c2 f2 d2 g2 c3 f3 d3 g3 c4 f4 d4 g4 c5 f5 d5 g5 c6 f6 d6 g6 c7 f7 d7 g7 c8 f8 d8 g8
        have hP := S2.out.1
        have hQ := S2.out.2.1
        have hA := S2.out.2.2.1
        have hB := S2.out.2.2.2.1
        have x0 := hP.c 0 _ rfl
        have y0 := hQ.c 0 _ rfl
        have x1 := hP.c 1 _ rfl
        have y1 := hQ.c 1 _ rfl
        have x2 := hP.c 2 _ rfl
        have y2 := hQ.c 2 _ rfl
        obtain ⟨c0, f0⟩ := hA.one 0 rfl
        obtain ⟨c1, f1⟩ := hA.one 1 rfl
        obtain ⟨c2, f2⟩ := hA.one 2 rfl
        obtain ⟨c3, f3⟩ := hA.one 3 rfl
        obtain ⟨c4, f4⟩ := hA.one 4 rfl
        obtain ⟨c5, f5⟩ := hA.one 5 rfl
        obtain ⟨c6, f6⟩ := hA.one 6 rfl
        obtain ⟨c7, f7⟩ := hA.one 7 rfl
        obtain ⟨c8, f8⟩ := hA.one 8 rfl
        obtain ⟨d0, g0⟩ := hB.one 0 rfl
        obtain ⟨d1, g1⟩ := hB.one 1 rfl
        obtain ⟨d2, g2⟩ := hB.one 2 rfl
        obtain ⟨d3, g3⟩ := hB.one 3 rfl
        obtain ⟨d4, g4⟩ := hB.one 4 rfl
        obtain ⟨d5, g5⟩ := hB.one 5 rfl
        obtain ⟨d6, g6⟩ := hB.one 6 rfl
        obtain ⟨d7, g7⟩ := hB.one 7 rfl
        obtain ⟨d8, g8⟩ := hB.one 8 rfl
        clear hA hB hP hQ
        go_wp2_with fail
        refine hK.out _ _ _ (fun u hu => hu) (⟨x0, x1, x2, y0, y1, y2, c0, c1, c2, c3, c4, c5, c6, c7, c8, d0, d1, d2, d3, d4, d5, d6, d7, d8⟩) ?_
        clear hK K
        refine mv_step (fun K hK => ?_)
        go_simp
        refine (RR.out _).mono ?_
        rintro e w3 ⟨rfl, hb3⟩
        have S3 := Lib.hid (S2.out.bel (hb3))
        clear hb3
        clear x0 y0 x1 y1 x2 y2 c0 f0 d0 g0 c1 f1 d1 g1 c2 f2 d2 g2 c3 f3 d3 g3 c4 f4 d4 g4 c5 f5 d5 g5 c6 f6 d6 g6 c7 f7 d7 g7 c8 f8 d8 g8
        have hP := S3.out.1
        have hQ := S3.out.2.1
        have hA := S3.out.2.2.1
        have hB := S3.out.2.2.2.1
        have x0 := hP.c 0 _ rfl
        have y0 := hQ.c 0 _ rfl
        have x1 := hP.c 1 _ rfl
        have y1 := hQ.c 1 _ rfl
        have x2 := hP.c 2 _ rfl
        have y2 := hQ.c 2 _ rfl
        obtain ⟨c0, f0⟩ := hA.one 0 rfl
        obtain ⟨c1, f1⟩ := hA.one 1 rfl
        obtain ⟨c2, f2⟩ := hA.one 2 rfl
        obtain ⟨c3, f3⟩ := hA.one 3 rfl
        obtain ⟨c4, f4⟩ := hA.one 4 rfl
        obtain ⟨c5, f5⟩ := hA.one 5 rfl
        obtain ⟨c6, f6⟩ := hA.one 6 rfl
        obtain ⟨c7, f7⟩ := hA.one 7 rfl
        obtain ⟨c8, f8⟩ := hA.one 8 rfl
        obtain ⟨d0, g0⟩ := hB.one 0 rfl
        obtain ⟨d1, g1⟩ := hB.one 1 rfl
        obtain ⟨d2, g2⟩ := hB.one 2 rfl
        obtain ⟨d3, g3⟩ := hB.one 3 rfl
        obtain ⟨d4, g4⟩ := hB.one 4 rfl
        obtain ⟨d5, g5⟩ := hB.one 5 rfl
        obtain ⟨d6, g6⟩ := hB.one 6 rfl
        obtain ⟨d7, g7⟩ := hB.one 7 rfl
        obtain ⟨d8, g8⟩ := hB.one 8 rfl
        clear hA hB hP hQ
        go_wp2_with fail
        refine hK.out _ _ _ (fun u hu => hu) (⟨x0, x1, x2, y0, y1, y2, c0, c1, c2, c3, c4, c5, c6, c7, c8, d0, d1, d2, d3, d4, d5, d6, d7, d8⟩) ?_
        clear hK K
        refine mv_step (fun K hK => ?_)
        go_simp
        refine (RC.out _).mono ?_
        rintro e w4 ⟨rfl, hb4⟩
        have S4 := Lib.hid (S3.out.bel (hb4))
        clear hb4
        clear x0 y0 x1 y1 x2 y2 c0 f0 d0 g0 c1 f1 d1 g1 c2 f2 d2 g2 c3 f3 d3 g3 c4 f4 d4 g4 c5 f5 d5 g5 c6 f6 d6 g6 c7 f7 d7 g7 c8 f8 d8 g8
        have hP := S4.out.1
        have hQ := S4.out.2.1
        have hA := S4.out.2.2.1
        have hB := S4.out.2.2.2.1
        have x0 := hP.c 0 _ rfl
        have y0 := hQ.c 0 _ rfl
        have x1 := hP.c 1 _ rfl
        have y1 := hQ.c 1 _ rfl
        have x2 := hP.c 2 _ rfl
        have y2 := hQ.c 2 _ rfl
        obtain ⟨c0, f0⟩ := hA.one 0 rfl
        obtain ⟨c1, f1⟩ := hA.one 1 rfl
        obtain ⟨c2, f2⟩ := hA.one 2 rfl
        obtain ⟨c3, f3⟩ := hA.one 3 rfl
        obtain ⟨c4, f4⟩ := hA.one 4 rfl
        obtain ⟨c5, f5⟩ := hA.one 5 rfl
        obtain ⟨c6, f6⟩ := hA.one 6 rfl
        obtain ⟨c7, f7⟩ := hA.one 7 rfl
        obtain ⟨c8, f8⟩ := hA.one 8 rfl
        obtain ⟨d0, g0⟩ := hB.one 0 rfl
        obtain ⟨d1, g1⟩ := hB.one 1 rfl
        obtain ⟨d2, g2⟩ := hB.one 2 rfl
        obtain ⟨d3, g3⟩ := hB.one 3 rfl
        obtain ⟨d4, g4⟩ := hB.one 4 rfl
        obtain ⟨d5, g5⟩ := hB.one 5 rfl
        obtain ⟨d6, g6⟩ := hB.one 6 rfl
        obtain ⟨d7, g7⟩ := hB.one 7 rfl
        obtain ⟨d8, g8⟩ := hB.one 8 rfl
        clear hA hB hP hQ
        go_wp2_with fail
        refine hK.out _ _ _ (fun u hu => hu) (⟨x0, x1, x2, y0, y1, y2, c0, c1, c2, c3, c4, c5, c6, c7, c8, d0, d1, d2, d3, d4, d5, d6, d7, d8⟩) ?_
        clear hK K
        refine mv_step (fun K hK => ?_)
        go_simp
        refine (RO.out _).mono ?_
        rintro e w5 ⟨rfl, hb5⟩
        have S5 := Lib.hid (S4.out.bel (hb5))
        clear hb5
        clear x0 y0 x1 y1 x2 y2 c0 f0 d0 g0 c1 f1 d1 g1 c2 f2 d2 g2 c3 f3 d3 g3 c4 f4 d4 g4 c5 f5 d5 g5 c6 f6 d6 g6 c7 f7 d7 g7 c8 f8 d8 g8
        have hP := S5.out.1
        have hQ := S5.out.2.1
        have hA := S5.out.2.2.1
        have hB := S5.out.2.2.2.1
        have x0 := hP.c 0 _ rfl
        have y0 := hQ.c 0 _ rfl
        have x1 := hP.c 1 _ rfl
        have y1 := hQ.c 1 _ rfl
        have x2 := hP.c 2 _ rfl
        have y2 := hQ.c 2 _ rfl
        obtain ⟨c0, f0⟩ := hA.one 0 rfl
        obtain ⟨c1, f1⟩ := hA.one 1 rfl
        obtain ⟨c2, f2⟩ := hA.one 2 rfl
        obtain ⟨c3, f3⟩ := hA.one 3 rfl
        obtain ⟨c4, f4⟩ := hA.one 4 rfl
        obtain ⟨c5, f5⟩ := hA.one 5 rfl
        obtain ⟨c6, f6⟩ := hA.one 6 rfl
        obtain ⟨c7, f7⟩ := hA.one 7 rfl
        obtain ⟨c8, f8⟩ := hA.one 8 rfl
        obtain ⟨d0, g0⟩ := hB.one 0 rfl
        obtain ⟨d1, g1⟩ := hB.one 1 rfl
        obtain ⟨d2, g2⟩ := hB.one 2 rfl
        obtain ⟨d3, g3⟩ := hB.one 3 rfl
        obtain ⟨d4, g4⟩ := hB.one 4 rfl
        obtain ⟨d5, g5⟩ := hB.one 5 rfl
        obtain ⟨d6, g6⟩ := hB.one 6 rfl
        obtain ⟨d7, g7⟩ := hB.one 7 rfl
        obtain ⟨d8, g8⟩ := hB.one 8 rfl
        clear hA hB hP hQ
        go_wp2_with fail
        refine hK.out _ _ _ (fun u hu => hu) (⟨x0, x1, x2, y0, y1, y2, c0, c1, c2, c3, c4, c5, c6, c7, c8, d0, d1, d2, d3, d4, d5, d6, d7, d8⟩) ?_
        clear hK K
        iterate 1
          first
            | (refine mv_free ?_ (Or.inl ⟨by rfl, ?_⟩) (⟨x0, x1, x2, y0, y1, y2, c0, c1, c2, c3, c4, c5, c6, c7, c8, d0, d1, d2, d3, d4, d5, d6, d7, d8⟩) ?_
               rotate_left 1
               · intro u
                 go_simp
                 try simp only [d1]
                 try simp only [d2]
                 try simp only [d3]
                 try with_reducible rfl
               simp only [Act.put, List.setIfInBounds_toArray, List.set_cons_zero, List.set_cons_succ])
            | (refine mv_free _ (Or.inr ⟨by rfl, rfl⟩) (⟨x0, x1, x2, y0, y1, y2, c0, c1, c2, c3, c4, c5, c6, c7, c8, d0, d1, d2, d3, d4, d5, d6, d7, d8⟩) ?_
               simp only [Act.put, List.setIfInBounds_toArray, List.set_cons_zero, List.set_cons_succ])
        refine mv_done ?_
        clear x0 y0 x1 y1 x2 y2 c0 f0 d0 g0 c1 f1 d1 g1 c2 f2 d2 g2 c3 f3 d3 g3 c4 f4 d4 g4 c5 f5 d5 g5 c6 f6 d6 g6 c7 f7 d7 g7 c8 f8 d8 g8
        clear MU NO RR RC RO EQ
        have S := S5
        clear S5
        have MD := Lib.hid (fun u => mdot' (X 6) (X 7) (X 8) (Y 6) (Y 7) (Y 8) u)
        have RR := Lib.hid (fun u => rrow2 X u)
        have RC := Lib.hid (fun u => rrow2 Y u)
        have RD := Lib.hid (fun u => rdot' (X 6) (X 7) (X 8) (Y 6) (Y 7) (Y 8) u)
        have MM := Lib.hid (fun u => mmul X Y u)
        have NM := Lib.hid (fun u => mnine (mul X Y) u)
        have RM := Lib.hid (fun u => rmul X Y u)
        have DT := Lib.hid (fun u => mdet X u)
        have RT := Lib.hid (fun u => rdet X u)
        have LV := Lib.hid (fun u => lives40 u)
        have EQ := fun u => neq9 (mul X Y 0) (mul X Y 1) (mul X Y 2) (mul X Y 3) (mul X Y 4) (mul X Y 5) (mul X Y 6) (mul X Y 7) (mul X Y 8) u
        have hP := S.out.1
        have hQ := S.out.2.1
        have hA := S.out.2.2.1
        have hB := S.out.2.2.2.1
        have x0 := hP.c 0 _ rfl
        have y0 := hQ.c 0 _ rfl
        have x1 := hP.c 1 _ rfl
        have y1 := hQ.c 1 _ rfl
        have x2 := hP.c 2 _ rfl
        have y2 := hQ.c 2 _ rfl
        have x3 := hP.c 3 _ rfl
        have y3 := hQ.c 3 _ rfl
        have x4 := hP.c 4 _ rfl
        have y4 := hQ.c 4 _ rfl
        have x5 := hP.c 5 _ rfl
        have y5 := hQ.c 5 _ rfl
        have x6 := hP.c 6 _ rfl
        have y6 := hQ.c 6 _ rfl
        have x7 := hP.c 7 _ rfl
        have y7 := hQ.c 7 _ rfl
        have x8 := hP.c 8 _ rfl
        have y8 := hQ.c 8 _ rfl
        obtain ⟨c0, f0⟩ := hA.one 0 rfl
        obtain ⟨c1, f1⟩ := hA.one 1 rfl
        obtain ⟨c2, f2⟩ := hA.one 2 rfl
        obtain ⟨c3, f3⟩ := hA.one 3 rfl
        obtain ⟨c4, f4⟩ := hA.one 4 rfl
        obtain ⟨c5, f5⟩ := hA.one 5 rfl
        obtain ⟨c6, f6⟩ := hA.one 6 rfl
        obtain ⟨c7, f7⟩ := hA.one 7 rfl
        obtain ⟨c8, f8⟩ := hA.one 8 rfl
        obtain ⟨d0, g0⟩ := hB.one 0 rfl
        obtain ⟨d1, g1⟩ := hB.one 1 rfl
        obtain ⟨d2, g2⟩ := hB.one 2 rfl
        obtain ⟨d3, g3⟩ := hB.one 3 rfl
        obtain ⟨d4, g4⟩ := hB.one 4 rfl
        obtain ⟨d5, g5⟩ := hB.one 5 rfl
        obtain ⟨d6, g6⟩ := hB.one 6 rfl
        obtain ⟨d7, g7⟩ := hB.one 7 rfl
        obtain ⟨d8, g8⟩ := hB.one 8 rfl
        clear hA hB hP hQ
        go_wp2_with fail
        refine region_moves (fun u => u.cell? ⟨w.heap.size, 0, none⟩ = some (.int .i64 (X 0)) ∧ u.cell? ⟨w.heap.size, 1, none⟩ = some (.int .i64 (X 1)) ∧ u.cell? ⟨w.heap.size, 2, none⟩ = some (.int .i64 (X 2)) ∧ u.cell? ⟨w.heap.size, 3, none⟩ = some (.int .i64 (X 3)) ∧ u.cell? ⟨w.heap.size, 4, none⟩ = some (.int .i64 (X 4)) ∧ u.cell? ⟨w.heap.size, 5, none⟩ = some (.int .i64 (X 5)) ∧ u.cell? ⟨w.heap.size, 6, none⟩ = some (.int .i64 (X 6)) ∧ u.cell? ⟨w.heap.size, 7, none⟩ = some (.int .i64 (X 7)) ∧ u.cell? ⟨w.heap.size, 8, none⟩ = some (.int .i64 (X 8)) ∧ u.cell? ⟨(w.heap.size + 1), 0, none⟩ = some (.int .i64 (Y 0)) ∧ u.cell? ⟨(w.heap.size + 1), 1, none⟩ = some (.int .i64 (Y 1)) ∧ u.cell? ⟨(w.heap.size + 1), 2, none⟩ = some (.int .i64 (Y 2)) ∧ u.cell? ⟨(w.heap.size + 1), 3, none⟩ = some (.int .i64 (Y 3)) ∧ u.cell? ⟨(w.heap.size + 1), 4, none⟩ = some (.int .i64 (Y 4)) ∧ u.cell? ⟨(w.heap.size + 1), 5, none⟩ = some (.int .i64 (Y 5)) ∧ u.cell? ⟨(w.heap.size + 1), 6, none⟩ = some (.int .i64 (Y 6)) ∧ u.cell? ⟨(w.heap.size + 1), 7, none⟩ = some (.int .i64 (Y 7)) ∧ u.cell? ⟨(w.heap.size + 1), 8, none⟩ = some (.int .i64 (Y 8)) ∧ u.cell? ⟨q5, 0, none⟩ = some (.int .i64 (X 0)) ∧ u.cell? ⟨q5, 1, none⟩ = some (.int .i64 (X 1)) ∧ u.cell? ⟨q5, 2, none⟩ = some (.int .i64 (X 2)) ∧ u.cell? ⟨q5, 3, none⟩ = some (.int .i64 (X 3)) ∧ u.cell? ⟨q5, 4, none⟩ = some (.int .i64 (X 4)) ∧ u.cell? ⟨q5, 5, none⟩ = some (.int .i64 (X 5)) ∧ u.cell? ⟨q5, 6, none⟩ = some (.int .i64 (X 6)) ∧ u.cell? ⟨q5, 7, none⟩ = some (.int .i64 (X 7)) ∧ u.cell? ⟨q5, 8, none⟩ = some (.int .i64 (X 8)) ∧ u.cell? ⟨q6, 0, none⟩ = some (.int .i64 (Y 0)) ∧ u.cell? ⟨q6, 1, none⟩ = some (.int .i64 (Y 1)) ∧ u.cell? ⟨q6, 2, none⟩ = some (.int .i64 (Y 2)) ∧ u.cell? ⟨q6, 3, none⟩ = some (.int .i64 (Y 3)) ∧ u.cell? ⟨q6, 4, none⟩ = some (.int .i64 (Y 4)) ∧ u.cell? ⟨q6, 5, none⟩ = some (.int .i64 (Y 5)) ∧ u.cell? ⟨q6, 6, none⟩ = some (.int .i64 (Y 6)) ∧ u.cell? ⟨q6, 7, none⟩ = some (.int .i64 (Y 7)) ∧ u.cell? ⟨q6, 8, none⟩ = some (.int .i64 (Y 8))) [] [(.free, 0), (.take, 1), (.free, 2), (.take, 3), (.take, 5), (.take, 7), (.step, 4), (.step, 6), (.step, 8), (.step, 9), (.free, 10), (.free, 11), (.take, 12), (.take, 13), (.take, 16), (.take, 17), (.step, 14), (.step, 15), (.step, 18), (.free, 19), (.free, 20), (.free, 21), (.take, 22), (.take, 24), (.step, 23), (.step, 25), (.free, 26), (.free, 27), (.free, 28), (.step, 29), (.free, 30), (.free, 31)] _ (by kernel_rfl) (by kernel_rfl) (by kernel_rfl) (by kernel_rfl) (by decide) rfl (fun _ _ _ _ _ h => h) ?_
        simp only [List.filterMap_cons, List.filterMap_nil, List.getElem?_toArray, List.getElem?_cons_zero, List.getElem?_cons_succ, Option.map_some]
        iterate 1
          first
            | (refine mv_free ?_ (Or.inl ⟨by rfl, ?_⟩) (⟨x0, x1, x2, x3, x4, x5, x6, x7, x8, y0, y1, y2, y3, y4, y5, y6, y7, y8, c0, c1, c2, c3, c4, c5, c6, c7, c8, d0, d1, d2, d3, d4, d5, d6, d7, d8⟩) ?_
               rotate_left 1
               · intro u
                 go_simp
                 try simp only [d1]
                 try simp only [d2]
                 try simp only [d3]
                 try with_reducible rfl
               simp only [Act.put, List.setIfInBounds_toArray, List.set_cons_zero, List.set_cons_succ])
            | (refine mv_free _ (Or.inr ⟨by rfl, rfl⟩) (⟨x0, x1, x2, x3, x4, x5, x6, x7, x8, y0, y1, y2, y3, y4, y5, y6, y7, y8, c0, c1, c2, c3, c4, c5, c6, c7, c8, d0, d1, d2, d3, d4, d5, d6, d7, d8⟩) ?_
               simp only [Act.put, List.setIfInBounds_toArray, List.set_cons_zero, List.set_cons_succ])
        iterate 1
          first
            | (refine mv_take ?_ (Or.inl ⟨by rfl, ?_⟩) (⟨x0, x1, x2, x3, x4, x5, x6, x7, x8, y0, y1, y2, y3, y4, y5, y6, y7, y8, c0, c1, c2, c3, c4, c5, c6, c7, c8, d0, d1, d2, d3, d4, d5, d6, d7, d8⟩) ?_
               rotate_left 1
               · intro u hu
                 (try dsimp only at hu)
                 go_simp
                 try with_reducible rfl
               simp only [Act.put, List.setIfInBounds_toArray, List.set_cons_zero, List.set_cons_succ])
            | (refine mv_take _ (Or.inr ⟨by rfl, rfl⟩) (⟨x0, x1, x2, x3, x4, x5, x6, x7, x8, y0, y1, y2, y3, y4, y5, y6, y7, y8, c0, c1, c2, c3, c4, c5, c6, c7, c8, d0, d1, d2, d3, d4, d5, d6, d7, d8⟩) ?_
               simp only [Act.put, List.setIfInBounds_toArray, List.set_cons_zero, List.set_cons_succ])
        iterate 1
          first
            | (refine mv_free ?_ (Or.inl ⟨by rfl, ?_⟩) (⟨x0, x1, x2, x3, x4, x5, x6, x7, x8, y0, y1, y2, y3, y4, y5, y6, y7, y8, c0, c1, c2, c3, c4, c5, c6, c7, c8, d0, d1, d2, d3, d4, d5, d6, d7, d8⟩) ?_
               rotate_left 1
               · intro u
                 go_simp
                 try simp only [d1]
                 try simp only [d2]
                 try simp only [d3]
                 try with_reducible rfl
               simp only [Act.put, List.setIfInBounds_toArray, List.set_cons_zero, List.set_cons_succ])
            | (refine mv_free _ (Or.inr ⟨by rfl, rfl⟩) (⟨x0, x1, x2, x3, x4, x5, x6, x7, x8, y0, y1, y2, y3, y4, y5, y6, y7, y8, c0, c1, c2, c3, c4, c5, c6, c7, c8, d0, d1, d2, d3, d4, d5, d6, d7, d8⟩) ?_
               simp only [Act.put, List.setIfInBounds_toArray, List.set_cons_zero, List.set_cons_succ])
        iterate 3
          first
            | (refine mv_take ?_ (Or.inl ⟨by rfl, ?_⟩) (⟨x0, x1, x2, x3, x4, x5, x6, x7, x8, y0, y1, y2, y3, y4, y5, y6, y7, y8, c0, c1, c2, c3, c4, c5, c6, c7, c8, d0, d1, d2, d3, d4, d5, d6, d7, d8⟩) ?_
               rotate_left 1
               · intro u hu
                 (try dsimp only at hu)
                 go_simp
                 try with_reducible rfl
               simp only [Act.put, List.setIfInBounds_toArray, List.set_cons_zero, List.set_cons_succ])
            | (refine mv_take _ (Or.inr ⟨by rfl, rfl⟩) (⟨x0, x1, x2, x3, x4, x5, x6, x7, x8, y0, y1, y2, y3, y4, y5, y6, y7, y8, c0, c1, c2, c3, c4, c5, c6, c7, c8, d0, d1, d2, d3, d4, d5, d6, d7, d8⟩) ?_
               simp only [Act.put, List.setIfInBounds_toArray, List.set_cons_zero, List.set_cons_succ])
        refine mv_step (fun K hK => ?_)
        go_simp
        refine (MD.out _).mono ?_
        rintro e v1 ⟨rfl, hb1⟩
        have S1 := Lib.hid (S.out.bel ((Below.refl _ _).drew.trans hb1))
        clear hb1
        clear x0 y0 x1 y1 x2 y2 x3 y3 x4 y4 x5 y5 x6 y6 x7 y7 x8 y8 c0 f0 d0 g0 c1 f1 d1 g1 c2 f2 d2 g2 c3 f3 d3 g3 c4 f4 d4 g4 c5 f5 d5 g5 c6 f6 d6 g6 c7 f7 d7 g7 c8 f8 d8 g8
        have hP := S1.out.1
        have hQ := S1.out.2.1
        have hA := S1.out.2.2.1
        have hB := S1.out.2.2.2.1
        have x0 := hP.c 0 _ rfl
        have y0 := hQ.c 0 _ rfl
        have x1 := hP.c 1 _ rfl
        have y1 := hQ.c 1 _ rfl
        have x2 := hP.c 2 _ rfl
        have y2 := hQ.c 2 _ rfl
        have x3 := hP.c 3 _ rfl
        have y3 := hQ.c 3 _ rfl
        have x4 := hP.c 4 _ rfl
        have y4 := hQ.c 4 _ rfl
        have x5 := hP.c 5 _ rfl
        have y5 := hQ.c 5 _ rfl
        have x6 := hP.c 6 _ rfl
        have y6 := hQ.c 6 _ rfl
        have x7 := hP.c 7 _ rfl
        have y7 := hQ.c 7 _ rfl
        have x8 := hP.c 8 _ rfl
        have y8 := hQ.c 8 _ rfl
        obtain ⟨c0, f0⟩ := hA.one 0 rfl
        obtain ⟨c1, f1⟩ := hA.one 1 rfl
        obtain ⟨c2, f2⟩ := hA.one 2 rfl
        obtain ⟨c3, f3⟩ := hA.one 3 rfl
        obtain ⟨c4, f4⟩ := hA.one 4 rfl
        obtain ⟨c5, f5⟩ := hA.one 5 rfl
        obtain ⟨c6, f6⟩ := hA.one 6 rfl
        obtain ⟨c7, f7⟩ := hA.one 7 rfl
        obtain ⟨c8, f8⟩ := hA.one 8 rfl
        obtain ⟨d0, g0⟩ := hB.one 0 rfl
        obtain ⟨d1, g1⟩ := hB.one 1 rfl
        obtain ⟨d2, g2⟩ := hB.one 2 rfl
        obtain ⟨d3, g3⟩ := hB.one 3 rfl
        obtain ⟨d4, g4⟩ := hB.one 4 rfl
        obtain ⟨d5, g5⟩ := hB.one 5 rfl
        obtain ⟨d6, g6⟩ := hB.one 6 rfl
        obtain ⟨d7, g7⟩ := hB.one 7 rfl
        obtain ⟨d8, g8⟩ := hB.one 8 rfl
        clear hA hB hP hQ
        go_wp2_with fail
        refine hK.out _ _ _ (fun u hu => hu) (⟨x0, x1, x2, x3, x4, x5, x6, x7, x8, y0, y1, y2, y3, y4, y5, y6, y7, y8, c0, c1, c2, c3, c4, c5, c6, c7, c8, d0, d1, d2, d3, d4, d5, d6, d7, d8⟩) ?_
        clear hK K
        refine mv_step (fun K hK => ?_)
        go_simp
        refine (RR.out _).mono ?_
        rintro e v2 ⟨rfl, hb2⟩
        have S2 := Lib.hid (S1.out.bel (hb2))
        clear hb2
        clear x0 y0 x1 y1 x2 y2 x3 y3 x4 y4 x5 y5 x6 y6 x7 y7 x8 y8 c0 f0 d0 g0 c1 f1 d1 g1 c2 f2 d2 g2 c3 f3 d3 g3 c4 f4 d4 g4 c5 f5 d5 g5 c6 f6 d6 g6 c7 f7 d7 g7 c8 f8 d8 g8
        have hP := S2.out.1
        have hQ := S2.out.2.1
        have hA := S2.out.2.2.1
        have hB := S2.out.2.2.2.1
        have x0 := hP.c 0 _ rfl
        have y0 := hQ.c 0 _ rfl
        have x1 := hP.c 1 _ rfl
        have y1 := hQ.c 1 _ rfl
        have x2 := hP.c 2 _ rfl
        have y2 := hQ.c 2 _ rfl
        have x3 := hP.c 3 _ rfl
        have y3 := hQ.c 3 _ rfl
        have x4 := hP.c 4 _ rfl
        have y4 := hQ.c 4 _ rfl
        have x5 := hP.c 5 _ rfl
        have y5 := hQ.c 5 _ rfl
        have x6 := hP.c 6 _ rfl
        have y6 := hQ.c 6 _ rfl
        have x7 := hP.c 7 _ rfl
        have y7 := hQ.c 7 _ rfl
        have x8 := hP.c 8 _ rfl
        have y8 := hQ.c 8 _ rfl
        obtain ⟨c0, f0⟩ := hA.one 0 rfl
        obtain ⟨c1, f1⟩ := hA.one 1 rfl
        obtain ⟨c2, f2⟩ := hA.one 2 rfl
        obtain ⟨c3, f3⟩ := hA.one 3 rfl
        obtain ⟨c4, f4⟩ := hA.one 4 rfl
        obtain ⟨c5, f5⟩ := hA.one 5 rfl
        obtain ⟨c6, f6⟩ := hA.one 6 rfl
        obtain ⟨c7, f7⟩ := hA.one 7 rfl
        obtain ⟨c8, f8⟩ := hA.one 8 rfl
        obtain ⟨d0, g0⟩ := hB.one 0 rfl
        obtain ⟨d1, g1⟩ := hB.one 1 rfl
        obtain ⟨d2, g2⟩ := hB.one 2 rfl
        obtain ⟨d3, g3⟩ := hB.one 3 rfl
        obtain ⟨d4, g4⟩ := hB.one 4 rfl
        obtain ⟨d5, g5⟩ := hB.one 5 rfl
        obtain ⟨d6, g6⟩ := hB.one 6 rfl
        obtain ⟨d7, g7⟩ := hB.one 7 rfl
        obtain ⟨d8, g8⟩ := hB.one 8 rfl
        clear hA hB hP hQ
        go_wp2_with fail
        refine hK.out _ _ _ (fun u hu => hu) (⟨x0, x1, x2, x3, x4, x5, x6, x7, x8, y0, y1, y2, y3, y4, y5, y6, y7, y8, c0, c1, c2, c3, c4, c5, c6, c7, c8, d0, d1, d2, d3, d4, d5, d6, d7, d8⟩) ?_
        clear hK K
        refine mv_step (fun K hK => ?_)
        go_simp
        refine (RC.out _).mono ?_
        rintro e v3 ⟨rfl, hb3⟩
        have S3 := Lib.hid (S2.out.bel (hb3))
        clear hb3
        clear x0 y0 x1 y1 x2 y2 x3 y3 x4 y4 x5 y5 x6 y6 x7 y7 x8 y8 c0 f0 d0 g0 c1 f1 d1 g1 c2 f2 d2 g2 c3 f3 d3 g3 c4 f4 d4 g4 c5 f5 d5 g5 c6 f6 d6 g6 c7 f7 d7 g7 c8 f8 d8 g8
        have hP := S3.out.1
        have hQ := S3.out.2.1
        have hA := S3.out.2.2.1
        have hB := S3.out.2.2.2.1
        have x0 := hP.c 0 _ rfl
        have y0 := hQ.c 0 _ rfl
        have x1 := hP.c 1 _ rfl
        have y1 := hQ.c 1 _ rfl
        have x2 := hP.c 2 _ rfl
        have y2 := hQ.c 2 _ rfl
        have x3 := hP.c 3 _ rfl
        have y3 := hQ.c 3 _ rfl
        have x4 := hP.c 4 _ rfl
        have y4 := hQ.c 4 _ rfl
        have x5 := hP.c 5 _ rfl
        have y5 := hQ.c 5 _ rfl
        have x6 := hP.c 6 _ rfl
        have y6 := hQ.c 6 _ rfl
        have x7 := hP.c 7 _ rfl
        have y7 := hQ.c 7 _ rfl
        have x8 := hP.c 8 _ rfl
        have y8 := hQ.c 8 _ rfl
        obtain ⟨c0, f0⟩ := hA.one 0 rfl
        obtain ⟨c1, f1⟩ := hA.one 1 rfl
        obtain ⟨c2, f2⟩ := hA.one 2 rfl
        obtain ⟨c3, f3⟩ := hA.one 3 rfl
        obtain ⟨c4, f4⟩ := hA.one 4 rfl
        obtain ⟨c5, f5⟩ := hA.one 5 rfl
        obtain ⟨c6, f6⟩ := hA.one 6 rfl
        obtain ⟨c7, f7⟩ := hA.one 7 rfl
        obtain ⟨c8, f8⟩ := hA.one 8 rfl
        obtain ⟨d0, g0⟩ := hB.one 0 rfl
        obtain ⟨d1, g1⟩ := hB.one 1 rfl
        obtain ⟨d2, g2⟩ := hB.one 2 rfl
        obtain ⟨d3, g3⟩ := hB.one 3 rfl
        obtain ⟨d4, g4⟩ := hB.one 4 rfl
        obtain ⟨d5, g5⟩ := hB.one 5 rfl
        obtain ⟨d6, g6⟩ := hB.one 6 rfl
        obtain ⟨d7, g7⟩ := hB.one 7 rfl
        obtain ⟨d8, g8⟩ := hB.one 8 rfl
        clear hA hB hP hQ
        go_wp2_with fail
        refine hK.out _ _ _ (fun u hu => hu) (⟨x0, x1, x2, x3, x4, x5, x6, x7, x8, y0, y1, y2, y3, y4, y5, y6, y7, y8, c0, c1, c2, c3, c4, c5, c6, c7, c8, d0, d1, d2, d3, d4, d5, d6, d7, d8⟩) ?_
        clear hK K
        refine mv_step (fun K hK => ?_)
        go_simp
        refine (RD.out _).mono ?_
        rintro e v4 ⟨rfl, hb4⟩
        have S4 := Lib.hid (S3.out.bel (hb4))
        clear hb4
        clear x0 y0 x1 y1 x2 y2 x3 y3 x4 y4 x5 y5 x6 y6 x7 y7 x8 y8 c0 f0 d0 g0 c1 f1 d1 g1 c2 f2 d2 g2 c3 f3 d3 g3 c4 f4 d4 g4 c5 f5 d5 g5 c6 f6 d6 g6 c7 f7 d7 g7 c8 f8 d8 g8
        have hP := S4.out.1
        have hQ := S4.out.2.1
        have hA := S4.out.2.2.1
        have hB := S4.out.2.2.2.1
        have x0 := hP.c 0 _ rfl
        have y0 := hQ.c 0 _ rfl
        have x1 := hP.c 1 _ rfl
        have y1 := hQ.c 1 _ rfl
        have x2 := hP.c 2 _ rfl
        have y2 := hQ.c 2 _ rfl
        have x3 := hP.c 3 _ rfl
        have y3 := hQ.c 3 _ rfl
        have x4 := hP.c 4 _ rfl
        have y4 := hQ.c 4 _ rfl
        have x5 := hP.c 5 _ rfl
        have y5 := hQ.c 5 _ rfl
        have x6 := hP.c 6 _ rfl
        have y6 := hQ.c 6 _ rfl
        have x7 := hP.c 7 _ rfl
        have y7 := hQ.c 7 _ rfl
        have x8 := hP.c 8 _ rfl
        have y8 := hQ.c 8 _ rfl
        obtain ⟨c0, f0⟩ := hA.one 0 rfl
        obtain ⟨c1, f1⟩ := hA.one 1 rfl
        obtain ⟨c2, f2⟩ := hA.one 2 rfl
        obtain ⟨c3, f3⟩ := hA.one 3 rfl
        obtain ⟨c4, f4⟩ := hA.one 4 rfl
        obtain ⟨c5, f5⟩ := hA.one 5 rfl
        obtain ⟨c6, f6⟩ := hA.one 6 rfl
        obtain ⟨c7, f7⟩ := hA.one 7 rfl
        obtain ⟨c8, f8⟩ := hA.one 8 rfl
        obtain ⟨d0, g0⟩ := hB.one 0 rfl
        obtain ⟨d1, g1⟩ := hB.one 1 rfl
        obtain ⟨d2, g2⟩ := hB.one 2 rfl
        obtain ⟨d3, g3⟩ := hB.one 3 rfl
        obtain ⟨d4, g4⟩ := hB.one 4 rfl
        obtain ⟨d5, g5⟩ := hB.one 5 rfl
        obtain ⟨d6, g6⟩ := hB.one 6 rfl
        obtain ⟨d7, g7⟩ := hB.one 7 rfl
        obtain ⟨d8, g8⟩ := hB.one 8 rfl
        clear hA hB hP hQ
        go_wp2_with fail
        refine hK.out _ _ _ (fun u hu => hu) (⟨x0, x1, x2, x3, x4, x5, x6, x7, x8, y0, y1, y2, y3, y4, y5, y6, y7, y8, c0, c1, c2, c3, c4, c5, c6, c7, c8, d0, d1, d2, d3, d4, d5, d6, d7, d8⟩) ?_
        clear hK K
        iterate 2
          first
            | (refine mv_free ?_ (Or.inl ⟨by rfl, ?_⟩) (⟨x0, x1, x2, x3, x4, x5, x6, x7, x8, y0, y1, y2, y3, y4, y5, y6, y7, y8, c0, c1, c2, c3, c4, c5, c6, c7, c8, d0, d1, d2, d3, d4, d5, d6, d7, d8⟩) ?_
               rotate_left 1
               · intro u
                 go_simp
                 try simp only [d1]
                 try simp only [d2]
                 try simp only [d3]
                 try with_reducible rfl
               simp only [Act.put, List.setIfInBounds_toArray, List.set_cons_zero, List.set_cons_succ])
            | (refine mv_free _ (Or.inr ⟨by rfl, rfl⟩) (⟨x0, x1, x2, x3, x4, x5, x6, x7, x8, y0, y1, y2, y3, y4, y5, y6, y7, y8, c0, c1, c2, c3, c4, c5, c6, c7, c8, d0, d1, d2, d3, d4, d5, d6, d7, d8⟩) ?_
               simp only [Act.put, List.setIfInBounds_toArray, List.set_cons_zero, List.set_cons_succ])
        iterate 4
          first
            | (refine mv_take ?_ (Or.inl ⟨by rfl, ?_⟩) (⟨x0, x1, x2, x3, x4, x5, x6, x7, x8, y0, y1, y2, y3, y4, y5, y6, y7, y8, c0, c1, c2, c3, c4, c5, c6, c7, c8, d0, d1, d2, d3, d4, d5, d6, d7, d8⟩) ?_
               rotate_left 1
               · intro u hu
                 (try dsimp only at hu)
                 go_simp
                 try with_reducible rfl
               simp only [Act.put, List.setIfInBounds_toArray, List.set_cons_zero, List.set_cons_succ])
            | (refine mv_take _ (Or.inr ⟨by rfl, rfl⟩) (⟨x0, x1, x2, x3, x4, x5, x6, x7, x8, y0, y1, y2, y3, y4, y5, y6, y7, y8, c0, c1, c2, c3, c4, c5, c6, c7, c8, d0, d1, d2, d3, d4, d5, d6, d7, d8⟩) ?_
               simp only [Act.put, List.setIfInBounds_toArray, List.set_cons_zero, List.set_cons_succ])
        refine mv_step (fun K hK => ?_)
        go_simp
        refine (MM.out _).mono ?_
        rintro e v5 ⟨rfl, hb5⟩
        have S5 := Lib.hid (S4.out.bel (hb5))
        clear hb5
        clear x0 y0 x1 y1 x2 y2 x3 y3 x4 y4 x5 y5 x6 y6 x7 y7 x8 y8 c0 f0 d0 g0 c1 f1 d1 g1 c2 f2 d2 g2 c3 f3 d3 g3 c4 f4 d4 g4 c5 f5 d5 g5 c6 f6 d6 g6 c7 f7 d7 g7 c8 f8 d8 g8
        have hP := S5.out.1
        have hQ := S5.out.2.1
        have hA := S5.out.2.2.1
        have hB := S5.out.2.2.2.1
        have x0 := hP.c 0 _ rfl
        have y0 := hQ.c 0 _ rfl
        have x1 := hP.c 1 _ rfl
        have y1 := hQ.c 1 _ rfl
        have x2 := hP.c 2 _ rfl
        have y2 := hQ.c 2 _ rfl
        have x3 := hP.c 3 _ rfl
        have y3 := hQ.c 3 _ rfl
        have x4 := hP.c 4 _ rfl
        have y4 := hQ.c 4 _ rfl
        have x5 := hP.c 5 _ rfl
        have y5 := hQ.c 5 _ rfl
        have x6 := hP.c 6 _ rfl
        have y6 := hQ.c 6 _ rfl
        have x7 := hP.c 7 _ rfl
        have y7 := hQ.c 7 _ rfl
        have x8 := hP.c 8 _ rfl
        have y8 := hQ.c 8 _ rfl
        obtain ⟨c0, f0⟩ := hA.one 0 rfl
        obtain ⟨c1, f1⟩ := hA.one 1 rfl
        obtain ⟨c2, f2⟩ := hA.one 2 rfl
        obtain ⟨c3, f3⟩ := hA.one 3 rfl
        obtain ⟨c4, f4⟩ := hA.one 4 rfl
        obtain ⟨c5, f5⟩ := hA.one 5 rfl
        obtain ⟨c6, f6⟩ := hA.one 6 rfl
        obtain ⟨c7, f7⟩ := hA.one 7 rfl
        obtain ⟨c8, f8⟩ := hA.one 8 rfl
        obtain ⟨d0, g0⟩ := hB.one 0 rfl
        obtain ⟨d1, g1⟩ := hB.one 1 rfl
        obtain ⟨d2, g2⟩ := hB.one 2 rfl
        obtain ⟨d3, g3⟩ := hB.one 3 rfl
        obtain ⟨d4, g4⟩ := hB.one 4 rfl
        obtain ⟨d5, g5⟩ := hB.one 5 rfl
        obtain ⟨d6, g6⟩ := hB.one 6 rfl
        obtain ⟨d7, g7⟩ := hB.one 7 rfl
        obtain ⟨d8, g8⟩ := hB.one 8 rfl
        clear hA hB hP hQ
        go_wp2_with fail
        refine hK.out _ _ _ (fun u hu => hu) (⟨x0, x1, x2, x3, x4, x5, x6, x7, x8, y0, y1, y2, y3, y4, y5, y6, y7, y8, c0, c1, c2, c3, c4, c5, c6, c7, c8, d0, d1, d2, d3, d4, d5, d6, d7, d8⟩) ?_
        clear hK K
        refine mv_step (fun K hK => ?_)
        go_simp
        refine (NM.out _).mono ?_
        rintro e v6 ⟨rfl, hb6⟩
        have S6 := Lib.hid (S5.out.bel (hb6))
        clear hb6
        clear x0 y0 x1 y1 x2 y2 x3 y3 x4 y4 x5 y5 x6 y6 x7 y7 x8 y8 c0 f0 d0 g0 c1 f1 d1 g1 c2 f2 d2 g2 c3 f3 d3 g3 c4 f4 d4 g4 c5 f5 d5 g5 c6 f6 d6 g6 c7 f7 d7 g7 c8 f8 d8 g8
        have hP := S6.out.1
        have hQ := S6.out.2.1
        have hA := S6.out.2.2.1
        have hB := S6.out.2.2.2.1
        have x0 := hP.c 0 _ rfl
        have y0 := hQ.c 0 _ rfl
        have x1 := hP.c 1 _ rfl
        have y1 := hQ.c 1 _ rfl
        have x2 := hP.c 2 _ rfl
        have y2 := hQ.c 2 _ rfl
        have x3 := hP.c 3 _ rfl
        have y3 := hQ.c 3 _ rfl
        have x4 := hP.c 4 _ rfl
        have y4 := hQ.c 4 _ rfl
        have x5 := hP.c 5 _ rfl
        have y5 := hQ.c 5 _ rfl
        have x6 := hP.c 6 _ rfl
        have y6 := hQ.c 6 _ rfl
        have x7 := hP.c 7 _ rfl
        have y7 := hQ.c 7 _ rfl
        have x8 := hP.c 8 _ rfl
        have y8 := hQ.c 8 _ rfl
        obtain ⟨c0, f0⟩ := hA.one 0 rfl
        obtain ⟨c1, f1⟩ := hA.one 1 rfl
        obtain ⟨c2, f2⟩ := hA.one 2 rfl
        obtain ⟨c3, f3⟩ := hA.one 3 rfl
        obtain ⟨c4, f4⟩ := hA.one 4 rfl
        obtain ⟨c5, f5⟩ := hA.one 5 rfl
        obtain ⟨c6, f6⟩ := hA.one 6 rfl
        obtain ⟨c7, f7⟩ := hA.one 7 rfl
        obtain ⟨c8, f8⟩ := hA.one 8 rfl
        obtain ⟨d0, g0⟩ := hB.one 0 rfl
        obtain ⟨d1, g1⟩ := hB.one 1 rfl
        obtain ⟨d2, g2⟩ := hB.one 2 rfl
        obtain ⟨d3, g3⟩ := hB.one 3 rfl
        obtain ⟨d4, g4⟩ := hB.one 4 rfl
        obtain ⟨d5, g5⟩ := hB.one 5 rfl
        obtain ⟨d6, g6⟩ := hB.one 6 rfl
        obtain ⟨d7, g7⟩ := hB.one 7 rfl
        obtain ⟨d8, g8⟩ := hB.one 8 rfl
        clear hA hB hP hQ
        go_wp2_with fail
        refine hK.out _ _ _ (fun u hu => hu) (⟨x0, x1, x2, x3, x4, x5, x6, x7, x8, y0, y1, y2, y3, y4, y5, y6, y7, y8, c0, c1, c2, c3, c4, c5, c6, c7, c8, d0, d1, d2, d3, d4, d5, d6, d7, d8⟩) ?_
        clear hK K
        refine mv_step (fun K hK => ?_)
        go_simp
        refine (RM.out _).mono ?_
        rintro e v7 ⟨rfl, hb7⟩
        have S7 := Lib.hid (S6.out.bel (hb7))
        clear hb7
        clear x0 y0 x1 y1 x2 y2 x3 y3 x4 y4 x5 y5 x6 y6 x7 y7 x8 y8 c0 f0 d0 g0 c1 f1 d1 g1 c2 f2 d2 g2 c3 f3 d3 g3 c4 f4 d4 g4 c5 f5 d5 g5 c6 f6 d6 g6 c7 f7 d7 g7 c8 f8 d8 g8
        have hP := S7.out.1
        have hQ := S7.out.2.1
        have hA := S7.out.2.2.1
        have hB := S7.out.2.2.2.1
        have x0 := hP.c 0 _ rfl
        have y0 := hQ.c 0 _ rfl
        have x1 := hP.c 1 _ rfl
        have y1 := hQ.c 1 _ rfl
        have x2 := hP.c 2 _ rfl
        have y2 := hQ.c 2 _ rfl
        have x3 := hP.c 3 _ rfl
        have y3 := hQ.c 3 _ rfl
        have x4 := hP.c 4 _ rfl
        have y4 := hQ.c 4 _ rfl
        have x5 := hP.c 5 _ rfl
        have y5 := hQ.c 5 _ rfl
        have x6 := hP.c 6 _ rfl
        have y6 := hQ.c 6 _ rfl
        have x7 := hP.c 7 _ rfl
        have y7 := hQ.c 7 _ rfl
        have x8 := hP.c 8 _ rfl
        have y8 := hQ.c 8 _ rfl
        obtain ⟨c0, f0⟩ := hA.one 0 rfl
        obtain ⟨c1, f1⟩ := hA.one 1 rfl
        obtain ⟨c2, f2⟩ := hA.one 2 rfl
        obtain ⟨c3, f3⟩ := hA.one 3 rfl
        obtain ⟨c4, f4⟩ := hA.one 4 rfl
        obtain ⟨c5, f5⟩ := hA.one 5 rfl
        obtain ⟨c6, f6⟩ := hA.one 6 rfl
        obtain ⟨c7, f7⟩ := hA.one 7 rfl
        obtain ⟨c8, f8⟩ := hA.one 8 rfl
        obtain ⟨d0, g0⟩ := hB.one 0 rfl
        obtain ⟨d1, g1⟩ := hB.one 1 rfl
        obtain ⟨d2, g2⟩ := hB.one 2 rfl
        obtain ⟨d3, g3⟩ := hB.one 3 rfl
        obtain ⟨d4, g4⟩ := hB.one 4 rfl
        obtain ⟨d5, g5⟩ := hB.one 5 rfl
        obtain ⟨d6, g6⟩ := hB.one 6 rfl
        obtain ⟨d7, g7⟩ := hB.one 7 rfl
        obtain ⟨d8, g8⟩ := hB.one 8 rfl
        clear hA hB hP hQ
        go_wp2_with fail
        refine hK.out _ _ _ (fun u hu => hu) (⟨x0, x1, x2, x3, x4, x5, x6, x7, x8, y0, y1, y2, y3, y4, y5, y6, y7, y8, c0, c1, c2, c3, c4, c5, c6, c7, c8, d0, d1, d2, d3, d4, d5, d6, d7, d8⟩) ?_
        clear hK K
        iterate 3
          first
            | (refine mv_free ?_ (Or.inl ⟨by rfl, ?_⟩) (⟨x0, x1, x2, x3, x4, x5, x6, x7, x8, y0, y1, y2, y3, y4, y5, y6, y7, y8, c0, c1, c2, c3, c4, c5, c6, c7, c8, d0, d1, d2, d3, d4, d5, d6, d7, d8⟩) ?_
               rotate_left 1
               · intro u
                 go_simp
                 try simp only [d1]
                 try simp only [d2]
                 try simp only [d3]
                 try with_reducible rfl
               simp only [Act.put, List.setIfInBounds_toArray, List.set_cons_zero, List.set_cons_succ])
            | (refine mv_free _ (Or.inr ⟨by rfl, rfl⟩) (⟨x0, x1, x2, x3, x4, x5, x6, x7, x8, y0, y1, y2, y3, y4, y5, y6, y7, y8, c0, c1, c2, c3, c4, c5, c6, c7, c8, d0, d1, d2, d3, d4, d5, d6, d7, d8⟩) ?_
               simp only [Act.put, List.setIfInBounds_toArray, List.set_cons_zero, List.set_cons_succ])
        iterate 2
          first
            | (refine mv_take ?_ (Or.inl ⟨by rfl, ?_⟩) (⟨x0, x1, x2, x3, x4, x5, x6, x7, x8, y0, y1, y2, y3, y4, y5, y6, y7, y8, c0, c1, c2, c3, c4, c5, c6, c7, c8, d0, d1, d2, d3, d4, d5, d6, d7, d8⟩) ?_
               rotate_left 1
               · intro u hu
                 (try dsimp only at hu)
                 go_simp
                 try with_reducible rfl
               simp only [Act.put, List.setIfInBounds_toArray, List.set_cons_zero, List.set_cons_succ])
            | (refine mv_take _ (Or.inr ⟨by rfl, rfl⟩) (⟨x0, x1, x2, x3, x4, x5, x6, x7, x8, y0, y1, y2, y3, y4, y5, y6, y7, y8, c0, c1, c2, c3, c4, c5, c6, c7, c8, d0, d1, d2, d3, d4, d5, d6, d7, d8⟩) ?_
               simp only [Act.put, List.setIfInBounds_toArray, List.set_cons_zero, List.set_cons_succ])
        refine mv_step (fun K hK => ?_)
        go_simp
        refine (DT.out _).mono ?_
        rintro e v8 ⟨rfl, hb8⟩
        have S8 := Lib.hid (S7.out.bel (hb8))
        clear hb8
        clear x0 y0 x1 y1 x2 y2 x3 y3 x4 y4 x5 y5 x6 y6 x7 y7 x8 y8 c0 f0 d0 g0 c1 f1 d1 g1 c2 f2 d2 g2 c3 f3 d3 g3 c4 f4 d4 g4 c5 f5 d5 g5 c6 f6 d6 g6 c7 f7 d7 g7 c8 f8 d8 g8
        have hP := S8.out.1
        have hQ := S8.out.2.1
        have hA := S8.out.2.2.1
        have hB := S8.out.2.2.2.1
        have x0 := hP.c 0 _ rfl
        have y0 := hQ.c 0 _ rfl
        have x1 := hP.c 1 _ rfl
        have y1 := hQ.c 1 _ rfl
        have x2 := hP.c 2 _ rfl
        have y2 := hQ.c 2 _ rfl
        have x3 := hP.c 3 _ rfl
        have y3 := hQ.c 3 _ rfl
        have x4 := hP.c 4 _ rfl
        have y4 := hQ.c 4 _ rfl
        have x5 := hP.c 5 _ rfl
        have y5 := hQ.c 5 _ rfl
        have x6 := hP.c 6 _ rfl
        have y6 := hQ.c 6 _ rfl
        have x7 := hP.c 7 _ rfl
        have y7 := hQ.c 7 _ rfl
        have x8 := hP.c 8 _ rfl
        have y8 := hQ.c 8 _ rfl
        obtain ⟨c0, f0⟩ := hA.one 0 rfl
        obtain ⟨c1, f1⟩ := hA.one 1 rfl
        obtain ⟨c2, f2⟩ := hA.one 2 rfl
        obtain ⟨c3, f3⟩ := hA.one 3 rfl
        obtain ⟨c4, f4⟩ := hA.one 4 rfl
        obtain ⟨c5, f5⟩ := hA.one 5 rfl
        obtain ⟨c6, f6⟩ := hA.one 6 rfl
        obtain ⟨c7, f7⟩ := hA.one 7 rfl
        obtain ⟨c8, f8⟩ := hA.one 8 rfl
        obtain ⟨d0, g0⟩ := hB.one 0 rfl
        obtain ⟨d1, g1⟩ := hB.one 1 rfl
        obtain ⟨d2, g2⟩ := hB.one 2 rfl
        obtain ⟨d3, g3⟩ := hB.one 3 rfl
        obtain ⟨d4, g4⟩ := hB.one 4 rfl
        obtain ⟨d5, g5⟩ := hB.one 5 rfl
        obtain ⟨d6, g6⟩ := hB.one 6 rfl
        obtain ⟨d7, g7⟩ := hB.one 7 rfl
        obtain ⟨d8, g8⟩ := hB.one 8 rfl
        clear hA hB hP hQ
        go_wp2_with fail
        refine hK.out _ _ _ (fun u hu => hu) (⟨x0, x1, x2, x3, x4, x5, x6, x7, x8, y0, y1, y2, y3, y4, y5, y6, y7, y8, c0, c1, c2, c3, c4, c5, c6, c7, c8, d0, d1, d2, d3, d4, d5, d6, d7, d8⟩) ?_
        clear hK K
        refine mv_step (fun K hK => ?_)
        go_simp
        refine (RT.out _).mono ?_
        rintro e v9 ⟨rfl, hb9⟩
        have S9 := Lib.hid (S8.out.bel (hb9))
        clear hb9
        clear x0 y0 x1 y1 x2 y2 x3 y3 x4 y4 x5 y5 x6 y6 x7 y7 x8 y8 c0 f0 d0 g0 c1 f1 d1 g1 c2 f2 d2 g2 c3 f3 d3 g3 c4 f4 d4 g4 c5 f5 d5 g5 c6 f6 d6 g6 c7 f7 d7 g7 c8 f8 d8 g8
        have hP := S9.out.1
        have hQ := S9.out.2.1
        have hA := S9.out.2.2.1
        have hB := S9.out.2.2.2.1
        have x0 := hP.c 0 _ rfl
        have y0 := hQ.c 0 _ rfl
        have x1 := hP.c 1 _ rfl
        have y1 := hQ.c 1 _ rfl
        have x2 := hP.c 2 _ rfl
        have y2 := hQ.c 2 _ rfl
        have x3 := hP.c 3 _ rfl
        have y3 := hQ.c 3 _ rfl
        have x4 := hP.c 4 _ rfl
        have y4 := hQ.c 4 _ rfl
        have x5 := hP.c 5 _ rfl
        have y5 := hQ.c 5 _ rfl
        have x6 := hP.c 6 _ rfl
        have y6 := hQ.c 6 _ rfl
        have x7 := hP.c 7 _ rfl
        have y7 := hQ.c 7 _ rfl
        have x8 := hP.c 8 _ rfl
        have y8 := hQ.c 8 _ rfl
        obtain ⟨c0, f0⟩ := hA.one 0 rfl
        obtain ⟨c1, f1⟩ := hA.one 1 rfl
        obtain ⟨c2, f2⟩ := hA.one 2 rfl
        obtain ⟨c3, f3⟩ := hA.one 3 rfl
        obtain ⟨c4, f4⟩ := hA.one 4 rfl
        obtain ⟨c5, f5⟩ := hA.one 5 rfl
        obtain ⟨c6, f6⟩ := hA.one 6 rfl
        obtain ⟨c7, f7⟩ := hA.one 7 rfl
        obtain ⟨c8, f8⟩ := hA.one 8 rfl
        obtain ⟨d0, g0⟩ := hB.one 0 rfl
        obtain ⟨d1, g1⟩ := hB.one 1 rfl
        obtain ⟨d2, g2⟩ := hB.one 2 rfl
        obtain ⟨d3, g3⟩ := hB.one 3 rfl
        obtain ⟨d4, g4⟩ := hB.one 4 rfl
        obtain ⟨d5, g5⟩ := hB.one 5 rfl
        obtain ⟨d6, g6⟩ := hB.one 6 rfl
        obtain ⟨d7, g7⟩ := hB.one 7 rfl
        obtain ⟨d8, g8⟩ := hB.one 8 rfl
        clear hA hB hP hQ
        go_wp2_with fail
        refine hK.out _ _ _ (fun u hu => hu) (⟨x0, x1, x2, x3, x4, x5, x6, x7, x8, y0, y1, y2, y3, y4, y5, y6, y7, y8, c0, c1, c2, c3, c4, c5, c6, c7, c8, d0, d1, d2, d3, d4, d5, d6, d7, d8⟩) ?_
        clear hK K
        iterate 3
          first
            | (refine mv_free ?_ (Or.inl ⟨by rfl, ?_⟩) (⟨x0, x1, x2, x3, x4, x5, x6, x7, x8, y0, y1, y2, y3, y4, y5, y6, y7, y8, c0, c1, c2, c3, c4, c5, c6, c7, c8, d0, d1, d2, d3, d4, d5, d6, d7, d8⟩) ?_
               rotate_left 1
               · intro u
                 go_simp
                 try simp only [d1]
                 try simp only [d2]
                 try simp only [d3]
                 try with_reducible rfl
               simp only [Act.put, List.setIfInBounds_toArray, List.set_cons_zero, List.set_cons_succ])
            | (refine mv_free _ (Or.inr ⟨by rfl, rfl⟩) (⟨x0, x1, x2, x3, x4, x5, x6, x7, x8, y0, y1, y2, y3, y4, y5, y6, y7, y8, c0, c1, c2, c3, c4, c5, c6, c7, c8, d0, d1, d2, d3, d4, d5, d6, d7, d8⟩) ?_
               simp only [Act.put, List.setIfInBounds_toArray, List.set_cons_zero, List.set_cons_succ])
        refine mv_step (fun K hK => ?_)
        go_simp
        refine (LV.out _).mono ?_
        rintro e v10 ⟨rfl, hb10⟩
        have S10 := Lib.hid (S9.out.bel (hb10))
        clear hb10
        clear x0 y0 x1 y1 x2 y2 x3 y3 x4 y4 x5 y5 x6 y6 x7 y7 x8 y8 c0 f0 d0 g0 c1 f1 d1 g1 c2 f2 d2 g2 c3 f3 d3 g3 c4 f4 d4 g4 c5 f5 d5 g5 c6 f6 d6 g6 c7 f7 d7 g7 c8 f8 d8 g8
        have hP := S10.out.1
        have hQ := S10.out.2.1
        have hA := S10.out.2.2.1
        have hB := S10.out.2.2.2.1
        have x0 := hP.c 0 _ rfl
        have y0 := hQ.c 0 _ rfl
        have x1 := hP.c 1 _ rfl
        have y1 := hQ.c 1 _ rfl
        have x2 := hP.c 2 _ rfl
        have y2 := hQ.c 2 _ rfl
        have x3 := hP.c 3 _ rfl
        have y3 := hQ.c 3 _ rfl
        have x4 := hP.c 4 _ rfl
        have y4 := hQ.c 4 _ rfl
        have x5 := hP.c 5 _ rfl
        have y5 := hQ.c 5 _ rfl
        have x6 := hP.c 6 _ rfl
        have y6 := hQ.c 6 _ rfl
        have x7 := hP.c 7 _ rfl
        have y7 := hQ.c 7 _ rfl
        have x8 := hP.c 8 _ rfl
        have y8 := hQ.c 8 _ rfl
        obtain ⟨c0, f0⟩ := hA.one 0 rfl
        obtain ⟨c1, f1⟩ := hA.one 1 rfl
        obtain ⟨c2, f2⟩ := hA.one 2 rfl
        obtain ⟨c3, f3⟩ := hA.one 3 rfl
        obtain ⟨c4, f4⟩ := hA.one 4 rfl
        obtain ⟨c5, f5⟩ := hA.one 5 rfl
        obtain ⟨c6, f6⟩ := hA.one 6 rfl
        obtain ⟨c7, f7⟩ := hA.one 7 rfl
        obtain ⟨c8, f8⟩ := hA.one 8 rfl
        obtain ⟨d0, g0⟩ := hB.one 0 rfl
        obtain ⟨d1, g1⟩ := hB.one 1 rfl
        obtain ⟨d2, g2⟩ := hB.one 2 rfl
        obtain ⟨d3, g3⟩ := hB.one 3 rfl
        obtain ⟨d4, g4⟩ := hB.one 4 rfl
        obtain ⟨d5, g5⟩ := hB.one 5 rfl
        obtain ⟨d6, g6⟩ := hB.one 6 rfl
        obtain ⟨d7, g7⟩ := hB.one 7 rfl
        obtain ⟨d8, g8⟩ := hB.one 8 rfl
        clear hA hB hP hQ
        go_wp2_with fail
        refine hK.out _ _ _ (fun u hu => hu) (⟨x0, x1, x2, x3, x4, x5, x6, x7, x8, y0, y1, y2, y3, y4, y5, y6, y7, y8, c0, c1, c2, c3, c4, c5, c6, c7, c8, d0, d1, d2, d3, d4, d5, d6, d7, d8⟩) ?_
        clear hK K
        iterate 2
          first
            | (refine mv_free ?_ (Or.inl ⟨by rfl, ?_⟩) (⟨x0, x1, x2, x3, x4, x5, x6, x7, x8, y0, y1, y2, y3, y4, y5, y6, y7, y8, c0, c1, c2, c3, c4, c5, c6, c7, c8, d0, d1, d2, d3, d4, d5, d6, d7, d8⟩) ?_
               rotate_left 1
               · intro u
                 go_simp
                 try simp only [d1]
                 try simp only [d2]
                 try simp only [d3]
                 try with_reducible rfl
               simp only [Act.put, List.setIfInBounds_toArray, List.set_cons_zero, List.set_cons_succ])
            | (refine mv_free _ (Or.inr ⟨by rfl, rfl⟩) (⟨x0, x1, x2, x3, x4, x5, x6, x7, x8, y0, y1, y2, y3, y4, y5, y6, y7, y8, c0, c1, c2, c3, c4, c5, c6, c7, c8, d0, d1, d2, d3, d4, d5, d6, d7, d8⟩) ?_
               simp only [Act.put, List.setIfInBounds_toArray, List.set_cons_zero, List.set_cons_succ])
        refine mv_done ?_
        go_wp2
        go_ret
        exact ⟨rfl, S10.out.2.2.2.2.2⟩
end Go.Proofs.Ytakocggclopngaa
