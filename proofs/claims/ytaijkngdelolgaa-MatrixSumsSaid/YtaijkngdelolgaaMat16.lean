/- The law MatrixSums, walked. -/
import Derived.Test.YtaijkngdelolgaaMat11
import Derived.Test.YtaijkngdelolgaaMat15
namespace Go.Proofs.Ytaijkngdelolgaa
open Go.ChangeShapes Go.WideShapes Go.ChangeAt Go.RowKit
set_option linter.unusedVariables false
set_option linter.unusedSimpArgs false
def asm (X Y : Nat → Int) (t : Nat) : Int := smI (X t) (Y t)
def dsm (X Y : Nat → Int) (t : Nat) : Int := sbI (X t) (Y t)
theorem rclip40 (x : Int) (w : World) : Calls Try.prog 36 #[.int .i64 x] w fun e w' => e = .returned (.int .i64 (clp x)) ∧ w = w' := by
  go_enter Try.func36, Try.ntmps36
  go_wp2
  all_goals
    go_ret
    exact ⟨ret_int (by unfold clp; omega), rfl⟩
theorem clp_bd40 (x : Int) : -1099511627775 ≤ clp x ∧ clp x ≤ 1099511627775 := by unfold clp; omega
theorem smI_neg (x y : Int) : smI x (-(clp y)) = sbI x y := by unfold smI sbI; rw [show clp (-(clp y)) = -(clp y) by unfold clp; omega]; rw [← Int.sub_eq_add_neg]
structure MuI (X Y : Nat → Int) (w V : World) (a0 : Act) (b : Nat → Bool) (q7 q8 : Nat) (a : Act) (u : World) : Prop where
  sk : Sk [16, 17, 18, 19, 7, 8] a0 a
  bel : Below (w.heap.size + 2) V u
  sz : w.heap.size + 2 ≤ u.heap.size
  h0 : Held w.heap.size [.int .i64 (X 0), .int .i64 (X 1), .int .i64 (X 2), .int .i64 (X 3), .int .i64 (X 4), .int .i64 (X 5), .int .i64 (X 6), .int .i64 (X 7), .int .i64 (X 8)] u
  h1 : Held (w.heap.size + 1) [.int .i64 (Y 0), .int .i64 (Y 1), .int .i64 (Y 2), .int .i64 (Y 3), .int .i64 (Y 4), .int .i64 (Y 5), .int .i64 (Y 6), .int .i64 (Y 7), .int .i64 (Y 8)] u
  s0 : b 0 = true → a.tmps.getD 16 undef = .agg #[.int .i64 (X 0), .int .i64 (X 1), .int .i64 (X 2), .int .i64 (X 3), .int .i64 (X 4), .int .i64 (X 5), .int .i64 (X 6), .int .i64 (X 7), .int .i64 (X 8)]
  s1 : b 1 = true → a.tmps.getD 17 undef = .agg #[.int .i64 (X 0), .int .i64 (X 1), .int .i64 (X 2), .int .i64 (X 3), .int .i64 (X 4), .int .i64 (X 5), .int .i64 (X 6), .int .i64 (X 7), .int .i64 (X 8)]
  s2 : b 2 = true → a.tmps.getD 18 undef = .agg #[.int .i64 (Y 0), .int .i64 (Y 1), .int .i64 (Y 2), .int .i64 (Y 3), .int .i64 (Y 4), .int .i64 (Y 5), .int .i64 (Y 6), .int .i64 (Y 7), .int .i64 (Y 8)]
  s3 : b 3 = true → a.tmps.getD 19 undef = .agg #[.int .i64 (Y 0), .int .i64 (Y 1), .int .i64 (Y 2), .int .i64 (Y 3), .int .i64 (Y 4), .int .i64 (Y 5), .int .i64 (Y 6), .int .i64 (Y 7), .int .i64 (Y 8)]
  s4 : b 4 = true → a.tmps.getD 7 undef = .pointer (some ⟨q7, 0, none⟩) ∧ w.heap.size + 2 ≤ q7 ∧ ∃ cs : List Value, cs.length = 9 ∧ Held q7 cs u ∧ (b 6 = true → cs = [.int .i64 (X 0), .int .i64 (X 1), .int .i64 (X 2), .int .i64 (X 3), .int .i64 (X 4), .int .i64 (X 5), .int .i64 (X 6), .int .i64 (X 7), .int .i64 (X 8)])
  e6 : b 6 = true → b 4 = true
  s5 : b 5 = true → a.tmps.getD 8 undef = .pointer (some ⟨q8, 0, none⟩) ∧ w.heap.size + 2 ≤ q8 ∧ ∃ cs : List Value, cs.length = 9 ∧ Held q8 cs u ∧ (b 7 = true → cs = [.int .i64 (Y 0), .int .i64 (Y 1), .int .i64 (Y 2), .int .i64 (Y 3), .int .i64 (Y 4), .int .i64 (Y 5), .int .i64 (Y 6), .int .i64 (Y 7), .int .i64 (Y 8)])
  e7 : b 7 = true → b 5 = true
  n1_0 : b 5 = true → b 4 = true → q8 ≠ q7
set_option maxRecDepth 100000 in
set_option maxHeartbeats 4000000 in
theorem MuI.next0 {X Y : Nat → Int} {w V : World} {a0 : Act} {b : Nat → Bool} {q7 q8 : Nat} {a : Act} {u : World} (I : MuI X Y w V a0 b q7 q8 a u) (hn : 16 < a0.tmps.size) {u' : World} (hu : Below u.heap.size u u') : MuI X Y w V a0 (fun x => x == 0 || b x) q7 q8 (a.put (some 16) (.agg #[.int .i64 (X 0), .int .i64 (X 1), .int .i64 (X 2), .int .i64 (X 3), .int .i64 (X 4), .int .i64 (X 5), .int .i64 (X 6), .int .i64 (X 7), .int .i64 (X 8)])) u' :=
  ⟨I.sk.put (by decide) _,
    I.bel.trans (hu.mono I.sz),
    Nat.le_trans I.sz hu.size,
    I.h0.bel hu,
    I.h1.bel hu,
    fun _ => put_same _ (by rw [I.sk.size]; exact hn),
    fun h => (put_other _ (by decide)).trans (I.s1 (by simpa using h)),
    fun h => (put_other _ (by decide)).trans (I.s2 (by simpa using h)),
    fun h => (put_other _ (by decide)).trans (I.s3 (by simpa using h)),
    fun h => by obtain ⟨p1, p2, cs, p3, p4, p5⟩ := I.s4 (by simpa using h); exact ⟨(put_other _ (by decide)).trans p1, p2, cs, p3, p4.bel hu, fun h2 => p5 (by simpa using h2)⟩,
    fun h => by have h2 := I.e6 (by simpa using h); simp [h2],
    fun h => by obtain ⟨p1, p2, cs, p3, p4, p5⟩ := I.s5 (by simpa using h); exact ⟨(put_other _ (by decide)).trans p1, p2, cs, p3, p4.bel hu, fun h2 => p5 (by simpa using h2)⟩,
    fun h => by have h2 := I.e7 (by simpa using h); simp [h2],
    fun h h2 => I.n1_0 (by simpa using h) (by simpa using h2)⟩
set_option maxRecDepth 100000 in
set_option maxHeartbeats 4000000 in
theorem MuI.next1 {X Y : Nat → Int} {w V : World} {a0 : Act} {b : Nat → Bool} {q7 q8 : Nat} {a : Act} {u : World} (I : MuI X Y w V a0 b q7 q8 a u) (hn : 17 < a0.tmps.size) {u' : World} (hu : Below u.heap.size u u') : MuI X Y w V a0 (fun x => x == 1 || b x) q7 q8 (a.put (some 17) (.agg #[.int .i64 (X 0), .int .i64 (X 1), .int .i64 (X 2), .int .i64 (X 3), .int .i64 (X 4), .int .i64 (X 5), .int .i64 (X 6), .int .i64 (X 7), .int .i64 (X 8)])) u' :=
  ⟨I.sk.put (by decide) _,
    I.bel.trans (hu.mono I.sz),
    Nat.le_trans I.sz hu.size,
    I.h0.bel hu,
    I.h1.bel hu,
    fun h => (put_other _ (by decide)).trans (I.s0 (by simpa using h)),
    fun _ => put_same _ (by rw [I.sk.size]; exact hn),
    fun h => (put_other _ (by decide)).trans (I.s2 (by simpa using h)),
    fun h => (put_other _ (by decide)).trans (I.s3 (by simpa using h)),
    fun h => by obtain ⟨p1, p2, cs, p3, p4, p5⟩ := I.s4 (by simpa using h); exact ⟨(put_other _ (by decide)).trans p1, p2, cs, p3, p4.bel hu, fun h2 => p5 (by simpa using h2)⟩,
    fun h => by have h2 := I.e6 (by simpa using h); simp [h2],
    fun h => by obtain ⟨p1, p2, cs, p3, p4, p5⟩ := I.s5 (by simpa using h); exact ⟨(put_other _ (by decide)).trans p1, p2, cs, p3, p4.bel hu, fun h2 => p5 (by simpa using h2)⟩,
    fun h => by have h2 := I.e7 (by simpa using h); simp [h2],
    fun h h2 => I.n1_0 (by simpa using h) (by simpa using h2)⟩
set_option maxRecDepth 100000 in
set_option maxHeartbeats 4000000 in
theorem MuI.next2 {X Y : Nat → Int} {w V : World} {a0 : Act} {b : Nat → Bool} {q7 q8 : Nat} {a : Act} {u : World} (I : MuI X Y w V a0 b q7 q8 a u) (hn : 18 < a0.tmps.size) {u' : World} (hu : Below u.heap.size u u') : MuI X Y w V a0 (fun x => x == 2 || b x) q7 q8 (a.put (some 18) (.agg #[.int .i64 (Y 0), .int .i64 (Y 1), .int .i64 (Y 2), .int .i64 (Y 3), .int .i64 (Y 4), .int .i64 (Y 5), .int .i64 (Y 6), .int .i64 (Y 7), .int .i64 (Y 8)])) u' :=
  ⟨I.sk.put (by decide) _,
    I.bel.trans (hu.mono I.sz),
    Nat.le_trans I.sz hu.size,
    I.h0.bel hu,
    I.h1.bel hu,
    fun h => (put_other _ (by decide)).trans (I.s0 (by simpa using h)),
    fun h => (put_other _ (by decide)).trans (I.s1 (by simpa using h)),
    fun _ => put_same _ (by rw [I.sk.size]; exact hn),
    fun h => (put_other _ (by decide)).trans (I.s3 (by simpa using h)),
    fun h => by obtain ⟨p1, p2, cs, p3, p4, p5⟩ := I.s4 (by simpa using h); exact ⟨(put_other _ (by decide)).trans p1, p2, cs, p3, p4.bel hu, fun h2 => p5 (by simpa using h2)⟩,
    fun h => by have h2 := I.e6 (by simpa using h); simp [h2],
    fun h => by obtain ⟨p1, p2, cs, p3, p4, p5⟩ := I.s5 (by simpa using h); exact ⟨(put_other _ (by decide)).trans p1, p2, cs, p3, p4.bel hu, fun h2 => p5 (by simpa using h2)⟩,
    fun h => by have h2 := I.e7 (by simpa using h); simp [h2],
    fun h h2 => I.n1_0 (by simpa using h) (by simpa using h2)⟩
set_option maxRecDepth 100000 in
set_option maxHeartbeats 4000000 in
theorem MuI.next3 {X Y : Nat → Int} {w V : World} {a0 : Act} {b : Nat → Bool} {q7 q8 : Nat} {a : Act} {u : World} (I : MuI X Y w V a0 b q7 q8 a u) (hn : 19 < a0.tmps.size) {u' : World} (hu : Below u.heap.size u u') : MuI X Y w V a0 (fun x => x == 3 || b x) q7 q8 (a.put (some 19) (.agg #[.int .i64 (Y 0), .int .i64 (Y 1), .int .i64 (Y 2), .int .i64 (Y 3), .int .i64 (Y 4), .int .i64 (Y 5), .int .i64 (Y 6), .int .i64 (Y 7), .int .i64 (Y 8)])) u' :=
  ⟨I.sk.put (by decide) _,
    I.bel.trans (hu.mono I.sz),
    Nat.le_trans I.sz hu.size,
    I.h0.bel hu,
    I.h1.bel hu,
    fun h => (put_other _ (by decide)).trans (I.s0 (by simpa using h)),
    fun h => (put_other _ (by decide)).trans (I.s1 (by simpa using h)),
    fun h => (put_other _ (by decide)).trans (I.s2 (by simpa using h)),
    fun _ => put_same _ (by rw [I.sk.size]; exact hn),
    fun h => by obtain ⟨p1, p2, cs, p3, p4, p5⟩ := I.s4 (by simpa using h); exact ⟨(put_other _ (by decide)).trans p1, p2, cs, p3, p4.bel hu, fun h2 => p5 (by simpa using h2)⟩,
    fun h => by have h2 := I.e6 (by simpa using h); simp [h2],
    fun h => by obtain ⟨p1, p2, cs, p3, p4, p5⟩ := I.s5 (by simpa using h); exact ⟨(put_other _ (by decide)).trans p1, p2, cs, p3, p4.bel hu, fun h2 => p5 (by simpa using h2)⟩,
    fun h => by have h2 := I.e7 (by simpa using h); simp [h2],
    fun h h2 => I.n1_0 (by simpa using h) (by simpa using h2)⟩
set_option maxRecDepth 100000 in
set_option maxHeartbeats 4000000 in
theorem MuI.next4 {X Y : Nat → Int} {w V : World} {a0 : Act} {b : Nat → Bool} {q7 q8 : Nat} {a : Act} {u : World} (I : MuI X Y w V a0 b q7 q8 a u) (hn : 7 < a0.tmps.size) (hf : b 4 = false) : MuI X Y w V a0 (fun x => x == 4 || b x) u.heap.size q8 (a.put (some 7) (.pointer (some ⟨u.heap.size, 0, none⟩))) (u.alloc (.cells #[.int .i64 0, .int .i64 0, .int .i64 0, .int .i64 0, .int .i64 0, .int .i64 0, .int .i64 0, .int .i64 0, .int .i64 0] 74)) :=
  ⟨I.sk.put (by decide) _,
    I.bel.alloc I.sz _,
    by have := I.sz; simp; omega,
    I.h0.alloc _,
    I.h1.alloc _,
    fun h => (put_other _ (by decide)).trans (I.s0 (by simpa using h)),
    fun h => (put_other _ (by decide)).trans (I.s1 (by simpa using h)),
    fun h => (put_other _ (by decide)).trans (I.s2 (by simpa using h)),
    fun h => (put_other _ (by decide)).trans (I.s3 (by simpa using h)),
    fun _ => ⟨put_same _ (by rw [I.sk.size]; exact hn), I.sz, [.int .i64 0, .int .i64 0, .int .i64 0, .int .i64 0, .int .i64 0, .int .i64 0, .int .i64 0, .int .i64 0, .int .i64 0], rfl, Held.new u [.int .i64 0, .int .i64 0, .int .i64 0, .int .i64 0, .int .i64 0, .int .i64 0, .int .i64 0, .int .i64 0, .int .i64 0] _, fun h => by have h2 := I.e6 (by simpa using h); rw [hf] at h2; cases h2⟩,
    fun h => by have h2 := I.e6 (by simpa using h); simp [h2],
    fun h => by obtain ⟨p1, p2, cs, p3, p4, p5⟩ := I.s5 (by simpa using h); exact ⟨(put_other _ (by decide)).trans p1, p2, cs, p3, p4.alloc _, fun h2 => p5 (by simpa using h2)⟩,
    fun h => by have h2 := I.e7 (by simpa using h); simp [h2],
    fun h _ => by obtain ⟨-, -, cs, -, p4, -⟩ := I.s5 (by simpa using h); have := p4.lt; omega⟩
set_option maxRecDepth 100000 in
set_option maxHeartbeats 4000000 in
theorem MuI.next6 {X Y : Nat → Int} {w V : World} {a0 : Act} {b : Nat → Bool} {q7 q8 : Nat} {a : Act} {u : World} (I : MuI X Y w V a0 b q7 q8 a u) (ha : b 4 = true) : MuI X Y w V a0 (fun x => x == 6 || b x) q7 q8 a (((((((((u.setCell ⟨q7, 0, none⟩ (.int .i64 (X 0))).setCell ⟨q7, 1, none⟩ (.int .i64 (X 1))).setCell ⟨q7, 2, none⟩ (.int .i64 (X 2))).setCell ⟨q7, 3, none⟩ (.int .i64 (X 3))).setCell ⟨q7, 4, none⟩ (.int .i64 (X 4))).setCell ⟨q7, 5, none⟩ (.int .i64 (X 5))).setCell ⟨q7, 6, none⟩ (.int .i64 (X 6))).setCell ⟨q7, 7, none⟩ (.int .i64 (X 7))).setCell ⟨q7, 8, none⟩ (.int .i64 (X 8))) := by
  obtain ⟨-, hq, cs0, hc0, hh0, -⟩ := I.s4 ha
  obtain ⟨u9, e9, h9, hb⟩ := ml_laid hh0 hc0 X
  have ho : Only q7 u u9 := by rw [e9]; exact ((((((((((Only.refl q7 u).setCell (p := ⟨q7, 0, none⟩) (.int .i64 (X 0))).setCell (p := ⟨q7, 1, none⟩) (.int .i64 (X 1))).setCell (p := ⟨q7, 2, none⟩) (.int .i64 (X 2))).setCell (p := ⟨q7, 3, none⟩) (.int .i64 (X 3))).setCell (p := ⟨q7, 4, none⟩) (.int .i64 (X 4))).setCell (p := ⟨q7, 5, none⟩) (.int .i64 (X 5))).setCell (p := ⟨q7, 6, none⟩) (.int .i64 (X 6))).setCell (p := ⟨q7, 7, none⟩) (.int .i64 (X 7))).setCell (p := ⟨q7, 8, none⟩) (.int .i64 (X 8)))
  have hne1 : b 5 = true → q8 ≠ q7 := fun h => I.n1_0 h ha
  rw [← e9]
  exact ⟨I.sk,
    I.bel.trans (hb.mono hq),
    by have := hb.size; have := I.sz; omega,
    I.h0.only ho (by omega),
    I.h1.only ho (by omega),
    fun h => I.s0 (by simpa using h),
    fun h => I.s1 (by simpa using h),
    fun h => I.s2 (by simpa using h),
    fun h => I.s3 (by simpa using h),
    fun h => by obtain ⟨p1, p2, cs, p3, p4, p5⟩ := I.s4 (by simpa using h); exact ⟨p1, p2, _, rfl, h9, fun _ => rfl⟩,
    fun h => by simpa using ha,
    fun h => by obtain ⟨p1, p2, cs, p3, p4, p5⟩ := I.s5 (by simpa using h); exact ⟨p1, p2, cs, p3, p4.only ho (hne1 (by simpa using h)), fun h2 => p5 (by simpa using h2)⟩,
    fun h => by have h2 := I.e7 (by simpa using h); simp [h2],
    fun h h2 => I.n1_0 (by simpa using h) (by simpa using h2)⟩
set_option maxRecDepth 100000 in
set_option maxHeartbeats 4000000 in
theorem MuI.next5 {X Y : Nat → Int} {w V : World} {a0 : Act} {b : Nat → Bool} {q7 q8 : Nat} {a : Act} {u : World} (I : MuI X Y w V a0 b q7 q8 a u) (hn : 8 < a0.tmps.size) (hf : b 5 = false) : MuI X Y w V a0 (fun x => x == 5 || b x) q7 u.heap.size (a.put (some 8) (.pointer (some ⟨u.heap.size, 0, none⟩))) (u.alloc (.cells #[.int .i64 0, .int .i64 0, .int .i64 0, .int .i64 0, .int .i64 0, .int .i64 0, .int .i64 0, .int .i64 0, .int .i64 0] 74)) :=
  ⟨I.sk.put (by decide) _,
    I.bel.alloc I.sz _,
    by have := I.sz; simp; omega,
    I.h0.alloc _,
    I.h1.alloc _,
    fun h => (put_other _ (by decide)).trans (I.s0 (by simpa using h)),
    fun h => (put_other _ (by decide)).trans (I.s1 (by simpa using h)),
    fun h => (put_other _ (by decide)).trans (I.s2 (by simpa using h)),
    fun h => (put_other _ (by decide)).trans (I.s3 (by simpa using h)),
    fun h => by obtain ⟨p1, p2, cs, p3, p4, p5⟩ := I.s4 (by simpa using h); exact ⟨(put_other _ (by decide)).trans p1, p2, cs, p3, p4.alloc _, fun h2 => p5 (by simpa using h2)⟩,
    fun h => by have h2 := I.e6 (by simpa using h); simp [h2],
    fun _ => ⟨put_same _ (by rw [I.sk.size]; exact hn), I.sz, [.int .i64 0, .int .i64 0, .int .i64 0, .int .i64 0, .int .i64 0, .int .i64 0, .int .i64 0, .int .i64 0, .int .i64 0], rfl, Held.new u [.int .i64 0, .int .i64 0, .int .i64 0, .int .i64 0, .int .i64 0, .int .i64 0, .int .i64 0, .int .i64 0, .int .i64 0] _, fun h => by have h2 := I.e7 (by simpa using h); rw [hf] at h2; cases h2⟩,
    fun h => by have h2 := I.e7 (by simpa using h); simp [h2],
    fun _ h => by obtain ⟨-, -, cs, -, p4, -⟩ := I.s4 (by simpa using h); have := p4.lt; omega⟩
set_option maxRecDepth 100000 in
set_option maxHeartbeats 4000000 in
theorem MuI.next7 {X Y : Nat → Int} {w V : World} {a0 : Act} {b : Nat → Bool} {q7 q8 : Nat} {a : Act} {u : World} (I : MuI X Y w V a0 b q7 q8 a u) (ha : b 5 = true) : MuI X Y w V a0 (fun x => x == 7 || b x) q7 q8 a (((((((((u.setCell ⟨q8, 0, none⟩ (.int .i64 (Y 0))).setCell ⟨q8, 1, none⟩ (.int .i64 (Y 1))).setCell ⟨q8, 2, none⟩ (.int .i64 (Y 2))).setCell ⟨q8, 3, none⟩ (.int .i64 (Y 3))).setCell ⟨q8, 4, none⟩ (.int .i64 (Y 4))).setCell ⟨q8, 5, none⟩ (.int .i64 (Y 5))).setCell ⟨q8, 6, none⟩ (.int .i64 (Y 6))).setCell ⟨q8, 7, none⟩ (.int .i64 (Y 7))).setCell ⟨q8, 8, none⟩ (.int .i64 (Y 8))) := by
  obtain ⟨-, hq, cs0, hc0, hh0, -⟩ := I.s5 ha
  obtain ⟨u9, e9, h9, hb⟩ := ml_laid hh0 hc0 Y
  have ho : Only q8 u u9 := by rw [e9]; exact ((((((((((Only.refl q8 u).setCell (p := ⟨q8, 0, none⟩) (.int .i64 (Y 0))).setCell (p := ⟨q8, 1, none⟩) (.int .i64 (Y 1))).setCell (p := ⟨q8, 2, none⟩) (.int .i64 (Y 2))).setCell (p := ⟨q8, 3, none⟩) (.int .i64 (Y 3))).setCell (p := ⟨q8, 4, none⟩) (.int .i64 (Y 4))).setCell (p := ⟨q8, 5, none⟩) (.int .i64 (Y 5))).setCell (p := ⟨q8, 6, none⟩) (.int .i64 (Y 6))).setCell (p := ⟨q8, 7, none⟩) (.int .i64 (Y 7))).setCell (p := ⟨q8, 8, none⟩) (.int .i64 (Y 8)))
  have hne0 : b 4 = true → q7 ≠ q8 := fun h => (I.n1_0 ha h).symm
  rw [← e9]
  exact ⟨I.sk,
    I.bel.trans (hb.mono hq),
    by have := hb.size; have := I.sz; omega,
    I.h0.only ho (by omega),
    I.h1.only ho (by omega),
    fun h => I.s0 (by simpa using h),
    fun h => I.s1 (by simpa using h),
    fun h => I.s2 (by simpa using h),
    fun h => I.s3 (by simpa using h),
    fun h => by obtain ⟨p1, p2, cs, p3, p4, p5⟩ := I.s4 (by simpa using h); exact ⟨p1, p2, cs, p3, p4.only ho (hne0 (by simpa using h)), fun h2 => p5 (by simpa using h2)⟩,
    fun h => by have h2 := I.e6 (by simpa using h); simp [h2],
    fun h => by obtain ⟨p1, p2, cs, p3, p4, p5⟩ := I.s5 (by simpa using h); exact ⟨p1, p2, _, rfl, h9, fun _ => rfl⟩,
    fun h => by simpa using ha,
    fun h h2 => I.n1_0 (by simpa using h) (by simpa using h2)⟩
set_option maxRecDepth 100000 in
set_option maxHeartbeats 4000000 in
theorem MuI.fin {X Y : Nat → Int} {w V : World} {a0 : Act} {b : Nat → Bool} {q7 q8 : Nat} {a : Act} {u : World} (I : MuI X Y w V a0 b q7 q8 a u) (hb : ∀ i, i < 100 → i < 8 → b i = true) (hn : 19 < a0.tmps.size) : a = ((((((a0.put (some 16) (.agg #[.int .i64 (X 0), .int .i64 (X 1), .int .i64 (X 2), .int .i64 (X 3), .int .i64 (X 4), .int .i64 (X 5), .int .i64 (X 6), .int .i64 (X 7), .int .i64 (X 8)])).put (some 17) (.agg #[.int .i64 (X 0), .int .i64 (X 1), .int .i64 (X 2), .int .i64 (X 3), .int .i64 (X 4), .int .i64 (X 5), .int .i64 (X 6), .int .i64 (X 7), .int .i64 (X 8)])).put (some 18) (.agg #[.int .i64 (Y 0), .int .i64 (Y 1), .int .i64 (Y 2), .int .i64 (Y 3), .int .i64 (Y 4), .int .i64 (Y 5), .int .i64 (Y 6), .int .i64 (Y 7), .int .i64 (Y 8)])).put (some 19) (.agg #[.int .i64 (Y 0), .int .i64 (Y 1), .int .i64 (Y 2), .int .i64 (Y 3), .int .i64 (Y 4), .int .i64 (Y 5), .int .i64 (Y 6), .int .i64 (Y 7), .int .i64 (Y 8)])).put (some 7) (.pointer (some ⟨q7, 0, none⟩))).put (some 8) (.pointer (some ⟨q8, 0, none⟩))) := by
  refine act_ext (by simp only [put_defers]; exact I.sk.defers) (by simp only [put_size]; exact I.sk.size) (fun s hs => ?_)
  by_cases hd : s ∈ ([16, 17, 18, 19, 7, 8] : List Nat)
  · simp only [List.mem_cons, List.not_mem_nil, or_false] at hd
    rcases hd with rfl | rfl | rfl | rfl | rfl | rfl
    · refine (I.s0 (hb 0 (by omega) (by omega))).trans (Eq.symm ?_)
      exact (put_other _ (by decide)).trans ((put_other _ (by decide)).trans ((put_other _ (by decide)).trans ((put_other _ (by decide)).trans ((put_other _ (by decide)).trans (put_same _ (by (try simp only [put_size]); omega))))))
    · refine (I.s1 (hb 1 (by omega) (by omega))).trans (Eq.symm ?_)
      exact (put_other _ (by decide)).trans ((put_other _ (by decide)).trans ((put_other _ (by decide)).trans ((put_other _ (by decide)).trans (put_same _ (by (try simp only [put_size]); omega)))))
    · refine (I.s2 (hb 2 (by omega) (by omega))).trans (Eq.symm ?_)
      exact (put_other _ (by decide)).trans ((put_other _ (by decide)).trans ((put_other _ (by decide)).trans (put_same _ (by (try simp only [put_size]); omega))))
    · refine (I.s3 (hb 3 (by omega) (by omega))).trans (Eq.symm ?_)
      exact (put_other _ (by decide)).trans ((put_other _ (by decide)).trans (put_same _ (by (try simp only [put_size]); omega)))
    · refine ((I.s4 (hb 4 (by omega) (by omega))).1).trans (Eq.symm ?_)
      exact (put_other _ (by decide)).trans (put_same _ (by (try simp only [put_size]); omega))
    · refine ((I.s5 (hb 5 (by omega) (by omega))).1).trans (Eq.symm ?_)
      exact put_same _ (by (try simp only [put_size]); omega)
  · refine (I.sk.slot s hd).trans (Eq.symm ?_)
    simp only [List.mem_cons, List.not_mem_nil, or_false, not_or] at hd
    obtain ⟨g0, g1, g2, g3, g4, g5⟩ := hd
    exact (put_other _ g5).trans ((put_other _ g4).trans ((put_other _ g3).trans ((put_other _ g2).trans ((put_other _ g1).trans ((put_other _ g0).trans (rfl))))))
theorem msum_box (w : World) (X Y : Nat → Int) : ∃ V, V = ((w.alloc (.cells #[.int .i64 (X 0), .int .i64 (X 1), .int .i64 (X 2), .int .i64 (X 3), .int .i64 (X 4), .int .i64 (X 5), .int .i64 (X 6), .int .i64 (X 7), .int .i64 (X 8)] 72)).alloc (.cells #[.int .i64 (Y 0), .int .i64 (Y 1), .int .i64 (Y 2), .int .i64 (Y 3), .int .i64 (Y 4), .int .i64 (Y 5), .int .i64 (Y 6), .int .i64 (Y 7), .int .i64 (Y 8)] 72)) ∧ Below w.heap.size w V ∧ Held w.heap.size [.int .i64 (X 0), .int .i64 (X 1), .int .i64 (X 2), .int .i64 (X 3), .int .i64 (X 4), .int .i64 (X 5), .int .i64 (X 6), .int .i64 (X 7), .int .i64 (X 8)] V ∧ Held (w.heap.size + 1) [.int .i64 (Y 0), .int .i64 (Y 1), .int .i64 (Y 2), .int .i64 (Y 3), .int .i64 (Y 4), .int .i64 (Y 5), .int .i64 (Y 6), .int .i64 (Y 7), .int .i64 (Y 8)] V ∧ V.heap.size = w.heap.size + 2 := by
  refine ⟨_, rfl, (by repeat (first | exact Below.refl _ _ | assumption | apply Below.drew | apply below_drewN | (refine Below.alloc ?_ (by first | exact Nat.le_refl _ | omega | (simp <;> omega)) _) | (refine Below.setCell ?_ (by first | exact Nat.le_refl _ | omega | (simp <;> omega)) _))), (Held.new w [.int .i64 (X 0), .int .i64 (X 1), .int .i64 (X 2), .int .i64 (X 3), .int .i64 (X 4), .int .i64 (X 5), .int .i64 (X 6), .int .i64 (X 7), .int .i64 (X 8)] 72).alloc _, ?_, by simp⟩
  have h := Held.new (w.alloc (.cells #[.int .i64 (X 0), .int .i64 (X 1), .int .i64 (X 2), .int .i64 (X 3), .int .i64 (X 4), .int .i64 (X 5), .int .i64 (X 6), .int .i64 (X 7), .int .i64 (X 8)] 72)) [.int .i64 (Y 0), .int .i64 (Y 1), .int .i64 (Y 2), .int .i64 (Y 3), .int .i64 (Y 4), .int .i64 (Y 5), .int .i64 (Y 6), .int .i64 (Y 7), .int .i64 (Y 8)] 72
  have e : (w.alloc (.cells #[.int .i64 (X 0), .int .i64 (X 1), .int .i64 (X 2), .int .i64 (X 3), .int .i64 (X 4), .int .i64 (X 5), .int .i64 (X 6), .int .i64 (X 7), .int .i64 (X 8)] 72)).heap.size = w.heap.size + 1 := by simp
  rw [e] at h
  exact h
structure MvI (X Y : Nat → Int) (n : Int) (nn q7 q8 : Nat) (w V : World) (a0 : Act) (b : Nat → Bool) (q9 q10 q11 q12 : Nat) (a : Act) (u : World) : Prop where
  sk : Sk [20, 21, 22, 23, 24, 25, 26, 27, 28, 29, 30, 31, 32, 33, 34, 9, 10, 11, 12] a0 a
  bel : Below (nn) V u
  sz : nn ≤ u.heap.size
  x0 : q7 < nn
  x1 : q8 < nn
  x2 : w.heap.size + 2 ≤ nn
  h0 : Held w.heap.size [.int .i64 (X 0), .int .i64 (X 1), .int .i64 (X 2), .int .i64 (X 3), .int .i64 (X 4), .int .i64 (X 5), .int .i64 (X 6), .int .i64 (X 7), .int .i64 (X 8)] u
  h1 : Held (w.heap.size + 1) [.int .i64 (Y 0), .int .i64 (Y 1), .int .i64 (Y 2), .int .i64 (Y 3), .int .i64 (Y 4), .int .i64 (Y 5), .int .i64 (Y 6), .int .i64 (Y 7), .int .i64 (Y 8)] u
  h2 : Held q7 [.int .i64 (X 0), .int .i64 (X 1), .int .i64 (X 2), .int .i64 (X 3), .int .i64 (X 4), .int .i64 (X 5), .int .i64 (X 6), .int .i64 (X 7), .int .i64 (X 8)] u
  h3 : Held q8 [.int .i64 (Y 0), .int .i64 (Y 1), .int .i64 (Y 2), .int .i64 (Y 3), .int .i64 (Y 4), .int .i64 (Y 5), .int .i64 (Y 6), .int .i64 (Y 7), .int .i64 (Y 8)] u
  s0 : b 0 = true → a.tmps.getD 20 undef = .agg #[.int .i64 (X 0), .int .i64 (X 1), .int .i64 (X 2), .int .i64 (X 3), .int .i64 (X 4), .int .i64 (X 5), .int .i64 (X 6), .int .i64 (X 7), .int .i64 (X 8)]
  s1 : b 1 = true → a.tmps.getD 21 undef = .agg #[.int .i64 (Y 0), .int .i64 (Y 1), .int .i64 (Y 2), .int .i64 (Y 3), .int .i64 (Y 4), .int .i64 (Y 5), .int .i64 (Y 6), .int .i64 (Y 7), .int .i64 (Y 8)]
  s2 : b 2 = true → a.tmps.getD 22 undef = .agg #[.int .i64 ((asm X Y) 0), .int .i64 ((asm X Y) 1), .int .i64 ((asm X Y) 2), .int .i64 ((asm X Y) 3), .int .i64 ((asm X Y) 4), .int .i64 ((asm X Y) 5), .int .i64 ((asm X Y) 6), .int .i64 ((asm X Y) 7), .int .i64 ((asm X Y) 8)]
  s3 : b 3 = true → a.tmps.getD 23 undef = .agg #[.int .i64 ((asm X Y) 0), .int .i64 ((asm X Y) 1), .int .i64 ((asm X Y) 2), .int .i64 ((asm X Y) 3), .int .i64 ((asm X Y) 4), .int .i64 ((asm X Y) 5), .int .i64 ((asm X Y) 6), .int .i64 ((asm X Y) 7), .int .i64 ((asm X Y) 8)]
  s4 : b 4 = true → a.tmps.getD 24 undef = .agg #[.int .i64 (X 0), .int .i64 (X 1), .int .i64 (X 2), .int .i64 (X 3), .int .i64 (X 4), .int .i64 (X 5), .int .i64 (X 6), .int .i64 (X 7), .int .i64 (X 8)]
  s5 : b 5 = true → a.tmps.getD 25 undef = .agg #[.int .i64 (Y 0), .int .i64 (Y 1), .int .i64 (Y 2), .int .i64 (Y 3), .int .i64 (Y 4), .int .i64 (Y 5), .int .i64 (Y 6), .int .i64 (Y 7), .int .i64 (Y 8)]
  s6 : b 6 = true → a.tmps.getD 26 undef = .agg #[.int .i64 ((dsm X Y) 0), .int .i64 ((dsm X Y) 1), .int .i64 ((dsm X Y) 2), .int .i64 ((dsm X Y) 3), .int .i64 ((dsm X Y) 4), .int .i64 ((dsm X Y) 5), .int .i64 ((dsm X Y) 6), .int .i64 ((dsm X Y) 7), .int .i64 ((dsm X Y) 8)]
  s7 : b 7 = true → a.tmps.getD 27 undef = .agg #[.int .i64 ((dsm X Y) 0), .int .i64 ((dsm X Y) 1), .int .i64 ((dsm X Y) 2), .int .i64 ((dsm X Y) 3), .int .i64 ((dsm X Y) 4), .int .i64 ((dsm X Y) 5), .int .i64 ((dsm X Y) 6), .int .i64 ((dsm X Y) 7), .int .i64 ((dsm X Y) 8)]
  s8 : b 8 = true → a.tmps.getD 28 undef = .agg #[.int .i64 (X 0), .int .i64 (X 1), .int .i64 (X 2), .int .i64 (X 3), .int .i64 (X 4), .int .i64 (X 5), .int .i64 (X 6), .int .i64 (X 7), .int .i64 (X 8)]
  s9 : b 9 = true → a.tmps.getD 29 undef = .int .i64 n
  s10 : b 10 = true → a.tmps.getD 30 undef = .agg #[.int .i64 ((scl X n) 0), .int .i64 ((scl X n) 1), .int .i64 ((scl X n) 2), .int .i64 ((scl X n) 3), .int .i64 ((scl X n) 4), .int .i64 ((scl X n) 5), .int .i64 ((scl X n) 6), .int .i64 ((scl X n) 7), .int .i64 ((scl X n) 8)]
  s11 : b 11 = true → a.tmps.getD 31 undef = .agg #[.int .i64 ((scl X n) 0), .int .i64 ((scl X n) 1), .int .i64 ((scl X n) 2), .int .i64 ((scl X n) 3), .int .i64 ((scl X n) 4), .int .i64 ((scl X n) 5), .int .i64 ((scl X n) 6), .int .i64 ((scl X n) 7), .int .i64 ((scl X n) 8)]
  s12 : b 12 = true → a.tmps.getD 32 undef = .agg #[.int .i64 (X 0), .int .i64 (X 1), .int .i64 (X 2), .int .i64 (X 3), .int .i64 (X 4), .int .i64 (X 5), .int .i64 (X 6), .int .i64 (X 7), .int .i64 (X 8)]
  s13 : b 13 = true → a.tmps.getD 33 undef = .agg #[.int .i64 ((trp X) 0), .int .i64 ((trp X) 1), .int .i64 ((trp X) 2), .int .i64 ((trp X) 3), .int .i64 ((trp X) 4), .int .i64 ((trp X) 5), .int .i64 ((trp X) 6), .int .i64 ((trp X) 7), .int .i64 ((trp X) 8)]
  s14 : b 14 = true → a.tmps.getD 34 undef = .agg #[.int .i64 ((trp X) 0), .int .i64 ((trp X) 1), .int .i64 ((trp X) 2), .int .i64 ((trp X) 3), .int .i64 ((trp X) 4), .int .i64 ((trp X) 5), .int .i64 ((trp X) 6), .int .i64 ((trp X) 7), .int .i64 ((trp X) 8)]
  s15 : b 15 = true → a.tmps.getD 9 undef = .pointer (some ⟨q9, 0, none⟩) ∧ nn ≤ q9 ∧ ∃ cs : List Value, cs.length = 9 ∧ Held q9 cs u ∧ (b 19 = true → cs = [.int .i64 ((asm X Y) 0), .int .i64 ((asm X Y) 1), .int .i64 ((asm X Y) 2), .int .i64 ((asm X Y) 3), .int .i64 ((asm X Y) 4), .int .i64 ((asm X Y) 5), .int .i64 ((asm X Y) 6), .int .i64 ((asm X Y) 7), .int .i64 ((asm X Y) 8)])
  e19 : b 19 = true → b 15 = true
  s16 : b 16 = true → a.tmps.getD 10 undef = .pointer (some ⟨q10, 0, none⟩) ∧ nn ≤ q10 ∧ ∃ cs : List Value, cs.length = 9 ∧ Held q10 cs u ∧ (b 20 = true → cs = [.int .i64 ((dsm X Y) 0), .int .i64 ((dsm X Y) 1), .int .i64 ((dsm X Y) 2), .int .i64 ((dsm X Y) 3), .int .i64 ((dsm X Y) 4), .int .i64 ((dsm X Y) 5), .int .i64 ((dsm X Y) 6), .int .i64 ((dsm X Y) 7), .int .i64 ((dsm X Y) 8)])
  e20 : b 20 = true → b 16 = true
  s17 : b 17 = true → a.tmps.getD 11 undef = .pointer (some ⟨q11, 0, none⟩) ∧ nn ≤ q11 ∧ ∃ cs : List Value, cs.length = 9 ∧ Held q11 cs u ∧ (b 21 = true → cs = [.int .i64 ((scl X n) 0), .int .i64 ((scl X n) 1), .int .i64 ((scl X n) 2), .int .i64 ((scl X n) 3), .int .i64 ((scl X n) 4), .int .i64 ((scl X n) 5), .int .i64 ((scl X n) 6), .int .i64 ((scl X n) 7), .int .i64 ((scl X n) 8)])
  e21 : b 21 = true → b 17 = true
  s18 : b 18 = true → a.tmps.getD 12 undef = .pointer (some ⟨q12, 0, none⟩) ∧ nn ≤ q12 ∧ ∃ cs : List Value, cs.length = 9 ∧ Held q12 cs u ∧ (b 22 = true → cs = [.int .i64 ((trp X) 0), .int .i64 ((trp X) 1), .int .i64 ((trp X) 2), .int .i64 ((trp X) 3), .int .i64 ((trp X) 4), .int .i64 ((trp X) 5), .int .i64 ((trp X) 6), .int .i64 ((trp X) 7), .int .i64 ((trp X) 8)])
  e22 : b 22 = true → b 18 = true
  n1_0 : b 16 = true → b 15 = true → q10 ≠ q9
  n2_0 : b 17 = true → b 15 = true → q11 ≠ q9
  n2_1 : b 17 = true → b 16 = true → q11 ≠ q10
  n3_0 : b 18 = true → b 15 = true → q12 ≠ q9
  n3_1 : b 18 = true → b 16 = true → q12 ≠ q10
  n3_2 : b 18 = true → b 17 = true → q12 ≠ q11
set_option maxRecDepth 100000 in
set_option maxHeartbeats 4000000 in
theorem MvI.next0 {X Y : Nat → Int} {n : Int} {nn q7 q8 : Nat} {w V : World} {a0 : Act} {b : Nat → Bool} {q9 q10 q11 q12 : Nat} {a : Act} {u : World} (I : MvI X Y n nn q7 q8 w V a0 b q9 q10 q11 q12 a u) (hn : 20 < a0.tmps.size) {u' : World} (hu : Below u.heap.size u u') : MvI X Y n nn q7 q8 w V a0 (fun x => x == 0 || b x) q9 q10 q11 q12 (a.put (some 20) (.agg #[.int .i64 (X 0), .int .i64 (X 1), .int .i64 (X 2), .int .i64 (X 3), .int .i64 (X 4), .int .i64 (X 5), .int .i64 (X 6), .int .i64 (X 7), .int .i64 (X 8)])) u' :=
  ⟨I.sk.put (by decide) _,
    I.bel.trans (hu.mono I.sz),
    Nat.le_trans I.sz hu.size,
    I.x0,
    I.x1,
    I.x2,
    I.h0.bel hu,
    I.h1.bel hu,
    I.h2.bel hu,
    I.h3.bel hu,
    fun _ => put_same _ (by rw [I.sk.size]; exact hn),
    fun h => (put_other _ (by decide)).trans (I.s1 (by simpa using h)),
    fun h => (put_other _ (by decide)).trans (I.s2 (by simpa using h)),
    fun h => (put_other _ (by decide)).trans (I.s3 (by simpa using h)),
    fun h => (put_other _ (by decide)).trans (I.s4 (by simpa using h)),
    fun h => (put_other _ (by decide)).trans (I.s5 (by simpa using h)),
    fun h => (put_other _ (by decide)).trans (I.s6 (by simpa using h)),
    fun h => (put_other _ (by decide)).trans (I.s7 (by simpa using h)),
    fun h => (put_other _ (by decide)).trans (I.s8 (by simpa using h)),
    fun h => (put_other _ (by decide)).trans (I.s9 (by simpa using h)),
    fun h => (put_other _ (by decide)).trans (I.s10 (by simpa using h)),
    fun h => (put_other _ (by decide)).trans (I.s11 (by simpa using h)),
    fun h => (put_other _ (by decide)).trans (I.s12 (by simpa using h)),
    fun h => (put_other _ (by decide)).trans (I.s13 (by simpa using h)),
    fun h => (put_other _ (by decide)).trans (I.s14 (by simpa using h)),
    fun h => by obtain ⟨p1, p2, cs, p3, p4, p5⟩ := I.s15 (by simpa using h); exact ⟨(put_other _ (by decide)).trans p1, p2, cs, p3, p4.bel hu, fun h2 => p5 (by simpa using h2)⟩,
    fun h => by have h2 := I.e19 (by simpa using h); simp [h2],
    fun h => by obtain ⟨p1, p2, cs, p3, p4, p5⟩ := I.s16 (by simpa using h); exact ⟨(put_other _ (by decide)).trans p1, p2, cs, p3, p4.bel hu, fun h2 => p5 (by simpa using h2)⟩,
    fun h => by have h2 := I.e20 (by simpa using h); simp [h2],
    fun h => by obtain ⟨p1, p2, cs, p3, p4, p5⟩ := I.s17 (by simpa using h); exact ⟨(put_other _ (by decide)).trans p1, p2, cs, p3, p4.bel hu, fun h2 => p5 (by simpa using h2)⟩,
    fun h => by have h2 := I.e21 (by simpa using h); simp [h2],
    fun h => by obtain ⟨p1, p2, cs, p3, p4, p5⟩ := I.s18 (by simpa using h); exact ⟨(put_other _ (by decide)).trans p1, p2, cs, p3, p4.bel hu, fun h2 => p5 (by simpa using h2)⟩,
    fun h => by have h2 := I.e22 (by simpa using h); simp [h2],
    fun h h2 => I.n1_0 (by simpa using h) (by simpa using h2),
    fun h h2 => I.n2_0 (by simpa using h) (by simpa using h2),
    fun h h2 => I.n2_1 (by simpa using h) (by simpa using h2),
    fun h h2 => I.n3_0 (by simpa using h) (by simpa using h2),
    fun h h2 => I.n3_1 (by simpa using h) (by simpa using h2),
    fun h h2 => I.n3_2 (by simpa using h) (by simpa using h2)⟩
set_option maxRecDepth 100000 in
set_option maxHeartbeats 4000000 in
theorem MvI.next1 {X Y : Nat → Int} {n : Int} {nn q7 q8 : Nat} {w V : World} {a0 : Act} {b : Nat → Bool} {q9 q10 q11 q12 : Nat} {a : Act} {u : World} (I : MvI X Y n nn q7 q8 w V a0 b q9 q10 q11 q12 a u) (hn : 21 < a0.tmps.size) {u' : World} (hu : Below u.heap.size u u') : MvI X Y n nn q7 q8 w V a0 (fun x => x == 1 || b x) q9 q10 q11 q12 (a.put (some 21) (.agg #[.int .i64 (Y 0), .int .i64 (Y 1), .int .i64 (Y 2), .int .i64 (Y 3), .int .i64 (Y 4), .int .i64 (Y 5), .int .i64 (Y 6), .int .i64 (Y 7), .int .i64 (Y 8)])) u' :=
  ⟨I.sk.put (by decide) _,
    I.bel.trans (hu.mono I.sz),
    Nat.le_trans I.sz hu.size,
    I.x0,
    I.x1,
    I.x2,
    I.h0.bel hu,
    I.h1.bel hu,
    I.h2.bel hu,
    I.h3.bel hu,
    fun h => (put_other _ (by decide)).trans (I.s0 (by simpa using h)),
    fun _ => put_same _ (by rw [I.sk.size]; exact hn),
    fun h => (put_other _ (by decide)).trans (I.s2 (by simpa using h)),
    fun h => (put_other _ (by decide)).trans (I.s3 (by simpa using h)),
    fun h => (put_other _ (by decide)).trans (I.s4 (by simpa using h)),
    fun h => (put_other _ (by decide)).trans (I.s5 (by simpa using h)),
    fun h => (put_other _ (by decide)).trans (I.s6 (by simpa using h)),
    fun h => (put_other _ (by decide)).trans (I.s7 (by simpa using h)),
    fun h => (put_other _ (by decide)).trans (I.s8 (by simpa using h)),
    fun h => (put_other _ (by decide)).trans (I.s9 (by simpa using h)),
    fun h => (put_other _ (by decide)).trans (I.s10 (by simpa using h)),
    fun h => (put_other _ (by decide)).trans (I.s11 (by simpa using h)),
    fun h => (put_other _ (by decide)).trans (I.s12 (by simpa using h)),
    fun h => (put_other _ (by decide)).trans (I.s13 (by simpa using h)),
    fun h => (put_other _ (by decide)).trans (I.s14 (by simpa using h)),
    fun h => by obtain ⟨p1, p2, cs, p3, p4, p5⟩ := I.s15 (by simpa using h); exact ⟨(put_other _ (by decide)).trans p1, p2, cs, p3, p4.bel hu, fun h2 => p5 (by simpa using h2)⟩,
    fun h => by have h2 := I.e19 (by simpa using h); simp [h2],
    fun h => by obtain ⟨p1, p2, cs, p3, p4, p5⟩ := I.s16 (by simpa using h); exact ⟨(put_other _ (by decide)).trans p1, p2, cs, p3, p4.bel hu, fun h2 => p5 (by simpa using h2)⟩,
    fun h => by have h2 := I.e20 (by simpa using h); simp [h2],
    fun h => by obtain ⟨p1, p2, cs, p3, p4, p5⟩ := I.s17 (by simpa using h); exact ⟨(put_other _ (by decide)).trans p1, p2, cs, p3, p4.bel hu, fun h2 => p5 (by simpa using h2)⟩,
    fun h => by have h2 := I.e21 (by simpa using h); simp [h2],
    fun h => by obtain ⟨p1, p2, cs, p3, p4, p5⟩ := I.s18 (by simpa using h); exact ⟨(put_other _ (by decide)).trans p1, p2, cs, p3, p4.bel hu, fun h2 => p5 (by simpa using h2)⟩,
    fun h => by have h2 := I.e22 (by simpa using h); simp [h2],
    fun h h2 => I.n1_0 (by simpa using h) (by simpa using h2),
    fun h h2 => I.n2_0 (by simpa using h) (by simpa using h2),
    fun h h2 => I.n2_1 (by simpa using h) (by simpa using h2),
    fun h h2 => I.n3_0 (by simpa using h) (by simpa using h2),
    fun h h2 => I.n3_1 (by simpa using h) (by simpa using h2),
    fun h h2 => I.n3_2 (by simpa using h) (by simpa using h2)⟩
set_option maxRecDepth 100000 in
set_option maxHeartbeats 4000000 in
theorem MvI.next2 {X Y : Nat → Int} {n : Int} {nn q7 q8 : Nat} {w V : World} {a0 : Act} {b : Nat → Bool} {q9 q10 q11 q12 : Nat} {a : Act} {u : World} (I : MvI X Y n nn q7 q8 w V a0 b q9 q10 q11 q12 a u) (hn : 22 < a0.tmps.size) {u' : World} (hu : Below u.heap.size u u') : MvI X Y n nn q7 q8 w V a0 (fun x => x == 2 || b x) q9 q10 q11 q12 (a.put (some 22) (.agg #[.int .i64 ((asm X Y) 0), .int .i64 ((asm X Y) 1), .int .i64 ((asm X Y) 2), .int .i64 ((asm X Y) 3), .int .i64 ((asm X Y) 4), .int .i64 ((asm X Y) 5), .int .i64 ((asm X Y) 6), .int .i64 ((asm X Y) 7), .int .i64 ((asm X Y) 8)])) u' :=
  ⟨I.sk.put (by decide) _,
    I.bel.trans (hu.mono I.sz),
    Nat.le_trans I.sz hu.size,
    I.x0,
    I.x1,
    I.x2,
    I.h0.bel hu,
    I.h1.bel hu,
    I.h2.bel hu,
    I.h3.bel hu,
    fun h => (put_other _ (by decide)).trans (I.s0 (by simpa using h)),
    fun h => (put_other _ (by decide)).trans (I.s1 (by simpa using h)),
    fun _ => put_same _ (by rw [I.sk.size]; exact hn),
    fun h => (put_other _ (by decide)).trans (I.s3 (by simpa using h)),
    fun h => (put_other _ (by decide)).trans (I.s4 (by simpa using h)),
    fun h => (put_other _ (by decide)).trans (I.s5 (by simpa using h)),
    fun h => (put_other _ (by decide)).trans (I.s6 (by simpa using h)),
    fun h => (put_other _ (by decide)).trans (I.s7 (by simpa using h)),
    fun h => (put_other _ (by decide)).trans (I.s8 (by simpa using h)),
    fun h => (put_other _ (by decide)).trans (I.s9 (by simpa using h)),
    fun h => (put_other _ (by decide)).trans (I.s10 (by simpa using h)),
    fun h => (put_other _ (by decide)).trans (I.s11 (by simpa using h)),
    fun h => (put_other _ (by decide)).trans (I.s12 (by simpa using h)),
    fun h => (put_other _ (by decide)).trans (I.s13 (by simpa using h)),
    fun h => (put_other _ (by decide)).trans (I.s14 (by simpa using h)),
    fun h => by obtain ⟨p1, p2, cs, p3, p4, p5⟩ := I.s15 (by simpa using h); exact ⟨(put_other _ (by decide)).trans p1, p2, cs, p3, p4.bel hu, fun h2 => p5 (by simpa using h2)⟩,
    fun h => by have h2 := I.e19 (by simpa using h); simp [h2],
    fun h => by obtain ⟨p1, p2, cs, p3, p4, p5⟩ := I.s16 (by simpa using h); exact ⟨(put_other _ (by decide)).trans p1, p2, cs, p3, p4.bel hu, fun h2 => p5 (by simpa using h2)⟩,
    fun h => by have h2 := I.e20 (by simpa using h); simp [h2],
    fun h => by obtain ⟨p1, p2, cs, p3, p4, p5⟩ := I.s17 (by simpa using h); exact ⟨(put_other _ (by decide)).trans p1, p2, cs, p3, p4.bel hu, fun h2 => p5 (by simpa using h2)⟩,
    fun h => by have h2 := I.e21 (by simpa using h); simp [h2],
    fun h => by obtain ⟨p1, p2, cs, p3, p4, p5⟩ := I.s18 (by simpa using h); exact ⟨(put_other _ (by decide)).trans p1, p2, cs, p3, p4.bel hu, fun h2 => p5 (by simpa using h2)⟩,
    fun h => by have h2 := I.e22 (by simpa using h); simp [h2],
    fun h h2 => I.n1_0 (by simpa using h) (by simpa using h2),
    fun h h2 => I.n2_0 (by simpa using h) (by simpa using h2),
    fun h h2 => I.n2_1 (by simpa using h) (by simpa using h2),
    fun h h2 => I.n3_0 (by simpa using h) (by simpa using h2),
    fun h h2 => I.n3_1 (by simpa using h) (by simpa using h2),
    fun h h2 => I.n3_2 (by simpa using h) (by simpa using h2)⟩
set_option maxRecDepth 100000 in
set_option maxHeartbeats 4000000 in
theorem MvI.next3 {X Y : Nat → Int} {n : Int} {nn q7 q8 : Nat} {w V : World} {a0 : Act} {b : Nat → Bool} {q9 q10 q11 q12 : Nat} {a : Act} {u : World} (I : MvI X Y n nn q7 q8 w V a0 b q9 q10 q11 q12 a u) (hn : 23 < a0.tmps.size) {u' : World} (hu : Below u.heap.size u u') : MvI X Y n nn q7 q8 w V a0 (fun x => x == 3 || b x) q9 q10 q11 q12 (a.put (some 23) (.agg #[.int .i64 ((asm X Y) 0), .int .i64 ((asm X Y) 1), .int .i64 ((asm X Y) 2), .int .i64 ((asm X Y) 3), .int .i64 ((asm X Y) 4), .int .i64 ((asm X Y) 5), .int .i64 ((asm X Y) 6), .int .i64 ((asm X Y) 7), .int .i64 ((asm X Y) 8)])) u' :=
  ⟨I.sk.put (by decide) _,
    I.bel.trans (hu.mono I.sz),
    Nat.le_trans I.sz hu.size,
    I.x0,
    I.x1,
    I.x2,
    I.h0.bel hu,
    I.h1.bel hu,
    I.h2.bel hu,
    I.h3.bel hu,
    fun h => (put_other _ (by decide)).trans (I.s0 (by simpa using h)),
    fun h => (put_other _ (by decide)).trans (I.s1 (by simpa using h)),
    fun h => (put_other _ (by decide)).trans (I.s2 (by simpa using h)),
    fun _ => put_same _ (by rw [I.sk.size]; exact hn),
    fun h => (put_other _ (by decide)).trans (I.s4 (by simpa using h)),
    fun h => (put_other _ (by decide)).trans (I.s5 (by simpa using h)),
    fun h => (put_other _ (by decide)).trans (I.s6 (by simpa using h)),
    fun h => (put_other _ (by decide)).trans (I.s7 (by simpa using h)),
    fun h => (put_other _ (by decide)).trans (I.s8 (by simpa using h)),
    fun h => (put_other _ (by decide)).trans (I.s9 (by simpa using h)),
    fun h => (put_other _ (by decide)).trans (I.s10 (by simpa using h)),
    fun h => (put_other _ (by decide)).trans (I.s11 (by simpa using h)),
    fun h => (put_other _ (by decide)).trans (I.s12 (by simpa using h)),
    fun h => (put_other _ (by decide)).trans (I.s13 (by simpa using h)),
    fun h => (put_other _ (by decide)).trans (I.s14 (by simpa using h)),
    fun h => by obtain ⟨p1, p2, cs, p3, p4, p5⟩ := I.s15 (by simpa using h); exact ⟨(put_other _ (by decide)).trans p1, p2, cs, p3, p4.bel hu, fun h2 => p5 (by simpa using h2)⟩,
    fun h => by have h2 := I.e19 (by simpa using h); simp [h2],
    fun h => by obtain ⟨p1, p2, cs, p3, p4, p5⟩ := I.s16 (by simpa using h); exact ⟨(put_other _ (by decide)).trans p1, p2, cs, p3, p4.bel hu, fun h2 => p5 (by simpa using h2)⟩,
    fun h => by have h2 := I.e20 (by simpa using h); simp [h2],
    fun h => by obtain ⟨p1, p2, cs, p3, p4, p5⟩ := I.s17 (by simpa using h); exact ⟨(put_other _ (by decide)).trans p1, p2, cs, p3, p4.bel hu, fun h2 => p5 (by simpa using h2)⟩,
    fun h => by have h2 := I.e21 (by simpa using h); simp [h2],
    fun h => by obtain ⟨p1, p2, cs, p3, p4, p5⟩ := I.s18 (by simpa using h); exact ⟨(put_other _ (by decide)).trans p1, p2, cs, p3, p4.bel hu, fun h2 => p5 (by simpa using h2)⟩,
    fun h => by have h2 := I.e22 (by simpa using h); simp [h2],
    fun h h2 => I.n1_0 (by simpa using h) (by simpa using h2),
    fun h h2 => I.n2_0 (by simpa using h) (by simpa using h2),
    fun h h2 => I.n2_1 (by simpa using h) (by simpa using h2),
    fun h h2 => I.n3_0 (by simpa using h) (by simpa using h2),
    fun h h2 => I.n3_1 (by simpa using h) (by simpa using h2),
    fun h h2 => I.n3_2 (by simpa using h) (by simpa using h2)⟩
set_option maxRecDepth 100000 in
set_option maxHeartbeats 4000000 in
theorem MvI.next4 {X Y : Nat → Int} {n : Int} {nn q7 q8 : Nat} {w V : World} {a0 : Act} {b : Nat → Bool} {q9 q10 q11 q12 : Nat} {a : Act} {u : World} (I : MvI X Y n nn q7 q8 w V a0 b q9 q10 q11 q12 a u) (hn : 24 < a0.tmps.size) {u' : World} (hu : Below u.heap.size u u') : MvI X Y n nn q7 q8 w V a0 (fun x => x == 4 || b x) q9 q10 q11 q12 (a.put (some 24) (.agg #[.int .i64 (X 0), .int .i64 (X 1), .int .i64 (X 2), .int .i64 (X 3), .int .i64 (X 4), .int .i64 (X 5), .int .i64 (X 6), .int .i64 (X 7), .int .i64 (X 8)])) u' :=
  ⟨I.sk.put (by decide) _,
    I.bel.trans (hu.mono I.sz),
    Nat.le_trans I.sz hu.size,
    I.x0,
    I.x1,
    I.x2,
    I.h0.bel hu,
    I.h1.bel hu,
    I.h2.bel hu,
    I.h3.bel hu,
    fun h => (put_other _ (by decide)).trans (I.s0 (by simpa using h)),
    fun h => (put_other _ (by decide)).trans (I.s1 (by simpa using h)),
    fun h => (put_other _ (by decide)).trans (I.s2 (by simpa using h)),
    fun h => (put_other _ (by decide)).trans (I.s3 (by simpa using h)),
    fun _ => put_same _ (by rw [I.sk.size]; exact hn),
    fun h => (put_other _ (by decide)).trans (I.s5 (by simpa using h)),
    fun h => (put_other _ (by decide)).trans (I.s6 (by simpa using h)),
    fun h => (put_other _ (by decide)).trans (I.s7 (by simpa using h)),
    fun h => (put_other _ (by decide)).trans (I.s8 (by simpa using h)),
    fun h => (put_other _ (by decide)).trans (I.s9 (by simpa using h)),
    fun h => (put_other _ (by decide)).trans (I.s10 (by simpa using h)),
    fun h => (put_other _ (by decide)).trans (I.s11 (by simpa using h)),
    fun h => (put_other _ (by decide)).trans (I.s12 (by simpa using h)),
    fun h => (put_other _ (by decide)).trans (I.s13 (by simpa using h)),
    fun h => (put_other _ (by decide)).trans (I.s14 (by simpa using h)),
    fun h => by obtain ⟨p1, p2, cs, p3, p4, p5⟩ := I.s15 (by simpa using h); exact ⟨(put_other _ (by decide)).trans p1, p2, cs, p3, p4.bel hu, fun h2 => p5 (by simpa using h2)⟩,
    fun h => by have h2 := I.e19 (by simpa using h); simp [h2],
    fun h => by obtain ⟨p1, p2, cs, p3, p4, p5⟩ := I.s16 (by simpa using h); exact ⟨(put_other _ (by decide)).trans p1, p2, cs, p3, p4.bel hu, fun h2 => p5 (by simpa using h2)⟩,
    fun h => by have h2 := I.e20 (by simpa using h); simp [h2],
    fun h => by obtain ⟨p1, p2, cs, p3, p4, p5⟩ := I.s17 (by simpa using h); exact ⟨(put_other _ (by decide)).trans p1, p2, cs, p3, p4.bel hu, fun h2 => p5 (by simpa using h2)⟩,
    fun h => by have h2 := I.e21 (by simpa using h); simp [h2],
    fun h => by obtain ⟨p1, p2, cs, p3, p4, p5⟩ := I.s18 (by simpa using h); exact ⟨(put_other _ (by decide)).trans p1, p2, cs, p3, p4.bel hu, fun h2 => p5 (by simpa using h2)⟩,
    fun h => by have h2 := I.e22 (by simpa using h); simp [h2],
    fun h h2 => I.n1_0 (by simpa using h) (by simpa using h2),
    fun h h2 => I.n2_0 (by simpa using h) (by simpa using h2),
    fun h h2 => I.n2_1 (by simpa using h) (by simpa using h2),
    fun h h2 => I.n3_0 (by simpa using h) (by simpa using h2),
    fun h h2 => I.n3_1 (by simpa using h) (by simpa using h2),
    fun h h2 => I.n3_2 (by simpa using h) (by simpa using h2)⟩
set_option maxRecDepth 100000 in
set_option maxHeartbeats 4000000 in
theorem MvI.next5 {X Y : Nat → Int} {n : Int} {nn q7 q8 : Nat} {w V : World} {a0 : Act} {b : Nat → Bool} {q9 q10 q11 q12 : Nat} {a : Act} {u : World} (I : MvI X Y n nn q7 q8 w V a0 b q9 q10 q11 q12 a u) (hn : 25 < a0.tmps.size) {u' : World} (hu : Below u.heap.size u u') : MvI X Y n nn q7 q8 w V a0 (fun x => x == 5 || b x) q9 q10 q11 q12 (a.put (some 25) (.agg #[.int .i64 (Y 0), .int .i64 (Y 1), .int .i64 (Y 2), .int .i64 (Y 3), .int .i64 (Y 4), .int .i64 (Y 5), .int .i64 (Y 6), .int .i64 (Y 7), .int .i64 (Y 8)])) u' :=
  ⟨I.sk.put (by decide) _,
    I.bel.trans (hu.mono I.sz),
    Nat.le_trans I.sz hu.size,
    I.x0,
    I.x1,
    I.x2,
    I.h0.bel hu,
    I.h1.bel hu,
    I.h2.bel hu,
    I.h3.bel hu,
    fun h => (put_other _ (by decide)).trans (I.s0 (by simpa using h)),
    fun h => (put_other _ (by decide)).trans (I.s1 (by simpa using h)),
    fun h => (put_other _ (by decide)).trans (I.s2 (by simpa using h)),
    fun h => (put_other _ (by decide)).trans (I.s3 (by simpa using h)),
    fun h => (put_other _ (by decide)).trans (I.s4 (by simpa using h)),
    fun _ => put_same _ (by rw [I.sk.size]; exact hn),
    fun h => (put_other _ (by decide)).trans (I.s6 (by simpa using h)),
    fun h => (put_other _ (by decide)).trans (I.s7 (by simpa using h)),
    fun h => (put_other _ (by decide)).trans (I.s8 (by simpa using h)),
    fun h => (put_other _ (by decide)).trans (I.s9 (by simpa using h)),
    fun h => (put_other _ (by decide)).trans (I.s10 (by simpa using h)),
    fun h => (put_other _ (by decide)).trans (I.s11 (by simpa using h)),
    fun h => (put_other _ (by decide)).trans (I.s12 (by simpa using h)),
    fun h => (put_other _ (by decide)).trans (I.s13 (by simpa using h)),
    fun h => (put_other _ (by decide)).trans (I.s14 (by simpa using h)),
    fun h => by obtain ⟨p1, p2, cs, p3, p4, p5⟩ := I.s15 (by simpa using h); exact ⟨(put_other _ (by decide)).trans p1, p2, cs, p3, p4.bel hu, fun h2 => p5 (by simpa using h2)⟩,
    fun h => by have h2 := I.e19 (by simpa using h); simp [h2],
    fun h => by obtain ⟨p1, p2, cs, p3, p4, p5⟩ := I.s16 (by simpa using h); exact ⟨(put_other _ (by decide)).trans p1, p2, cs, p3, p4.bel hu, fun h2 => p5 (by simpa using h2)⟩,
    fun h => by have h2 := I.e20 (by simpa using h); simp [h2],
    fun h => by obtain ⟨p1, p2, cs, p3, p4, p5⟩ := I.s17 (by simpa using h); exact ⟨(put_other _ (by decide)).trans p1, p2, cs, p3, p4.bel hu, fun h2 => p5 (by simpa using h2)⟩,
    fun h => by have h2 := I.e21 (by simpa using h); simp [h2],
    fun h => by obtain ⟨p1, p2, cs, p3, p4, p5⟩ := I.s18 (by simpa using h); exact ⟨(put_other _ (by decide)).trans p1, p2, cs, p3, p4.bel hu, fun h2 => p5 (by simpa using h2)⟩,
    fun h => by have h2 := I.e22 (by simpa using h); simp [h2],
    fun h h2 => I.n1_0 (by simpa using h) (by simpa using h2),
    fun h h2 => I.n2_0 (by simpa using h) (by simpa using h2),
    fun h h2 => I.n2_1 (by simpa using h) (by simpa using h2),
    fun h h2 => I.n3_0 (by simpa using h) (by simpa using h2),
    fun h h2 => I.n3_1 (by simpa using h) (by simpa using h2),
    fun h h2 => I.n3_2 (by simpa using h) (by simpa using h2)⟩
set_option maxRecDepth 100000 in
set_option maxHeartbeats 4000000 in
theorem MvI.next6 {X Y : Nat → Int} {n : Int} {nn q7 q8 : Nat} {w V : World} {a0 : Act} {b : Nat → Bool} {q9 q10 q11 q12 : Nat} {a : Act} {u : World} (I : MvI X Y n nn q7 q8 w V a0 b q9 q10 q11 q12 a u) (hn : 26 < a0.tmps.size) {u' : World} (hu : Below u.heap.size u u') : MvI X Y n nn q7 q8 w V a0 (fun x => x == 6 || b x) q9 q10 q11 q12 (a.put (some 26) (.agg #[.int .i64 ((dsm X Y) 0), .int .i64 ((dsm X Y) 1), .int .i64 ((dsm X Y) 2), .int .i64 ((dsm X Y) 3), .int .i64 ((dsm X Y) 4), .int .i64 ((dsm X Y) 5), .int .i64 ((dsm X Y) 6), .int .i64 ((dsm X Y) 7), .int .i64 ((dsm X Y) 8)])) u' :=
  ⟨I.sk.put (by decide) _,
    I.bel.trans (hu.mono I.sz),
    Nat.le_trans I.sz hu.size,
    I.x0,
    I.x1,
    I.x2,
    I.h0.bel hu,
    I.h1.bel hu,
    I.h2.bel hu,
    I.h3.bel hu,
    fun h => (put_other _ (by decide)).trans (I.s0 (by simpa using h)),
    fun h => (put_other _ (by decide)).trans (I.s1 (by simpa using h)),
    fun h => (put_other _ (by decide)).trans (I.s2 (by simpa using h)),
    fun h => (put_other _ (by decide)).trans (I.s3 (by simpa using h)),
    fun h => (put_other _ (by decide)).trans (I.s4 (by simpa using h)),
    fun h => (put_other _ (by decide)).trans (I.s5 (by simpa using h)),
    fun _ => put_same _ (by rw [I.sk.size]; exact hn),
    fun h => (put_other _ (by decide)).trans (I.s7 (by simpa using h)),
    fun h => (put_other _ (by decide)).trans (I.s8 (by simpa using h)),
    fun h => (put_other _ (by decide)).trans (I.s9 (by simpa using h)),
    fun h => (put_other _ (by decide)).trans (I.s10 (by simpa using h)),
    fun h => (put_other _ (by decide)).trans (I.s11 (by simpa using h)),
    fun h => (put_other _ (by decide)).trans (I.s12 (by simpa using h)),
    fun h => (put_other _ (by decide)).trans (I.s13 (by simpa using h)),
    fun h => (put_other _ (by decide)).trans (I.s14 (by simpa using h)),
    fun h => by obtain ⟨p1, p2, cs, p3, p4, p5⟩ := I.s15 (by simpa using h); exact ⟨(put_other _ (by decide)).trans p1, p2, cs, p3, p4.bel hu, fun h2 => p5 (by simpa using h2)⟩,
    fun h => by have h2 := I.e19 (by simpa using h); simp [h2],
    fun h => by obtain ⟨p1, p2, cs, p3, p4, p5⟩ := I.s16 (by simpa using h); exact ⟨(put_other _ (by decide)).trans p1, p2, cs, p3, p4.bel hu, fun h2 => p5 (by simpa using h2)⟩,
    fun h => by have h2 := I.e20 (by simpa using h); simp [h2],
    fun h => by obtain ⟨p1, p2, cs, p3, p4, p5⟩ := I.s17 (by simpa using h); exact ⟨(put_other _ (by decide)).trans p1, p2, cs, p3, p4.bel hu, fun h2 => p5 (by simpa using h2)⟩,
    fun h => by have h2 := I.e21 (by simpa using h); simp [h2],
    fun h => by obtain ⟨p1, p2, cs, p3, p4, p5⟩ := I.s18 (by simpa using h); exact ⟨(put_other _ (by decide)).trans p1, p2, cs, p3, p4.bel hu, fun h2 => p5 (by simpa using h2)⟩,
    fun h => by have h2 := I.e22 (by simpa using h); simp [h2],
    fun h h2 => I.n1_0 (by simpa using h) (by simpa using h2),
    fun h h2 => I.n2_0 (by simpa using h) (by simpa using h2),
    fun h h2 => I.n2_1 (by simpa using h) (by simpa using h2),
    fun h h2 => I.n3_0 (by simpa using h) (by simpa using h2),
    fun h h2 => I.n3_1 (by simpa using h) (by simpa using h2),
    fun h h2 => I.n3_2 (by simpa using h) (by simpa using h2)⟩
set_option maxRecDepth 100000 in
set_option maxHeartbeats 4000000 in
theorem MvI.next7 {X Y : Nat → Int} {n : Int} {nn q7 q8 : Nat} {w V : World} {a0 : Act} {b : Nat → Bool} {q9 q10 q11 q12 : Nat} {a : Act} {u : World} (I : MvI X Y n nn q7 q8 w V a0 b q9 q10 q11 q12 a u) (hn : 27 < a0.tmps.size) {u' : World} (hu : Below u.heap.size u u') : MvI X Y n nn q7 q8 w V a0 (fun x => x == 7 || b x) q9 q10 q11 q12 (a.put (some 27) (.agg #[.int .i64 ((dsm X Y) 0), .int .i64 ((dsm X Y) 1), .int .i64 ((dsm X Y) 2), .int .i64 ((dsm X Y) 3), .int .i64 ((dsm X Y) 4), .int .i64 ((dsm X Y) 5), .int .i64 ((dsm X Y) 6), .int .i64 ((dsm X Y) 7), .int .i64 ((dsm X Y) 8)])) u' :=
  ⟨I.sk.put (by decide) _,
    I.bel.trans (hu.mono I.sz),
    Nat.le_trans I.sz hu.size,
    I.x0,
    I.x1,
    I.x2,
    I.h0.bel hu,
    I.h1.bel hu,
    I.h2.bel hu,
    I.h3.bel hu,
    fun h => (put_other _ (by decide)).trans (I.s0 (by simpa using h)),
    fun h => (put_other _ (by decide)).trans (I.s1 (by simpa using h)),
    fun h => (put_other _ (by decide)).trans (I.s2 (by simpa using h)),
    fun h => (put_other _ (by decide)).trans (I.s3 (by simpa using h)),
    fun h => (put_other _ (by decide)).trans (I.s4 (by simpa using h)),
    fun h => (put_other _ (by decide)).trans (I.s5 (by simpa using h)),
    fun h => (put_other _ (by decide)).trans (I.s6 (by simpa using h)),
    fun _ => put_same _ (by rw [I.sk.size]; exact hn),
    fun h => (put_other _ (by decide)).trans (I.s8 (by simpa using h)),
    fun h => (put_other _ (by decide)).trans (I.s9 (by simpa using h)),
    fun h => (put_other _ (by decide)).trans (I.s10 (by simpa using h)),
    fun h => (put_other _ (by decide)).trans (I.s11 (by simpa using h)),
    fun h => (put_other _ (by decide)).trans (I.s12 (by simpa using h)),
    fun h => (put_other _ (by decide)).trans (I.s13 (by simpa using h)),
    fun h => (put_other _ (by decide)).trans (I.s14 (by simpa using h)),
    fun h => by obtain ⟨p1, p2, cs, p3, p4, p5⟩ := I.s15 (by simpa using h); exact ⟨(put_other _ (by decide)).trans p1, p2, cs, p3, p4.bel hu, fun h2 => p5 (by simpa using h2)⟩,
    fun h => by have h2 := I.e19 (by simpa using h); simp [h2],
    fun h => by obtain ⟨p1, p2, cs, p3, p4, p5⟩ := I.s16 (by simpa using h); exact ⟨(put_other _ (by decide)).trans p1, p2, cs, p3, p4.bel hu, fun h2 => p5 (by simpa using h2)⟩,
    fun h => by have h2 := I.e20 (by simpa using h); simp [h2],
    fun h => by obtain ⟨p1, p2, cs, p3, p4, p5⟩ := I.s17 (by simpa using h); exact ⟨(put_other _ (by decide)).trans p1, p2, cs, p3, p4.bel hu, fun h2 => p5 (by simpa using h2)⟩,
    fun h => by have h2 := I.e21 (by simpa using h); simp [h2],
    fun h => by obtain ⟨p1, p2, cs, p3, p4, p5⟩ := I.s18 (by simpa using h); exact ⟨(put_other _ (by decide)).trans p1, p2, cs, p3, p4.bel hu, fun h2 => p5 (by simpa using h2)⟩,
    fun h => by have h2 := I.e22 (by simpa using h); simp [h2],
    fun h h2 => I.n1_0 (by simpa using h) (by simpa using h2),
    fun h h2 => I.n2_0 (by simpa using h) (by simpa using h2),
    fun h h2 => I.n2_1 (by simpa using h) (by simpa using h2),
    fun h h2 => I.n3_0 (by simpa using h) (by simpa using h2),
    fun h h2 => I.n3_1 (by simpa using h) (by simpa using h2),
    fun h h2 => I.n3_2 (by simpa using h) (by simpa using h2)⟩
set_option maxRecDepth 100000 in
set_option maxHeartbeats 4000000 in
theorem MvI.next8 {X Y : Nat → Int} {n : Int} {nn q7 q8 : Nat} {w V : World} {a0 : Act} {b : Nat → Bool} {q9 q10 q11 q12 : Nat} {a : Act} {u : World} (I : MvI X Y n nn q7 q8 w V a0 b q9 q10 q11 q12 a u) (hn : 28 < a0.tmps.size) {u' : World} (hu : Below u.heap.size u u') : MvI X Y n nn q7 q8 w V a0 (fun x => x == 8 || b x) q9 q10 q11 q12 (a.put (some 28) (.agg #[.int .i64 (X 0), .int .i64 (X 1), .int .i64 (X 2), .int .i64 (X 3), .int .i64 (X 4), .int .i64 (X 5), .int .i64 (X 6), .int .i64 (X 7), .int .i64 (X 8)])) u' :=
  ⟨I.sk.put (by decide) _,
    I.bel.trans (hu.mono I.sz),
    Nat.le_trans I.sz hu.size,
    I.x0,
    I.x1,
    I.x2,
    I.h0.bel hu,
    I.h1.bel hu,
    I.h2.bel hu,
    I.h3.bel hu,
    fun h => (put_other _ (by decide)).trans (I.s0 (by simpa using h)),
    fun h => (put_other _ (by decide)).trans (I.s1 (by simpa using h)),
    fun h => (put_other _ (by decide)).trans (I.s2 (by simpa using h)),
    fun h => (put_other _ (by decide)).trans (I.s3 (by simpa using h)),
    fun h => (put_other _ (by decide)).trans (I.s4 (by simpa using h)),
    fun h => (put_other _ (by decide)).trans (I.s5 (by simpa using h)),
    fun h => (put_other _ (by decide)).trans (I.s6 (by simpa using h)),
    fun h => (put_other _ (by decide)).trans (I.s7 (by simpa using h)),
    fun _ => put_same _ (by rw [I.sk.size]; exact hn),
    fun h => (put_other _ (by decide)).trans (I.s9 (by simpa using h)),
    fun h => (put_other _ (by decide)).trans (I.s10 (by simpa using h)),
    fun h => (put_other _ (by decide)).trans (I.s11 (by simpa using h)),
    fun h => (put_other _ (by decide)).trans (I.s12 (by simpa using h)),
    fun h => (put_other _ (by decide)).trans (I.s13 (by simpa using h)),
    fun h => (put_other _ (by decide)).trans (I.s14 (by simpa using h)),
    fun h => by obtain ⟨p1, p2, cs, p3, p4, p5⟩ := I.s15 (by simpa using h); exact ⟨(put_other _ (by decide)).trans p1, p2, cs, p3, p4.bel hu, fun h2 => p5 (by simpa using h2)⟩,
    fun h => by have h2 := I.e19 (by simpa using h); simp [h2],
    fun h => by obtain ⟨p1, p2, cs, p3, p4, p5⟩ := I.s16 (by simpa using h); exact ⟨(put_other _ (by decide)).trans p1, p2, cs, p3, p4.bel hu, fun h2 => p5 (by simpa using h2)⟩,
    fun h => by have h2 := I.e20 (by simpa using h); simp [h2],
    fun h => by obtain ⟨p1, p2, cs, p3, p4, p5⟩ := I.s17 (by simpa using h); exact ⟨(put_other _ (by decide)).trans p1, p2, cs, p3, p4.bel hu, fun h2 => p5 (by simpa using h2)⟩,
    fun h => by have h2 := I.e21 (by simpa using h); simp [h2],
    fun h => by obtain ⟨p1, p2, cs, p3, p4, p5⟩ := I.s18 (by simpa using h); exact ⟨(put_other _ (by decide)).trans p1, p2, cs, p3, p4.bel hu, fun h2 => p5 (by simpa using h2)⟩,
    fun h => by have h2 := I.e22 (by simpa using h); simp [h2],
    fun h h2 => I.n1_0 (by simpa using h) (by simpa using h2),
    fun h h2 => I.n2_0 (by simpa using h) (by simpa using h2),
    fun h h2 => I.n2_1 (by simpa using h) (by simpa using h2),
    fun h h2 => I.n3_0 (by simpa using h) (by simpa using h2),
    fun h h2 => I.n3_1 (by simpa using h) (by simpa using h2),
    fun h h2 => I.n3_2 (by simpa using h) (by simpa using h2)⟩
set_option maxRecDepth 100000 in
set_option maxHeartbeats 4000000 in
theorem MvI.next9 {X Y : Nat → Int} {n : Int} {nn q7 q8 : Nat} {w V : World} {a0 : Act} {b : Nat → Bool} {q9 q10 q11 q12 : Nat} {a : Act} {u : World} (I : MvI X Y n nn q7 q8 w V a0 b q9 q10 q11 q12 a u) (hn : 29 < a0.tmps.size) {u' : World} (hu : Below u.heap.size u u') : MvI X Y n nn q7 q8 w V a0 (fun x => x == 9 || b x) q9 q10 q11 q12 (a.put (some 29) (.int .i64 n)) u' :=
  ⟨I.sk.put (by decide) _,
    I.bel.trans (hu.mono I.sz),
    Nat.le_trans I.sz hu.size,
    I.x0,
    I.x1,
    I.x2,
    I.h0.bel hu,
    I.h1.bel hu,
    I.h2.bel hu,
    I.h3.bel hu,
    fun h => (put_other _ (by decide)).trans (I.s0 (by simpa using h)),
    fun h => (put_other _ (by decide)).trans (I.s1 (by simpa using h)),
    fun h => (put_other _ (by decide)).trans (I.s2 (by simpa using h)),
    fun h => (put_other _ (by decide)).trans (I.s3 (by simpa using h)),
    fun h => (put_other _ (by decide)).trans (I.s4 (by simpa using h)),
    fun h => (put_other _ (by decide)).trans (I.s5 (by simpa using h)),
    fun h => (put_other _ (by decide)).trans (I.s6 (by simpa using h)),
    fun h => (put_other _ (by decide)).trans (I.s7 (by simpa using h)),
    fun h => (put_other _ (by decide)).trans (I.s8 (by simpa using h)),
    fun _ => put_same _ (by rw [I.sk.size]; exact hn),
    fun h => (put_other _ (by decide)).trans (I.s10 (by simpa using h)),
    fun h => (put_other _ (by decide)).trans (I.s11 (by simpa using h)),
    fun h => (put_other _ (by decide)).trans (I.s12 (by simpa using h)),
    fun h => (put_other _ (by decide)).trans (I.s13 (by simpa using h)),
    fun h => (put_other _ (by decide)).trans (I.s14 (by simpa using h)),
    fun h => by obtain ⟨p1, p2, cs, p3, p4, p5⟩ := I.s15 (by simpa using h); exact ⟨(put_other _ (by decide)).trans p1, p2, cs, p3, p4.bel hu, fun h2 => p5 (by simpa using h2)⟩,
    fun h => by have h2 := I.e19 (by simpa using h); simp [h2],
    fun h => by obtain ⟨p1, p2, cs, p3, p4, p5⟩ := I.s16 (by simpa using h); exact ⟨(put_other _ (by decide)).trans p1, p2, cs, p3, p4.bel hu, fun h2 => p5 (by simpa using h2)⟩,
    fun h => by have h2 := I.e20 (by simpa using h); simp [h2],
    fun h => by obtain ⟨p1, p2, cs, p3, p4, p5⟩ := I.s17 (by simpa using h); exact ⟨(put_other _ (by decide)).trans p1, p2, cs, p3, p4.bel hu, fun h2 => p5 (by simpa using h2)⟩,
    fun h => by have h2 := I.e21 (by simpa using h); simp [h2],
    fun h => by obtain ⟨p1, p2, cs, p3, p4, p5⟩ := I.s18 (by simpa using h); exact ⟨(put_other _ (by decide)).trans p1, p2, cs, p3, p4.bel hu, fun h2 => p5 (by simpa using h2)⟩,
    fun h => by have h2 := I.e22 (by simpa using h); simp [h2],
    fun h h2 => I.n1_0 (by simpa using h) (by simpa using h2),
    fun h h2 => I.n2_0 (by simpa using h) (by simpa using h2),
    fun h h2 => I.n2_1 (by simpa using h) (by simpa using h2),
    fun h h2 => I.n3_0 (by simpa using h) (by simpa using h2),
    fun h h2 => I.n3_1 (by simpa using h) (by simpa using h2),
    fun h h2 => I.n3_2 (by simpa using h) (by simpa using h2)⟩
set_option maxRecDepth 100000 in
set_option maxHeartbeats 4000000 in
theorem MvI.next10 {X Y : Nat → Int} {n : Int} {nn q7 q8 : Nat} {w V : World} {a0 : Act} {b : Nat → Bool} {q9 q10 q11 q12 : Nat} {a : Act} {u : World} (I : MvI X Y n nn q7 q8 w V a0 b q9 q10 q11 q12 a u) (hn : 30 < a0.tmps.size) {u' : World} (hu : Below u.heap.size u u') : MvI X Y n nn q7 q8 w V a0 (fun x => x == 10 || b x) q9 q10 q11 q12 (a.put (some 30) (.agg #[.int .i64 ((scl X n) 0), .int .i64 ((scl X n) 1), .int .i64 ((scl X n) 2), .int .i64 ((scl X n) 3), .int .i64 ((scl X n) 4), .int .i64 ((scl X n) 5), .int .i64 ((scl X n) 6), .int .i64 ((scl X n) 7), .int .i64 ((scl X n) 8)])) u' :=
  ⟨I.sk.put (by decide) _,
    I.bel.trans (hu.mono I.sz),
    Nat.le_trans I.sz hu.size,
    I.x0,
    I.x1,
    I.x2,
    I.h0.bel hu,
    I.h1.bel hu,
    I.h2.bel hu,
    I.h3.bel hu,
    fun h => (put_other _ (by decide)).trans (I.s0 (by simpa using h)),
    fun h => (put_other _ (by decide)).trans (I.s1 (by simpa using h)),
    fun h => (put_other _ (by decide)).trans (I.s2 (by simpa using h)),
    fun h => (put_other _ (by decide)).trans (I.s3 (by simpa using h)),
    fun h => (put_other _ (by decide)).trans (I.s4 (by simpa using h)),
    fun h => (put_other _ (by decide)).trans (I.s5 (by simpa using h)),
    fun h => (put_other _ (by decide)).trans (I.s6 (by simpa using h)),
    fun h => (put_other _ (by decide)).trans (I.s7 (by simpa using h)),
    fun h => (put_other _ (by decide)).trans (I.s8 (by simpa using h)),
    fun h => (put_other _ (by decide)).trans (I.s9 (by simpa using h)),
    fun _ => put_same _ (by rw [I.sk.size]; exact hn),
    fun h => (put_other _ (by decide)).trans (I.s11 (by simpa using h)),
    fun h => (put_other _ (by decide)).trans (I.s12 (by simpa using h)),
    fun h => (put_other _ (by decide)).trans (I.s13 (by simpa using h)),
    fun h => (put_other _ (by decide)).trans (I.s14 (by simpa using h)),
    fun h => by obtain ⟨p1, p2, cs, p3, p4, p5⟩ := I.s15 (by simpa using h); exact ⟨(put_other _ (by decide)).trans p1, p2, cs, p3, p4.bel hu, fun h2 => p5 (by simpa using h2)⟩,
    fun h => by have h2 := I.e19 (by simpa using h); simp [h2],
    fun h => by obtain ⟨p1, p2, cs, p3, p4, p5⟩ := I.s16 (by simpa using h); exact ⟨(put_other _ (by decide)).trans p1, p2, cs, p3, p4.bel hu, fun h2 => p5 (by simpa using h2)⟩,
    fun h => by have h2 := I.e20 (by simpa using h); simp [h2],
    fun h => by obtain ⟨p1, p2, cs, p3, p4, p5⟩ := I.s17 (by simpa using h); exact ⟨(put_other _ (by decide)).trans p1, p2, cs, p3, p4.bel hu, fun h2 => p5 (by simpa using h2)⟩,
    fun h => by have h2 := I.e21 (by simpa using h); simp [h2],
    fun h => by obtain ⟨p1, p2, cs, p3, p4, p5⟩ := I.s18 (by simpa using h); exact ⟨(put_other _ (by decide)).trans p1, p2, cs, p3, p4.bel hu, fun h2 => p5 (by simpa using h2)⟩,
    fun h => by have h2 := I.e22 (by simpa using h); simp [h2],
    fun h h2 => I.n1_0 (by simpa using h) (by simpa using h2),
    fun h h2 => I.n2_0 (by simpa using h) (by simpa using h2),
    fun h h2 => I.n2_1 (by simpa using h) (by simpa using h2),
    fun h h2 => I.n3_0 (by simpa using h) (by simpa using h2),
    fun h h2 => I.n3_1 (by simpa using h) (by simpa using h2),
    fun h h2 => I.n3_2 (by simpa using h) (by simpa using h2)⟩
set_option maxRecDepth 100000 in
set_option maxHeartbeats 4000000 in
theorem MvI.next11 {X Y : Nat → Int} {n : Int} {nn q7 q8 : Nat} {w V : World} {a0 : Act} {b : Nat → Bool} {q9 q10 q11 q12 : Nat} {a : Act} {u : World} (I : MvI X Y n nn q7 q8 w V a0 b q9 q10 q11 q12 a u) (hn : 31 < a0.tmps.size) {u' : World} (hu : Below u.heap.size u u') : MvI X Y n nn q7 q8 w V a0 (fun x => x == 11 || b x) q9 q10 q11 q12 (a.put (some 31) (.agg #[.int .i64 ((scl X n) 0), .int .i64 ((scl X n) 1), .int .i64 ((scl X n) 2), .int .i64 ((scl X n) 3), .int .i64 ((scl X n) 4), .int .i64 ((scl X n) 5), .int .i64 ((scl X n) 6), .int .i64 ((scl X n) 7), .int .i64 ((scl X n) 8)])) u' :=
  ⟨I.sk.put (by decide) _,
    I.bel.trans (hu.mono I.sz),
    Nat.le_trans I.sz hu.size,
    I.x0,
    I.x1,
    I.x2,
    I.h0.bel hu,
    I.h1.bel hu,
    I.h2.bel hu,
    I.h3.bel hu,
    fun h => (put_other _ (by decide)).trans (I.s0 (by simpa using h)),
    fun h => (put_other _ (by decide)).trans (I.s1 (by simpa using h)),
    fun h => (put_other _ (by decide)).trans (I.s2 (by simpa using h)),
    fun h => (put_other _ (by decide)).trans (I.s3 (by simpa using h)),
    fun h => (put_other _ (by decide)).trans (I.s4 (by simpa using h)),
    fun h => (put_other _ (by decide)).trans (I.s5 (by simpa using h)),
    fun h => (put_other _ (by decide)).trans (I.s6 (by simpa using h)),
    fun h => (put_other _ (by decide)).trans (I.s7 (by simpa using h)),
    fun h => (put_other _ (by decide)).trans (I.s8 (by simpa using h)),
    fun h => (put_other _ (by decide)).trans (I.s9 (by simpa using h)),
    fun h => (put_other _ (by decide)).trans (I.s10 (by simpa using h)),
    fun _ => put_same _ (by rw [I.sk.size]; exact hn),
    fun h => (put_other _ (by decide)).trans (I.s12 (by simpa using h)),
    fun h => (put_other _ (by decide)).trans (I.s13 (by simpa using h)),
    fun h => (put_other _ (by decide)).trans (I.s14 (by simpa using h)),
    fun h => by obtain ⟨p1, p2, cs, p3, p4, p5⟩ := I.s15 (by simpa using h); exact ⟨(put_other _ (by decide)).trans p1, p2, cs, p3, p4.bel hu, fun h2 => p5 (by simpa using h2)⟩,
    fun h => by have h2 := I.e19 (by simpa using h); simp [h2],
    fun h => by obtain ⟨p1, p2, cs, p3, p4, p5⟩ := I.s16 (by simpa using h); exact ⟨(put_other _ (by decide)).trans p1, p2, cs, p3, p4.bel hu, fun h2 => p5 (by simpa using h2)⟩,
    fun h => by have h2 := I.e20 (by simpa using h); simp [h2],
    fun h => by obtain ⟨p1, p2, cs, p3, p4, p5⟩ := I.s17 (by simpa using h); exact ⟨(put_other _ (by decide)).trans p1, p2, cs, p3, p4.bel hu, fun h2 => p5 (by simpa using h2)⟩,
    fun h => by have h2 := I.e21 (by simpa using h); simp [h2],
    fun h => by obtain ⟨p1, p2, cs, p3, p4, p5⟩ := I.s18 (by simpa using h); exact ⟨(put_other _ (by decide)).trans p1, p2, cs, p3, p4.bel hu, fun h2 => p5 (by simpa using h2)⟩,
    fun h => by have h2 := I.e22 (by simpa using h); simp [h2],
    fun h h2 => I.n1_0 (by simpa using h) (by simpa using h2),
    fun h h2 => I.n2_0 (by simpa using h) (by simpa using h2),
    fun h h2 => I.n2_1 (by simpa using h) (by simpa using h2),
    fun h h2 => I.n3_0 (by simpa using h) (by simpa using h2),
    fun h h2 => I.n3_1 (by simpa using h) (by simpa using h2),
    fun h h2 => I.n3_2 (by simpa using h) (by simpa using h2)⟩
set_option maxRecDepth 100000 in
set_option maxHeartbeats 4000000 in
theorem MvI.next12 {X Y : Nat → Int} {n : Int} {nn q7 q8 : Nat} {w V : World} {a0 : Act} {b : Nat → Bool} {q9 q10 q11 q12 : Nat} {a : Act} {u : World} (I : MvI X Y n nn q7 q8 w V a0 b q9 q10 q11 q12 a u) (hn : 32 < a0.tmps.size) {u' : World} (hu : Below u.heap.size u u') : MvI X Y n nn q7 q8 w V a0 (fun x => x == 12 || b x) q9 q10 q11 q12 (a.put (some 32) (.agg #[.int .i64 (X 0), .int .i64 (X 1), .int .i64 (X 2), .int .i64 (X 3), .int .i64 (X 4), .int .i64 (X 5), .int .i64 (X 6), .int .i64 (X 7), .int .i64 (X 8)])) u' :=
  ⟨I.sk.put (by decide) _,
    I.bel.trans (hu.mono I.sz),
    Nat.le_trans I.sz hu.size,
    I.x0,
    I.x1,
    I.x2,
    I.h0.bel hu,
    I.h1.bel hu,
    I.h2.bel hu,
    I.h3.bel hu,
    fun h => (put_other _ (by decide)).trans (I.s0 (by simpa using h)),
    fun h => (put_other _ (by decide)).trans (I.s1 (by simpa using h)),
    fun h => (put_other _ (by decide)).trans (I.s2 (by simpa using h)),
    fun h => (put_other _ (by decide)).trans (I.s3 (by simpa using h)),
    fun h => (put_other _ (by decide)).trans (I.s4 (by simpa using h)),
    fun h => (put_other _ (by decide)).trans (I.s5 (by simpa using h)),
    fun h => (put_other _ (by decide)).trans (I.s6 (by simpa using h)),
    fun h => (put_other _ (by decide)).trans (I.s7 (by simpa using h)),
    fun h => (put_other _ (by decide)).trans (I.s8 (by simpa using h)),
    fun h => (put_other _ (by decide)).trans (I.s9 (by simpa using h)),
    fun h => (put_other _ (by decide)).trans (I.s10 (by simpa using h)),
    fun h => (put_other _ (by decide)).trans (I.s11 (by simpa using h)),
    fun _ => put_same _ (by rw [I.sk.size]; exact hn),
    fun h => (put_other _ (by decide)).trans (I.s13 (by simpa using h)),
    fun h => (put_other _ (by decide)).trans (I.s14 (by simpa using h)),
    fun h => by obtain ⟨p1, p2, cs, p3, p4, p5⟩ := I.s15 (by simpa using h); exact ⟨(put_other _ (by decide)).trans p1, p2, cs, p3, p4.bel hu, fun h2 => p5 (by simpa using h2)⟩,
    fun h => by have h2 := I.e19 (by simpa using h); simp [h2],
    fun h => by obtain ⟨p1, p2, cs, p3, p4, p5⟩ := I.s16 (by simpa using h); exact ⟨(put_other _ (by decide)).trans p1, p2, cs, p3, p4.bel hu, fun h2 => p5 (by simpa using h2)⟩,
    fun h => by have h2 := I.e20 (by simpa using h); simp [h2],
    fun h => by obtain ⟨p1, p2, cs, p3, p4, p5⟩ := I.s17 (by simpa using h); exact ⟨(put_other _ (by decide)).trans p1, p2, cs, p3, p4.bel hu, fun h2 => p5 (by simpa using h2)⟩,
    fun h => by have h2 := I.e21 (by simpa using h); simp [h2],
    fun h => by obtain ⟨p1, p2, cs, p3, p4, p5⟩ := I.s18 (by simpa using h); exact ⟨(put_other _ (by decide)).trans p1, p2, cs, p3, p4.bel hu, fun h2 => p5 (by simpa using h2)⟩,
    fun h => by have h2 := I.e22 (by simpa using h); simp [h2],
    fun h h2 => I.n1_0 (by simpa using h) (by simpa using h2),
    fun h h2 => I.n2_0 (by simpa using h) (by simpa using h2),
    fun h h2 => I.n2_1 (by simpa using h) (by simpa using h2),
    fun h h2 => I.n3_0 (by simpa using h) (by simpa using h2),
    fun h h2 => I.n3_1 (by simpa using h) (by simpa using h2),
    fun h h2 => I.n3_2 (by simpa using h) (by simpa using h2)⟩
set_option maxRecDepth 100000 in
set_option maxHeartbeats 4000000 in
theorem MvI.next13 {X Y : Nat → Int} {n : Int} {nn q7 q8 : Nat} {w V : World} {a0 : Act} {b : Nat → Bool} {q9 q10 q11 q12 : Nat} {a : Act} {u : World} (I : MvI X Y n nn q7 q8 w V a0 b q9 q10 q11 q12 a u) (hn : 33 < a0.tmps.size) {u' : World} (hu : Below u.heap.size u u') : MvI X Y n nn q7 q8 w V a0 (fun x => x == 13 || b x) q9 q10 q11 q12 (a.put (some 33) (.agg #[.int .i64 ((trp X) 0), .int .i64 ((trp X) 1), .int .i64 ((trp X) 2), .int .i64 ((trp X) 3), .int .i64 ((trp X) 4), .int .i64 ((trp X) 5), .int .i64 ((trp X) 6), .int .i64 ((trp X) 7), .int .i64 ((trp X) 8)])) u' :=
  ⟨I.sk.put (by decide) _,
    I.bel.trans (hu.mono I.sz),
    Nat.le_trans I.sz hu.size,
    I.x0,
    I.x1,
    I.x2,
    I.h0.bel hu,
    I.h1.bel hu,
    I.h2.bel hu,
    I.h3.bel hu,
    fun h => (put_other _ (by decide)).trans (I.s0 (by simpa using h)),
    fun h => (put_other _ (by decide)).trans (I.s1 (by simpa using h)),
    fun h => (put_other _ (by decide)).trans (I.s2 (by simpa using h)),
    fun h => (put_other _ (by decide)).trans (I.s3 (by simpa using h)),
    fun h => (put_other _ (by decide)).trans (I.s4 (by simpa using h)),
    fun h => (put_other _ (by decide)).trans (I.s5 (by simpa using h)),
    fun h => (put_other _ (by decide)).trans (I.s6 (by simpa using h)),
    fun h => (put_other _ (by decide)).trans (I.s7 (by simpa using h)),
    fun h => (put_other _ (by decide)).trans (I.s8 (by simpa using h)),
    fun h => (put_other _ (by decide)).trans (I.s9 (by simpa using h)),
    fun h => (put_other _ (by decide)).trans (I.s10 (by simpa using h)),
    fun h => (put_other _ (by decide)).trans (I.s11 (by simpa using h)),
    fun h => (put_other _ (by decide)).trans (I.s12 (by simpa using h)),
    fun _ => put_same _ (by rw [I.sk.size]; exact hn),
    fun h => (put_other _ (by decide)).trans (I.s14 (by simpa using h)),
    fun h => by obtain ⟨p1, p2, cs, p3, p4, p5⟩ := I.s15 (by simpa using h); exact ⟨(put_other _ (by decide)).trans p1, p2, cs, p3, p4.bel hu, fun h2 => p5 (by simpa using h2)⟩,
    fun h => by have h2 := I.e19 (by simpa using h); simp [h2],
    fun h => by obtain ⟨p1, p2, cs, p3, p4, p5⟩ := I.s16 (by simpa using h); exact ⟨(put_other _ (by decide)).trans p1, p2, cs, p3, p4.bel hu, fun h2 => p5 (by simpa using h2)⟩,
    fun h => by have h2 := I.e20 (by simpa using h); simp [h2],
    fun h => by obtain ⟨p1, p2, cs, p3, p4, p5⟩ := I.s17 (by simpa using h); exact ⟨(put_other _ (by decide)).trans p1, p2, cs, p3, p4.bel hu, fun h2 => p5 (by simpa using h2)⟩,
    fun h => by have h2 := I.e21 (by simpa using h); simp [h2],
    fun h => by obtain ⟨p1, p2, cs, p3, p4, p5⟩ := I.s18 (by simpa using h); exact ⟨(put_other _ (by decide)).trans p1, p2, cs, p3, p4.bel hu, fun h2 => p5 (by simpa using h2)⟩,
    fun h => by have h2 := I.e22 (by simpa using h); simp [h2],
    fun h h2 => I.n1_0 (by simpa using h) (by simpa using h2),
    fun h h2 => I.n2_0 (by simpa using h) (by simpa using h2),
    fun h h2 => I.n2_1 (by simpa using h) (by simpa using h2),
    fun h h2 => I.n3_0 (by simpa using h) (by simpa using h2),
    fun h h2 => I.n3_1 (by simpa using h) (by simpa using h2),
    fun h h2 => I.n3_2 (by simpa using h) (by simpa using h2)⟩
set_option maxRecDepth 100000 in
set_option maxHeartbeats 4000000 in
theorem MvI.next14 {X Y : Nat → Int} {n : Int} {nn q7 q8 : Nat} {w V : World} {a0 : Act} {b : Nat → Bool} {q9 q10 q11 q12 : Nat} {a : Act} {u : World} (I : MvI X Y n nn q7 q8 w V a0 b q9 q10 q11 q12 a u) (hn : 34 < a0.tmps.size) {u' : World} (hu : Below u.heap.size u u') : MvI X Y n nn q7 q8 w V a0 (fun x => x == 14 || b x) q9 q10 q11 q12 (a.put (some 34) (.agg #[.int .i64 ((trp X) 0), .int .i64 ((trp X) 1), .int .i64 ((trp X) 2), .int .i64 ((trp X) 3), .int .i64 ((trp X) 4), .int .i64 ((trp X) 5), .int .i64 ((trp X) 6), .int .i64 ((trp X) 7), .int .i64 ((trp X) 8)])) u' :=
  ⟨I.sk.put (by decide) _,
    I.bel.trans (hu.mono I.sz),
    Nat.le_trans I.sz hu.size,
    I.x0,
    I.x1,
    I.x2,
    I.h0.bel hu,
    I.h1.bel hu,
    I.h2.bel hu,
    I.h3.bel hu,
    fun h => (put_other _ (by decide)).trans (I.s0 (by simpa using h)),
    fun h => (put_other _ (by decide)).trans (I.s1 (by simpa using h)),
    fun h => (put_other _ (by decide)).trans (I.s2 (by simpa using h)),
    fun h => (put_other _ (by decide)).trans (I.s3 (by simpa using h)),
    fun h => (put_other _ (by decide)).trans (I.s4 (by simpa using h)),
    fun h => (put_other _ (by decide)).trans (I.s5 (by simpa using h)),
    fun h => (put_other _ (by decide)).trans (I.s6 (by simpa using h)),
    fun h => (put_other _ (by decide)).trans (I.s7 (by simpa using h)),
    fun h => (put_other _ (by decide)).trans (I.s8 (by simpa using h)),
    fun h => (put_other _ (by decide)).trans (I.s9 (by simpa using h)),
    fun h => (put_other _ (by decide)).trans (I.s10 (by simpa using h)),
    fun h => (put_other _ (by decide)).trans (I.s11 (by simpa using h)),
    fun h => (put_other _ (by decide)).trans (I.s12 (by simpa using h)),
    fun h => (put_other _ (by decide)).trans (I.s13 (by simpa using h)),
    fun _ => put_same _ (by rw [I.sk.size]; exact hn),
    fun h => by obtain ⟨p1, p2, cs, p3, p4, p5⟩ := I.s15 (by simpa using h); exact ⟨(put_other _ (by decide)).trans p1, p2, cs, p3, p4.bel hu, fun h2 => p5 (by simpa using h2)⟩,
    fun h => by have h2 := I.e19 (by simpa using h); simp [h2],
    fun h => by obtain ⟨p1, p2, cs, p3, p4, p5⟩ := I.s16 (by simpa using h); exact ⟨(put_other _ (by decide)).trans p1, p2, cs, p3, p4.bel hu, fun h2 => p5 (by simpa using h2)⟩,
    fun h => by have h2 := I.e20 (by simpa using h); simp [h2],
    fun h => by obtain ⟨p1, p2, cs, p3, p4, p5⟩ := I.s17 (by simpa using h); exact ⟨(put_other _ (by decide)).trans p1, p2, cs, p3, p4.bel hu, fun h2 => p5 (by simpa using h2)⟩,
    fun h => by have h2 := I.e21 (by simpa using h); simp [h2],
    fun h => by obtain ⟨p1, p2, cs, p3, p4, p5⟩ := I.s18 (by simpa using h); exact ⟨(put_other _ (by decide)).trans p1, p2, cs, p3, p4.bel hu, fun h2 => p5 (by simpa using h2)⟩,
    fun h => by have h2 := I.e22 (by simpa using h); simp [h2],
    fun h h2 => I.n1_0 (by simpa using h) (by simpa using h2),
    fun h h2 => I.n2_0 (by simpa using h) (by simpa using h2),
    fun h h2 => I.n2_1 (by simpa using h) (by simpa using h2),
    fun h h2 => I.n3_0 (by simpa using h) (by simpa using h2),
    fun h h2 => I.n3_1 (by simpa using h) (by simpa using h2),
    fun h h2 => I.n3_2 (by simpa using h) (by simpa using h2)⟩
set_option maxRecDepth 100000 in
set_option maxHeartbeats 4000000 in
theorem MvI.next15 {X Y : Nat → Int} {n : Int} {nn q7 q8 : Nat} {w V : World} {a0 : Act} {b : Nat → Bool} {q9 q10 q11 q12 : Nat} {a : Act} {u : World} (I : MvI X Y n nn q7 q8 w V a0 b q9 q10 q11 q12 a u) (hn : 9 < a0.tmps.size) (hf : b 15 = false) : MvI X Y n nn q7 q8 w V a0 (fun x => x == 15 || b x) u.heap.size q10 q11 q12 (a.put (some 9) (.pointer (some ⟨u.heap.size, 0, none⟩))) (u.alloc (.cells #[.int .i64 0, .int .i64 0, .int .i64 0, .int .i64 0, .int .i64 0, .int .i64 0, .int .i64 0, .int .i64 0, .int .i64 0] 74)) :=
  ⟨I.sk.put (by decide) _,
    I.bel.alloc I.sz _,
    by have := I.sz; simp; omega,
    I.x0,
    I.x1,
    I.x2,
    I.h0.alloc _,
    I.h1.alloc _,
    I.h2.alloc _,
    I.h3.alloc _,
    fun h => (put_other _ (by decide)).trans (I.s0 (by simpa using h)),
    fun h => (put_other _ (by decide)).trans (I.s1 (by simpa using h)),
    fun h => (put_other _ (by decide)).trans (I.s2 (by simpa using h)),
    fun h => (put_other _ (by decide)).trans (I.s3 (by simpa using h)),
    fun h => (put_other _ (by decide)).trans (I.s4 (by simpa using h)),
    fun h => (put_other _ (by decide)).trans (I.s5 (by simpa using h)),
    fun h => (put_other _ (by decide)).trans (I.s6 (by simpa using h)),
    fun h => (put_other _ (by decide)).trans (I.s7 (by simpa using h)),
    fun h => (put_other _ (by decide)).trans (I.s8 (by simpa using h)),
    fun h => (put_other _ (by decide)).trans (I.s9 (by simpa using h)),
    fun h => (put_other _ (by decide)).trans (I.s10 (by simpa using h)),
    fun h => (put_other _ (by decide)).trans (I.s11 (by simpa using h)),
    fun h => (put_other _ (by decide)).trans (I.s12 (by simpa using h)),
    fun h => (put_other _ (by decide)).trans (I.s13 (by simpa using h)),
    fun h => (put_other _ (by decide)).trans (I.s14 (by simpa using h)),
    fun _ => ⟨put_same _ (by rw [I.sk.size]; exact hn), I.sz, [.int .i64 0, .int .i64 0, .int .i64 0, .int .i64 0, .int .i64 0, .int .i64 0, .int .i64 0, .int .i64 0, .int .i64 0], rfl, Held.new u [.int .i64 0, .int .i64 0, .int .i64 0, .int .i64 0, .int .i64 0, .int .i64 0, .int .i64 0, .int .i64 0, .int .i64 0] _, fun h => by have h2 := I.e19 (by simpa using h); rw [hf] at h2; cases h2⟩,
    fun h => by have h2 := I.e19 (by simpa using h); simp [h2],
    fun h => by obtain ⟨p1, p2, cs, p3, p4, p5⟩ := I.s16 (by simpa using h); exact ⟨(put_other _ (by decide)).trans p1, p2, cs, p3, p4.alloc _, fun h2 => p5 (by simpa using h2)⟩,
    fun h => by have h2 := I.e20 (by simpa using h); simp [h2],
    fun h => by obtain ⟨p1, p2, cs, p3, p4, p5⟩ := I.s17 (by simpa using h); exact ⟨(put_other _ (by decide)).trans p1, p2, cs, p3, p4.alloc _, fun h2 => p5 (by simpa using h2)⟩,
    fun h => by have h2 := I.e21 (by simpa using h); simp [h2],
    fun h => by obtain ⟨p1, p2, cs, p3, p4, p5⟩ := I.s18 (by simpa using h); exact ⟨(put_other _ (by decide)).trans p1, p2, cs, p3, p4.alloc _, fun h2 => p5 (by simpa using h2)⟩,
    fun h => by have h2 := I.e22 (by simpa using h); simp [h2],
    fun h _ => by obtain ⟨-, -, cs, -, p4, -⟩ := I.s16 (by simpa using h); have := p4.lt; omega,
    fun h _ => by obtain ⟨-, -, cs, -, p4, -⟩ := I.s17 (by simpa using h); have := p4.lt; omega,
    fun h h2 => I.n2_1 (by simpa using h) (by simpa using h2),
    fun h _ => by obtain ⟨-, -, cs, -, p4, -⟩ := I.s18 (by simpa using h); have := p4.lt; omega,
    fun h h2 => I.n3_1 (by simpa using h) (by simpa using h2),
    fun h h2 => I.n3_2 (by simpa using h) (by simpa using h2)⟩
set_option maxRecDepth 100000 in
set_option maxHeartbeats 4000000 in
theorem MvI.next19 {X Y : Nat → Int} {n : Int} {nn q7 q8 : Nat} {w V : World} {a0 : Act} {b : Nat → Bool} {q9 q10 q11 q12 : Nat} {a : Act} {u : World} (I : MvI X Y n nn q7 q8 w V a0 b q9 q10 q11 q12 a u) (ha : b 15 = true) : MvI X Y n nn q7 q8 w V a0 (fun x => x == 19 || b x) q9 q10 q11 q12 a (((((((((u.setCell ⟨q9, 0, none⟩ (.int .i64 ((asm X Y) 0))).setCell ⟨q9, 1, none⟩ (.int .i64 ((asm X Y) 1))).setCell ⟨q9, 2, none⟩ (.int .i64 ((asm X Y) 2))).setCell ⟨q9, 3, none⟩ (.int .i64 ((asm X Y) 3))).setCell ⟨q9, 4, none⟩ (.int .i64 ((asm X Y) 4))).setCell ⟨q9, 5, none⟩ (.int .i64 ((asm X Y) 5))).setCell ⟨q9, 6, none⟩ (.int .i64 ((asm X Y) 6))).setCell ⟨q9, 7, none⟩ (.int .i64 ((asm X Y) 7))).setCell ⟨q9, 8, none⟩ (.int .i64 ((asm X Y) 8))) := by
  obtain ⟨-, hq, cs0, hc0, hh0, -⟩ := I.s15 ha
  obtain ⟨u9, e9, h9, hb⟩ := ml_laid hh0 hc0 (asm X Y)
  have ho : Only q9 u u9 := by rw [e9]; exact ((((((((((Only.refl q9 u).setCell (p := ⟨q9, 0, none⟩) (.int .i64 ((asm X Y) 0))).setCell (p := ⟨q9, 1, none⟩) (.int .i64 ((asm X Y) 1))).setCell (p := ⟨q9, 2, none⟩) (.int .i64 ((asm X Y) 2))).setCell (p := ⟨q9, 3, none⟩) (.int .i64 ((asm X Y) 3))).setCell (p := ⟨q9, 4, none⟩) (.int .i64 ((asm X Y) 4))).setCell (p := ⟨q9, 5, none⟩) (.int .i64 ((asm X Y) 5))).setCell (p := ⟨q9, 6, none⟩) (.int .i64 ((asm X Y) 6))).setCell (p := ⟨q9, 7, none⟩) (.int .i64 ((asm X Y) 7))).setCell (p := ⟨q9, 8, none⟩) (.int .i64 ((asm X Y) 8)))
  have hne1 : b 16 = true → q10 ≠ q9 := fun h => I.n1_0 h ha
  have hne2 : b 17 = true → q11 ≠ q9 := fun h => I.n2_0 h ha
  have hne3 : b 18 = true → q12 ≠ q9 := fun h => I.n3_0 h ha
  have hx0 := I.x0
  have hx1 := I.x1
  have hx2 := I.x2
  rw [← e9]
  exact ⟨I.sk,
    I.bel.trans (hb.mono hq),
    by have := hb.size; have := I.sz; omega,
    I.x0,
    I.x1,
    I.x2,
    I.h0.only ho (by omega),
    I.h1.only ho (by omega),
    I.h2.only ho (by omega),
    I.h3.only ho (by omega),
    fun h => I.s0 (by simpa using h),
    fun h => I.s1 (by simpa using h),
    fun h => I.s2 (by simpa using h),
    fun h => I.s3 (by simpa using h),
    fun h => I.s4 (by simpa using h),
    fun h => I.s5 (by simpa using h),
    fun h => I.s6 (by simpa using h),
    fun h => I.s7 (by simpa using h),
    fun h => I.s8 (by simpa using h),
    fun h => I.s9 (by simpa using h),
    fun h => I.s10 (by simpa using h),
    fun h => I.s11 (by simpa using h),
    fun h => I.s12 (by simpa using h),
    fun h => I.s13 (by simpa using h),
    fun h => I.s14 (by simpa using h),
    fun h => by obtain ⟨p1, p2, cs, p3, p4, p5⟩ := I.s15 (by simpa using h); exact ⟨p1, p2, _, rfl, h9, fun _ => rfl⟩,
    fun h => by simpa using ha,
    fun h => by obtain ⟨p1, p2, cs, p3, p4, p5⟩ := I.s16 (by simpa using h); exact ⟨p1, p2, cs, p3, p4.only ho (hne1 (by simpa using h)), fun h2 => p5 (by simpa using h2)⟩,
    fun h => by have h2 := I.e20 (by simpa using h); simp [h2],
    fun h => by obtain ⟨p1, p2, cs, p3, p4, p5⟩ := I.s17 (by simpa using h); exact ⟨p1, p2, cs, p3, p4.only ho (hne2 (by simpa using h)), fun h2 => p5 (by simpa using h2)⟩,
    fun h => by have h2 := I.e21 (by simpa using h); simp [h2],
    fun h => by obtain ⟨p1, p2, cs, p3, p4, p5⟩ := I.s18 (by simpa using h); exact ⟨p1, p2, cs, p3, p4.only ho (hne3 (by simpa using h)), fun h2 => p5 (by simpa using h2)⟩,
    fun h => by have h2 := I.e22 (by simpa using h); simp [h2],
    fun h h2 => I.n1_0 (by simpa using h) (by simpa using h2),
    fun h h2 => I.n2_0 (by simpa using h) (by simpa using h2),
    fun h h2 => I.n2_1 (by simpa using h) (by simpa using h2),
    fun h h2 => I.n3_0 (by simpa using h) (by simpa using h2),
    fun h h2 => I.n3_1 (by simpa using h) (by simpa using h2),
    fun h h2 => I.n3_2 (by simpa using h) (by simpa using h2)⟩
set_option maxRecDepth 100000 in
set_option maxHeartbeats 4000000 in
theorem MvI.next16 {X Y : Nat → Int} {n : Int} {nn q7 q8 : Nat} {w V : World} {a0 : Act} {b : Nat → Bool} {q9 q10 q11 q12 : Nat} {a : Act} {u : World} (I : MvI X Y n nn q7 q8 w V a0 b q9 q10 q11 q12 a u) (hn : 10 < a0.tmps.size) (hf : b 16 = false) : MvI X Y n nn q7 q8 w V a0 (fun x => x == 16 || b x) q9 u.heap.size q11 q12 (a.put (some 10) (.pointer (some ⟨u.heap.size, 0, none⟩))) (u.alloc (.cells #[.int .i64 0, .int .i64 0, .int .i64 0, .int .i64 0, .int .i64 0, .int .i64 0, .int .i64 0, .int .i64 0, .int .i64 0] 74)) :=
  ⟨I.sk.put (by decide) _,
    I.bel.alloc I.sz _,
    by have := I.sz; simp; omega,
    I.x0,
    I.x1,
    I.x2,
    I.h0.alloc _,
    I.h1.alloc _,
    I.h2.alloc _,
    I.h3.alloc _,
    fun h => (put_other _ (by decide)).trans (I.s0 (by simpa using h)),
    fun h => (put_other _ (by decide)).trans (I.s1 (by simpa using h)),
    fun h => (put_other _ (by decide)).trans (I.s2 (by simpa using h)),
    fun h => (put_other _ (by decide)).trans (I.s3 (by simpa using h)),
    fun h => (put_other _ (by decide)).trans (I.s4 (by simpa using h)),
    fun h => (put_other _ (by decide)).trans (I.s5 (by simpa using h)),
    fun h => (put_other _ (by decide)).trans (I.s6 (by simpa using h)),
    fun h => (put_other _ (by decide)).trans (I.s7 (by simpa using h)),
    fun h => (put_other _ (by decide)).trans (I.s8 (by simpa using h)),
    fun h => (put_other _ (by decide)).trans (I.s9 (by simpa using h)),
    fun h => (put_other _ (by decide)).trans (I.s10 (by simpa using h)),
    fun h => (put_other _ (by decide)).trans (I.s11 (by simpa using h)),
    fun h => (put_other _ (by decide)).trans (I.s12 (by simpa using h)),
    fun h => (put_other _ (by decide)).trans (I.s13 (by simpa using h)),
    fun h => (put_other _ (by decide)).trans (I.s14 (by simpa using h)),
    fun h => by obtain ⟨p1, p2, cs, p3, p4, p5⟩ := I.s15 (by simpa using h); exact ⟨(put_other _ (by decide)).trans p1, p2, cs, p3, p4.alloc _, fun h2 => p5 (by simpa using h2)⟩,
    fun h => by have h2 := I.e19 (by simpa using h); simp [h2],
    fun _ => ⟨put_same _ (by rw [I.sk.size]; exact hn), I.sz, [.int .i64 0, .int .i64 0, .int .i64 0, .int .i64 0, .int .i64 0, .int .i64 0, .int .i64 0, .int .i64 0, .int .i64 0], rfl, Held.new u [.int .i64 0, .int .i64 0, .int .i64 0, .int .i64 0, .int .i64 0, .int .i64 0, .int .i64 0, .int .i64 0, .int .i64 0] _, fun h => by have h2 := I.e20 (by simpa using h); rw [hf] at h2; cases h2⟩,
    fun h => by have h2 := I.e20 (by simpa using h); simp [h2],
    fun h => by obtain ⟨p1, p2, cs, p3, p4, p5⟩ := I.s17 (by simpa using h); exact ⟨(put_other _ (by decide)).trans p1, p2, cs, p3, p4.alloc _, fun h2 => p5 (by simpa using h2)⟩,
    fun h => by have h2 := I.e21 (by simpa using h); simp [h2],
    fun h => by obtain ⟨p1, p2, cs, p3, p4, p5⟩ := I.s18 (by simpa using h); exact ⟨(put_other _ (by decide)).trans p1, p2, cs, p3, p4.alloc _, fun h2 => p5 (by simpa using h2)⟩,
    fun h => by have h2 := I.e22 (by simpa using h); simp [h2],
    fun _ h => by obtain ⟨-, -, cs, -, p4, -⟩ := I.s15 (by simpa using h); have := p4.lt; omega,
    fun h h2 => I.n2_0 (by simpa using h) (by simpa using h2),
    fun h _ => by obtain ⟨-, -, cs, -, p4, -⟩ := I.s17 (by simpa using h); have := p4.lt; omega,
    fun h h2 => I.n3_0 (by simpa using h) (by simpa using h2),
    fun h _ => by obtain ⟨-, -, cs, -, p4, -⟩ := I.s18 (by simpa using h); have := p4.lt; omega,
    fun h h2 => I.n3_2 (by simpa using h) (by simpa using h2)⟩
set_option maxRecDepth 100000 in
set_option maxHeartbeats 4000000 in
theorem MvI.next20 {X Y : Nat → Int} {n : Int} {nn q7 q8 : Nat} {w V : World} {a0 : Act} {b : Nat → Bool} {q9 q10 q11 q12 : Nat} {a : Act} {u : World} (I : MvI X Y n nn q7 q8 w V a0 b q9 q10 q11 q12 a u) (ha : b 16 = true) : MvI X Y n nn q7 q8 w V a0 (fun x => x == 20 || b x) q9 q10 q11 q12 a (((((((((u.setCell ⟨q10, 0, none⟩ (.int .i64 ((dsm X Y) 0))).setCell ⟨q10, 1, none⟩ (.int .i64 ((dsm X Y) 1))).setCell ⟨q10, 2, none⟩ (.int .i64 ((dsm X Y) 2))).setCell ⟨q10, 3, none⟩ (.int .i64 ((dsm X Y) 3))).setCell ⟨q10, 4, none⟩ (.int .i64 ((dsm X Y) 4))).setCell ⟨q10, 5, none⟩ (.int .i64 ((dsm X Y) 5))).setCell ⟨q10, 6, none⟩ (.int .i64 ((dsm X Y) 6))).setCell ⟨q10, 7, none⟩ (.int .i64 ((dsm X Y) 7))).setCell ⟨q10, 8, none⟩ (.int .i64 ((dsm X Y) 8))) := by
  obtain ⟨-, hq, cs0, hc0, hh0, -⟩ := I.s16 ha
  obtain ⟨u9, e9, h9, hb⟩ := ml_laid hh0 hc0 (dsm X Y)
  have ho : Only q10 u u9 := by rw [e9]; exact ((((((((((Only.refl q10 u).setCell (p := ⟨q10, 0, none⟩) (.int .i64 ((dsm X Y) 0))).setCell (p := ⟨q10, 1, none⟩) (.int .i64 ((dsm X Y) 1))).setCell (p := ⟨q10, 2, none⟩) (.int .i64 ((dsm X Y) 2))).setCell (p := ⟨q10, 3, none⟩) (.int .i64 ((dsm X Y) 3))).setCell (p := ⟨q10, 4, none⟩) (.int .i64 ((dsm X Y) 4))).setCell (p := ⟨q10, 5, none⟩) (.int .i64 ((dsm X Y) 5))).setCell (p := ⟨q10, 6, none⟩) (.int .i64 ((dsm X Y) 6))).setCell (p := ⟨q10, 7, none⟩) (.int .i64 ((dsm X Y) 7))).setCell (p := ⟨q10, 8, none⟩) (.int .i64 ((dsm X Y) 8)))
  have hne0 : b 15 = true → q9 ≠ q10 := fun h => (I.n1_0 ha h).symm
  have hne2 : b 17 = true → q11 ≠ q10 := fun h => I.n2_1 h ha
  have hne3 : b 18 = true → q12 ≠ q10 := fun h => I.n3_1 h ha
  have hx0 := I.x0
  have hx1 := I.x1
  have hx2 := I.x2
  rw [← e9]
  exact ⟨I.sk,
    I.bel.trans (hb.mono hq),
    by have := hb.size; have := I.sz; omega,
    I.x0,
    I.x1,
    I.x2,
    I.h0.only ho (by omega),
    I.h1.only ho (by omega),
    I.h2.only ho (by omega),
    I.h3.only ho (by omega),
    fun h => I.s0 (by simpa using h),
    fun h => I.s1 (by simpa using h),
    fun h => I.s2 (by simpa using h),
    fun h => I.s3 (by simpa using h),
    fun h => I.s4 (by simpa using h),
    fun h => I.s5 (by simpa using h),
    fun h => I.s6 (by simpa using h),
    fun h => I.s7 (by simpa using h),
    fun h => I.s8 (by simpa using h),
    fun h => I.s9 (by simpa using h),
    fun h => I.s10 (by simpa using h),
    fun h => I.s11 (by simpa using h),
    fun h => I.s12 (by simpa using h),
    fun h => I.s13 (by simpa using h),
    fun h => I.s14 (by simpa using h),
    fun h => by obtain ⟨p1, p2, cs, p3, p4, p5⟩ := I.s15 (by simpa using h); exact ⟨p1, p2, cs, p3, p4.only ho (hne0 (by simpa using h)), fun h2 => p5 (by simpa using h2)⟩,
    fun h => by have h2 := I.e19 (by simpa using h); simp [h2],
    fun h => by obtain ⟨p1, p2, cs, p3, p4, p5⟩ := I.s16 (by simpa using h); exact ⟨p1, p2, _, rfl, h9, fun _ => rfl⟩,
    fun h => by simpa using ha,
    fun h => by obtain ⟨p1, p2, cs, p3, p4, p5⟩ := I.s17 (by simpa using h); exact ⟨p1, p2, cs, p3, p4.only ho (hne2 (by simpa using h)), fun h2 => p5 (by simpa using h2)⟩,
    fun h => by have h2 := I.e21 (by simpa using h); simp [h2],
    fun h => by obtain ⟨p1, p2, cs, p3, p4, p5⟩ := I.s18 (by simpa using h); exact ⟨p1, p2, cs, p3, p4.only ho (hne3 (by simpa using h)), fun h2 => p5 (by simpa using h2)⟩,
    fun h => by have h2 := I.e22 (by simpa using h); simp [h2],
    fun h h2 => I.n1_0 (by simpa using h) (by simpa using h2),
    fun h h2 => I.n2_0 (by simpa using h) (by simpa using h2),
    fun h h2 => I.n2_1 (by simpa using h) (by simpa using h2),
    fun h h2 => I.n3_0 (by simpa using h) (by simpa using h2),
    fun h h2 => I.n3_1 (by simpa using h) (by simpa using h2),
    fun h h2 => I.n3_2 (by simpa using h) (by simpa using h2)⟩
set_option maxRecDepth 100000 in
set_option maxHeartbeats 4000000 in
theorem MvI.next17 {X Y : Nat → Int} {n : Int} {nn q7 q8 : Nat} {w V : World} {a0 : Act} {b : Nat → Bool} {q9 q10 q11 q12 : Nat} {a : Act} {u : World} (I : MvI X Y n nn q7 q8 w V a0 b q9 q10 q11 q12 a u) (hn : 11 < a0.tmps.size) (hf : b 17 = false) : MvI X Y n nn q7 q8 w V a0 (fun x => x == 17 || b x) q9 q10 u.heap.size q12 (a.put (some 11) (.pointer (some ⟨u.heap.size, 0, none⟩))) (u.alloc (.cells #[.int .i64 0, .int .i64 0, .int .i64 0, .int .i64 0, .int .i64 0, .int .i64 0, .int .i64 0, .int .i64 0, .int .i64 0] 74)) :=
  ⟨I.sk.put (by decide) _,
    I.bel.alloc I.sz _,
    by have := I.sz; simp; omega,
    I.x0,
    I.x1,
    I.x2,
    I.h0.alloc _,
    I.h1.alloc _,
    I.h2.alloc _,
    I.h3.alloc _,
    fun h => (put_other _ (by decide)).trans (I.s0 (by simpa using h)),
    fun h => (put_other _ (by decide)).trans (I.s1 (by simpa using h)),
    fun h => (put_other _ (by decide)).trans (I.s2 (by simpa using h)),
    fun h => (put_other _ (by decide)).trans (I.s3 (by simpa using h)),
    fun h => (put_other _ (by decide)).trans (I.s4 (by simpa using h)),
    fun h => (put_other _ (by decide)).trans (I.s5 (by simpa using h)),
    fun h => (put_other _ (by decide)).trans (I.s6 (by simpa using h)),
    fun h => (put_other _ (by decide)).trans (I.s7 (by simpa using h)),
    fun h => (put_other _ (by decide)).trans (I.s8 (by simpa using h)),
    fun h => (put_other _ (by decide)).trans (I.s9 (by simpa using h)),
    fun h => (put_other _ (by decide)).trans (I.s10 (by simpa using h)),
    fun h => (put_other _ (by decide)).trans (I.s11 (by simpa using h)),
    fun h => (put_other _ (by decide)).trans (I.s12 (by simpa using h)),
    fun h => (put_other _ (by decide)).trans (I.s13 (by simpa using h)),
    fun h => (put_other _ (by decide)).trans (I.s14 (by simpa using h)),
    fun h => by obtain ⟨p1, p2, cs, p3, p4, p5⟩ := I.s15 (by simpa using h); exact ⟨(put_other _ (by decide)).trans p1, p2, cs, p3, p4.alloc _, fun h2 => p5 (by simpa using h2)⟩,
    fun h => by have h2 := I.e19 (by simpa using h); simp [h2],
    fun h => by obtain ⟨p1, p2, cs, p3, p4, p5⟩ := I.s16 (by simpa using h); exact ⟨(put_other _ (by decide)).trans p1, p2, cs, p3, p4.alloc _, fun h2 => p5 (by simpa using h2)⟩,
    fun h => by have h2 := I.e20 (by simpa using h); simp [h2],
    fun _ => ⟨put_same _ (by rw [I.sk.size]; exact hn), I.sz, [.int .i64 0, .int .i64 0, .int .i64 0, .int .i64 0, .int .i64 0, .int .i64 0, .int .i64 0, .int .i64 0, .int .i64 0], rfl, Held.new u [.int .i64 0, .int .i64 0, .int .i64 0, .int .i64 0, .int .i64 0, .int .i64 0, .int .i64 0, .int .i64 0, .int .i64 0] _, fun h => by have h2 := I.e21 (by simpa using h); rw [hf] at h2; cases h2⟩,
    fun h => by have h2 := I.e21 (by simpa using h); simp [h2],
    fun h => by obtain ⟨p1, p2, cs, p3, p4, p5⟩ := I.s18 (by simpa using h); exact ⟨(put_other _ (by decide)).trans p1, p2, cs, p3, p4.alloc _, fun h2 => p5 (by simpa using h2)⟩,
    fun h => by have h2 := I.e22 (by simpa using h); simp [h2],
    fun h h2 => I.n1_0 (by simpa using h) (by simpa using h2),
    fun _ h => by obtain ⟨-, -, cs, -, p4, -⟩ := I.s15 (by simpa using h); have := p4.lt; omega,
    fun _ h => by obtain ⟨-, -, cs, -, p4, -⟩ := I.s16 (by simpa using h); have := p4.lt; omega,
    fun h h2 => I.n3_0 (by simpa using h) (by simpa using h2),
    fun h h2 => I.n3_1 (by simpa using h) (by simpa using h2),
    fun h _ => by obtain ⟨-, -, cs, -, p4, -⟩ := I.s18 (by simpa using h); have := p4.lt; omega⟩
set_option maxRecDepth 100000 in
set_option maxHeartbeats 4000000 in
theorem MvI.next21 {X Y : Nat → Int} {n : Int} {nn q7 q8 : Nat} {w V : World} {a0 : Act} {b : Nat → Bool} {q9 q10 q11 q12 : Nat} {a : Act} {u : World} (I : MvI X Y n nn q7 q8 w V a0 b q9 q10 q11 q12 a u) (ha : b 17 = true) : MvI X Y n nn q7 q8 w V a0 (fun x => x == 21 || b x) q9 q10 q11 q12 a (((((((((u.setCell ⟨q11, 0, none⟩ (.int .i64 ((scl X n) 0))).setCell ⟨q11, 1, none⟩ (.int .i64 ((scl X n) 1))).setCell ⟨q11, 2, none⟩ (.int .i64 ((scl X n) 2))).setCell ⟨q11, 3, none⟩ (.int .i64 ((scl X n) 3))).setCell ⟨q11, 4, none⟩ (.int .i64 ((scl X n) 4))).setCell ⟨q11, 5, none⟩ (.int .i64 ((scl X n) 5))).setCell ⟨q11, 6, none⟩ (.int .i64 ((scl X n) 6))).setCell ⟨q11, 7, none⟩ (.int .i64 ((scl X n) 7))).setCell ⟨q11, 8, none⟩ (.int .i64 ((scl X n) 8))) := by
  obtain ⟨-, hq, cs0, hc0, hh0, -⟩ := I.s17 ha
  obtain ⟨u9, e9, h9, hb⟩ := ml_laid hh0 hc0 (scl X n)
  have ho : Only q11 u u9 := by rw [e9]; exact ((((((((((Only.refl q11 u).setCell (p := ⟨q11, 0, none⟩) (.int .i64 ((scl X n) 0))).setCell (p := ⟨q11, 1, none⟩) (.int .i64 ((scl X n) 1))).setCell (p := ⟨q11, 2, none⟩) (.int .i64 ((scl X n) 2))).setCell (p := ⟨q11, 3, none⟩) (.int .i64 ((scl X n) 3))).setCell (p := ⟨q11, 4, none⟩) (.int .i64 ((scl X n) 4))).setCell (p := ⟨q11, 5, none⟩) (.int .i64 ((scl X n) 5))).setCell (p := ⟨q11, 6, none⟩) (.int .i64 ((scl X n) 6))).setCell (p := ⟨q11, 7, none⟩) (.int .i64 ((scl X n) 7))).setCell (p := ⟨q11, 8, none⟩) (.int .i64 ((scl X n) 8)))
  have hne0 : b 15 = true → q9 ≠ q11 := fun h => (I.n2_0 ha h).symm
  have hne1 : b 16 = true → q10 ≠ q11 := fun h => (I.n2_1 ha h).symm
  have hne3 : b 18 = true → q12 ≠ q11 := fun h => I.n3_2 h ha
  have hx0 := I.x0
  have hx1 := I.x1
  have hx2 := I.x2
  rw [← e9]
  exact ⟨I.sk,
    I.bel.trans (hb.mono hq),
    by have := hb.size; have := I.sz; omega,
    I.x0,
    I.x1,
    I.x2,
    I.h0.only ho (by omega),
    I.h1.only ho (by omega),
    I.h2.only ho (by omega),
    I.h3.only ho (by omega),
    fun h => I.s0 (by simpa using h),
    fun h => I.s1 (by simpa using h),
    fun h => I.s2 (by simpa using h),
    fun h => I.s3 (by simpa using h),
    fun h => I.s4 (by simpa using h),
    fun h => I.s5 (by simpa using h),
    fun h => I.s6 (by simpa using h),
    fun h => I.s7 (by simpa using h),
    fun h => I.s8 (by simpa using h),
    fun h => I.s9 (by simpa using h),
    fun h => I.s10 (by simpa using h),
    fun h => I.s11 (by simpa using h),
    fun h => I.s12 (by simpa using h),
    fun h => I.s13 (by simpa using h),
    fun h => I.s14 (by simpa using h),
    fun h => by obtain ⟨p1, p2, cs, p3, p4, p5⟩ := I.s15 (by simpa using h); exact ⟨p1, p2, cs, p3, p4.only ho (hne0 (by simpa using h)), fun h2 => p5 (by simpa using h2)⟩,
    fun h => by have h2 := I.e19 (by simpa using h); simp [h2],
    fun h => by obtain ⟨p1, p2, cs, p3, p4, p5⟩ := I.s16 (by simpa using h); exact ⟨p1, p2, cs, p3, p4.only ho (hne1 (by simpa using h)), fun h2 => p5 (by simpa using h2)⟩,
    fun h => by have h2 := I.e20 (by simpa using h); simp [h2],
    fun h => by obtain ⟨p1, p2, cs, p3, p4, p5⟩ := I.s17 (by simpa using h); exact ⟨p1, p2, _, rfl, h9, fun _ => rfl⟩,
    fun h => by simpa using ha,
    fun h => by obtain ⟨p1, p2, cs, p3, p4, p5⟩ := I.s18 (by simpa using h); exact ⟨p1, p2, cs, p3, p4.only ho (hne3 (by simpa using h)), fun h2 => p5 (by simpa using h2)⟩,
    fun h => by have h2 := I.e22 (by simpa using h); simp [h2],
    fun h h2 => I.n1_0 (by simpa using h) (by simpa using h2),
    fun h h2 => I.n2_0 (by simpa using h) (by simpa using h2),
    fun h h2 => I.n2_1 (by simpa using h) (by simpa using h2),
    fun h h2 => I.n3_0 (by simpa using h) (by simpa using h2),
    fun h h2 => I.n3_1 (by simpa using h) (by simpa using h2),
    fun h h2 => I.n3_2 (by simpa using h) (by simpa using h2)⟩
set_option maxRecDepth 100000 in
set_option maxHeartbeats 4000000 in
theorem MvI.next18 {X Y : Nat → Int} {n : Int} {nn q7 q8 : Nat} {w V : World} {a0 : Act} {b : Nat → Bool} {q9 q10 q11 q12 : Nat} {a : Act} {u : World} (I : MvI X Y n nn q7 q8 w V a0 b q9 q10 q11 q12 a u) (hn : 12 < a0.tmps.size) (hf : b 18 = false) : MvI X Y n nn q7 q8 w V a0 (fun x => x == 18 || b x) q9 q10 q11 u.heap.size (a.put (some 12) (.pointer (some ⟨u.heap.size, 0, none⟩))) (u.alloc (.cells #[.int .i64 0, .int .i64 0, .int .i64 0, .int .i64 0, .int .i64 0, .int .i64 0, .int .i64 0, .int .i64 0, .int .i64 0] 74)) :=
  ⟨I.sk.put (by decide) _,
    I.bel.alloc I.sz _,
    by have := I.sz; simp; omega,
    I.x0,
    I.x1,
    I.x2,
    I.h0.alloc _,
    I.h1.alloc _,
    I.h2.alloc _,
    I.h3.alloc _,
    fun h => (put_other _ (by decide)).trans (I.s0 (by simpa using h)),
    fun h => (put_other _ (by decide)).trans (I.s1 (by simpa using h)),
    fun h => (put_other _ (by decide)).trans (I.s2 (by simpa using h)),
    fun h => (put_other _ (by decide)).trans (I.s3 (by simpa using h)),
    fun h => (put_other _ (by decide)).trans (I.s4 (by simpa using h)),
    fun h => (put_other _ (by decide)).trans (I.s5 (by simpa using h)),
    fun h => (put_other _ (by decide)).trans (I.s6 (by simpa using h)),
    fun h => (put_other _ (by decide)).trans (I.s7 (by simpa using h)),
    fun h => (put_other _ (by decide)).trans (I.s8 (by simpa using h)),
    fun h => (put_other _ (by decide)).trans (I.s9 (by simpa using h)),
    fun h => (put_other _ (by decide)).trans (I.s10 (by simpa using h)),
    fun h => (put_other _ (by decide)).trans (I.s11 (by simpa using h)),
    fun h => (put_other _ (by decide)).trans (I.s12 (by simpa using h)),
    fun h => (put_other _ (by decide)).trans (I.s13 (by simpa using h)),
    fun h => (put_other _ (by decide)).trans (I.s14 (by simpa using h)),
    fun h => by obtain ⟨p1, p2, cs, p3, p4, p5⟩ := I.s15 (by simpa using h); exact ⟨(put_other _ (by decide)).trans p1, p2, cs, p3, p4.alloc _, fun h2 => p5 (by simpa using h2)⟩,
    fun h => by have h2 := I.e19 (by simpa using h); simp [h2],
    fun h => by obtain ⟨p1, p2, cs, p3, p4, p5⟩ := I.s16 (by simpa using h); exact ⟨(put_other _ (by decide)).trans p1, p2, cs, p3, p4.alloc _, fun h2 => p5 (by simpa using h2)⟩,
    fun h => by have h2 := I.e20 (by simpa using h); simp [h2],
    fun h => by obtain ⟨p1, p2, cs, p3, p4, p5⟩ := I.s17 (by simpa using h); exact ⟨(put_other _ (by decide)).trans p1, p2, cs, p3, p4.alloc _, fun h2 => p5 (by simpa using h2)⟩,
    fun h => by have h2 := I.e21 (by simpa using h); simp [h2],
    fun _ => ⟨put_same _ (by rw [I.sk.size]; exact hn), I.sz, [.int .i64 0, .int .i64 0, .int .i64 0, .int .i64 0, .int .i64 0, .int .i64 0, .int .i64 0, .int .i64 0, .int .i64 0], rfl, Held.new u [.int .i64 0, .int .i64 0, .int .i64 0, .int .i64 0, .int .i64 0, .int .i64 0, .int .i64 0, .int .i64 0, .int .i64 0] _, fun h => by have h2 := I.e22 (by simpa using h); rw [hf] at h2; cases h2⟩,
    fun h => by have h2 := I.e22 (by simpa using h); simp [h2],
    fun h h2 => I.n1_0 (by simpa using h) (by simpa using h2),
    fun h h2 => I.n2_0 (by simpa using h) (by simpa using h2),
    fun h h2 => I.n2_1 (by simpa using h) (by simpa using h2),
    fun _ h => by obtain ⟨-, -, cs, -, p4, -⟩ := I.s15 (by simpa using h); have := p4.lt; omega,
    fun _ h => by obtain ⟨-, -, cs, -, p4, -⟩ := I.s16 (by simpa using h); have := p4.lt; omega,
    fun _ h => by obtain ⟨-, -, cs, -, p4, -⟩ := I.s17 (by simpa using h); have := p4.lt; omega⟩
set_option maxRecDepth 100000 in
set_option maxHeartbeats 4000000 in
theorem MvI.next22 {X Y : Nat → Int} {n : Int} {nn q7 q8 : Nat} {w V : World} {a0 : Act} {b : Nat → Bool} {q9 q10 q11 q12 : Nat} {a : Act} {u : World} (I : MvI X Y n nn q7 q8 w V a0 b q9 q10 q11 q12 a u) (ha : b 18 = true) : MvI X Y n nn q7 q8 w V a0 (fun x => x == 22 || b x) q9 q10 q11 q12 a (((((((((u.setCell ⟨q12, 0, none⟩ (.int .i64 ((trp X) 0))).setCell ⟨q12, 1, none⟩ (.int .i64 ((trp X) 1))).setCell ⟨q12, 2, none⟩ (.int .i64 ((trp X) 2))).setCell ⟨q12, 3, none⟩ (.int .i64 ((trp X) 3))).setCell ⟨q12, 4, none⟩ (.int .i64 ((trp X) 4))).setCell ⟨q12, 5, none⟩ (.int .i64 ((trp X) 5))).setCell ⟨q12, 6, none⟩ (.int .i64 ((trp X) 6))).setCell ⟨q12, 7, none⟩ (.int .i64 ((trp X) 7))).setCell ⟨q12, 8, none⟩ (.int .i64 ((trp X) 8))) := by
  obtain ⟨-, hq, cs0, hc0, hh0, -⟩ := I.s18 ha
  obtain ⟨u9, e9, h9, hb⟩ := ml_laid hh0 hc0 (trp X)
  have ho : Only q12 u u9 := by rw [e9]; exact ((((((((((Only.refl q12 u).setCell (p := ⟨q12, 0, none⟩) (.int .i64 ((trp X) 0))).setCell (p := ⟨q12, 1, none⟩) (.int .i64 ((trp X) 1))).setCell (p := ⟨q12, 2, none⟩) (.int .i64 ((trp X) 2))).setCell (p := ⟨q12, 3, none⟩) (.int .i64 ((trp X) 3))).setCell (p := ⟨q12, 4, none⟩) (.int .i64 ((trp X) 4))).setCell (p := ⟨q12, 5, none⟩) (.int .i64 ((trp X) 5))).setCell (p := ⟨q12, 6, none⟩) (.int .i64 ((trp X) 6))).setCell (p := ⟨q12, 7, none⟩) (.int .i64 ((trp X) 7))).setCell (p := ⟨q12, 8, none⟩) (.int .i64 ((trp X) 8)))
  have hne0 : b 15 = true → q9 ≠ q12 := fun h => (I.n3_0 ha h).symm
  have hne1 : b 16 = true → q10 ≠ q12 := fun h => (I.n3_1 ha h).symm
  have hne2 : b 17 = true → q11 ≠ q12 := fun h => (I.n3_2 ha h).symm
  have hx0 := I.x0
  have hx1 := I.x1
  have hx2 := I.x2
  rw [← e9]
  exact ⟨I.sk,
    I.bel.trans (hb.mono hq),
    by have := hb.size; have := I.sz; omega,
    I.x0,
    I.x1,
    I.x2,
    I.h0.only ho (by omega),
    I.h1.only ho (by omega),
    I.h2.only ho (by omega),
    I.h3.only ho (by omega),
    fun h => I.s0 (by simpa using h),
    fun h => I.s1 (by simpa using h),
    fun h => I.s2 (by simpa using h),
    fun h => I.s3 (by simpa using h),
    fun h => I.s4 (by simpa using h),
    fun h => I.s5 (by simpa using h),
    fun h => I.s6 (by simpa using h),
    fun h => I.s7 (by simpa using h),
    fun h => I.s8 (by simpa using h),
    fun h => I.s9 (by simpa using h),
    fun h => I.s10 (by simpa using h),
    fun h => I.s11 (by simpa using h),
    fun h => I.s12 (by simpa using h),
    fun h => I.s13 (by simpa using h),
    fun h => I.s14 (by simpa using h),
    fun h => by obtain ⟨p1, p2, cs, p3, p4, p5⟩ := I.s15 (by simpa using h); exact ⟨p1, p2, cs, p3, p4.only ho (hne0 (by simpa using h)), fun h2 => p5 (by simpa using h2)⟩,
    fun h => by have h2 := I.e19 (by simpa using h); simp [h2],
    fun h => by obtain ⟨p1, p2, cs, p3, p4, p5⟩ := I.s16 (by simpa using h); exact ⟨p1, p2, cs, p3, p4.only ho (hne1 (by simpa using h)), fun h2 => p5 (by simpa using h2)⟩,
    fun h => by have h2 := I.e20 (by simpa using h); simp [h2],
    fun h => by obtain ⟨p1, p2, cs, p3, p4, p5⟩ := I.s17 (by simpa using h); exact ⟨p1, p2, cs, p3, p4.only ho (hne2 (by simpa using h)), fun h2 => p5 (by simpa using h2)⟩,
    fun h => by have h2 := I.e21 (by simpa using h); simp [h2],
    fun h => by obtain ⟨p1, p2, cs, p3, p4, p5⟩ := I.s18 (by simpa using h); exact ⟨p1, p2, _, rfl, h9, fun _ => rfl⟩,
    fun h => by simpa using ha,
    fun h h2 => I.n1_0 (by simpa using h) (by simpa using h2),
    fun h h2 => I.n2_0 (by simpa using h) (by simpa using h2),
    fun h h2 => I.n2_1 (by simpa using h) (by simpa using h2),
    fun h h2 => I.n3_0 (by simpa using h) (by simpa using h2),
    fun h h2 => I.n3_1 (by simpa using h) (by simpa using h2),
    fun h h2 => I.n3_2 (by simpa using h) (by simpa using h2)⟩
set_option maxRecDepth 100000 in
set_option maxHeartbeats 4000000 in
theorem MvI.fin {X Y : Nat → Int} {n : Int} {nn q7 q8 : Nat} {w V : World} {a0 : Act} {b : Nat → Bool} {q9 q10 q11 q12 : Nat} {a : Act} {u : World} (I : MvI X Y n nn q7 q8 w V a0 b q9 q10 q11 q12 a u) (hb : ∀ i, i < 100 → i < 23 → b i = true) (hn : 34 < a0.tmps.size) : a = (((((((((((((((((((a0.put (some 20) (.agg #[.int .i64 (X 0), .int .i64 (X 1), .int .i64 (X 2), .int .i64 (X 3), .int .i64 (X 4), .int .i64 (X 5), .int .i64 (X 6), .int .i64 (X 7), .int .i64 (X 8)])).put (some 21) (.agg #[.int .i64 (Y 0), .int .i64 (Y 1), .int .i64 (Y 2), .int .i64 (Y 3), .int .i64 (Y 4), .int .i64 (Y 5), .int .i64 (Y 6), .int .i64 (Y 7), .int .i64 (Y 8)])).put (some 22) (.agg #[.int .i64 ((asm X Y) 0), .int .i64 ((asm X Y) 1), .int .i64 ((asm X Y) 2), .int .i64 ((asm X Y) 3), .int .i64 ((asm X Y) 4), .int .i64 ((asm X Y) 5), .int .i64 ((asm X Y) 6), .int .i64 ((asm X Y) 7), .int .i64 ((asm X Y) 8)])).put (some 23) (.agg #[.int .i64 ((asm X Y) 0), .int .i64 ((asm X Y) 1), .int .i64 ((asm X Y) 2), .int .i64 ((asm X Y) 3), .int .i64 ((asm X Y) 4), .int .i64 ((asm X Y) 5), .int .i64 ((asm X Y) 6), .int .i64 ((asm X Y) 7), .int .i64 ((asm X Y) 8)])).put (some 24) (.agg #[.int .i64 (X 0), .int .i64 (X 1), .int .i64 (X 2), .int .i64 (X 3), .int .i64 (X 4), .int .i64 (X 5), .int .i64 (X 6), .int .i64 (X 7), .int .i64 (X 8)])).put (some 25) (.agg #[.int .i64 (Y 0), .int .i64 (Y 1), .int .i64 (Y 2), .int .i64 (Y 3), .int .i64 (Y 4), .int .i64 (Y 5), .int .i64 (Y 6), .int .i64 (Y 7), .int .i64 (Y 8)])).put (some 26) (.agg #[.int .i64 ((dsm X Y) 0), .int .i64 ((dsm X Y) 1), .int .i64 ((dsm X Y) 2), .int .i64 ((dsm X Y) 3), .int .i64 ((dsm X Y) 4), .int .i64 ((dsm X Y) 5), .int .i64 ((dsm X Y) 6), .int .i64 ((dsm X Y) 7), .int .i64 ((dsm X Y) 8)])).put (some 27) (.agg #[.int .i64 ((dsm X Y) 0), .int .i64 ((dsm X Y) 1), .int .i64 ((dsm X Y) 2), .int .i64 ((dsm X Y) 3), .int .i64 ((dsm X Y) 4), .int .i64 ((dsm X Y) 5), .int .i64 ((dsm X Y) 6), .int .i64 ((dsm X Y) 7), .int .i64 ((dsm X Y) 8)])).put (some 28) (.agg #[.int .i64 (X 0), .int .i64 (X 1), .int .i64 (X 2), .int .i64 (X 3), .int .i64 (X 4), .int .i64 (X 5), .int .i64 (X 6), .int .i64 (X 7), .int .i64 (X 8)])).put (some 29) (.int .i64 n)).put (some 30) (.agg #[.int .i64 ((scl X n) 0), .int .i64 ((scl X n) 1), .int .i64 ((scl X n) 2), .int .i64 ((scl X n) 3), .int .i64 ((scl X n) 4), .int .i64 ((scl X n) 5), .int .i64 ((scl X n) 6), .int .i64 ((scl X n) 7), .int .i64 ((scl X n) 8)])).put (some 31) (.agg #[.int .i64 ((scl X n) 0), .int .i64 ((scl X n) 1), .int .i64 ((scl X n) 2), .int .i64 ((scl X n) 3), .int .i64 ((scl X n) 4), .int .i64 ((scl X n) 5), .int .i64 ((scl X n) 6), .int .i64 ((scl X n) 7), .int .i64 ((scl X n) 8)])).put (some 32) (.agg #[.int .i64 (X 0), .int .i64 (X 1), .int .i64 (X 2), .int .i64 (X 3), .int .i64 (X 4), .int .i64 (X 5), .int .i64 (X 6), .int .i64 (X 7), .int .i64 (X 8)])).put (some 33) (.agg #[.int .i64 ((trp X) 0), .int .i64 ((trp X) 1), .int .i64 ((trp X) 2), .int .i64 ((trp X) 3), .int .i64 ((trp X) 4), .int .i64 ((trp X) 5), .int .i64 ((trp X) 6), .int .i64 ((trp X) 7), .int .i64 ((trp X) 8)])).put (some 34) (.agg #[.int .i64 ((trp X) 0), .int .i64 ((trp X) 1), .int .i64 ((trp X) 2), .int .i64 ((trp X) 3), .int .i64 ((trp X) 4), .int .i64 ((trp X) 5), .int .i64 ((trp X) 6), .int .i64 ((trp X) 7), .int .i64 ((trp X) 8)])).put (some 9) (.pointer (some ⟨q9, 0, none⟩))).put (some 10) (.pointer (some ⟨q10, 0, none⟩))).put (some 11) (.pointer (some ⟨q11, 0, none⟩))).put (some 12) (.pointer (some ⟨q12, 0, none⟩))) := by
  refine act_ext (by simp only [put_defers]; exact I.sk.defers) (by simp only [put_size]; exact I.sk.size) (fun s hs => ?_)
  by_cases hd : s ∈ ([20, 21, 22, 23, 24, 25, 26, 27, 28, 29, 30, 31, 32, 33, 34, 9, 10, 11, 12] : List Nat)
  · simp only [List.mem_cons, List.not_mem_nil, or_false] at hd
    rcases hd with rfl | rfl | rfl | rfl | rfl | rfl | rfl | rfl | rfl | rfl | rfl | rfl | rfl | rfl | rfl | rfl | rfl | rfl | rfl
    · refine (I.s0 (hb 0 (by omega) (by omega))).trans (Eq.symm ?_)
      exact (put_other _ (by decide)).trans ((put_other _ (by decide)).trans ((put_other _ (by decide)).trans ((put_other _ (by decide)).trans ((put_other _ (by decide)).trans ((put_other _ (by decide)).trans ((put_other _ (by decide)).trans ((put_other _ (by decide)).trans ((put_other _ (by decide)).trans ((put_other _ (by decide)).trans ((put_other _ (by decide)).trans ((put_other _ (by decide)).trans ((put_other _ (by decide)).trans ((put_other _ (by decide)).trans ((put_other _ (by decide)).trans ((put_other _ (by decide)).trans ((put_other _ (by decide)).trans ((put_other _ (by decide)).trans (put_same _ (by (try simp only [put_size]); omega)))))))))))))))))))
    · refine (I.s1 (hb 1 (by omega) (by omega))).trans (Eq.symm ?_)
      exact (put_other _ (by decide)).trans ((put_other _ (by decide)).trans ((put_other _ (by decide)).trans ((put_other _ (by decide)).trans ((put_other _ (by decide)).trans ((put_other _ (by decide)).trans ((put_other _ (by decide)).trans ((put_other _ (by decide)).trans ((put_other _ (by decide)).trans ((put_other _ (by decide)).trans ((put_other _ (by decide)).trans ((put_other _ (by decide)).trans ((put_other _ (by decide)).trans ((put_other _ (by decide)).trans ((put_other _ (by decide)).trans ((put_other _ (by decide)).trans ((put_other _ (by decide)).trans (put_same _ (by (try simp only [put_size]); omega))))))))))))))))))
    · refine (I.s2 (hb 2 (by omega) (by omega))).trans (Eq.symm ?_)
      exact (put_other _ (by decide)).trans ((put_other _ (by decide)).trans ((put_other _ (by decide)).trans ((put_other _ (by decide)).trans ((put_other _ (by decide)).trans ((put_other _ (by decide)).trans ((put_other _ (by decide)).trans ((put_other _ (by decide)).trans ((put_other _ (by decide)).trans ((put_other _ (by decide)).trans ((put_other _ (by decide)).trans ((put_other _ (by decide)).trans ((put_other _ (by decide)).trans ((put_other _ (by decide)).trans ((put_other _ (by decide)).trans ((put_other _ (by decide)).trans (put_same _ (by (try simp only [put_size]); omega)))))))))))))))))
    · refine (I.s3 (hb 3 (by omega) (by omega))).trans (Eq.symm ?_)
      exact (put_other _ (by decide)).trans ((put_other _ (by decide)).trans ((put_other _ (by decide)).trans ((put_other _ (by decide)).trans ((put_other _ (by decide)).trans ((put_other _ (by decide)).trans ((put_other _ (by decide)).trans ((put_other _ (by decide)).trans ((put_other _ (by decide)).trans ((put_other _ (by decide)).trans ((put_other _ (by decide)).trans ((put_other _ (by decide)).trans ((put_other _ (by decide)).trans ((put_other _ (by decide)).trans ((put_other _ (by decide)).trans (put_same _ (by (try simp only [put_size]); omega))))))))))))))))
    · refine (I.s4 (hb 4 (by omega) (by omega))).trans (Eq.symm ?_)
      exact (put_other _ (by decide)).trans ((put_other _ (by decide)).trans ((put_other _ (by decide)).trans ((put_other _ (by decide)).trans ((put_other _ (by decide)).trans ((put_other _ (by decide)).trans ((put_other _ (by decide)).trans ((put_other _ (by decide)).trans ((put_other _ (by decide)).trans ((put_other _ (by decide)).trans ((put_other _ (by decide)).trans ((put_other _ (by decide)).trans ((put_other _ (by decide)).trans ((put_other _ (by decide)).trans (put_same _ (by (try simp only [put_size]); omega)))))))))))))))
    · refine (I.s5 (hb 5 (by omega) (by omega))).trans (Eq.symm ?_)
      exact (put_other _ (by decide)).trans ((put_other _ (by decide)).trans ((put_other _ (by decide)).trans ((put_other _ (by decide)).trans ((put_other _ (by decide)).trans ((put_other _ (by decide)).trans ((put_other _ (by decide)).trans ((put_other _ (by decide)).trans ((put_other _ (by decide)).trans ((put_other _ (by decide)).trans ((put_other _ (by decide)).trans ((put_other _ (by decide)).trans ((put_other _ (by decide)).trans (put_same _ (by (try simp only [put_size]); omega))))))))))))))
    · refine (I.s6 (hb 6 (by omega) (by omega))).trans (Eq.symm ?_)
      exact (put_other _ (by decide)).trans ((put_other _ (by decide)).trans ((put_other _ (by decide)).trans ((put_other _ (by decide)).trans ((put_other _ (by decide)).trans ((put_other _ (by decide)).trans ((put_other _ (by decide)).trans ((put_other _ (by decide)).trans ((put_other _ (by decide)).trans ((put_other _ (by decide)).trans ((put_other _ (by decide)).trans ((put_other _ (by decide)).trans (put_same _ (by (try simp only [put_size]); omega)))))))))))))
    · refine (I.s7 (hb 7 (by omega) (by omega))).trans (Eq.symm ?_)
      exact (put_other _ (by decide)).trans ((put_other _ (by decide)).trans ((put_other _ (by decide)).trans ((put_other _ (by decide)).trans ((put_other _ (by decide)).trans ((put_other _ (by decide)).trans ((put_other _ (by decide)).trans ((put_other _ (by decide)).trans ((put_other _ (by decide)).trans ((put_other _ (by decide)).trans ((put_other _ (by decide)).trans (put_same _ (by (try simp only [put_size]); omega))))))))))))
    · refine (I.s8 (hb 8 (by omega) (by omega))).trans (Eq.symm ?_)
      exact (put_other _ (by decide)).trans ((put_other _ (by decide)).trans ((put_other _ (by decide)).trans ((put_other _ (by decide)).trans ((put_other _ (by decide)).trans ((put_other _ (by decide)).trans ((put_other _ (by decide)).trans ((put_other _ (by decide)).trans ((put_other _ (by decide)).trans ((put_other _ (by decide)).trans (put_same _ (by (try simp only [put_size]); omega)))))))))))
    · refine (I.s9 (hb 9 (by omega) (by omega))).trans (Eq.symm ?_)
      exact (put_other _ (by decide)).trans ((put_other _ (by decide)).trans ((put_other _ (by decide)).trans ((put_other _ (by decide)).trans ((put_other _ (by decide)).trans ((put_other _ (by decide)).trans ((put_other _ (by decide)).trans ((put_other _ (by decide)).trans ((put_other _ (by decide)).trans (put_same _ (by (try simp only [put_size]); omega))))))))))
    · refine (I.s10 (hb 10 (by omega) (by omega))).trans (Eq.symm ?_)
      exact (put_other _ (by decide)).trans ((put_other _ (by decide)).trans ((put_other _ (by decide)).trans ((put_other _ (by decide)).trans ((put_other _ (by decide)).trans ((put_other _ (by decide)).trans ((put_other _ (by decide)).trans ((put_other _ (by decide)).trans (put_same _ (by (try simp only [put_size]); omega)))))))))
    · refine (I.s11 (hb 11 (by omega) (by omega))).trans (Eq.symm ?_)
      exact (put_other _ (by decide)).trans ((put_other _ (by decide)).trans ((put_other _ (by decide)).trans ((put_other _ (by decide)).trans ((put_other _ (by decide)).trans ((put_other _ (by decide)).trans ((put_other _ (by decide)).trans (put_same _ (by (try simp only [put_size]); omega))))))))
    · refine (I.s12 (hb 12 (by omega) (by omega))).trans (Eq.symm ?_)
      exact (put_other _ (by decide)).trans ((put_other _ (by decide)).trans ((put_other _ (by decide)).trans ((put_other _ (by decide)).trans ((put_other _ (by decide)).trans ((put_other _ (by decide)).trans (put_same _ (by (try simp only [put_size]); omega)))))))
    · refine (I.s13 (hb 13 (by omega) (by omega))).trans (Eq.symm ?_)
      exact (put_other _ (by decide)).trans ((put_other _ (by decide)).trans ((put_other _ (by decide)).trans ((put_other _ (by decide)).trans ((put_other _ (by decide)).trans (put_same _ (by (try simp only [put_size]); omega))))))
    · refine (I.s14 (hb 14 (by omega) (by omega))).trans (Eq.symm ?_)
      exact (put_other _ (by decide)).trans ((put_other _ (by decide)).trans ((put_other _ (by decide)).trans ((put_other _ (by decide)).trans (put_same _ (by (try simp only [put_size]); omega)))))
    · refine ((I.s15 (hb 15 (by omega) (by omega))).1).trans (Eq.symm ?_)
      exact (put_other _ (by decide)).trans ((put_other _ (by decide)).trans ((put_other _ (by decide)).trans (put_same _ (by (try simp only [put_size]); omega))))
    · refine ((I.s16 (hb 16 (by omega) (by omega))).1).trans (Eq.symm ?_)
      exact (put_other _ (by decide)).trans ((put_other _ (by decide)).trans (put_same _ (by (try simp only [put_size]); omega)))
    · refine ((I.s17 (hb 17 (by omega) (by omega))).1).trans (Eq.symm ?_)
      exact (put_other _ (by decide)).trans (put_same _ (by (try simp only [put_size]); omega))
    · refine ((I.s18 (hb 18 (by omega) (by omega))).1).trans (Eq.symm ?_)
      exact put_same _ (by (try simp only [put_size]); omega)
  · refine (I.sk.slot s hd).trans (Eq.symm ?_)
    simp only [List.mem_cons, List.not_mem_nil, or_false, not_or] at hd
    obtain ⟨g0, g1, g2, g3, g4, g5, g6, g7, g8, g9, g10, g11, g12, g13, g14, g15, g16, g17, g18⟩ := hd
    exact (put_other _ g18).trans ((put_other _ g17).trans ((put_other _ g16).trans ((put_other _ g15).trans ((put_other _ g14).trans ((put_other _ g13).trans ((put_other _ g12).trans ((put_other _ g11).trans ((put_other _ g10).trans ((put_other _ g9).trans ((put_other _ g8).trans ((put_other _ g7).trans ((put_other _ g6).trans ((put_other _ g5).trans ((put_other _ g4).trans ((put_other _ g3).trans ((put_other _ g2).trans ((put_other _ g1).trans ((put_other _ g0).trans (rfl)))))))))))))))))))
structure MsK (p0 p1 q7 q8 q9 q10 q11 q12 : Nat) (X Y : Nat → Int) (n : Int) (w v : World) : Prop where
  x : Held p0 [.int .i64 (X 0), .int .i64 (X 1), .int .i64 (X 2), .int .i64 (X 3), .int .i64 (X 4), .int .i64 (X 5), .int .i64 (X 6), .int .i64 (X 7), .int .i64 (X 8)] v
  y : Held p1 [.int .i64 (Y 0), .int .i64 (Y 1), .int .i64 (Y 2), .int .i64 (Y 3), .int .i64 (Y 4), .int .i64 (Y 5), .int .i64 (Y 6), .int .i64 (Y 7), .int .i64 (Y 8)] v
  a7 : Held q7 [.int .i64 (X 0), .int .i64 (X 1), .int .i64 (X 2), .int .i64 (X 3), .int .i64 (X 4), .int .i64 (X 5), .int .i64 (X 6), .int .i64 (X 7), .int .i64 (X 8)] v
  a8 : Held q8 [.int .i64 (Y 0), .int .i64 (Y 1), .int .i64 (Y 2), .int .i64 (Y 3), .int .i64 (Y 4), .int .i64 (Y 5), .int .i64 (Y 6), .int .i64 (Y 7), .int .i64 (Y 8)] v
  a9 : Held q9 [.int .i64 ((asm X Y) 0), .int .i64 ((asm X Y) 1), .int .i64 ((asm X Y) 2), .int .i64 ((asm X Y) 3), .int .i64 ((asm X Y) 4), .int .i64 ((asm X Y) 5), .int .i64 ((asm X Y) 6), .int .i64 ((asm X Y) 7), .int .i64 ((asm X Y) 8)] v
  a10 : Held q10 [.int .i64 ((dsm X Y) 0), .int .i64 ((dsm X Y) 1), .int .i64 ((dsm X Y) 2), .int .i64 ((dsm X Y) 3), .int .i64 ((dsm X Y) 4), .int .i64 ((dsm X Y) 5), .int .i64 ((dsm X Y) 6), .int .i64 ((dsm X Y) 7), .int .i64 ((dsm X Y) 8)] v
  a11 : Held q11 [.int .i64 ((scl X n) 0), .int .i64 ((scl X n) 1), .int .i64 ((scl X n) 2), .int .i64 ((scl X n) 3), .int .i64 ((scl X n) 4), .int .i64 ((scl X n) 5), .int .i64 ((scl X n) 6), .int .i64 ((scl X n) 7), .int .i64 ((scl X n) 8)] v
  a12 : Held q12 [.int .i64 ((trp X) 0), .int .i64 ((trp X) 1), .int .i64 ((trp X) 2), .int .i64 ((trp X) 3), .int .i64 ((trp X) 4), .int .i64 ((trp X) 5), .int .i64 ((trp X) 6), .int .i64 ((trp X) 7), .int .i64 ((trp X) 8)] v
  bel : Below w.heap.size w v
theorem MsK.next {p0 p1 q7 q8 q9 q10 q11 q12 : Nat} {X Y : Nat → Int} {n : Int} {w v v2 : World} (h : MsK p0 p1 q7 q8 q9 q10 q11 q12 X Y n w v) (k : Below v.heap.size v v2) : MsK p0 p1 q7 q8 q9 q10 q11 q12 X Y n w v2 := ⟨h.x.bel k, h.y.bel k, h.a7.bel k, h.a8.bel k, h.a9.bel k, h.a10.bel k, h.a11.bel k, h.a12.bel k, h.bel.trans (k.mono h.bel.size)⟩
theorem MsK.drew {p0 p1 q7 q8 q9 q10 q11 q12 : Nat} {X Y : Nat → Int} {n : Int} {w v : World} (h : MsK p0 p1 q7 q8 q9 q10 q11 q12 X Y n w v) : MsK p0 p1 q7 q8 q9 q10 q11 q12 X Y n w v.drew := ⟨h.x.drew, h.y.drew, h.a7.drew, h.a8.drew, h.a9.drew, h.a10.drew, h.a11.drew, h.a12.drew, h.bel.drew⟩
set_option maxRecDepth 100000 in
set_option maxHeartbeats 8000000 in
theorem rt40 (X : Nat → Int) (w : World) : Calls Try.prog 39 #[.agg #[.int .i64 (X 0), .int .i64 (X 1), .int .i64 (X 2), .int .i64 (X 3), .int .i64 (X 4), .int .i64 (X 5), .int .i64 (X 6), .int .i64 (X 7), .int .i64 (X 8)]] w fun e w' => e = .returned (.agg #[.int .i64 ((trp X) 0), .int .i64 ((trp X) 1), .int .i64 ((trp X) 2), .int .i64 ((trp X) 3), .int .i64 ((trp X) 4), .int .i64 ((trp X) 5), .int .i64 ((trp X) 6), .int .i64 ((trp X) 7), .int .i64 ((trp X) 8)]) ∧ Below w.heap.size w w' := by
  go_enter Try.func39, Try.ntmps39
  go_wp2
  exact bodyPost_ret (v := .agg #[.int .i64 (X 0), .int .i64 (X 3), .int .i64 (X 6), .int .i64 (X 1), .int .i64 (X 4), .int .i64 (X 7), .int .i64 (X 2), .int .i64 (X 5), .int .i64 (X 8)]) (by simp [results, Try.results39, go_sem]) rfl ⟨rfl, (by repeat (first | exact Below.refl _ _ | assumption | apply Below.drew | apply below_drewN | (refine Below.alloc ?_ (by first | exact Nat.le_refl _ | omega | (simp <;> omega)) _) | (refine Below.setCell ?_ (by first | exact Nat.le_refl _ | omega | (simp <;> omega)) _)))⟩
set_option maxRecDepth 100000 in
set_option maxHeartbeats 8000000 in
theorem law_MatrixSums (X Y : Nat → Int) (n : Int) (w : World) : Calls Try.prog 9 #[.agg #[.int .i64 (X 0), .int .i64 (X 1), .int .i64 (X 2), .int .i64 (X 3), .int .i64 (X 4), .int .i64 (X 5), .int .i64 (X 6), .int .i64 (X 7), .int .i64 (X 8)], .agg #[.int .i64 (Y 0), .int .i64 (Y 1), .int .i64 (Y 2), .int .i64 (Y 3), .int .i64 (Y 4), .int .i64 (Y 5), .int .i64 (Y 6), .int .i64 (Y 7), .int .i64 (Y 8)], .int .i64 n] w fun e w' => e = .returned (.bool true) ∧ Below w.heap.size w w' := by
  obtain ⟨V, eV, hb0, hX, hY, hz⟩ := msum_box w X Y
  have NX := Lib.hid (fun u => mnine X u)
  have NY := Lib.hid (fun u => mnine Y u)
  replace eV := Lib.hid eV
  have HZ := Lib.hid hz
  have HB0 := Lib.hid hb0
  clear hb0
  go_enter Try.func9, Try.ntmps9
  go_upto_region 1 with (fail)
  rw [← eV.out]
  refine region_inv_at (fun a_ V_ b a u => ∃ q7 q8, MuI X Y w V a_ b q7 q8 a u) (by kernel_rfl) (by kernel_rfl) ⟨0, 0, ⟨Sk.refl _ _, (Below.refl _ _).drew, Nat.le_of_eq HZ.out.symm, hX.drew, hY.drew, by simp, by simp, by simp, by simp, by simp, by simp, by simp, by simp, by simp⟩⟩ ?_ ?_
  · intro i o ho b a u I hb hd K hK
    obtain ⟨q7, q8, I⟩ := I
    have hi : i < 8 := (Array.getElem?_eq_some_iff.1 ho).1
    rcases (show i = 0 ∨ i = 1 ∨ i = 2 ∨ i = 3 ∨ i = 4 ∨ i = 5 ∨ i = 6 ∨ i = 7 by omega) with rfl | rfl | rfl | rfl | rfl | rfl | rfl | rfl
    · obtain rfl := Option.some.inj ho
      have d0 : a.tmps.getD 3 undef = .pointer (some ⟨w.heap.size, 0, none⟩) := (I.sk.slot 3 (by decide)).trans rfl
      have hXX := I.h0
      obtain ⟨c0, f0⟩ := hXX.one 0 rfl
      obtain ⟨c1, f1⟩ := hXX.one 1 rfl
      obtain ⟨c2, f2⟩ := hXX.one 2 rfl
      obtain ⟨c3, f3⟩ := hXX.one 3 rfl
      obtain ⟨c4, f4⟩ := hXX.one 4 rfl
      obtain ⟨c5, f5⟩ := hXX.one 5 rfl
      obtain ⟨c6, f6⟩ := hXX.one 6 rfl
      obtain ⟨c7, f7⟩ := hXX.one 7 rfl
      obtain ⟨c8, f8⟩ := hXX.one 8 rfl
      clear hXX
      have I' := Lib.hid I
      clear I hd hb
      go_simp
      exact hK.out _ _ ⟨q7, q8, I'.out.next0 (by show _ < 99; omega) (Below.refl _ _)⟩
    · obtain rfl := Option.some.inj ho
      have d0 := I.s0 (hd 0 (by decide))
      have I' := Lib.hid I
      clear I hd hb
      go_simp
      refine (NX.out _).mono ?_
      rintro e u1 ⟨rfl, hu⟩
      go_simp
      exact hK.out _ _ ⟨q7, q8, I'.out.next1 (by show _ < 99; omega) hu⟩
    · obtain rfl := Option.some.inj ho
      have d0 : a.tmps.getD 4 undef = .pointer (some ⟨w.heap.size + 1, 0, none⟩) := (I.sk.slot 4 (by decide)).trans rfl
      have hXX := I.h1
      obtain ⟨c0, f0⟩ := hXX.one 0 rfl
      obtain ⟨c1, f1⟩ := hXX.one 1 rfl
      obtain ⟨c2, f2⟩ := hXX.one 2 rfl
      obtain ⟨c3, f3⟩ := hXX.one 3 rfl
      obtain ⟨c4, f4⟩ := hXX.one 4 rfl
      obtain ⟨c5, f5⟩ := hXX.one 5 rfl
      obtain ⟨c6, f6⟩ := hXX.one 6 rfl
      obtain ⟨c7, f7⟩ := hXX.one 7 rfl
      obtain ⟨c8, f8⟩ := hXX.one 8 rfl
      clear hXX
      have I' := Lib.hid I
      clear I hd hb
      go_simp
      exact hK.out _ _ ⟨q7, q8, I'.out.next2 (by show _ < 99; omega) (Below.refl _ _)⟩
    · obtain rfl := Option.some.inj ho
      have d0 := I.s2 (hd 2 (by decide))
      have I' := Lib.hid I
      clear I hd hb
      go_simp
      refine (NY.out _).mono ?_
      rintro e u1 ⟨rfl, hu⟩
      go_simp
      exact hK.out _ _ ⟨q7, q8, I'.out.next3 (by show _ < 99; omega) hu⟩
    · obtain rfl := Option.some.inj ho
      have I' := Lib.hid I
      have hbb := Lib.hid hb
      clear I hd hb
      go_simp
      exact hK.out _ _ ⟨_, q8, I'.out.next4 (by show _ < 99; omega) hbb.out⟩
    · obtain rfl := Option.some.inj ho
      have I' := Lib.hid I
      have hbb := Lib.hid hb
      clear I hd hb
      go_simp
      exact hK.out _ _ ⟨q7, _, I'.out.next5 (by show _ < 99; omega) hbb.out⟩
    · obtain rfl := Option.some.inj ho
      have ha := hd 4 (by decide)
      have h2 := I.s1 (hd 1 (by decide))
      obtain ⟨h3, -, cs, hc, hh, -⟩ := I.s4 ha
      obtain ⟨x0, x1, x2, x3, x4, x5, x6, x7, x8, rfl⟩ := l9x hc
      obtain ⟨c0, f0⟩ := hh.one 0 rfl
      obtain ⟨c1, f1⟩ := hh.one 1 rfl
      obtain ⟨c2, f2⟩ := hh.one 2 rfl
      obtain ⟨c3, f3⟩ := hh.one 3 rfl
      obtain ⟨c4, f4⟩ := hh.one 4 rfl
      obtain ⟨c5, f5⟩ := hh.one 5 rfl
      obtain ⟨c6, f6⟩ := hh.one 6 rfl
      obtain ⟨c7, f7⟩ := hh.one 7 rfl
      obtain ⟨c8, f8⟩ := hh.one 8 rfl
      have I' := Lib.hid (I.next6 ha)
      clear I hd hb hh hc
      go_simp
      exact hK.out _ _ ⟨q7, q8, I'.out⟩
    · obtain rfl := Option.some.inj ho
      have ha := hd 5 (by decide)
      have h2 := I.s3 (hd 3 (by decide))
      obtain ⟨h3, -, cs, hc, hh, -⟩ := I.s5 ha
      obtain ⟨x0, x1, x2, x3, x4, x5, x6, x7, x8, rfl⟩ := l9x hc
      obtain ⟨c0, f0⟩ := hh.one 0 rfl
      obtain ⟨c1, f1⟩ := hh.one 1 rfl
      obtain ⟨c2, f2⟩ := hh.one 2 rfl
      obtain ⟨c3, f3⟩ := hh.one 3 rfl
      obtain ⟨c4, f4⟩ := hh.one 4 rfl
      obtain ⟨c5, f5⟩ := hh.one 5 rfl
      obtain ⟨c6, f6⟩ := hh.one 6 rfl
      obtain ⟨c7, f7⟩ := hh.one 7 rfl
      obtain ⟨c8, f8⟩ := hh.one 8 rfl
      have I' := Lib.hid (I.next7 ha)
      clear I hd hb hh hc
      go_simp
      exact hK.out _ _ ⟨q7, q8, I'.out⟩
  · intro b a u hall I
    obtain ⟨q7, q8, I⟩ := I
    have ea := I.fin (fun i _ h => hall i h) (by show _ < 99; omega)
    obtain ⟨-, r0, cs0, -, k0, j0⟩ := I.s4 (hall 4 (by decide))
    rw [j0 (hall 6 (by decide))] at k0
    obtain ⟨-, r1, cs1, -, k1, j1⟩ := I.s5 (hall 5 (by decide))
    rw [j1 (hall 7 (by decide))] at k1
    have KX := Lib.hid I.h0
    have KY := Lib.hid I.h1
    have KP := Lib.hid k0
    have KQ := Lib.hid k1
    have BB := Lib.hid I.bel
    have Z0 := Lib.hid (show q7 < u.heap.size ∧ q8 < u.heap.size ∧ w.heap.size + 2 ≤ u.heap.size from ⟨k0.lt, k1.lt, I.sz⟩)
    subst ea
    clear I hall eV k0 k1 j0 j1 hX hY hz
    simp only [Act.put, List.setIfInBounds_toArray, List.set_cons_zero, List.set_cons_succ]
    go_upto_region 2 with (fail)
    have HBU := Lib.hid (HB0.out.trans (BB.out.mono (by omega)))
    clear BB HB0 HZ
    clear V
    obtain ⟨V, hV⟩ : ∃ V, V = u := ⟨_, rfl⟩
    subst hV
    obtain ⟨nn, hnn⟩ : ∃ nn, nn = V.heap.size := ⟨_, rfl⟩
    have SA := Lib.hid (fun u => show Calls Try.prog 31 #[.agg #[.int .i64 (X 0), .int .i64 (X 1), .int .i64 (X 2), .int .i64 (X 3), .int .i64 (X 4), .int .i64 (X 5), .int .i64 (X 6), .int .i64 (X 7), .int .i64 (X 8)], .agg #[.int .i64 (Y 0), .int .i64 (Y 1), .int .i64 (Y 2), .int .i64 (Y 3), .int .i64 (Y 4), .int .i64 (Y 5), .int .i64 (Y 6), .int .i64 (Y 7), .int .i64 (Y 8)]] u fun e w' => e = .returned (.agg #[.int .i64 ((asm X Y) 0), .int .i64 ((asm X Y) 1), .int .i64 ((asm X Y) 2), .int .i64 ((asm X Y) 3), .int .i64 ((asm X Y) 4), .int .i64 ((asm X Y) 5), .int .i64 ((asm X Y) 6), .int .i64 ((asm X Y) 7), .int .i64 ((asm X Y) 8)]) ∧ Below u.heap.size u w' from madd X Y u)
    have SD := Lib.hid (fun u => show Calls Try.prog 32 #[.agg #[.int .i64 (X 0), .int .i64 (X 1), .int .i64 (X 2), .int .i64 (X 3), .int .i64 (X 4), .int .i64 (X 5), .int .i64 (X 6), .int .i64 (X 7), .int .i64 (X 8)], .agg #[.int .i64 (Y 0), .int .i64 (Y 1), .int .i64 (Y 2), .int .i64 (Y 3), .int .i64 (Y 4), .int .i64 (Y 5), .int .i64 (Y 6), .int .i64 (Y 7), .int .i64 (Y 8)]] u fun e w' => e = .returned (.agg #[.int .i64 ((dsm X Y) 0), .int .i64 ((dsm X Y) 1), .int .i64 ((dsm X Y) 2), .int .i64 ((dsm X Y) 3), .int .i64 ((dsm X Y) 4), .int .i64 ((dsm X Y) 5), .int .i64 ((dsm X Y) 6), .int .i64 ((dsm X Y) 7), .int .i64 ((dsm X Y) 8)]) ∧ Below u.heap.size u w' from msub X Y u)
    have SS := Lib.hid (fun u => mscale X n u)
    have ST := Lib.hid (fun u => mturn X u)
    have NA := Lib.hid (fun u => mnine (asm X Y) u)
    have ND := Lib.hid (fun u => mnine (dsm X Y) u)
    have NS := Lib.hid (fun u => mnine (scl X n) u)
    have NT_ := Lib.hid (fun u => mnine (trp X) u)
    refine region_inv_at (fun a_ V_ b a u => ∃ q9 q10 q11 q12, MvI X Y n nn q7 q8 w V a_ b q9 q10 q11 q12 a u) (by kernel_rfl) (by kernel_rfl) ⟨0, 0, 0, 0, ⟨Sk.refl _ _, (Below.refl _ _).drew, Nat.le_of_eq hnn, by have := Z0.out; omega, by have := Z0.out; omega, by have := Z0.out; omega, KX.out.drew, KY.out.drew, KP.out.drew, KQ.out.drew, by simp, by simp, by simp, by simp, by simp, by simp, by simp, by simp, by simp, by simp, by simp, by simp, by simp, by simp, by simp, by simp, by simp, by simp, by simp, by simp, by simp, by simp, by simp, by simp, by simp, by simp, by simp, by simp, by simp⟩⟩ ?_ ?_
    · intro i o ho b a u I hb hd K hK
      obtain ⟨q9, q10, q11, q12, I⟩ := I
      have hi : i < 23 := (Array.getElem?_eq_some_iff.1 ho).1
      rcases (show i = 0 ∨ i = 1 ∨ i = 2 ∨ i = 3 ∨ i = 4 ∨ i = 5 ∨ i = 6 ∨ i = 7 ∨ i = 8 ∨ i = 9 ∨ i = 10 ∨ i = 11 ∨ i = 12 ∨ i = 13 ∨ i = 14 ∨ i = 15 ∨ i = 16 ∨ i = 17 ∨ i = 18 ∨ i = 19 ∨ i = 20 ∨ i = 21 ∨ i = 22 by omega) with rfl | rfl | rfl | rfl | rfl | rfl | rfl | rfl | rfl | rfl | rfl | rfl | rfl | rfl | rfl | rfl | rfl | rfl | rfl | rfl | rfl | rfl | rfl
      · obtain rfl := Option.some.inj ho
        have d0 : a.tmps.getD 3 undef = .pointer (some ⟨w.heap.size, 0, none⟩) := (I.sk.slot 3 (by decide)).trans rfl
        have hXX := I.h0
        obtain ⟨c0, f0⟩ := hXX.one 0 rfl
        obtain ⟨c1, f1⟩ := hXX.one 1 rfl
        obtain ⟨c2, f2⟩ := hXX.one 2 rfl
        obtain ⟨c3, f3⟩ := hXX.one 3 rfl
        obtain ⟨c4, f4⟩ := hXX.one 4 rfl
        obtain ⟨c5, f5⟩ := hXX.one 5 rfl
        obtain ⟨c6, f6⟩ := hXX.one 6 rfl
        obtain ⟨c7, f7⟩ := hXX.one 7 rfl
        obtain ⟨c8, f8⟩ := hXX.one 8 rfl
        clear hXX
        have I' := Lib.hid I
        clear I hd hb
        go_simp
        exact hK.out _ _ ⟨q9, q10, q11, q12, I'.out.next0 (by show _ < 99; omega) (Below.refl _ _)⟩
      · obtain rfl := Option.some.inj ho
        have d0 : a.tmps.getD 4 undef = .pointer (some ⟨w.heap.size + 1, 0, none⟩) := (I.sk.slot 4 (by decide)).trans rfl
        have hXX := I.h1
        obtain ⟨c0, f0⟩ := hXX.one 0 rfl
        obtain ⟨c1, f1⟩ := hXX.one 1 rfl
        obtain ⟨c2, f2⟩ := hXX.one 2 rfl
        obtain ⟨c3, f3⟩ := hXX.one 3 rfl
        obtain ⟨c4, f4⟩ := hXX.one 4 rfl
        obtain ⟨c5, f5⟩ := hXX.one 5 rfl
        obtain ⟨c6, f6⟩ := hXX.one 6 rfl
        obtain ⟨c7, f7⟩ := hXX.one 7 rfl
        obtain ⟨c8, f8⟩ := hXX.one 8 rfl
        clear hXX
        have I' := Lib.hid I
        clear I hd hb
        go_simp
        exact hK.out _ _ ⟨q9, q10, q11, q12, I'.out.next1 (by show _ < 99; omega) (Below.refl _ _)⟩
      · obtain rfl := Option.some.inj ho
        have d0 := I.s0 (hd 0 (by decide))
        have d1 := I.s1 (hd 1 (by decide))
        have I' := Lib.hid I
        clear I hd hb
        go_simp
        refine (SA.out _).mono ?_
        rintro e u1 ⟨rfl, hu⟩
        go_simp
        exact hK.out _ _ ⟨q9, q10, q11, q12, I'.out.next2 (by show _ < 99; omega) hu⟩
      · obtain rfl := Option.some.inj ho
        have d0 := I.s2 (hd 2 (by decide))
        have I' := Lib.hid I
        clear I hd hb
        go_simp
        refine (NA.out _).mono ?_
        rintro e u1 ⟨rfl, hu⟩
        go_simp
        exact hK.out _ _ ⟨q9, q10, q11, q12, I'.out.next3 (by show _ < 99; omega) hu⟩
      · obtain rfl := Option.some.inj ho
        have d0 : a.tmps.getD 3 undef = .pointer (some ⟨w.heap.size, 0, none⟩) := (I.sk.slot 3 (by decide)).trans rfl
        have hXX := I.h0
        obtain ⟨c0, f0⟩ := hXX.one 0 rfl
        obtain ⟨c1, f1⟩ := hXX.one 1 rfl
        obtain ⟨c2, f2⟩ := hXX.one 2 rfl
        obtain ⟨c3, f3⟩ := hXX.one 3 rfl
        obtain ⟨c4, f4⟩ := hXX.one 4 rfl
        obtain ⟨c5, f5⟩ := hXX.one 5 rfl
        obtain ⟨c6, f6⟩ := hXX.one 6 rfl
        obtain ⟨c7, f7⟩ := hXX.one 7 rfl
        obtain ⟨c8, f8⟩ := hXX.one 8 rfl
        clear hXX
        have I' := Lib.hid I
        clear I hd hb
        go_simp
        exact hK.out _ _ ⟨q9, q10, q11, q12, I'.out.next4 (by show _ < 99; omega) (Below.refl _ _)⟩
      · obtain rfl := Option.some.inj ho
        have d0 : a.tmps.getD 4 undef = .pointer (some ⟨w.heap.size + 1, 0, none⟩) := (I.sk.slot 4 (by decide)).trans rfl
        have hXX := I.h1
        obtain ⟨c0, f0⟩ := hXX.one 0 rfl
        obtain ⟨c1, f1⟩ := hXX.one 1 rfl
        obtain ⟨c2, f2⟩ := hXX.one 2 rfl
        obtain ⟨c3, f3⟩ := hXX.one 3 rfl
        obtain ⟨c4, f4⟩ := hXX.one 4 rfl
        obtain ⟨c5, f5⟩ := hXX.one 5 rfl
        obtain ⟨c6, f6⟩ := hXX.one 6 rfl
        obtain ⟨c7, f7⟩ := hXX.one 7 rfl
        obtain ⟨c8, f8⟩ := hXX.one 8 rfl
        clear hXX
        have I' := Lib.hid I
        clear I hd hb
        go_simp
        exact hK.out _ _ ⟨q9, q10, q11, q12, I'.out.next5 (by show _ < 99; omega) (Below.refl _ _)⟩
      · obtain rfl := Option.some.inj ho
        have d0 := I.s4 (hd 4 (by decide))
        have d1 := I.s5 (hd 5 (by decide))
        have I' := Lib.hid I
        clear I hd hb
        go_simp
        refine (SD.out _).mono ?_
        rintro e u1 ⟨rfl, hu⟩
        go_simp
        exact hK.out _ _ ⟨q9, q10, q11, q12, I'.out.next6 (by show _ < 99; omega) hu⟩
      · obtain rfl := Option.some.inj ho
        have d0 := I.s6 (hd 6 (by decide))
        have I' := Lib.hid I
        clear I hd hb
        go_simp
        refine (ND.out _).mono ?_
        rintro e u1 ⟨rfl, hu⟩
        go_simp
        exact hK.out _ _ ⟨q9, q10, q11, q12, I'.out.next7 (by show _ < 99; omega) hu⟩
      · obtain rfl := Option.some.inj ho
        have d0 : a.tmps.getD 3 undef = .pointer (some ⟨w.heap.size, 0, none⟩) := (I.sk.slot 3 (by decide)).trans rfl
        have hXX := I.h0
        obtain ⟨c0, f0⟩ := hXX.one 0 rfl
        obtain ⟨c1, f1⟩ := hXX.one 1 rfl
        obtain ⟨c2, f2⟩ := hXX.one 2 rfl
        obtain ⟨c3, f3⟩ := hXX.one 3 rfl
        obtain ⟨c4, f4⟩ := hXX.one 4 rfl
        obtain ⟨c5, f5⟩ := hXX.one 5 rfl
        obtain ⟨c6, f6⟩ := hXX.one 6 rfl
        obtain ⟨c7, f7⟩ := hXX.one 7 rfl
        obtain ⟨c8, f8⟩ := hXX.one 8 rfl
        clear hXX
        have I' := Lib.hid I
        clear I hd hb
        go_simp
        exact hK.out _ _ ⟨q9, q10, q11, q12, I'.out.next8 (by show _ < 99; omega) (Below.refl _ _)⟩
      · obtain rfl := Option.some.inj ho
        have d0 : a.tmps.getD 2 undef = .int .i64 n := (I.sk.slot 2 (by decide)).trans rfl
        have I' := Lib.hid I
        clear I hd hb
        go_simp
        exact hK.out _ _ ⟨q9, q10, q11, q12, I'.out.next9 (by show _ < 99; omega) (Below.refl _ _)⟩
      · obtain rfl := Option.some.inj ho
        have d0 := I.s8 (hd 8 (by decide))
        have d1 := I.s9 (hd 9 (by decide))
        have I' := Lib.hid I
        clear I hd hb
        go_simp
        refine (SS.out _).mono ?_
        rintro e u1 ⟨rfl, hu⟩
        go_simp
        exact hK.out _ _ ⟨q9, q10, q11, q12, I'.out.next10 (by show _ < 99; omega) hu⟩
      · obtain rfl := Option.some.inj ho
        have d0 := I.s10 (hd 10 (by decide))
        have I' := Lib.hid I
        clear I hd hb
        go_simp
        refine (NS.out _).mono ?_
        rintro e u1 ⟨rfl, hu⟩
        go_simp
        exact hK.out _ _ ⟨q9, q10, q11, q12, I'.out.next11 (by show _ < 99; omega) hu⟩
      · obtain rfl := Option.some.inj ho
        have d0 : a.tmps.getD 3 undef = .pointer (some ⟨w.heap.size, 0, none⟩) := (I.sk.slot 3 (by decide)).trans rfl
        have hXX := I.h0
        obtain ⟨c0, f0⟩ := hXX.one 0 rfl
        obtain ⟨c1, f1⟩ := hXX.one 1 rfl
        obtain ⟨c2, f2⟩ := hXX.one 2 rfl
        obtain ⟨c3, f3⟩ := hXX.one 3 rfl
        obtain ⟨c4, f4⟩ := hXX.one 4 rfl
        obtain ⟨c5, f5⟩ := hXX.one 5 rfl
        obtain ⟨c6, f6⟩ := hXX.one 6 rfl
        obtain ⟨c7, f7⟩ := hXX.one 7 rfl
        obtain ⟨c8, f8⟩ := hXX.one 8 rfl
        clear hXX
        have I' := Lib.hid I
        clear I hd hb
        go_simp
        exact hK.out _ _ ⟨q9, q10, q11, q12, I'.out.next12 (by show _ < 99; omega) (Below.refl _ _)⟩
      · obtain rfl := Option.some.inj ho
        have d0 := I.s12 (hd 12 (by decide))
        have I' := Lib.hid I
        clear I hd hb
        go_simp
        refine (ST.out _).mono ?_
        rintro e u1 ⟨rfl, hu⟩
        go_simp
        exact hK.out _ _ ⟨q9, q10, q11, q12, I'.out.next13 (by show _ < 99; omega) hu⟩
      · obtain rfl := Option.some.inj ho
        have d0 := I.s13 (hd 13 (by decide))
        have I' := Lib.hid I
        clear I hd hb
        go_simp
        refine (NT_.out _).mono ?_
        rintro e u1 ⟨rfl, hu⟩
        go_simp
        exact hK.out _ _ ⟨q9, q10, q11, q12, I'.out.next14 (by show _ < 99; omega) hu⟩
      · obtain rfl := Option.some.inj ho
        have I' := Lib.hid I
        have hbb := Lib.hid hb
        clear I hd hb
        go_simp
        exact hK.out _ _ ⟨_, q10, q11, q12, I'.out.next15 (by show _ < 99; omega) hbb.out⟩
      · obtain rfl := Option.some.inj ho
        have I' := Lib.hid I
        have hbb := Lib.hid hb
        clear I hd hb
        go_simp
        exact hK.out _ _ ⟨q9, _, q11, q12, I'.out.next16 (by show _ < 99; omega) hbb.out⟩
      · obtain rfl := Option.some.inj ho
        have I' := Lib.hid I
        have hbb := Lib.hid hb
        clear I hd hb
        go_simp
        exact hK.out _ _ ⟨q9, q10, _, q12, I'.out.next17 (by show _ < 99; omega) hbb.out⟩
      · obtain rfl := Option.some.inj ho
        have I' := Lib.hid I
        have hbb := Lib.hid hb
        clear I hd hb
        go_simp
        exact hK.out _ _ ⟨q9, q10, q11, _, I'.out.next18 (by show _ < 99; omega) hbb.out⟩
      · obtain rfl := Option.some.inj ho
        have ha := hd 15 (by decide)
        have h2 := I.s3 (hd 3 (by decide))
        obtain ⟨h3, -, cs, hc, hh, -⟩ := I.s15 ha
        obtain ⟨x0, x1, x2, x3, x4, x5, x6, x7, x8, rfl⟩ := l9x hc
        obtain ⟨c0, f0⟩ := hh.one 0 rfl
        obtain ⟨c1, f1⟩ := hh.one 1 rfl
        obtain ⟨c2, f2⟩ := hh.one 2 rfl
        obtain ⟨c3, f3⟩ := hh.one 3 rfl
        obtain ⟨c4, f4⟩ := hh.one 4 rfl
        obtain ⟨c5, f5⟩ := hh.one 5 rfl
        obtain ⟨c6, f6⟩ := hh.one 6 rfl
        obtain ⟨c7, f7⟩ := hh.one 7 rfl
        obtain ⟨c8, f8⟩ := hh.one 8 rfl
        have I' := Lib.hid (I.next19 ha)
        clear I hd hb hh hc
        go_simp
        exact hK.out _ _ ⟨q9, q10, q11, q12, I'.out⟩
      · obtain rfl := Option.some.inj ho
        have ha := hd 16 (by decide)
        have h2 := I.s7 (hd 7 (by decide))
        obtain ⟨h3, -, cs, hc, hh, -⟩ := I.s16 ha
        obtain ⟨x0, x1, x2, x3, x4, x5, x6, x7, x8, rfl⟩ := l9x hc
        obtain ⟨c0, f0⟩ := hh.one 0 rfl
        obtain ⟨c1, f1⟩ := hh.one 1 rfl
        obtain ⟨c2, f2⟩ := hh.one 2 rfl
        obtain ⟨c3, f3⟩ := hh.one 3 rfl
        obtain ⟨c4, f4⟩ := hh.one 4 rfl
        obtain ⟨c5, f5⟩ := hh.one 5 rfl
        obtain ⟨c6, f6⟩ := hh.one 6 rfl
        obtain ⟨c7, f7⟩ := hh.one 7 rfl
        obtain ⟨c8, f8⟩ := hh.one 8 rfl
        have I' := Lib.hid (I.next20 ha)
        clear I hd hb hh hc
        go_simp
        exact hK.out _ _ ⟨q9, q10, q11, q12, I'.out⟩
      · obtain rfl := Option.some.inj ho
        have ha := hd 17 (by decide)
        have h2 := I.s11 (hd 11 (by decide))
        obtain ⟨h3, -, cs, hc, hh, -⟩ := I.s17 ha
        obtain ⟨x0, x1, x2, x3, x4, x5, x6, x7, x8, rfl⟩ := l9x hc
        obtain ⟨c0, f0⟩ := hh.one 0 rfl
        obtain ⟨c1, f1⟩ := hh.one 1 rfl
        obtain ⟨c2, f2⟩ := hh.one 2 rfl
        obtain ⟨c3, f3⟩ := hh.one 3 rfl
        obtain ⟨c4, f4⟩ := hh.one 4 rfl
        obtain ⟨c5, f5⟩ := hh.one 5 rfl
        obtain ⟨c6, f6⟩ := hh.one 6 rfl
        obtain ⟨c7, f7⟩ := hh.one 7 rfl
        obtain ⟨c8, f8⟩ := hh.one 8 rfl
        have I' := Lib.hid (I.next21 ha)
        clear I hd hb hh hc
        go_simp
        exact hK.out _ _ ⟨q9, q10, q11, q12, I'.out⟩
      · obtain rfl := Option.some.inj ho
        have ha := hd 18 (by decide)
        have h2 := I.s14 (hd 14 (by decide))
        obtain ⟨h3, -, cs, hc, hh, -⟩ := I.s18 ha
        obtain ⟨x0, x1, x2, x3, x4, x5, x6, x7, x8, rfl⟩ := l9x hc
        obtain ⟨c0, f0⟩ := hh.one 0 rfl
        obtain ⟨c1, f1⟩ := hh.one 1 rfl
        obtain ⟨c2, f2⟩ := hh.one 2 rfl
        obtain ⟨c3, f3⟩ := hh.one 3 rfl
        obtain ⟨c4, f4⟩ := hh.one 4 rfl
        obtain ⟨c5, f5⟩ := hh.one 5 rfl
        obtain ⟨c6, f6⟩ := hh.one 6 rfl
        obtain ⟨c7, f7⟩ := hh.one 7 rfl
        obtain ⟨c8, f8⟩ := hh.one 8 rfl
        have I' := Lib.hid (I.next22 ha)
        clear I hd hb hh hc
        go_simp
        exact hK.out _ _ ⟨q9, q10, q11, q12, I'.out⟩
    · intro b a u hall I
      obtain ⟨q9, q10, q11, q12, I⟩ := I
      have ea := I.fin (fun i _ h => hall i h) (by show _ < 99; omega)
      obtain ⟨-, r0, cs0, -, k0, j0⟩ := I.s15 (hall 15 (by decide))
      rw [j0 (hall 19 (by decide))] at k0
      obtain ⟨-, r1, cs1, -, k1, j1⟩ := I.s16 (hall 16 (by decide))
      rw [j1 (hall 20 (by decide))] at k1
      obtain ⟨-, r2, cs2, -, k2, j2⟩ := I.s17 (hall 17 (by decide))
      rw [j2 (hall 21 (by decide))] at k2
      obtain ⟨-, r3, cs3, -, k3, j3⟩ := I.s18 (hall 18 (by decide))
      rw [j3 (hall 22 (by decide))] at k3
      have KK : MsK w.heap.size (w.heap.size + 1) q7 q8 q9 q10 q11 q12 X Y n w u := ⟨I.h0, I.h1, I.h2, I.h3, k0, k1, k2, k3, HBU.out.trans (I.bel.mono (by have := Z0.out; omega))⟩
      subst ea
      clear I hall k0 k1 k2 k3 HBU Z0 SA SD SS ST NA ND NS NT_ NX NY KX KY KP KQ r0 r1 r2 r3 j0 j1 j2 j3
      simp only [Act.put, List.setIfInBounds_toArray, List.set_cons_zero, List.set_cons_succ]
      have SM := Lib.hid (fun x y u => rsum40 x y u)
      have RC := Lib.hid (fun x u => rclip40 x u)
      have TM := Lib.hid (fun x u => rtimes x n u)
      have PL := Lib.hid (fun u => mplus X Y u)
      have TU := Lib.hid (fun u => rt40 X u)
      have LV := Lib.hid (fun u => lives40 u)
      obtain ⟨p0, ep0⟩ : ∃ z, z = w.heap.size := ⟨_, rfl⟩
      obtain ⟨p1, ep1⟩ : ∃ z, z = w.heap.size + 1 := ⟨_, rfl⟩
      have hp1 := Lib.hid (show p1 = p0 + 1 from by omega)
      rw [← ep1] at KK ⊢
      replace ep0 := Lib.hid ep0
      replace ep1 := Lib.hid ep1
      skip
      go_wp2_with fail
      go_loopw [13] (fun i v => ∃ k : Nat, k ≤ 9 ∧ i = .int .i64 (k : Int) ∧ Hid (MsK w.heap.size p1 q7 q8 q9 q10 q11 q12 X Y n w v)) (fun i _ => 9 - (intOf i).toNat)
      case atStart => exact ⟨0, by omega, rfl, Lib.hid KK⟩
      case round =>
        clear KK
        obtain ⟨k, hk, rfl, KK⟩ := hrel
        by_cases hlt : k < 9
        · have i0 : 0 ≤ (k : Int) := by omega
          have i1 : (k : Int) < 9 := by omega
          have i2 : IntKind.i64.wrap ((k : Int) + 1) = (k : Int) + 1 := by rw [IntKind.wrap_i64]; omega
          have s1 := SM.out (X k) (Y k)
          have s2 := RC.out (Y k)
          have s3 := SM.out (X k) (-(clp (Y k)))
          have s4 := TM.out (X k)
          rw [show smI (X k) (-(clp (Y k))) = sbI (X k) (Y k) from smI_neg _ _] at s3
          have cb := clp_bd40 (Y k)
          have ew : IntKind.i64.wrap (-(clp (Y k))) = -(clp (Y k)) := IntWalk.i64_in _ ⟨by omega, by omega⟩
          obtain ⟨v0, ek0⟩ : ∃ z, asm X Y k = z := ⟨_, rfl⟩
          obtain ⟨x, ek1⟩ : ∃ z, X k = z := ⟨_, rfl⟩
          obtain ⟨y, ek2⟩ : ∃ z, Y k = z := ⟨_, rfl⟩
          obtain ⟨v1, ek3⟩ : ∃ z, dsm X Y k = z := ⟨_, rfl⟩
          obtain ⟨v2, ek4⟩ : ∃ z, scl X n k = z := ⟨_, rfl⟩
          rw [show smI (X k) (Y k) = v0 from ek0] at s1
          rw [show sbI (X k) (Y k) = v1 from ek3] at s3
          rw [show prd (X k) n = v2 from ek4] at s4
          rw [ek1, ek2] at s1
          rw [ek2] at s2 ew
          rw [ek1, ek2] at s3
          rw [ek1] at s4
          rw [ek2] at cb
          generalize clp y = v3 at *
          clear cb
          replace ek0 := Lib.hid ek0
          replace ek1 := Lib.hid ek1
          replace ek2 := Lib.hid ek2
          replace ek3 := Lib.hid ek3
          replace ek4 := Lib.hid ek4
          replace s1 := Lib.hid s1
          replace s2 := Lib.hid s2
          replace s3 := Lib.hid s3
          replace s4 := Lib.hid s4
          have c0 := ml_at (A := asm X Y) KK.out.a9 hlt
          have c1 := ml_at (A := X) KK.out.a7 hlt
          have c2 := ml_at (A := Y) KK.out.a8 hlt
          have c3 := ml_at (A := dsm X Y) KK.out.a10 hlt
          have c4 := ml_at (A := scl X n) KK.out.a11 hlt
          have kk0 := ek0.out
          rw [kk0] at c0
          rw [ek1.out] at c1
          rw [ek2.out] at c2
          rw [ek3.out] at c3
          rw [ek4.out] at c4
          clear kk0
          go_wp2_with fail
          refine region_moves (fun u => u.cell? ⟨q9, k, none⟩ = some (.int .i64 v0) ∧ u.cell? ⟨q7, k, none⟩ = some (.int .i64 x) ∧ u.cell? ⟨q8, k, none⟩ = some (.int .i64 y) ∧ u.cell? ⟨q10, k, none⟩ = some (.int .i64 v1) ∧ u.cell? ⟨q11, k, none⟩ = some (.int .i64 v2)) [] [(.free, 0), (.free, 1), (.take, 2), (.free, 3), (.free, 4), (.take, 5), (.free, 6), (.free, 7), (.take, 8), (.step, 9), (.free, 10), (.free, 11), (.free, 12), (.free, 13), (.take, 14), (.free, 15), (.free, 16), (.take, 17), (.free, 18), (.free, 19), (.take, 20), (.step, 21), (.free, 22), (.step, 23), (.free, 24), (.free, 25), (.free, 26), (.free, 27), (.free, 28), (.take, 29), (.free, 30), (.free, 31), (.take, 32), (.free, 33), (.step, 34), (.free, 35), (.free, 36)] _ (by kernel_rfl) (by kernel_rfl) (by kernel_rfl) (by kernel_rfl) (by decide) rfl (fun _ _ _ _ _ h => h) ?_
          simp only [List.filterMap_cons, List.filterMap_nil, List.getElem?_toArray, List.getElem?_cons_zero, List.getElem?_cons_succ, Option.map_some]
          iterate 2
            first
              | (refine mv_free ?_ (Or.inl ⟨by rfl, ?_⟩) (⟨c0, c1, c2, c3, c4⟩) ?_
                 rotate_left 1
                 · intro u
                   go_simp
                   try simp only [d1]
                   try simp only [d2]
                   try simp only [d3]
                   try with_reducible rfl
                 simp only [Act.put, List.setIfInBounds_toArray, List.set_cons_zero, List.set_cons_succ])
              | (refine mv_free _ (Or.inr ⟨by rfl, rfl⟩) (⟨c0, c1, c2, c3, c4⟩) ?_
                 simp only [Act.put, List.setIfInBounds_toArray, List.set_cons_zero, List.set_cons_succ])
          iterate 1
            first
              | (refine mv_take ?_ (Or.inl ⟨by rfl, ?_⟩) (⟨c0, c1, c2, c3, c4⟩) ?_
                 rotate_left 1
                 · intro u hu
                   (try dsimp only at hu)
                   go_simp
                   try with_reducible rfl
                 simp only [Act.put, List.setIfInBounds_toArray, List.set_cons_zero, List.set_cons_succ])
              | (refine mv_take _ (Or.inr ⟨by rfl, rfl⟩) (⟨c0, c1, c2, c3, c4⟩) ?_
                 simp only [Act.put, List.setIfInBounds_toArray, List.set_cons_zero, List.set_cons_succ])
          iterate 2
            first
              | (refine mv_free ?_ (Or.inl ⟨by rfl, ?_⟩) (⟨c0, c1, c2, c3, c4⟩) ?_
                 rotate_left 1
                 · intro u
                   go_simp
                   try simp only [d1]
                   try simp only [d2]
                   try simp only [d3]
                   try with_reducible rfl
                 simp only [Act.put, List.setIfInBounds_toArray, List.set_cons_zero, List.set_cons_succ])
              | (refine mv_free _ (Or.inr ⟨by rfl, rfl⟩) (⟨c0, c1, c2, c3, c4⟩) ?_
                 simp only [Act.put, List.setIfInBounds_toArray, List.set_cons_zero, List.set_cons_succ])
          iterate 1
            first
              | (refine mv_take ?_ (Or.inl ⟨by rfl, ?_⟩) (⟨c0, c1, c2, c3, c4⟩) ?_
                 rotate_left 1
                 · intro u hu
                   (try dsimp only at hu)
                   go_simp
                   try with_reducible rfl
                 simp only [Act.put, List.setIfInBounds_toArray, List.set_cons_zero, List.set_cons_succ])
              | (refine mv_take _ (Or.inr ⟨by rfl, rfl⟩) (⟨c0, c1, c2, c3, c4⟩) ?_
                 simp only [Act.put, List.setIfInBounds_toArray, List.set_cons_zero, List.set_cons_succ])
          iterate 2
            first
              | (refine mv_free ?_ (Or.inl ⟨by rfl, ?_⟩) (⟨c0, c1, c2, c3, c4⟩) ?_
                 rotate_left 1
                 · intro u
                   go_simp
                   try simp only [d1]
                   try simp only [d2]
                   try simp only [d3]
                   try with_reducible rfl
                 simp only [Act.put, List.setIfInBounds_toArray, List.set_cons_zero, List.set_cons_succ])
              | (refine mv_free _ (Or.inr ⟨by rfl, rfl⟩) (⟨c0, c1, c2, c3, c4⟩) ?_
                 simp only [Act.put, List.setIfInBounds_toArray, List.set_cons_zero, List.set_cons_succ])
          iterate 1
            first
              | (refine mv_take ?_ (Or.inl ⟨by rfl, ?_⟩) (⟨c0, c1, c2, c3, c4⟩) ?_
                 rotate_left 1
                 · intro u hu
                   (try dsimp only at hu)
                   go_simp
                   try with_reducible rfl
                 simp only [Act.put, List.setIfInBounds_toArray, List.set_cons_zero, List.set_cons_succ])
              | (refine mv_take _ (Or.inr ⟨by rfl, rfl⟩) (⟨c0, c1, c2, c3, c4⟩) ?_
                 simp only [Act.put, List.setIfInBounds_toArray, List.set_cons_zero, List.set_cons_succ])
          refine mv_step (fun K hK => ?_)
          go_simp
          refine (s1.out _).mono ?_
          rintro e w' ⟨rfl, rfl⟩
          go_wp2_with fail
          refine hK.out _ _ _ (fun u hu => hu) (⟨c0, c1, c2, c3, c4⟩) ?_
          clear hK K
          iterate 4
            first
              | (refine mv_free ?_ (Or.inl ⟨by rfl, ?_⟩) (⟨c0, c1, c2, c3, c4⟩) ?_
                 rotate_left 1
                 · intro u
                   go_simp
                   try simp only [d1]
                   try simp only [d2]
                   try simp only [d3]
                   try with_reducible rfl
                 simp only [Act.put, List.setIfInBounds_toArray, List.set_cons_zero, List.set_cons_succ])
              | (refine mv_free _ (Or.inr ⟨by rfl, rfl⟩) (⟨c0, c1, c2, c3, c4⟩) ?_
                 simp only [Act.put, List.setIfInBounds_toArray, List.set_cons_zero, List.set_cons_succ])
          iterate 1
            first
              | (refine mv_take ?_ (Or.inl ⟨by rfl, ?_⟩) (⟨c0, c1, c2, c3, c4⟩) ?_
                 rotate_left 1
                 · intro u hu
                   (try dsimp only at hu)
                   go_simp
                   try with_reducible rfl
                 simp only [Act.put, List.setIfInBounds_toArray, List.set_cons_zero, List.set_cons_succ])
              | (refine mv_take _ (Or.inr ⟨by rfl, rfl⟩) (⟨c0, c1, c2, c3, c4⟩) ?_
                 simp only [Act.put, List.setIfInBounds_toArray, List.set_cons_zero, List.set_cons_succ])
          iterate 2
            first
              | (refine mv_free ?_ (Or.inl ⟨by rfl, ?_⟩) (⟨c0, c1, c2, c3, c4⟩) ?_
                 rotate_left 1
                 · intro u
                   go_simp
                   try simp only [d1]
                   try simp only [d2]
                   try simp only [d3]
                   try with_reducible rfl
                 simp only [Act.put, List.setIfInBounds_toArray, List.set_cons_zero, List.set_cons_succ])
              | (refine mv_free _ (Or.inr ⟨by rfl, rfl⟩) (⟨c0, c1, c2, c3, c4⟩) ?_
                 simp only [Act.put, List.setIfInBounds_toArray, List.set_cons_zero, List.set_cons_succ])
          iterate 1
            first
              | (refine mv_take ?_ (Or.inl ⟨by rfl, ?_⟩) (⟨c0, c1, c2, c3, c4⟩) ?_
                 rotate_left 1
                 · intro u hu
                   (try dsimp only at hu)
                   go_simp
                   try with_reducible rfl
                 simp only [Act.put, List.setIfInBounds_toArray, List.set_cons_zero, List.set_cons_succ])
              | (refine mv_take _ (Or.inr ⟨by rfl, rfl⟩) (⟨c0, c1, c2, c3, c4⟩) ?_
                 simp only [Act.put, List.setIfInBounds_toArray, List.set_cons_zero, List.set_cons_succ])
          iterate 2
            first
              | (refine mv_free ?_ (Or.inl ⟨by rfl, ?_⟩) (⟨c0, c1, c2, c3, c4⟩) ?_
                 rotate_left 1
                 · intro u
                   go_simp
                   try simp only [d1]
                   try simp only [d2]
                   try simp only [d3]
                   try with_reducible rfl
                 simp only [Act.put, List.setIfInBounds_toArray, List.set_cons_zero, List.set_cons_succ])
              | (refine mv_free _ (Or.inr ⟨by rfl, rfl⟩) (⟨c0, c1, c2, c3, c4⟩) ?_
                 simp only [Act.put, List.setIfInBounds_toArray, List.set_cons_zero, List.set_cons_succ])
          iterate 1
            first
              | (refine mv_take ?_ (Or.inl ⟨by rfl, ?_⟩) (⟨c0, c1, c2, c3, c4⟩) ?_
                 rotate_left 1
                 · intro u hu
                   (try dsimp only at hu)
                   go_simp
                   try with_reducible rfl
                 simp only [Act.put, List.setIfInBounds_toArray, List.set_cons_zero, List.set_cons_succ])
              | (refine mv_take _ (Or.inr ⟨by rfl, rfl⟩) (⟨c0, c1, c2, c3, c4⟩) ?_
                 simp only [Act.put, List.setIfInBounds_toArray, List.set_cons_zero, List.set_cons_succ])
          refine mv_step (fun K hK => ?_)
          go_simp
          refine (s2.out _).mono ?_
          rintro e w' ⟨rfl, rfl⟩
          go_wp2_with fail
          refine hK.out _ _ _ (fun u hu => hu) (⟨c0, c1, c2, c3, c4⟩) ?_
          clear hK K
          iterate 1
            first
              | (refine mv_free ?_ (Or.inl ⟨by rfl, ?_⟩) (⟨c0, c1, c2, c3, c4⟩) ?_
                 rotate_left 1
                 · intro u
                   go_simp
                   try simp only [d1]
                   try simp only [d2]
                   try simp only [d3]
                   try with_reducible rfl
                 simp only [Act.put, List.setIfInBounds_toArray, List.set_cons_zero, List.set_cons_succ])
              | (refine mv_free _ (Or.inr ⟨by rfl, rfl⟩) (⟨c0, c1, c2, c3, c4⟩) ?_
                 simp only [Act.put, List.setIfInBounds_toArray, List.set_cons_zero, List.set_cons_succ])
          refine mv_step (fun K hK => ?_)
          go_simp
          refine (s3.out _).mono ?_
          rintro e w' ⟨rfl, rfl⟩
          go_wp2_with fail
          refine hK.out _ _ _ (fun u hu => hu) (⟨c0, c1, c2, c3, c4⟩) ?_
          clear hK K
          iterate 5
            first
              | (refine mv_free ?_ (Or.inl ⟨by rfl, ?_⟩) (⟨c0, c1, c2, c3, c4⟩) ?_
                 rotate_left 1
                 · intro u
                   go_simp
                   try simp only [d1]
                   try simp only [d2]
                   try simp only [d3]
                   try with_reducible rfl
                 simp only [Act.put, List.setIfInBounds_toArray, List.set_cons_zero, List.set_cons_succ])
              | (refine mv_free _ (Or.inr ⟨by rfl, rfl⟩) (⟨c0, c1, c2, c3, c4⟩) ?_
                 simp only [Act.put, List.setIfInBounds_toArray, List.set_cons_zero, List.set_cons_succ])
          iterate 1
            first
              | (refine mv_take ?_ (Or.inl ⟨by rfl, ?_⟩) (⟨c0, c1, c2, c3, c4⟩) ?_
                 rotate_left 1
                 · intro u hu
                   (try dsimp only at hu)
                   go_simp
                   try with_reducible rfl
                 simp only [Act.put, List.setIfInBounds_toArray, List.set_cons_zero, List.set_cons_succ])
              | (refine mv_take _ (Or.inr ⟨by rfl, rfl⟩) (⟨c0, c1, c2, c3, c4⟩) ?_
                 simp only [Act.put, List.setIfInBounds_toArray, List.set_cons_zero, List.set_cons_succ])
          iterate 2
            first
              | (refine mv_free ?_ (Or.inl ⟨by rfl, ?_⟩) (⟨c0, c1, c2, c3, c4⟩) ?_
                 rotate_left 1
                 · intro u
                   go_simp
                   try simp only [d1]
                   try simp only [d2]
                   try simp only [d3]
                   try with_reducible rfl
                 simp only [Act.put, List.setIfInBounds_toArray, List.set_cons_zero, List.set_cons_succ])
              | (refine mv_free _ (Or.inr ⟨by rfl, rfl⟩) (⟨c0, c1, c2, c3, c4⟩) ?_
                 simp only [Act.put, List.setIfInBounds_toArray, List.set_cons_zero, List.set_cons_succ])
          iterate 1
            first
              | (refine mv_take ?_ (Or.inl ⟨by rfl, ?_⟩) (⟨c0, c1, c2, c3, c4⟩) ?_
                 rotate_left 1
                 · intro u hu
                   (try dsimp only at hu)
                   go_simp
                   try with_reducible rfl
                 simp only [Act.put, List.setIfInBounds_toArray, List.set_cons_zero, List.set_cons_succ])
              | (refine mv_take _ (Or.inr ⟨by rfl, rfl⟩) (⟨c0, c1, c2, c3, c4⟩) ?_
                 simp only [Act.put, List.setIfInBounds_toArray, List.set_cons_zero, List.set_cons_succ])
          iterate 1
            first
              | (refine mv_free ?_ (Or.inl ⟨by rfl, ?_⟩) (⟨c0, c1, c2, c3, c4⟩) ?_
                 rotate_left 1
                 · intro u
                   go_simp
                   try simp only [d1]
                   try simp only [d2]
                   try simp only [d3]
                   try with_reducible rfl
                 simp only [Act.put, List.setIfInBounds_toArray, List.set_cons_zero, List.set_cons_succ])
              | (refine mv_free _ (Or.inr ⟨by rfl, rfl⟩) (⟨c0, c1, c2, c3, c4⟩) ?_
                 simp only [Act.put, List.setIfInBounds_toArray, List.set_cons_zero, List.set_cons_succ])
          refine mv_step (fun K hK => ?_)
          go_simp
          refine (s4.out _).mono ?_
          rintro e w4 ⟨rfl, hq⟩
          replace KK := Lib.hid (KK.out.drew.next hq)
          clear hq c0 c1 c2 c3 c4
          have c0 := ml_at (A := asm X Y) KK.out.a9 hlt
          have c1 := ml_at (A := X) KK.out.a7 hlt
          have c2 := ml_at (A := Y) KK.out.a8 hlt
          have c3 := ml_at (A := dsm X Y) KK.out.a10 hlt
          have c4 := ml_at (A := scl X n) KK.out.a11 hlt
          have kk0 := ek0.out
          rw [kk0] at c0
          rw [ek1.out] at c1
          rw [ek2.out] at c2
          rw [ek3.out] at c3
          rw [ek4.out] at c4
          clear kk0
          go_wp2_with fail
          refine hK.out _ _ _ (fun u hu => hu) (⟨c0, c1, c2, c3, c4⟩) ?_
          clear hK K
          iterate 2
            first
              | (refine mv_free ?_ (Or.inl ⟨by rfl, ?_⟩) (⟨c0, c1, c2, c3, c4⟩) ?_
                 rotate_left 1
                 · intro u
                   go_simp
                   try simp only [d1]
                   try simp only [d2]
                   try simp only [d3]
                   try with_reducible rfl
                 simp only [Act.put, List.setIfInBounds_toArray, List.set_cons_zero, List.set_cons_succ])
              | (refine mv_free _ (Or.inr ⟨by rfl, rfl⟩) (⟨c0, c1, c2, c3, c4⟩) ?_
                 simp only [Act.put, List.setIfInBounds_toArray, List.set_cons_zero, List.set_cons_succ])
          refine mv_done ?_
          go_wp2
          go_roundw
          case rel => exact ⟨k + 1, by omega, by first | rfl | go_num, KK⟩
          case measure => simp [intOf] <;> omega
        · obtain rfl : k = 9 := by omega
          clear hlt hk SM RC TM
          have hh_ := KK.out.x
          obtain ⟨c0, f0⟩ := hh_.one 0 rfl
          obtain ⟨c1, f1⟩ := hh_.one 1 rfl
          obtain ⟨c2, f2⟩ := hh_.one 2 rfl
          obtain ⟨c3, f3⟩ := hh_.one 3 rfl
          obtain ⟨c4, f4⟩ := hh_.one 4 rfl
          obtain ⟨c5, f5⟩ := hh_.one 5 rfl
          obtain ⟨c6, f6⟩ := hh_.one 6 rfl
          obtain ⟨c7, f7⟩ := hh_.one 7 rfl
          obtain ⟨c8, f8⟩ := hh_.one 8 rfl
          clear hh_
          have hh_ := KK.out.y
          obtain ⟨d0, g0⟩ := hh_.one 0 rfl
          obtain ⟨d1, g1⟩ := hh_.one 1 rfl
          obtain ⟨d2, g2⟩ := hh_.one 2 rfl
          obtain ⟨d3, g3⟩ := hh_.one 3 rfl
          obtain ⟨d4, g4⟩ := hh_.one 4 rfl
          obtain ⟨d5, g5⟩ := hh_.one 5 rfl
          obtain ⟨d6, g6⟩ := hh_.one 6 rfl
          obtain ⟨d7, g7⟩ := hh_.one 7 rfl
          obtain ⟨d8, g8⟩ := hh_.one 8 rfl
          clear hh_
          go_wp2_with fail
          refine (PL.out _).mono ?_
          rintro e w5 ⟨rfl, hq⟩
          replace KK := Lib.hid (KK.out.next hq)
          clear hq
          clear c0 c1 c2 c3 c4 c5 c6 c7 c8 f0 f1 f2 f3 f4 f5 f6 f7 f8 d0 d1 d2 d3 d4 d5 d6 d7 d8 g0 g1 g2 g3 g4 g5 g6 g7 g8
          obtain ⟨V6, e6⟩ : ∃ z, z = w5.alloc (.cells #[.int .i64 ((pls X Y) 0), .int .i64 ((pls X Y) 1), .int .i64 ((pls X Y) 2)] 80) := ⟨_, rfl⟩
          have KV : Held w5.heap.size [.int .i64 ((pls X Y) 0), .int .i64 ((pls X Y) 1), .int .i64 ((pls X Y) 2)] V6 := by rw [e6]; exact Held.new w5 [.int .i64 ((pls X Y) 0), .int .i64 ((pls X Y) 1), .int .i64 ((pls X Y) 2)] _
          have K6 : MsK w.heap.size p1 q7 q8 q9 q10 q11 q12 X Y n w V6 := by rw [e6]; exact KK.out.next (by repeat (first | exact Below.refl _ _ | assumption | apply Below.drew | apply below_drewN | (refine Below.alloc ?_ (by first | exact Nat.le_refl _ | omega | (simp <;> omega)) _) | (refine Below.setCell ?_ (by first | exact Nat.le_refl _ | omega | (simp <;> omega)) _)))
          go_upto_region 9 with (fail)
          rw [← e6]
          clear e6 KK
          skip
          generalize w5.heap.size = qv at *
          go_wp2_with fail
          go_loopw [15] (fun i v => ∃ k : Nat, k ≤ 3 ∧ i = .int .i64 (k : Int) ∧ Hid (Held qv [.int .i64 ((pls X Y) 0), .int .i64 ((pls X Y) 1), .int .i64 ((pls X Y) 2)] v) ∧ Hid (MsK w.heap.size p1 q7 q8 q9 q10 q11 q12 X Y n w v)) (fun i _ => 3 - (intOf i).toNat)
          case atStart => exact ⟨0, by omega, rfl, Lib.hid KV, Lib.hid K6⟩
          case round =>
            clear KV K6
            obtain ⟨k, hk, rfl, KV, KK⟩ := hrel
            by_cases hlt : k < 3
            · have i0 : 0 ≤ (k : Int) := by omega
              have i1 : (k : Int) < 3 := by omega
              have i3 : (k : Int) < 9 := by omega
              have i2 : IntKind.i64.wrap ((k : Int) + 1) = (k : Int) + 1 := by rw [IntKind.wrap_i64]; omega
              have c0 := ml_at (A := asm X Y) KK.out.a9 (k := k) (by omega)
              have c1 : wr.cell? ⟨qv, k, none⟩ = some (.int .i64 (asm X Y k)) := by
                rcases (show k = 0 ∨ k = 1 ∨ k = 2 from by omega) with rfl | rfl | rfl
                · exact KV.out.c 0 _ rfl
                · exact KV.out.c 1 _ rfl
                · exact KV.out.c 2 _ rfl
              generalize asm X Y k = z at c0 c1
              go_wp2_with fail
              refine region_still [] [(.free, 0), (.free, 1), (.take, 2), (.free, 3), (.free, 4), (.take, 5), (.free, 6)] _ (by kernel_rfl) (by kernel_rfl) (by kernel_rfl) (by kernel_rfl) (by decide) rfl (fun _ _ _ _ _ h => h) ?_
              simp only [List.filterMap_cons, List.filterMap_nil, List.getElem?_toArray, List.getElem?_cons_zero, List.getElem?_cons_succ, Option.map_some]
              iterate 2
                first
                  | (refine mv_free ?_ (Or.inl ⟨by rfl, ?_⟩) (rfl) ?_
                     rotate_left 1
                     · intro u
                       go_simp
                       try simp only [d1]
                       try simp only [d2]
                       try simp only [d3]
                       try with_reducible rfl
                     simp only [Act.put, List.setIfInBounds_toArray, List.set_cons_zero, List.set_cons_succ])
                  | (refine mv_free _ (Or.inr ⟨by rfl, rfl⟩) (rfl) ?_
                     simp only [Act.put, List.setIfInBounds_toArray, List.set_cons_zero, List.set_cons_succ])
              iterate 1
                first
                  | (refine mv_take ?_ (Or.inl ⟨by rfl, ?_⟩) (rfl) ?_
                     rotate_left 1
                     · intro u hu
                       (try dsimp only at hu)
                       go_simp
                       try with_reducible rfl
                     simp only [Act.put, List.setIfInBounds_toArray, List.set_cons_zero, List.set_cons_succ])
                  | (refine mv_take _ (Or.inr ⟨by rfl, rfl⟩) (rfl) ?_
                     simp only [Act.put, List.setIfInBounds_toArray, List.set_cons_zero, List.set_cons_succ])
              iterate 2
                first
                  | (refine mv_free ?_ (Or.inl ⟨by rfl, ?_⟩) (rfl) ?_
                     rotate_left 1
                     · intro u
                       go_simp
                       try simp only [d1]
                       try simp only [d2]
                       try simp only [d3]
                       try with_reducible rfl
                     simp only [Act.put, List.setIfInBounds_toArray, List.set_cons_zero, List.set_cons_succ])
                  | (refine mv_free _ (Or.inr ⟨by rfl, rfl⟩) (rfl) ?_
                     simp only [Act.put, List.setIfInBounds_toArray, List.set_cons_zero, List.set_cons_succ])
              iterate 1
                first
                  | (refine mv_take ?_ (Or.inl ⟨by rfl, ?_⟩) (rfl) ?_
                     rotate_left 1
                     · intro u hu
                       (try dsimp only at hu)
                       go_simp
                       try with_reducible rfl
                     simp only [Act.put, List.setIfInBounds_toArray, List.set_cons_zero, List.set_cons_succ])
                  | (refine mv_take _ (Or.inr ⟨by rfl, rfl⟩) (rfl) ?_
                     simp only [Act.put, List.setIfInBounds_toArray, List.set_cons_zero, List.set_cons_succ])
              iterate 1
                first
                  | (refine mv_free ?_ (Or.inl ⟨by rfl, ?_⟩) (rfl) ?_
                     rotate_left 1
                     · intro u
                       go_simp
                       try simp only [d1]
                       try simp only [d2]
                       try simp only [d3]
                       try with_reducible rfl
                     simp only [Act.put, List.setIfInBounds_toArray, List.set_cons_zero, List.set_cons_succ])
                  | (refine mv_free _ (Or.inr ⟨by rfl, rfl⟩) (rfl) ?_
                     simp only [Act.put, List.setIfInBounds_toArray, List.set_cons_zero, List.set_cons_succ])
              refine mv_done ?_
              go_wp2
              go_roundw
              case rel => exact ⟨k + 1, by omega, by first | rfl | go_num, by first | exact Lib.hid KV.out.drew | exact KV, by first | exact Lib.hid KK.out.drew | exact KK⟩
              case measure => simp [intOf] <;> omega
            · obtain rfl : k = 3 := by omega
              clear hlt hk
              have EQ := fun u => neq9 ((trp X) 0) ((trp X) 1) ((trp X) 2) ((trp X) 3) ((trp X) 4) ((trp X) 5) ((trp X) 6) ((trp X) 7) ((trp X) 8) u
              have hh_ := KK.out.a12
              obtain ⟨c0, f0⟩ := hh_.one 0 rfl
              obtain ⟨c1, f1⟩ := hh_.one 1 rfl
              obtain ⟨c2, f2⟩ := hh_.one 2 rfl
              obtain ⟨c3, f3⟩ := hh_.one 3 rfl
              obtain ⟨c4, f4⟩ := hh_.one 4 rfl
              obtain ⟨c5, f5⟩ := hh_.one 5 rfl
              obtain ⟨c6, f6⟩ := hh_.one 6 rfl
              obtain ⟨c7, f7⟩ := hh_.one 7 rfl
              obtain ⟨c8, f8⟩ := hh_.one 8 rfl
              clear hh_
              have hh_ := KK.out.a7
              obtain ⟨d0, g0⟩ := hh_.one 0 rfl
              obtain ⟨d1, g1⟩ := hh_.one 1 rfl
              obtain ⟨d2, g2⟩ := hh_.one 2 rfl
              obtain ⟨d3, g3⟩ := hh_.one 3 rfl
              obtain ⟨d4, g4⟩ := hh_.one 4 rfl
              obtain ⟨d5, g5⟩ := hh_.one 5 rfl
              obtain ⟨d6, g6⟩ := hh_.one 6 rfl
              obtain ⟨d7, g7⟩ := hh_.one 7 rfl
              obtain ⟨d8, g8⟩ := hh_.one 8 rfl
              clear hh_
              go_wp2_with fail
              refine region_moves (fun u => u.cell? ⟨q12, 0, none⟩ = some (.int .i64 ((trp X) 0)) ∧ u.cell? ⟨q12, 1, none⟩ = some (.int .i64 ((trp X) 1)) ∧ u.cell? ⟨q12, 2, none⟩ = some (.int .i64 ((trp X) 2)) ∧ u.cell? ⟨q12, 3, none⟩ = some (.int .i64 ((trp X) 3)) ∧ u.cell? ⟨q12, 4, none⟩ = some (.int .i64 ((trp X) 4)) ∧ u.cell? ⟨q12, 5, none⟩ = some (.int .i64 ((trp X) 5)) ∧ u.cell? ⟨q12, 6, none⟩ = some (.int .i64 ((trp X) 6)) ∧ u.cell? ⟨q12, 7, none⟩ = some (.int .i64 ((trp X) 7)) ∧ u.cell? ⟨q12, 8, none⟩ = some (.int .i64 ((trp X) 8)) ∧ u.cell? ⟨q7, 0, none⟩ = some (.int .i64 (X 0)) ∧ u.cell? ⟨q7, 1, none⟩ = some (.int .i64 (X 1)) ∧ u.cell? ⟨q7, 2, none⟩ = some (.int .i64 (X 2)) ∧ u.cell? ⟨q7, 3, none⟩ = some (.int .i64 (X 3)) ∧ u.cell? ⟨q7, 4, none⟩ = some (.int .i64 (X 4)) ∧ u.cell? ⟨q7, 5, none⟩ = some (.int .i64 (X 5)) ∧ u.cell? ⟨q7, 6, none⟩ = some (.int .i64 (X 6)) ∧ u.cell? ⟨q7, 7, none⟩ = some (.int .i64 (X 7)) ∧ u.cell? ⟨q7, 8, none⟩ = some (.int .i64 (X 8))) [] [(.take, 0), (.take, 1), (.step, 2), (.free, 3), (.free, 4), (.step, 5), (.free, 6), (.free, 7)] _ (by kernel_rfl) (by kernel_rfl) (by kernel_rfl) (by kernel_rfl) (by decide) rfl (fun _ _ _ _ _ h => h) ?_
              simp only [List.filterMap_cons, List.filterMap_nil, List.getElem?_toArray, List.getElem?_cons_zero, List.getElem?_cons_succ, Option.map_some]
              iterate 2
                first
                  | (refine mv_take ?_ (Or.inl ⟨by rfl, ?_⟩) (⟨c0, c1, c2, c3, c4, c5, c6, c7, c8, d0, d1, d2, d3, d4, d5, d6, d7, d8⟩) ?_
                     rotate_left 1
                     · intro u hu
                       (try dsimp only at hu)
                       go_simp
                       try with_reducible rfl
                     simp only [Act.put, List.setIfInBounds_toArray, List.set_cons_zero, List.set_cons_succ])
                  | (refine mv_take _ (Or.inr ⟨by rfl, rfl⟩) (⟨c0, c1, c2, c3, c4, c5, c6, c7, c8, d0, d1, d2, d3, d4, d5, d6, d7, d8⟩) ?_
                     simp only [Act.put, List.setIfInBounds_toArray, List.set_cons_zero, List.set_cons_succ])
              refine mv_step (fun K hK => ?_)
              go_simp
              refine (TU.out _).mono ?_
              rintro e w7 ⟨rfl, hq⟩
              replace KK := Lib.hid (KK.out.drew.next hq)
              clear hq
              clear c0 c1 c2 c3 c4 c5 c6 c7 c8 f0 f1 f2 f3 f4 f5 f6 f7 f8 d0 d1 d2 d3 d4 d5 d6 d7 d8 g0 g1 g2 g3 g4 g5 g6 g7 g8
              have hh_ := KK.out.a12
              obtain ⟨c0, f0⟩ := hh_.one 0 rfl
              obtain ⟨c1, f1⟩ := hh_.one 1 rfl
              obtain ⟨c2, f2⟩ := hh_.one 2 rfl
              obtain ⟨c3, f3⟩ := hh_.one 3 rfl
              obtain ⟨c4, f4⟩ := hh_.one 4 rfl
              obtain ⟨c5, f5⟩ := hh_.one 5 rfl
              obtain ⟨c6, f6⟩ := hh_.one 6 rfl
              obtain ⟨c7, f7⟩ := hh_.one 7 rfl
              obtain ⟨c8, f8⟩ := hh_.one 8 rfl
              clear hh_
              have hh_ := KK.out.a7
              obtain ⟨d0, g0⟩ := hh_.one 0 rfl
              obtain ⟨d1, g1⟩ := hh_.one 1 rfl
              obtain ⟨d2, g2⟩ := hh_.one 2 rfl
              obtain ⟨d3, g3⟩ := hh_.one 3 rfl
              obtain ⟨d4, g4⟩ := hh_.one 4 rfl
              obtain ⟨d5, g5⟩ := hh_.one 5 rfl
              obtain ⟨d6, g6⟩ := hh_.one 6 rfl
              obtain ⟨d7, g7⟩ := hh_.one 7 rfl
              obtain ⟨d8, g8⟩ := hh_.one 8 rfl
              clear hh_
              go_wp2_with fail
              refine hK.out _ _ _ (fun u hu => hu) (⟨c0, c1, c2, c3, c4, c5, c6, c7, c8, d0, d1, d2, d3, d4, d5, d6, d7, d8⟩) ?_
              clear hK K
              iterate 2
                first
                  | (refine mv_free ?_ (Or.inl ⟨by rfl, ?_⟩) (⟨c0, c1, c2, c3, c4, c5, c6, c7, c8, d0, d1, d2, d3, d4, d5, d6, d7, d8⟩) ?_
                     rotate_left 1
                     · intro u
                       go_simp
                       try simp only [d1]
                       try simp only [d2]
                       try simp only [d3]
                       try with_reducible rfl
                     simp only [Act.put, List.setIfInBounds_toArray, List.set_cons_zero, List.set_cons_succ])
                  | (refine mv_free _ (Or.inr ⟨by rfl, rfl⟩) (⟨c0, c1, c2, c3, c4, c5, c6, c7, c8, d0, d1, d2, d3, d4, d5, d6, d7, d8⟩) ?_
                     simp only [Act.put, List.setIfInBounds_toArray, List.set_cons_zero, List.set_cons_succ])
              refine mv_step (fun K hK => ?_)
              go_simp
              refine (LV.out _).mono ?_
              rintro e w8 ⟨rfl, hq⟩
              replace KK := Lib.hid (KK.out.next hq)
              clear hq
              clear c0 c1 c2 c3 c4 c5 c6 c7 c8 f0 f1 f2 f3 f4 f5 f6 f7 f8 d0 d1 d2 d3 d4 d5 d6 d7 d8 g0 g1 g2 g3 g4 g5 g6 g7 g8
              have hh_ := KK.out.a12
              obtain ⟨c0, f0⟩ := hh_.one 0 rfl
              obtain ⟨c1, f1⟩ := hh_.one 1 rfl
              obtain ⟨c2, f2⟩ := hh_.one 2 rfl
              obtain ⟨c3, f3⟩ := hh_.one 3 rfl
              obtain ⟨c4, f4⟩ := hh_.one 4 rfl
              obtain ⟨c5, f5⟩ := hh_.one 5 rfl
              obtain ⟨c6, f6⟩ := hh_.one 6 rfl
              obtain ⟨c7, f7⟩ := hh_.one 7 rfl
              obtain ⟨c8, f8⟩ := hh_.one 8 rfl
              clear hh_
              have hh_ := KK.out.a7
              obtain ⟨d0, g0⟩ := hh_.one 0 rfl
              obtain ⟨d1, g1⟩ := hh_.one 1 rfl
              obtain ⟨d2, g2⟩ := hh_.one 2 rfl
              obtain ⟨d3, g3⟩ := hh_.one 3 rfl
              obtain ⟨d4, g4⟩ := hh_.one 4 rfl
              obtain ⟨d5, g5⟩ := hh_.one 5 rfl
              obtain ⟨d6, g6⟩ := hh_.one 6 rfl
              obtain ⟨d7, g7⟩ := hh_.one 7 rfl
              obtain ⟨d8, g8⟩ := hh_.one 8 rfl
              clear hh_
              go_wp2_with fail
              refine hK.out _ _ _ (fun u hu => hu) (⟨c0, c1, c2, c3, c4, c5, c6, c7, c8, d0, d1, d2, d3, d4, d5, d6, d7, d8⟩) ?_
              clear hK K
              iterate 2
                first
                  | (refine mv_free ?_ (Or.inl ⟨by rfl, ?_⟩) (⟨c0, c1, c2, c3, c4, c5, c6, c7, c8, d0, d1, d2, d3, d4, d5, d6, d7, d8⟩) ?_
                     rotate_left 1
                     · intro u
                       go_simp
                       try simp only [d1]
                       try simp only [d2]
                       try simp only [d3]
                       try with_reducible rfl
                     simp only [Act.put, List.setIfInBounds_toArray, List.set_cons_zero, List.set_cons_succ])
                  | (refine mv_free _ (Or.inr ⟨by rfl, rfl⟩) (⟨c0, c1, c2, c3, c4, c5, c6, c7, c8, d0, d1, d2, d3, d4, d5, d6, d7, d8⟩) ?_
                     simp only [Act.put, List.setIfInBounds_toArray, List.set_cons_zero, List.set_cons_succ])
              refine mv_done ?_
              go_wp2
              go_ret
              exact ⟨rfl, KK.out.bel⟩
end Go.Proofs.Ytaijkngdelolgaa
