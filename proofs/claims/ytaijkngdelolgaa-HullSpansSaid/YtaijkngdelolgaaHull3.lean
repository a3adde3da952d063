/- The law HullSpans; walked. -/
import Derived.Test.YtaijkngdelolgaaHullOf
import Derived.Test.YtaijkngdelolgaaInv
import Derived.Test.YtaijkngdelolgaaNew
import Derived.Deep.Cut
namespace Go.Proofs.Ytaijkngdelolgaa
open Go.ChangeShapes Go.WideShapes Go.ChangeAt Go.RowKit
set_option linter.unusedVariables false
set_option linter.unusedSimpArgs false
theorem l2x {cs : List Value} (hc : cs.length = 2) : ∃ x0 x1, cs = [x0, x1] := by
  match cs, hc with
  | [x0, x1], _ => exact ⟨x0, x1, rfl⟩
theorem l2_laid {s : Nat} {u : World} {cs : List Value} (h : Held s cs u) (hc : cs.length = 2) (X : Nat → Int) : ∃ u9, u9 = ((u.setCell ⟨s, 0, none⟩ (.int .i64 (X 0))).setCell ⟨s, 1, none⟩ (.int .i64 (X 1))) ∧ Held s [.int .i64 (X 0), .int .i64 (X 1)] u9 ∧ Below s u u9 := by
  obtain ⟨x0, x1, rfl⟩ := l2x hc
  exact ⟨_, rfl, (h.set 0 (.int .i64 (X 0)) (by simp)).set 1 (.int .i64 (X 1)) (by simp), by repeat (first | exact Below.refl _ _ | (refine Below.setCell ?_ (by exact Nat.le_refl _) _))⟩
structure HsI (A B : Nat → Int) (p0 B0 : Nat) (w V : World) (a0 : Act) (b : Nat → Bool) (q11 q12 : Nat) (a : Act) (u : World) : Prop where
  sk : Sk [58, 59, 60, 61, 11, 12] a0 a
  bel : Below (B0) V u
  sz : B0 ≤ u.heap.size
  x0 : p0 < B0
  h0 : Held p0 [.int .i64 (A 0), .int .i64 (A 1), .int .i64 (B 0), .int .i64 (B 1)] u
  s0 : b 0 = true → a.tmps.getD 58 undef = .pointer (some ⟨p0, 0, none⟩)
  s1 : b 1 = true → a.tmps.getD 59 undef = .agg #[.int .i64 (A 0), .int .i64 (A 1)]
  s2 : b 2 = true → a.tmps.getD 60 undef = .pointer (some ⟨p0, 2, none⟩)
  s3 : b 3 = true → a.tmps.getD 61 undef = .agg #[.int .i64 (B 0), .int .i64 (B 1)]
  s4 : b 4 = true → a.tmps.getD 11 undef = .pointer (some ⟨q11, 0, none⟩) ∧ B0 ≤ q11 ∧ ∃ cs : List Value, cs.length = 2 ∧ Held q11 cs u ∧ (b 6 = true → cs = [.int .i64 (A 0), .int .i64 (A 1)])
  e6 : b 6 = true → b 4 = true
  s5 : b 5 = true → a.tmps.getD 12 undef = .pointer (some ⟨q12, 0, none⟩) ∧ B0 ≤ q12 ∧ ∃ cs : List Value, cs.length = 2 ∧ Held q12 cs u ∧ (b 7 = true → cs = [.int .i64 (B 0), .int .i64 (B 1)])
  e7 : b 7 = true → b 5 = true
  n1_0 : b 5 = true → b 4 = true → q12 ≠ q11
set_option maxRecDepth 100000 in
set_option maxHeartbeats 4000000 in
theorem HsI.next0 {A B : Nat → Int} {p0 B0 : Nat} {w V : World} {a0 : Act} {b : Nat → Bool} {q11 q12 : Nat} {a : Act} {u : World} (I : HsI A B p0 B0 w V a0 b q11 q12 a u) (hn : 58 < a0.tmps.size) {u' : World} (hu : Below u.heap.size u u') : HsI A B p0 B0 w V a0 (fun x => x == 0 || b x) q11 q12 (a.put (some 58) (.pointer (some ⟨p0, 0, none⟩))) u' :=
  ⟨I.sk.put (by decide) _,
    I.bel.trans (hu.mono I.sz),
    Nat.le_trans I.sz hu.size,
    I.x0,
    I.h0.bel hu,
    fun _ => put_same _ (by rw [I.sk.size]; exact hn),
    fun h => (put_other _ (by decide)).trans (I.s1 (by simpa using h)),
    fun h => (put_other _ (by decide)).trans (I.s2 (by simpa using h)),
    fun h => (put_other _ (by decide)).trans (I.s3 (by simpa using h)),
    fun h => by obtain ⟨p1, p2, cs, p3, p4, p5⟩ := I.s4 (by simpa using h); exact ⟨(put_other _ (by decide)).trans p1, p2, cs, p3, p4.bel hu, fun h2 => p5 (by simpa using h2)⟩,
    fun h => by have h2 := I.e6 (by simpa using h); simp [h2],
    fun h => by obtain ⟨p1, p2, cs, p3, p4, p5⟩ := I.s5 (by simpa using h); exact ⟨(put_other _ (by decide)).trans p1, p2, cs, p3, p4.bel hu, fun h2 => p5 (by simpa using h2)⟩,
    fun h => by have h2 := I.e7 (by simpa using h); simp [h2],
    fun h h2 => I.n1_0 (by simpa using h) (by simpa using h2)⟩
set_option maxRecDepth 100000 in
set_option maxHeartbeats 4000000 in
theorem HsI.next1 {A B : Nat → Int} {p0 B0 : Nat} {w V : World} {a0 : Act} {b : Nat → Bool} {q11 q12 : Nat} {a : Act} {u : World} (I : HsI A B p0 B0 w V a0 b q11 q12 a u) (hn : 59 < a0.tmps.size) {u' : World} (hu : Below u.heap.size u u') : HsI A B p0 B0 w V a0 (fun x => x == 1 || b x) q11 q12 (a.put (some 59) (.agg #[.int .i64 (A 0), .int .i64 (A 1)])) u' :=
  ⟨I.sk.put (by decide) _,
    I.bel.trans (hu.mono I.sz),
    Nat.le_trans I.sz hu.size,
    I.x0,
    I.h0.bel hu,
    fun h => (put_other _ (by decide)).trans (I.s0 (by simpa using h)),
    fun _ => put_same _ (by rw [I.sk.size]; exact hn),
    fun h => (put_other _ (by decide)).trans (I.s2 (by simpa using h)),
    fun h => (put_other _ (by decide)).trans (I.s3 (by simpa using h)),
    fun h => by obtain ⟨p1, p2, cs, p3, p4, p5⟩ := I.s4 (by simpa using h); exact ⟨(put_other _ (by decide)).trans p1, p2, cs, p3, p4.bel hu, fun h2 => p5 (by simpa using h2)⟩,
    fun h => by have h2 := I.e6 (by simpa using h); simp [h2],
    fun h => by obtain ⟨p1, p2, cs, p3, p4, p5⟩ := I.s5 (by simpa using h); exact ⟨(put_other _ (by decide)).trans p1, p2, cs, p3, p4.bel hu, fun h2 => p5 (by simpa using h2)⟩,
    fun h => by have h2 := I.e7 (by simpa using h); simp [h2],
    fun h h2 => I.n1_0 (by simpa using h) (by simpa using h2)⟩
set_option maxRecDepth 100000 in
set_option maxHeartbeats 4000000 in
theorem HsI.next2 {A B : Nat → Int} {p0 B0 : Nat} {w V : World} {a0 : Act} {b : Nat → Bool} {q11 q12 : Nat} {a : Act} {u : World} (I : HsI A B p0 B0 w V a0 b q11 q12 a u) (hn : 60 < a0.tmps.size) {u' : World} (hu : Below u.heap.size u u') : HsI A B p0 B0 w V a0 (fun x => x == 2 || b x) q11 q12 (a.put (some 60) (.pointer (some ⟨p0, 2, none⟩))) u' :=
  ⟨I.sk.put (by decide) _,
    I.bel.trans (hu.mono I.sz),
    Nat.le_trans I.sz hu.size,
    I.x0,
    I.h0.bel hu,
    fun h => (put_other _ (by decide)).trans (I.s0 (by simpa using h)),
    fun h => (put_other _ (by decide)).trans (I.s1 (by simpa using h)),
    fun _ => put_same _ (by rw [I.sk.size]; exact hn),
    fun h => (put_other _ (by decide)).trans (I.s3 (by simpa using h)),
    fun h => by obtain ⟨p1, p2, cs, p3, p4, p5⟩ := I.s4 (by simpa using h); exact ⟨(put_other _ (by decide)).trans p1, p2, cs, p3, p4.bel hu, fun h2 => p5 (by simpa using h2)⟩,
    fun h => by have h2 := I.e6 (by simpa using h); simp [h2],
    fun h => by obtain ⟨p1, p2, cs, p3, p4, p5⟩ := I.s5 (by simpa using h); exact ⟨(put_other _ (by decide)).trans p1, p2, cs, p3, p4.bel hu, fun h2 => p5 (by simpa using h2)⟩,
    fun h => by have h2 := I.e7 (by simpa using h); simp [h2],
    fun h h2 => I.n1_0 (by simpa using h) (by simpa using h2)⟩
set_option maxRecDepth 100000 in
set_option maxHeartbeats 4000000 in
theorem HsI.next3 {A B : Nat → Int} {p0 B0 : Nat} {w V : World} {a0 : Act} {b : Nat → Bool} {q11 q12 : Nat} {a : Act} {u : World} (I : HsI A B p0 B0 w V a0 b q11 q12 a u) (hn : 61 < a0.tmps.size) {u' : World} (hu : Below u.heap.size u u') : HsI A B p0 B0 w V a0 (fun x => x == 3 || b x) q11 q12 (a.put (some 61) (.agg #[.int .i64 (B 0), .int .i64 (B 1)])) u' :=
  ⟨I.sk.put (by decide) _,
    I.bel.trans (hu.mono I.sz),
    Nat.le_trans I.sz hu.size,
    I.x0,
    I.h0.bel hu,
    fun h => (put_other _ (by decide)).trans (I.s0 (by simpa using h)),
    fun h => (put_other _ (by decide)).trans (I.s1 (by simpa using h)),
    fun h => (put_other _ (by decide)).trans (I.s2 (by simpa using h)),
    fun _ => put_same _ (by rw [I.sk.size]; exact hn),
    fun h => by obtain ⟨p1, p2, cs, p3, p4, p5⟩ := I.s4 (by simpa using h); exact ⟨(put_other _ (by decide)).trans p1, p2, cs, p3, p4.bel hu, fun h2 => p5 (by simpa using h2)⟩,
    fun h => by have h2 := I.e6 (by simpa using h); simp [h2],
    fun h => by obtain ⟨p1, p2, cs, p3, p4, p5⟩ := I.s5 (by simpa using h); exact ⟨(put_other _ (by decide)).trans p1, p2, cs, p3, p4.bel hu, fun h2 => p5 (by simpa using h2)⟩,
    fun h => by have h2 := I.e7 (by simpa using h); simp [h2],
    fun h h2 => I.n1_0 (by simpa using h) (by simpa using h2)⟩
set_option maxRecDepth 100000 in
set_option maxHeartbeats 4000000 in
theorem HsI.next4 {A B : Nat → Int} {p0 B0 : Nat} {w V : World} {a0 : Act} {b : Nat → Bool} {q11 q12 : Nat} {a : Act} {u : World} (I : HsI A B p0 B0 w V a0 b q11 q12 a u) (hn : 11 < a0.tmps.size) (hf : b 4 = false) : HsI A B p0 B0 w V a0 (fun x => x == 4 || b x) u.heap.size q12 (a.put (some 11) (.pointer (some ⟨u.heap.size, 0, none⟩))) (u.alloc (.cells #[.int .i64 0, .int .i64 0] 61)) :=
  ⟨I.sk.put (by decide) _,
    I.bel.alloc I.sz _,
    by have := I.sz; simp; omega,
    I.x0,
    I.h0.alloc _,
    fun h => (put_other _ (by decide)).trans (I.s0 (by simpa using h)),
    fun h => (put_other _ (by decide)).trans (I.s1 (by simpa using h)),
    fun h => (put_other _ (by decide)).trans (I.s2 (by simpa using h)),
    fun h => (put_other _ (by decide)).trans (I.s3 (by simpa using h)),
    fun _ => ⟨put_same _ (by rw [I.sk.size]; exact hn), I.sz, [.int .i64 0, .int .i64 0], rfl, Held.new u [.int .i64 0, .int .i64 0] _, fun h => by have h2 := I.e6 (by simpa using h); rw [hf] at h2; cases h2⟩,
    fun h => by have h2 := I.e6 (by simpa using h); simp [h2],
    fun h => by obtain ⟨p1, p2, cs, p3, p4, p5⟩ := I.s5 (by simpa using h); exact ⟨(put_other _ (by decide)).trans p1, p2, cs, p3, p4.alloc _, fun h2 => p5 (by simpa using h2)⟩,
    fun h => by have h2 := I.e7 (by simpa using h); simp [h2],
    fun h _ => by obtain ⟨-, -, cs, -, p4, -⟩ := I.s5 (by simpa using h); have := p4.lt; omega⟩
set_option maxRecDepth 100000 in
set_option maxHeartbeats 4000000 in
theorem HsI.next6 {A B : Nat → Int} {p0 B0 : Nat} {w V : World} {a0 : Act} {b : Nat → Bool} {q11 q12 : Nat} {a : Act} {u : World} (I : HsI A B p0 B0 w V a0 b q11 q12 a u) (ha : b 4 = true) : HsI A B p0 B0 w V a0 (fun x => x == 6 || b x) q11 q12 a ((u.setCell ⟨q11, 0, none⟩ (.int .i64 (A 0))).setCell ⟨q11, 1, none⟩ (.int .i64 (A 1))) := by
  obtain ⟨-, hq, cs0, hc0, hh0, -⟩ := I.s4 ha
  obtain ⟨u9, e9, h9, hb⟩ := l2_laid hh0 hc0 A
  have ho : Only q11 u u9 := by rw [e9]; exact (((Only.refl q11 u).setCell (p := ⟨q11, 0, none⟩) (.int .i64 (A 0))).setCell (p := ⟨q11, 1, none⟩) (.int .i64 (A 1)))
  have hne1 : b 5 = true → q12 ≠ q11 := fun h => I.n1_0 h ha
  have hx0 := I.x0
  rw [← e9]
  exact ⟨I.sk,
    I.bel.trans (hb.mono hq),
    by have := hb.size; have := I.sz; omega,
    I.x0,
    I.h0.only ho (by omega),
    fun h => I.s0 (by simpa using h),
    fun h => I.s1 (by simpa using h),
    fun h => I.s2 (by simpa using h),
    fun h => I.s3 (by simpa using h),
    fun h => by obtain ⟨p1, p2, cs, p3, p4, p5⟩ := I.s4 (by simpa using h); exact ⟨p1, p2, _, rfl, h9, fun _ => rfl⟩,
    fun h => by simpa using ha,
    fun h => by obtain ⟨p1, p2, cs, p3, p4, p5⟩ := I.s5 (by simpa using h); exact ⟨p1, p2, cs, p3, p4.only ho (hne1 (by simpa using h)), fun h2 => p5 (by simpa using h2)⟩,
    fun h => by have h2 := I.e7 (by simpa using h); simp [h2],
    fun h h2 => I.n1_0 (by simpa using h) (by simpa using h2)⟩
set_option maxRecDepth 100000 in
set_option maxHeartbeats 4000000 in
theorem HsI.next5 {A B : Nat → Int} {p0 B0 : Nat} {w V : World} {a0 : Act} {b : Nat → Bool} {q11 q12 : Nat} {a : Act} {u : World} (I : HsI A B p0 B0 w V a0 b q11 q12 a u) (hn : 12 < a0.tmps.size) (hf : b 5 = false) : HsI A B p0 B0 w V a0 (fun x => x == 5 || b x) q11 u.heap.size (a.put (some 12) (.pointer (some ⟨u.heap.size, 0, none⟩))) (u.alloc (.cells #[.int .i64 0, .int .i64 0] 61)) :=
  ⟨I.sk.put (by decide) _,
    I.bel.alloc I.sz _,
    by have := I.sz; simp; omega,
    I.x0,
    I.h0.alloc _,
    fun h => (put_other _ (by decide)).trans (I.s0 (by simpa using h)),
    fun h => (put_other _ (by decide)).trans (I.s1 (by simpa using h)),
    fun h => (put_other _ (by decide)).trans (I.s2 (by simpa using h)),
    fun h => (put_other _ (by decide)).trans (I.s3 (by simpa using h)),
    fun h => by obtain ⟨p1, p2, cs, p3, p4, p5⟩ := I.s4 (by simpa using h); exact ⟨(put_other _ (by decide)).trans p1, p2, cs, p3, p4.alloc _, fun h2 => p5 (by simpa using h2)⟩,
    fun h => by have h2 := I.e6 (by simpa using h); simp [h2],
    fun _ => ⟨put_same _ (by rw [I.sk.size]; exact hn), I.sz, [.int .i64 0, .int .i64 0], rfl, Held.new u [.int .i64 0, .int .i64 0] _, fun h => by have h2 := I.e7 (by simpa using h); rw [hf] at h2; cases h2⟩,
    fun h => by have h2 := I.e7 (by simpa using h); simp [h2],
    fun _ h => by obtain ⟨-, -, cs, -, p4, -⟩ := I.s4 (by simpa using h); have := p4.lt; omega⟩
set_option maxRecDepth 100000 in
set_option maxHeartbeats 4000000 in
theorem HsI.next7 {A B : Nat → Int} {p0 B0 : Nat} {w V : World} {a0 : Act} {b : Nat → Bool} {q11 q12 : Nat} {a : Act} {u : World} (I : HsI A B p0 B0 w V a0 b q11 q12 a u) (ha : b 5 = true) : HsI A B p0 B0 w V a0 (fun x => x == 7 || b x) q11 q12 a ((u.setCell ⟨q12, 0, none⟩ (.int .i64 (B 0))).setCell ⟨q12, 1, none⟩ (.int .i64 (B 1))) := by
  obtain ⟨-, hq, cs0, hc0, hh0, -⟩ := I.s5 ha
  obtain ⟨u9, e9, h9, hb⟩ := l2_laid hh0 hc0 B
  have ho : Only q12 u u9 := by rw [e9]; exact (((Only.refl q12 u).setCell (p := ⟨q12, 0, none⟩) (.int .i64 (B 0))).setCell (p := ⟨q12, 1, none⟩) (.int .i64 (B 1)))
  have hne0 : b 4 = true → q11 ≠ q12 := fun h => (I.n1_0 ha h).symm
  have hx0 := I.x0
  rw [← e9]
  exact ⟨I.sk,
    I.bel.trans (hb.mono hq),
    by have := hb.size; have := I.sz; omega,
    I.x0,
    I.h0.only ho (by omega),
    fun h => I.s0 (by simpa using h),
    fun h => I.s1 (by simpa using h),
    fun h => I.s2 (by simpa using h),
    fun h => I.s3 (by simpa using h),
    fun h => by obtain ⟨p1, p2, cs, p3, p4, p5⟩ := I.s4 (by simpa using h); exact ⟨p1, p2, cs, p3, p4.only ho (hne0 (by simpa using h)), fun h2 => p5 (by simpa using h2)⟩,
    fun h => by have h2 := I.e6 (by simpa using h); simp [h2],
    fun h => by obtain ⟨p1, p2, cs, p3, p4, p5⟩ := I.s5 (by simpa using h); exact ⟨p1, p2, _, rfl, h9, fun _ => rfl⟩,
    fun h => by simpa using ha,
    fun h h2 => I.n1_0 (by simpa using h) (by simpa using h2)⟩
set_option maxRecDepth 100000 in
set_option maxHeartbeats 4000000 in
theorem HsI.fin {A B : Nat → Int} {p0 B0 : Nat} {w V : World} {a0 : Act} {b : Nat → Bool} {q11 q12 : Nat} {a : Act} {u : World} (I : HsI A B p0 B0 w V a0 b q11 q12 a u) (hb : ∀ i, i < 100 → i < 8 → b i = true) (hn : 61 < a0.tmps.size) : a = ((((((a0.put (some 58) (.pointer (some ⟨p0, 0, none⟩))).put (some 59) (.agg #[.int .i64 (A 0), .int .i64 (A 1)])).put (some 60) (.pointer (some ⟨p0, 2, none⟩))).put (some 61) (.agg #[.int .i64 (B 0), .int .i64 (B 1)])).put (some 11) (.pointer (some ⟨q11, 0, none⟩))).put (some 12) (.pointer (some ⟨q12, 0, none⟩))) := by
  refine act_ext (by simp only [put_defers]; exact I.sk.defers) (by simp only [put_size]; exact I.sk.size) (fun s hs => ?_)
  by_cases hd : s ∈ ([58, 59, 60, 61, 11, 12] : List Nat)
  · simp only [List.mem_cons, List.not_mem_nil, or_false] at hd
    rcases hd with rfl | rfl | rfl | rfl | rfl | rfl
    · refine (I.s0 (hb 0 (by omega) (by omega))).trans (Eq.symm ?_)
      exact (put_other _ (by decide)).trans ((put_other _ (by decide)).trans ((put_other _ (by decide)).trans ((put_other _ (by decide)).trans ((put_other _ (by decide)).trans (put_same _ (by (try simp only [put_size]); omega))))))
    · refine (I.s1 (hb 1 (by omega) (by omega))).trans (Eq.symm ?_)
      exact (put_other _ (by decide)).trans ((put_other _ (by decide)).trans ((put_other _ (by decide)).trans ((put_other _ (by decide)).trans (put_same _ (by (try simp only [put_size]); omega)))))
    · refine (I.s2 (hb 2 (by omega) (by omega))).trans (Eq.symm ?_)
      exact (put_other _ (by decide)).trans ((put_other _ (by decide)).trans ((put_other _ (by decide)).trans (put_same _ (by (try simp only [put_size]); omega))))
    · refine (I.s3 (hb 3 (by omega) (by omega))).trans (Eq.symm ?_)
      exact (put_other _ (by decide)).trans ((put_other _ (by decide)).trans (put_same _ (by (try simp only [put_size]); omega)))
    · refine ((I.s4 (hb 4 (by omega) (by omega))).1).trans (Eq.symm ?_)
      exact (put_other _ (by decide)).trans (put_same _ (by (try simp only [put_size]); omega))
    · refine ((I.s5 (hb 5 (by omega) (by omega))).1).trans (Eq.symm ?_)
      exact put_same _ (by (try simp only [put_size]); omega)
  · refine (I.sk.slot s hd).trans (Eq.symm ?_)
    simp only [List.mem_cons, List.not_mem_nil, or_false, not_or] at hd
    obtain ⟨g0, g1, g2, g3, g4, g5⟩ := hd
    exact (put_other _ g5).trans ((put_other _ g4).trans ((put_other _ g3).trans ((put_other _ g2).trans ((put_other _ g1).trans ((put_other _ g0).trans (rfl))))))
structure HsK (q q9 q11 q12 : Nat) (lo hi : Int) (A B : Nat → Int) (w v : World) : Prop where
  kw : Held q [.int .i64 (lo), .int .i64 (hi)] v
  k9 : Held q9 [.int .i64 (lo), .int .i64 (hi)] v
  ka : Held q11 [.int .i64 (A 0), .int .i64 (A 1)] v
  kb : Held q12 [.int .i64 (B 0), .int .i64 (B 1)] v
  bel : Below w.heap.size w v
theorem HsK.next {q q9 q11 q12 : Nat} {lo hi : Int} {A B : Nat → Int} {w v v2 : World} (h : HsK q q9 q11 q12 lo hi A B w v) (k : Below v.heap.size v v2) : HsK q q9 q11 q12 lo hi A B w v2 := ⟨h.kw.bel k, h.k9.bel k, h.ka.bel k, h.kb.bel k, h.bel.trans (k.mono h.bel.size)⟩
theorem HsK.drew {q q9 q11 q12 : Nat} {lo hi : Int} {A B : Nat → Int} {w v : World} (h : HsK q q9 q11 q12 lo hi A B w v) : HsK q q9 q11 q12 lo hi A B w v.drew := ⟨h.kw.drew, h.k9.drew, h.ka.drew, h.kb.drew, h.bel.drew⟩
theorem hs_take {l : List Int} {k : Nat} (h : k < l.length) (h0 : 0 < k) : lmin (l.take (k + 1)) = (if l.getD k 0 < lmin (l.take k) then l.getD k 0 else lmin (l.take k)) ∧ lmax (l.take (k + 1)) = (if lmax (l.take k) < l.getD k 0 then l.getD k 0 else lmax (l.take k)) := by
  rw [take_snoc h, lmin_snoc _ _ (by simp; omega), lmax_snoc _ _ (by simp; omega)]
  exact ⟨rfl, rfl⟩
theorem hs_one {l : List Int} (h : 0 < l.length) : lmin (l.take 1) = l.getD 0 0 ∧ lmax (l.take 1) = l.getD 0 0 := by
  cases l with
  | nil => simp at h
  | cons x r => exact ⟨rfl, rfl⟩
set_option maxRecDepth 100000 in
set_option maxHeartbeats 8000000 in
theorem hs_long (a : Option Addr) (cap : Nat) (l : List Int) (A B : Nat → Int) (v : Int) (w : World) (hr : RowIs .i64 w a l) (hl : l.length ≤ maxLen) (h : 200 < l.length) : Calls Try.prog 8 #[.slice a l.length cap, .agg #[.int .i64 (A 0), .int .i64 (A 1), .int .i64 (B 0), .int .i64 (B 1)], .int .i64 v] w fun e w' => e = .returned (.bool true) ∧ Below w.heap.size w w' := by
  obtain ⟨V, eV, hb0, hX, hz⟩ : ∃ V, V = w.alloc (.cells #[.int .i64 (A 0), .int .i64 (A 1), .int .i64 (B 0), .int .i64 (B 1)] 62) ∧ Below w.heap.size w V ∧ Held w.heap.size [.int .i64 (A 0), .int .i64 (A 1), .int .i64 (B 0), .int .i64 (B 1)] V ∧ V.heap.size = w.heap.size + 1 := ⟨_, rfl, (by repeat (first | exact Below.refl _ _ | assumption | apply Below.drew | apply below_drewN | (refine Below.alloc ?_ (by first | exact Nat.le_refl _ | omega | (simp <;> omega)) _) | (refine Below.setCell ?_ (by first | exact Nat.le_refl _ | omega | (simp <;> omega)) _))), Held.new w [.int .i64 (A 0), .int .i64 (A 1), .int .i64 (B 0), .int .i64 (B 1)] _, by simp⟩
  have LV := Lib.hid (fun u => lives35 u)
  replace hX := Lib.hid hX
  replace hb0 := Lib.hid hb0
  have hL : (200 : Int) < (l.length : Int) := by omega
  clear hl h
  go_enter Try.func8, Try.ntmps8
  go_upto_region 1 with (fail)
  rw [← eV]
  clear eV
  go_wp2_with fail
  refine (LV.out _).mono ?_
  rintro e w1 ⟨rfl, hb1⟩
  go_wp2
  go_ret
  exact ⟨rfl, hb0.out.trans (hb1.mono hb0.out.size)⟩
end Go.Proofs.Ytaijkngdelolgaa
