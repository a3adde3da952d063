/- The estimator's correction; walked. -/
import Derived.Test.YtakocggclopngaaKal3
namespace Go.Proofs.Ytakocggclopngaa
open Go.ChangeShapes Go.WideShapes Go.ChangeAt Go.RowKit
set_option linter.unusedVariables false
set_option linter.unusedSimpArgs false
theorem Beside.of_new {b : Nat} {w u : World} (h : Beside b w u) {p : Addr} (hp : w.heap.size < p.block) (v : Value) : Beside b w (u.setCell p v) :=
  ⟨h.os, h.tape, h.output, by simpa using h.size, fun k hk hb => (Below.heap_setCell _ _ _ _ (show k ≠ p.block by omega)).trans (h.block k hk hb)⟩
theorem vC_at {M : Nat → Int} {n t : Nat} (h : t < 3) : (vC M n)[t]? = some (.int .i64 (if t < n then M t else 0)) := by simp [vC, h]
theorem l3x {cs : List Value} (hc : cs.length = 3) : ∃ a0 a1 a2, cs = [a0, a1, a2] := by
  match cs, hc with
  | [a0, a1, a2], _ => exact ⟨a0, a1, a2, rfl⟩
theorem vl_laidc {s : Nat} {u : World} {cs : List Value} (h : Held s cs u) (hc : cs.length = 3) (X : Nat → Int) : ∃ u9, u9 = (((u.setCell ⟨s, 0, none⟩ (.int .i64 (X 0))).setCell ⟨s, 1, none⟩ (.int .i64 (X 1))).setCell ⟨s, 2, none⟩ (.int .i64 (X 2))) ∧ Held s [.int .i64 (X 0), .int .i64 (X 1), .int .i64 (X 2)] u9 ∧ Below s u u9 := by
  obtain ⟨a0, a1, a2, rfl⟩ := l3x hc
  exact vl_laid h X
/-- The first k are clipped; the first k of the diagonal are not below 0. -/
def kXc (X : Nat → Int) (k t : Nat) : Int := if t < k then c36 (X t) else X t
def kMx (A : Nat → Int) (k t : Nat) : Int := if t % 4 = 0 ∧ t / 4 < k then (if A t < 0 then 0 else A t) else A t
theorem kXc_zero (A : Nat → Int) : kXc A 0 = A := by
  funext t
  unfold kXc
  rw [if_neg (by omega)]
theorem kMx_zero (A : Nat → Int) : kMx A 0 = A := by
  funext t
  unfold kMx
  rw [if_neg (by omega)]
theorem kXc_set0 (X A : Nat → Int) (g tk rf : Int) : (KeC (kXc X 0) A g tk rf).set 0 (.int .i64 (c36 (X 0))) = KeC (kXc X 1) A g tk rf := by simp [KeC, kXc]
theorem kXc_at0 (A : Nat → Int) : kXc A 0 0 = A 0 := by simp [kXc]
theorem kMx_set0 (X A : Nat → Int) (g tk rf : Int) : (KeC X (kMx A 0) g tk rf).set 3 (.int .i64 (if A 0 < 0 then 0 else A 0)) = KeC X (kMx A 1) g tk rf := by simp [KeC, kMx]
theorem kMx_at0 (A : Nat → Int) : kMx A 0 0 = A 0 := by simp [kMx]
theorem kXc_set1 (X A : Nat → Int) (g tk rf : Int) : (KeC (kXc X 1) A g tk rf).set 1 (.int .i64 (c36 (X 1))) = KeC (kXc X 2) A g tk rf := by simp [KeC, kXc]
theorem kXc_at1 (A : Nat → Int) : kXc A 1 1 = A 1 := by simp [kXc]
theorem kMx_set1 (X A : Nat → Int) (g tk rf : Int) : (KeC X (kMx A 1) g tk rf).set 7 (.int .i64 (if A 4 < 0 then 0 else A 4)) = KeC X (kMx A 2) g tk rf := by simp [KeC, kMx]
theorem kMx_at1 (A : Nat → Int) : kMx A 1 4 = A 4 := by simp [kMx]
theorem kXc_set2 (X A : Nat → Int) (g tk rf : Int) : (KeC (kXc X 2) A g tk rf).set 2 (.int .i64 (c36 (X 2))) = KeC (kXc X 3) A g tk rf := by simp [KeC, kXc]
theorem kXc_at2 (A : Nat → Int) : kXc A 2 2 = A 2 := by simp [kXc]
theorem kMx_set2 (X A : Nat → Int) (g tk rf : Int) : (KeC X (kMx A 2) g tk rf).set 11 (.int .i64 (if A 8 < 0 then 0 else A 8)) = KeC X (kMx A 3) g tk rf := by simp [KeC, kMx]
theorem kMx_at2 (A : Nat → Int) : kMx A 2 8 = A 8 := by simp [kMx]
def kP1 (P H : Nat → Int) (n : Int) (t : Nat) : Int := sbI (P t) (out (kGn P H n) (kV P H) t)
theorem kc_fin (X P H : Nat → Int) (n off g tk rf : Int) : KeC (kXc (pls X (kMv P H n off)) 3) (mir (kMx (kP1 P H n) 3)) g tk rf = KeC (kX X P H n off) (kP P H n) g tk rf := by
  refine KeC_eq g tk rf (fun t ht => ?_) (fun t ht => ?_)
  · unfold kXc kX pls
    rw [if_pos ht]
  · have e : ∀ s, s < 9 → kMx (kP1 P H n) 3 s = kD P H n s := fun s hs => by
      unfold kMx kD kP1
      by_cases hd : s % 4 = 0
      · rw [if_pos ⟨hd, by omega⟩, if_pos hd]
      · rw [if_neg (fun q => hd q.1), if_neg hd]
    unfold kP mir
    exact e _ (by omega)
structure KcI (ob : Nat) (X P H V0 : Nat → Int) (g tk rf z n : Int) (w V : World) (a0 : Act) (b : Nat → Bool) (q6 : Nat) (a : Act) (u : World) : Prop where
  sk : Sk [12, 13, 14, 15, 16, 17, 18, 6] a0 a
  bel : Below (w.heap.size + 1) V u
  sz : w.heap.size + 1 ≤ u.heap.size
  x0 : ob < w.heap.size
  h0 : Held ob (KeC X P g tk rf) u
  h1 : Held w.heap.size [.int .i64 (H 0), .int .i64 (H 1), .int .i64 (H 2), .int .i64 z, .int .i64 n] u
  s0 : b 0 = true → a.tmps.getD 12 undef = .pointer (some ⟨ob, 0, none⟩)
  s1 : b 1 = true → a.tmps.getD 13 undef = .pointer (some ⟨ob, 0, none⟩)
  s2 : b 2 = true → a.tmps.getD 14 undef = .pointer (some ⟨ob, 3, none⟩)
  s3 : b 3 = true → a.tmps.getD 15 undef = .agg #[.int .i64 (P 0), .int .i64 (P 1), .int .i64 (P 2), .int .i64 (P 3), .int .i64 (P 4), .int .i64 (P 5), .int .i64 (P 6), .int .i64 (P 7), .int .i64 (P 8)]
  s4 : b 4 = true → a.tmps.getD 16 undef = .pointer (some ⟨w.heap.size, 0, none⟩)
  s5 : b 5 = true → a.tmps.getD 17 undef = .agg #[.int .i64 (H 0), .int .i64 (H 1), .int .i64 (H 2)]
  s6 : b 6 = true → a.tmps.getD 18 undef = .agg #[.int .i64 (V0 0), .int .i64 (V0 1), .int .i64 (V0 2)]
  s7 : b 7 = true → a.tmps.getD 6 undef = .pointer (some ⟨q6, 0, none⟩) ∧ w.heap.size + 1 ≤ q6 ∧ ∃ cs : List Value, cs.length = 3 ∧ Held q6 cs u ∧ (b 8 = true → cs = [.int .i64 (V0 0), .int .i64 (V0 1), .int .i64 (V0 2)])
  e8 : b 8 = true → b 7 = true
set_option maxRecDepth 100000 in
set_option maxHeartbeats 4000000 in
theorem KcI.next0 {ob : Nat} {X P H V0 : Nat → Int} {g tk rf z n : Int} {w V : World} {a0 : Act} {b : Nat → Bool} {q6 : Nat} {a : Act} {u : World} (I : KcI ob X P H V0 g tk rf z n w V a0 b q6 a u) (hn : 12 < a0.tmps.size) {u' : World} (hu : Below u.heap.size u u') : KcI ob X P H V0 g tk rf z n w V a0 (fun x => x == 0 || b x) q6 (a.put (some 12) (.pointer (some ⟨ob, 0, none⟩))) u' :=
  ⟨I.sk.put (by decide) _,
    I.bel.trans (hu.mono I.sz),
    Nat.le_trans I.sz hu.size,
    I.x0,
    I.h0.bel hu,
    I.h1.bel hu,
    fun _ => put_same _ (by rw [I.sk.size]; exact hn),
    fun h => (put_other _ (by decide)).trans (I.s1 (by simpa using h)),
    fun h => (put_other _ (by decide)).trans (I.s2 (by simpa using h)),
    fun h => (put_other _ (by decide)).trans (I.s3 (by simpa using h)),
    fun h => (put_other _ (by decide)).trans (I.s4 (by simpa using h)),
    fun h => (put_other _ (by decide)).trans (I.s5 (by simpa using h)),
    fun h => (put_other _ (by decide)).trans (I.s6 (by simpa using h)),
    fun h => by obtain ⟨p1, p2, cs, p3, p4, p5⟩ := I.s7 (by simpa using h); exact ⟨(put_other _ (by decide)).trans p1, p2, cs, p3, p4.bel hu, fun h2 => p5 (by simpa using h2)⟩,
    fun h => by have h2 := I.e8 (by simpa using h); simp [h2]⟩
set_option maxRecDepth 100000 in
set_option maxHeartbeats 4000000 in
theorem KcI.next1 {ob : Nat} {X P H V0 : Nat → Int} {g tk rf z n : Int} {w V : World} {a0 : Act} {b : Nat → Bool} {q6 : Nat} {a : Act} {u : World} (I : KcI ob X P H V0 g tk rf z n w V a0 b q6 a u) (hn : 13 < a0.tmps.size) {u' : World} (hu : Below u.heap.size u u') : KcI ob X P H V0 g tk rf z n w V a0 (fun x => x == 1 || b x) q6 (a.put (some 13) (.pointer (some ⟨ob, 0, none⟩))) u' :=
  ⟨I.sk.put (by decide) _,
    I.bel.trans (hu.mono I.sz),
    Nat.le_trans I.sz hu.size,
    I.x0,
    I.h0.bel hu,
    I.h1.bel hu,
    fun h => (put_other _ (by decide)).trans (I.s0 (by simpa using h)),
    fun _ => put_same _ (by rw [I.sk.size]; exact hn),
    fun h => (put_other _ (by decide)).trans (I.s2 (by simpa using h)),
    fun h => (put_other _ (by decide)).trans (I.s3 (by simpa using h)),
    fun h => (put_other _ (by decide)).trans (I.s4 (by simpa using h)),
    fun h => (put_other _ (by decide)).trans (I.s5 (by simpa using h)),
    fun h => (put_other _ (by decide)).trans (I.s6 (by simpa using h)),
    fun h => by obtain ⟨p1, p2, cs, p3, p4, p5⟩ := I.s7 (by simpa using h); exact ⟨(put_other _ (by decide)).trans p1, p2, cs, p3, p4.bel hu, fun h2 => p5 (by simpa using h2)⟩,
    fun h => by have h2 := I.e8 (by simpa using h); simp [h2]⟩
set_option maxRecDepth 100000 in
set_option maxHeartbeats 4000000 in
theorem KcI.next2 {ob : Nat} {X P H V0 : Nat → Int} {g tk rf z n : Int} {w V : World} {a0 : Act} {b : Nat → Bool} {q6 : Nat} {a : Act} {u : World} (I : KcI ob X P H V0 g tk rf z n w V a0 b q6 a u) (hn : 14 < a0.tmps.size) {u' : World} (hu : Below u.heap.size u u') : KcI ob X P H V0 g tk rf z n w V a0 (fun x => x == 2 || b x) q6 (a.put (some 14) (.pointer (some ⟨ob, 3, none⟩))) u' :=
  ⟨I.sk.put (by decide) _,
    I.bel.trans (hu.mono I.sz),
    Nat.le_trans I.sz hu.size,
    I.x0,
    I.h0.bel hu,
    I.h1.bel hu,
    fun h => (put_other _ (by decide)).trans (I.s0 (by simpa using h)),
    fun h => (put_other _ (by decide)).trans (I.s1 (by simpa using h)),
    fun _ => put_same _ (by rw [I.sk.size]; exact hn),
    fun h => (put_other _ (by decide)).trans (I.s3 (by simpa using h)),
    fun h => (put_other _ (by decide)).trans (I.s4 (by simpa using h)),
    fun h => (put_other _ (by decide)).trans (I.s5 (by simpa using h)),
    fun h => (put_other _ (by decide)).trans (I.s6 (by simpa using h)),
    fun h => by obtain ⟨p1, p2, cs, p3, p4, p5⟩ := I.s7 (by simpa using h); exact ⟨(put_other _ (by decide)).trans p1, p2, cs, p3, p4.bel hu, fun h2 => p5 (by simpa using h2)⟩,
    fun h => by have h2 := I.e8 (by simpa using h); simp [h2]⟩
set_option maxRecDepth 100000 in
set_option maxHeartbeats 4000000 in
theorem KcI.next3 {ob : Nat} {X P H V0 : Nat → Int} {g tk rf z n : Int} {w V : World} {a0 : Act} {b : Nat → Bool} {q6 : Nat} {a : Act} {u : World} (I : KcI ob X P H V0 g tk rf z n w V a0 b q6 a u) (hn : 15 < a0.tmps.size) {u' : World} (hu : Below u.heap.size u u') : KcI ob X P H V0 g tk rf z n w V a0 (fun x => x == 3 || b x) q6 (a.put (some 15) (.agg #[.int .i64 (P 0), .int .i64 (P 1), .int .i64 (P 2), .int .i64 (P 3), .int .i64 (P 4), .int .i64 (P 5), .int .i64 (P 6), .int .i64 (P 7), .int .i64 (P 8)])) u' :=
  ⟨I.sk.put (by decide) _,
    I.bel.trans (hu.mono I.sz),
    Nat.le_trans I.sz hu.size,
    I.x0,
    I.h0.bel hu,
    I.h1.bel hu,
    fun h => (put_other _ (by decide)).trans (I.s0 (by simpa using h)),
    fun h => (put_other _ (by decide)).trans (I.s1 (by simpa using h)),
    fun h => (put_other _ (by decide)).trans (I.s2 (by simpa using h)),
    fun _ => put_same _ (by rw [I.sk.size]; exact hn),
    fun h => (put_other _ (by decide)).trans (I.s4 (by simpa using h)),
    fun h => (put_other _ (by decide)).trans (I.s5 (by simpa using h)),
    fun h => (put_other _ (by decide)).trans (I.s6 (by simpa using h)),
    fun h => by obtain ⟨p1, p2, cs, p3, p4, p5⟩ := I.s7 (by simpa using h); exact ⟨(put_other _ (by decide)).trans p1, p2, cs, p3, p4.bel hu, fun h2 => p5 (by simpa using h2)⟩,
    fun h => by have h2 := I.e8 (by simpa using h); simp [h2]⟩
set_option maxRecDepth 100000 in
set_option maxHeartbeats 4000000 in
theorem KcI.next4 {ob : Nat} {X P H V0 : Nat → Int} {g tk rf z n : Int} {w V : World} {a0 : Act} {b : Nat → Bool} {q6 : Nat} {a : Act} {u : World} (I : KcI ob X P H V0 g tk rf z n w V a0 b q6 a u) (hn : 16 < a0.tmps.size) {u' : World} (hu : Below u.heap.size u u') : KcI ob X P H V0 g tk rf z n w V a0 (fun x => x == 4 || b x) q6 (a.put (some 16) (.pointer (some ⟨w.heap.size, 0, none⟩))) u' :=
  ⟨I.sk.put (by decide) _,
    I.bel.trans (hu.mono I.sz),
    Nat.le_trans I.sz hu.size,
    I.x0,
    I.h0.bel hu,
    I.h1.bel hu,
    fun h => (put_other _ (by decide)).trans (I.s0 (by simpa using h)),
    fun h => (put_other _ (by decide)).trans (I.s1 (by simpa using h)),
    fun h => (put_other _ (by decide)).trans (I.s2 (by simpa using h)),
    fun h => (put_other _ (by decide)).trans (I.s3 (by simpa using h)),
    fun _ => put_same _ (by rw [I.sk.size]; exact hn),
    fun h => (put_other _ (by decide)).trans (I.s5 (by simpa using h)),
    fun h => (put_other _ (by decide)).trans (I.s6 (by simpa using h)),
    fun h => by obtain ⟨p1, p2, cs, p3, p4, p5⟩ := I.s7 (by simpa using h); exact ⟨(put_other _ (by decide)).trans p1, p2, cs, p3, p4.bel hu, fun h2 => p5 (by simpa using h2)⟩,
    fun h => by have h2 := I.e8 (by simpa using h); simp [h2]⟩
set_option maxRecDepth 100000 in
set_option maxHeartbeats 4000000 in
theorem KcI.next5 {ob : Nat} {X P H V0 : Nat → Int} {g tk rf z n : Int} {w V : World} {a0 : Act} {b : Nat → Bool} {q6 : Nat} {a : Act} {u : World} (I : KcI ob X P H V0 g tk rf z n w V a0 b q6 a u) (hn : 17 < a0.tmps.size) {u' : World} (hu : Below u.heap.size u u') : KcI ob X P H V0 g tk rf z n w V a0 (fun x => x == 5 || b x) q6 (a.put (some 17) (.agg #[.int .i64 (H 0), .int .i64 (H 1), .int .i64 (H 2)])) u' :=
  ⟨I.sk.put (by decide) _,
    I.bel.trans (hu.mono I.sz),
    Nat.le_trans I.sz hu.size,
    I.x0,
    I.h0.bel hu,
    I.h1.bel hu,
    fun h => (put_other _ (by decide)).trans (I.s0 (by simpa using h)),
    fun h => (put_other _ (by decide)).trans (I.s1 (by simpa using h)),
    fun h => (put_other _ (by decide)).trans (I.s2 (by simpa using h)),
    fun h => (put_other _ (by decide)).trans (I.s3 (by simpa using h)),
    fun h => (put_other _ (by decide)).trans (I.s4 (by simpa using h)),
    fun _ => put_same _ (by rw [I.sk.size]; exact hn),
    fun h => (put_other _ (by decide)).trans (I.s6 (by simpa using h)),
    fun h => by obtain ⟨p1, p2, cs, p3, p4, p5⟩ := I.s7 (by simpa using h); exact ⟨(put_other _ (by decide)).trans p1, p2, cs, p3, p4.bel hu, fun h2 => p5 (by simpa using h2)⟩,
    fun h => by have h2 := I.e8 (by simpa using h); simp [h2]⟩
set_option maxRecDepth 100000 in
set_option maxHeartbeats 4000000 in
theorem KcI.next6 {ob : Nat} {X P H V0 : Nat → Int} {g tk rf z n : Int} {w V : World} {a0 : Act} {b : Nat → Bool} {q6 : Nat} {a : Act} {u : World} (I : KcI ob X P H V0 g tk rf z n w V a0 b q6 a u) (hn : 18 < a0.tmps.size) {u' : World} (hu : Below u.heap.size u u') : KcI ob X P H V0 g tk rf z n w V a0 (fun x => x == 6 || b x) q6 (a.put (some 18) (.agg #[.int .i64 (V0 0), .int .i64 (V0 1), .int .i64 (V0 2)])) u' :=
  ⟨I.sk.put (by decide) _,
    I.bel.trans (hu.mono I.sz),
    Nat.le_trans I.sz hu.size,
    I.x0,
    I.h0.bel hu,
    I.h1.bel hu,
    fun h => (put_other _ (by decide)).trans (I.s0 (by simpa using h)),
    fun h => (put_other _ (by decide)).trans (I.s1 (by simpa using h)),
    fun h => (put_other _ (by decide)).trans (I.s2 (by simpa using h)),
    fun h => (put_other _ (by decide)).trans (I.s3 (by simpa using h)),
    fun h => (put_other _ (by decide)).trans (I.s4 (by simpa using h)),
    fun h => (put_other _ (by decide)).trans (I.s5 (by simpa using h)),
    fun _ => put_same _ (by rw [I.sk.size]; exact hn),
    fun h => by obtain ⟨p1, p2, cs, p3, p4, p5⟩ := I.s7 (by simpa using h); exact ⟨(put_other _ (by decide)).trans p1, p2, cs, p3, p4.bel hu, fun h2 => p5 (by simpa using h2)⟩,
    fun h => by have h2 := I.e8 (by simpa using h); simp [h2]⟩
set_option maxRecDepth 100000 in
set_option maxHeartbeats 4000000 in
theorem KcI.next7 {ob : Nat} {X P H V0 : Nat → Int} {g tk rf z n : Int} {w V : World} {a0 : Act} {b : Nat → Bool} {q6 : Nat} {a : Act} {u : World} (I : KcI ob X P H V0 g tk rf z n w V a0 b q6 a u) (hn : 6 < a0.tmps.size) (hf : b 7 = false) : KcI ob X P H V0 g tk rf z n w V a0 (fun x => x == 7 || b x) u.heap.size (a.put (some 6) (.pointer (some ⟨u.heap.size, 0, none⟩))) (u.alloc (.cells #[.int .i64 0, .int .i64 0, .int .i64 0] 65)) :=
  ⟨I.sk.put (by decide) _,
    I.bel.alloc I.sz _,
    by have := I.sz; simp; omega,
    I.x0,
    I.h0.alloc _,
    I.h1.alloc _,
    fun h => (put_other _ (by decide)).trans (I.s0 (by simpa using h)),
    fun h => (put_other _ (by decide)).trans (I.s1 (by simpa using h)),
    fun h => (put_other _ (by decide)).trans (I.s2 (by simpa using h)),
    fun h => (put_other _ (by decide)).trans (I.s3 (by simpa using h)),
    fun h => (put_other _ (by decide)).trans (I.s4 (by simpa using h)),
    fun h => (put_other _ (by decide)).trans (I.s5 (by simpa using h)),
    fun h => (put_other _ (by decide)).trans (I.s6 (by simpa using h)),
    fun _ => ⟨put_same _ (by rw [I.sk.size]; exact hn), I.sz, [.int .i64 0, .int .i64 0, .int .i64 0], rfl, Held.new u [.int .i64 0, .int .i64 0, .int .i64 0] _, fun h => by have h2 := I.e8 (by simpa using h); rw [hf] at h2; cases h2⟩,
    fun h => by have h2 := I.e8 (by simpa using h); simp [h2]⟩
set_option maxRecDepth 100000 in
set_option maxHeartbeats 4000000 in
theorem KcI.next8 {ob : Nat} {X P H V0 : Nat → Int} {g tk rf z n : Int} {w V : World} {a0 : Act} {b : Nat → Bool} {q6 : Nat} {a : Act} {u : World} (I : KcI ob X P H V0 g tk rf z n w V a0 b q6 a u) (ha : b 7 = true) : KcI ob X P H V0 g tk rf z n w V a0 (fun x => x == 8 || b x) q6 a (((u.setCell ⟨q6, 0, none⟩ (.int .i64 (V0 0))).setCell ⟨q6, 1, none⟩ (.int .i64 (V0 1))).setCell ⟨q6, 2, none⟩ (.int .i64 (V0 2))) := by
  obtain ⟨-, hq, cs0, hc0, hh0, -⟩ := I.s7 ha
  obtain ⟨u9, e9, h9, hb⟩ := vl_laidc hh0 hc0 V0
  have ho : Only q6 u u9 := by rw [e9]; exact ((((Only.refl q6 u).setCell (p := ⟨q6, 0, none⟩) (.int .i64 (V0 0))).setCell (p := ⟨q6, 1, none⟩) (.int .i64 (V0 1))).setCell (p := ⟨q6, 2, none⟩) (.int .i64 (V0 2)))
  have hx0 := I.x0
  rw [← e9]
  exact ⟨I.sk,
    I.bel.trans (hb.mono hq),
    by have := hb.size; have := I.sz; omega,
    I.x0,
    I.h0.only ho (by omega),
    I.h1.only ho (by omega),
    fun h => I.s0 (by simpa using h),
    fun h => I.s1 (by simpa using h),
    fun h => I.s2 (by simpa using h),
    fun h => I.s3 (by simpa using h),
    fun h => I.s4 (by simpa using h),
    fun h => I.s5 (by simpa using h),
    fun h => I.s6 (by simpa using h),
    fun h => by obtain ⟨p1, p2, cs, p3, p4, p5⟩ := I.s7 (by simpa using h); exact ⟨p1, p2, _, rfl, h9, fun _ => rfl⟩,
    fun h => by simpa using ha⟩
set_option maxRecDepth 100000 in
set_option maxHeartbeats 4000000 in
theorem KcI.fin {ob : Nat} {X P H V0 : Nat → Int} {g tk rf z n : Int} {w V : World} {a0 : Act} {b : Nat → Bool} {q6 : Nat} {a : Act} {u : World} (I : KcI ob X P H V0 g tk rf z n w V a0 b q6 a u) (hb : ∀ i, i < 100 → i < 9 → b i = true) (hn : 18 < a0.tmps.size) : a = ((((((((a0.put (some 12) (.pointer (some ⟨ob, 0, none⟩))).put (some 13) (.pointer (some ⟨ob, 0, none⟩))).put (some 14) (.pointer (some ⟨ob, 3, none⟩))).put (some 15) (.agg #[.int .i64 (P 0), .int .i64 (P 1), .int .i64 (P 2), .int .i64 (P 3), .int .i64 (P 4), .int .i64 (P 5), .int .i64 (P 6), .int .i64 (P 7), .int .i64 (P 8)])).put (some 16) (.pointer (some ⟨w.heap.size, 0, none⟩))).put (some 17) (.agg #[.int .i64 (H 0), .int .i64 (H 1), .int .i64 (H 2)])).put (some 18) (.agg #[.int .i64 (V0 0), .int .i64 (V0 1), .int .i64 (V0 2)])).put (some 6) (.pointer (some ⟨q6, 0, none⟩))) := by
  refine act_ext (by simp only [put_defers]; exact I.sk.defers) (by simp only [put_size]; exact I.sk.size) (fun s hs => ?_)
  by_cases hd : s ∈ ([12, 13, 14, 15, 16, 17, 18, 6] : List Nat)
  · simp only [List.mem_cons, List.not_mem_nil, or_false] at hd
    rcases hd with rfl | rfl | rfl | rfl | rfl | rfl | rfl | rfl
    · refine (I.s0 (hb 0 (by omega) (by omega))).trans (Eq.symm ?_)
      exact (put_other _ (by decide)).trans ((put_other _ (by decide)).trans ((put_other _ (by decide)).trans ((put_other _ (by decide)).trans ((put_other _ (by decide)).trans ((put_other _ (by decide)).trans ((put_other _ (by decide)).trans (put_same _ (by (try simp only [put_size]); omega))))))))
    · refine (I.s1 (hb 1 (by omega) (by omega))).trans (Eq.symm ?_)
      exact (put_other _ (by decide)).trans ((put_other _ (by decide)).trans ((put_other _ (by decide)).trans ((put_other _ (by decide)).trans ((put_other _ (by decide)).trans ((put_other _ (by decide)).trans (put_same _ (by (try simp only [put_size]); omega)))))))
    · refine (I.s2 (hb 2 (by omega) (by omega))).trans (Eq.symm ?_)
      exact (put_other _ (by decide)).trans ((put_other _ (by decide)).trans ((put_other _ (by decide)).trans ((put_other _ (by decide)).trans ((put_other _ (by decide)).trans (put_same _ (by (try simp only [put_size]); omega))))))
    · refine (I.s3 (hb 3 (by omega) (by omega))).trans (Eq.symm ?_)
      exact (put_other _ (by decide)).trans ((put_other _ (by decide)).trans ((put_other _ (by decide)).trans ((put_other _ (by decide)).trans (put_same _ (by (try simp only [put_size]); omega)))))
    · refine (I.s4 (hb 4 (by omega) (by omega))).trans (Eq.symm ?_)
      exact (put_other _ (by decide)).trans ((put_other _ (by decide)).trans ((put_other _ (by decide)).trans (put_same _ (by (try simp only [put_size]); omega))))
    · refine (I.s5 (hb 5 (by omega) (by omega))).trans (Eq.symm ?_)
      exact (put_other _ (by decide)).trans ((put_other _ (by decide)).trans (put_same _ (by (try simp only [put_size]); omega)))
    · refine (I.s6 (hb 6 (by omega) (by omega))).trans (Eq.symm ?_)
      exact (put_other _ (by decide)).trans (put_same _ (by (try simp only [put_size]); omega))
    · refine ((I.s7 (hb 7 (by omega) (by omega))).1).trans (Eq.symm ?_)
      exact put_same _ (by (try simp only [put_size]); omega)
  · refine (I.sk.slot s hd).trans (Eq.symm ?_)
    simp only [List.mem_cons, List.not_mem_nil, or_false, not_or] at hd
    obtain ⟨g0, g1, g2, g3, g4, g5, g6, g7⟩ := hd
    exact (put_other _ g7).trans ((put_other _ g6).trans ((put_other _ g5).trans ((put_other _ g4).trans ((put_other _ g3).trans ((put_other _ g2).trans ((put_other _ g1).trans ((put_other _ g0).trans (rfl))))))))
theorem kc_box (w : World) (H : Nat → Int) (z n : Int) : ∃ V, V = (w.alloc (.cells #[.int .i64 (H 0), .int .i64 (H 1), .int .i64 (H 2), .int .i64 z, .int .i64 n] 86)) ∧ Below w.heap.size w V ∧ Held w.heap.size [.int .i64 (H 0), .int .i64 (H 1), .int .i64 (H 2), .int .i64 z, .int .i64 n] V ∧ V.heap.size = w.heap.size + 1 := by
  refine ⟨_, rfl, (by repeat (first | exact Below.refl _ _ | assumption | apply Below.drew | apply below_drewN | (refine Below.alloc ?_ (by first | exact Nat.le_refl _ | omega | (simp <;> omega)) _) | (refine Below.setCell ?_ (by first | exact Nat.le_refl _ | omega | (simp <;> omega)) _))), ?_, by simp⟩
  · have := (Held.new w [.int .i64 (H 0), .int .i64 (H 1), .int .i64 (H 2), .int .i64 z, .int .i64 n] 86)
    simpa using this
set_option maxRecDepth 100000 in
set_option maxHeartbeats 8000000 in
theorem kcorrect (ob : Nat) (X P : Nat → Int) (g tk rf : Int) (H : Nat → Int) (z n off : Int) (w : World) (k : Held ob (KeC X P g tk rf) w) (hn : 1 ≤ n ∧ n ≤ 68719476736) (ho : -9223372036854775808 ≤ off ∧ off ≤ 9223372036854775807) : Calls Try.prog 100 #[.pointer (some ⟨ob, 0, none⟩), .agg #[.int .i64 (H 0), .int .i64 (H 1), .int .i64 (H 2), .int .i64 z, .int .i64 n], .int .i64 off] w fun e w' => e = .returned (.tuple #[]) ∧ Held ob (KeC (kX X P H n off) (kP P H n) g tk rf) w' ∧ Beside ob w w' := by
  obtain ⟨V, eV, hb0, hH, hz⟩ := kc_box w H z n
  have blt := k.lt
  have sb := kS_bd P H hn
  have FE := Lib.hid (kc_fin X P H n off g tk rf)
  have AP := fun u => mapply P H u
  simp only [show ∀ t, apl P H t = kV P H t from fun _ => rfl] at AP
  have DT := fun u => mdot H (kV P H) u
  have hS : kS P H n = (if dtI H (kV P H) < 0 then 0 else dtI H (kV P H)) + n := rfl
  have F1 := fun t u => fit_any (kV P H t) 1048576 (kS P H n) u (by have := kV_bd P H t; omega) (by have := kV_bd P H t; omega) (by omega) (by omega) (by omega) (by omega)
  have F2 := fun t u => fit_any (kGn P H n t) off 1048576 u (by have := c36_bd (fitV (kV P H t) 1048576 (kS P H n)); unfold kGn; omega) (by have := c36_bd (fitV (kV P H t) 1048576 (kS P H n)); unfold kGn; omega) (by omega) (by omega) (by omega) (by omega)
  have C1 := fun t u => kclip (fitV (kV P H t) 1048576 (kS P H n)) u
  simp only [show ∀ t, c36 (fitV (kV P H t) 1048576 (kS P H n)) = kGn P H n t from fun _ => rfl] at C1
  simp only [show ∀ t, fitV (kGn P H n t) off 1048576 = kMv P H n off t from fun _ => rfl] at F2
  have PL := fun u => mplus X (kMv P H n off) u
  have OU := fun u => mouter (kGn P H n) (kV P H) u
  have SB := fun u => msub P (out (kGn P H n) (kV P H)) u
  simp only [show ∀ t, sbI (P t) (out (kGn P H n) (kV P H) t) = kP1 P H n t from fun _ => rfl] at SB
  generalize kP1 P H n = P1 at *
  generalize out (kGn P H n) (kV P H) = OO at *
  generalize pls X (kMv P H n off) = X1 at *
  generalize kMv P H n off = Mv at *
  generalize kGn P H n = G at *
  generalize kS P H n = s at *
  have db := dtI_bd H (kV P H)
  generalize dtI H (kV P H) = d at *
  generalize kV P H = V0 at *
  have ew : IntKind.i64.wrap ((if d < 0 then 0 else d) + n) = s := by rw [hS]; exact IntWalk.i64_in _ ⟨by omega, by omega⟩
  have MI := Lib.hid (fun u => mmirror (kMx P1 3) u)
  have CX := Lib.hid (fun t u => kclip (X1 t) u)
  clear hS db
  replace AP := Lib.hid AP
  replace DT := Lib.hid DT
  replace F1 := Lib.hid F1
  replace F2 := Lib.hid F2
  replace C1 := Lib.hid C1
  replace PL := Lib.hid PL
  replace OU := Lib.hid OU
  replace SB := Lib.hid SB
  replace ew := Lib.hid ew
  have kV_ := k.below hb0 blt
  have HZ := Lib.hid hz
  replace eV := Lib.hid eV
  have HB0 := Lib.hid hb0
  clear k hb0
  go_enter Try.func100, Try.ntmps100
  go_upto_region 1 with (fail)
  rw [← eV.out]
  refine region_inv_at (fun a_ V_ b a u => ∃ q6, KcI ob X P H V0 g tk rf z n w V a_ b q6 a u) (by kernel_rfl) (by kernel_rfl) ⟨0, ⟨Sk.refl _ _, (Below.refl _ _).drew, Nat.le_of_eq HZ.out.symm, blt, kV_.drew, hH.drew, by simp, by simp, by simp, by simp, by simp, by simp, by simp, by simp, by simp⟩⟩ ?_ ?_
  · intro i o ho b a u I hb hd K hK
    obtain ⟨q6, I⟩ := I
    have hi : i < 9 := (Array.getElem?_eq_some_iff.1 ho).1
    rcases (show i = 0 ∨ i = 1 ∨ i = 2 ∨ i = 3 ∨ i = 4 ∨ i = 5 ∨ i = 6 ∨ i = 7 ∨ i = 8 by omega) with rfl | rfl | rfl | rfl | rfl | rfl | rfl | rfl | rfl
    · obtain rfl := Option.some.inj ho
      have d0 : a.tmps.getD 0 undef = .pointer (some ⟨ob, 0, none⟩) := (I.sk.slot 0 (by decide)).trans rfl
      have I' := Lib.hid I
      clear I hd hb
      go_simp
      exact hK.out _ _ ⟨q6, I'.out.next0 (by show _ < 106; omega) (Below.refl _ _)⟩
    · obtain rfl := Option.some.inj ho
      have d0 := I.s0 (hd 0 (by decide))
      have I' := Lib.hid I
      clear I hd hb
      go_simp
      exact hK.out _ _ ⟨q6, I'.out.next1 (by show _ < 106; omega) (Below.refl _ _)⟩
    · obtain rfl := Option.some.inj ho
      have d0 := I.s1 (hd 1 (by decide))
      have I' := Lib.hid I
      clear I hd hb
      go_simp
      exact hK.out _ _ ⟨q6, I'.out.next2 (by show _ < 106; omega) (Below.refl _ _)⟩
    · obtain rfl := Option.some.inj ho
      have d0 := I.s2 (hd 2 (by decide))
      have hXX := I.h0
      obtain ⟨c0, f0⟩ := hXX.one 0 rfl
      obtain ⟨c1, f1⟩ := hXX.one 1 rfl
      obtain ⟨c2, f2⟩ := hXX.one 2 rfl
      obtain ⟨c3, f3⟩ := hXX.one 3 rfl
      obtain ⟨c4, f4⟩ := hXX.one 4 rfl
      obtain ⟨c5, f5⟩ := hXX.one 5 rfl
      obtain ⟨c6, f6⟩ := hXX.one 6 rfl
      obtain ⟨c7, f7⟩ := hXX.one 7 rfl
      obtain ⟨c8, f8⟩ := hXX.one 8 rfl
      obtain ⟨c9, f9⟩ := hXX.one 9 rfl
      obtain ⟨c10, f10⟩ := hXX.one 10 rfl
      obtain ⟨c11, f11⟩ := hXX.one 11 rfl
      obtain ⟨c12, f12⟩ := hXX.one 12 rfl
      obtain ⟨c13, f13⟩ := hXX.one 13 rfl
      obtain ⟨c14, f14⟩ := hXX.one 14 rfl
      clear hXX
      have I' := Lib.hid I
      clear I hd hb
      go_simp
      exact hK.out _ _ ⟨q6, I'.out.next3 (by show _ < 106; omega) (Below.refl _ _)⟩
    · obtain rfl := Option.some.inj ho
      have d0 : a.tmps.getD 4 undef = .pointer (some ⟨w.heap.size, 0, none⟩) := (I.sk.slot 4 (by decide)).trans rfl
      have I' := Lib.hid I
      clear I hd hb
      go_simp
      exact hK.out _ _ ⟨q6, I'.out.next4 (by show _ < 106; omega) (Below.refl _ _)⟩
    · obtain rfl := Option.some.inj ho
      have d0 := I.s4 (hd 4 (by decide))
      have hXX := I.h1
      obtain ⟨c0, f0⟩ := hXX.one 0 rfl
      obtain ⟨c1, f1⟩ := hXX.one 1 rfl
      obtain ⟨c2, f2⟩ := hXX.one 2 rfl
      obtain ⟨c3, f3⟩ := hXX.one 3 rfl
      obtain ⟨c4, f4⟩ := hXX.one 4 rfl
      clear hXX
      have I' := Lib.hid I
      clear I hd hb
      go_simp
      exact hK.out _ _ ⟨q6, I'.out.next5 (by show _ < 106; omega) (Below.refl _ _)⟩
    · obtain rfl := Option.some.inj ho
      have d0 := I.s3 (hd 3 (by decide))
      have d1 := I.s5 (hd 5 (by decide))
      have I' := Lib.hid I
      clear I hd hb
      go_simp
      refine (AP.out _).mono ?_
      rintro e u1 ⟨rfl, hu⟩
      go_simp
      exact hK.out _ _ ⟨q6, I'.out.next6 (by show _ < 106; omega) hu⟩
    · obtain rfl := Option.some.inj ho
      have I' := Lib.hid I
      have hbb := Lib.hid hb
      clear I hd hb
      go_simp
      exact hK.out _ _ ⟨_, I'.out.next7 (by show _ < 106; omega) hbb.out⟩
    · obtain rfl := Option.some.inj ho
      have ha := hd 7 (by decide)
      have h2 := I.s6 (hd 6 (by decide))
      obtain ⟨h3, -, cs, hc, hh, -⟩ := I.s7 ha
      obtain ⟨x0, x1, x2, rfl⟩ := l3x hc
      obtain ⟨c0, f0⟩ := hh.one 0 rfl
      obtain ⟨c1, f1⟩ := hh.one 1 rfl
      obtain ⟨c2, f2⟩ := hh.one 2 rfl
      have I' := Lib.hid (I.next8 ha)
      clear I hd hb hh hc
      go_simp
      exact hK.out _ _ ⟨q6, I'.out⟩
  · intro b a u hall I
    obtain ⟨q6, I⟩ := I
    have ea := I.fin (fun i _ h => hall i h) (by show _ < 106; omega)
    obtain ⟨-, r0, cs0, -, k0, j0⟩ := I.s7 (hall 7 (by decide))
    rw [j0 (hall 8 (by decide))] at k0
    have vlo : w.heap.size + 1 ≤ q6 := r0
    have KO := Lib.hid I.h0
    have KB := Lib.hid I.h1
    have KV := Lib.hid k0
    have BS := Lib.hid (Beside.of_below (b := ob) (HB0.out.trans (I.bel.mono (by omega))))
    subst ea
    clear I hall AP eV HZ HB0 k0 j0 r0 kV_ hH hz
    simp only [Act.put, List.setIfInBounds_toArray, List.set_cons_zero, List.set_cons_succ]
    have hh_ := KB.out
    obtain ⟨c0, f0⟩ := hh_.one 0 rfl
    obtain ⟨c1, f1⟩ := hh_.one 1 rfl
    obtain ⟨c2, f2⟩ := hh_.one 2 rfl
    obtain ⟨c3, f3⟩ := hh_.one 3 rfl
    obtain ⟨c4, f4⟩ := hh_.one 4 rfl
    clear hh_
    have hh_ := KV.out
    obtain ⟨d0, g0⟩ := hh_.one 0 rfl
    obtain ⟨d1, g1⟩ := hh_.one 1 rfl
    obtain ⟨d2, g2⟩ := hh_.one 2 rfl
    clear hh_
    have ew2 := ew.out
    go_wp2_with fail
    refine region_moves (fun u => u.cell? ⟨w.heap.size, 0, none⟩ = some (.int .i64 (H 0)) ∧ u.cell? ⟨w.heap.size, 1, none⟩ = some (.int .i64 (H 1)) ∧ u.cell? ⟨w.heap.size, 2, none⟩ = some (.int .i64 (H 2)) ∧ u.cell? ⟨w.heap.size, 4, none⟩ = some (.int .i64 n) ∧ u.cell? ⟨q6, 0, none⟩ = some (.int .i64 (V0 0)) ∧ u.cell? ⟨q6, 1, none⟩ = some (.int .i64 (V0 1)) ∧ u.cell? ⟨q6, 2, none⟩ = some (.int .i64 (V0 2))) [] [(.free, 0), (.take, 1), (.take, 2), (.free, 5), (.take, 6), (.step, 3), (.free, 4), (.free, 7), (.free, 8)] _ (by kernel_rfl) (by kernel_rfl) (by kernel_rfl) (by kernel_rfl) (by decide) rfl (fun _ _ _ _ _ h => h) ?_
    simp only [List.filterMap_cons, List.filterMap_nil, List.getElem?_toArray, List.getElem?_cons_zero, List.getElem?_cons_succ, Option.map_some]
    iterate 1
      first
        | (refine mv_free ?_ (Or.inl ⟨by rfl, ?_⟩) (⟨c0, c1, c2, c4, d0, d1, d2⟩) ?_
           rotate_left 1
           · intro u
             go_simp
             try simp only [d1]
             try simp only [d2]
             try simp only [d3]
             try with_reducible rfl
           simp only [Act.put, List.setIfInBounds_toArray, List.set_cons_zero, List.set_cons_succ])
        | (refine mv_free _ (Or.inr ⟨by rfl, rfl⟩) (⟨c0, c1, c2, c4, d0, d1, d2⟩) ?_
           simp only [Act.put, List.setIfInBounds_toArray, List.set_cons_zero, List.set_cons_succ])
    iterate 2
      first
        | (refine mv_take ?_ (Or.inl ⟨by rfl, ?_⟩) (⟨c0, c1, c2, c4, d0, d1, d2⟩) ?_
           rotate_left 1
           · intro u hu
             (try dsimp only at hu)
             go_simp
             try with_reducible rfl
           simp only [Act.put, List.setIfInBounds_toArray, List.set_cons_zero, List.set_cons_succ])
        | (refine mv_take _ (Or.inr ⟨by rfl, rfl⟩) (⟨c0, c1, c2, c4, d0, d1, d2⟩) ?_
           simp only [Act.put, List.setIfInBounds_toArray, List.set_cons_zero, List.set_cons_succ])
    iterate 1
      first
        | (refine mv_free ?_ (Or.inl ⟨by rfl, ?_⟩) (⟨c0, c1, c2, c4, d0, d1, d2⟩) ?_
           rotate_left 1
           · intro u
             go_simp
             try simp only [d1]
             try simp only [d2]
             try simp only [d3]
             try with_reducible rfl
           simp only [Act.put, List.setIfInBounds_toArray, List.set_cons_zero, List.set_cons_succ])
        | (refine mv_free _ (Or.inr ⟨by rfl, rfl⟩) (⟨c0, c1, c2, c4, d0, d1, d2⟩) ?_
           simp only [Act.put, List.setIfInBounds_toArray, List.set_cons_zero, List.set_cons_succ])
    iterate 1
      first
        | (refine mv_take ?_ (Or.inl ⟨by rfl, ?_⟩) (⟨c0, c1, c2, c4, d0, d1, d2⟩) ?_
           rotate_left 1
           · intro u hu
             (try dsimp only at hu)
             go_simp
             try with_reducible rfl
           simp only [Act.put, List.setIfInBounds_toArray, List.set_cons_zero, List.set_cons_succ])
        | (refine mv_take _ (Or.inr ⟨by rfl, rfl⟩) (⟨c0, c1, c2, c4, d0, d1, d2⟩) ?_
           simp only [Act.put, List.setIfInBounds_toArray, List.set_cons_zero, List.set_cons_succ])
    refine mv_step (fun K hK => ?_)
    go_simp
    refine (DT.out _).mono ?_
    rintro e w2 ⟨rfl, hq⟩
    replace KO := Lib.hid (KO.out.drew.bel hq)
    replace KB := Lib.hid (KB.out.drew.bel hq)
    replace KV := Lib.hid (KV.out.drew.bel hq)
    replace BS := Lib.hid ((Beside.as (v' := u.drew) BS.out rfl rfl rfl rfl).trans (.of_below hq))
    clear hq
    clear c0 f0 c1 f1 c2 f2 c3 f3 c4 f4
    clear d0 g0 d1 g1 d2 g2
    have hh_ := KB.out
    obtain ⟨c0, f0⟩ := hh_.one 0 rfl
    obtain ⟨c1, f1⟩ := hh_.one 1 rfl
    obtain ⟨c2, f2⟩ := hh_.one 2 rfl
    obtain ⟨c3, f3⟩ := hh_.one 3 rfl
    obtain ⟨c4, f4⟩ := hh_.one 4 rfl
    clear hh_
    have hh_ := KV.out
    obtain ⟨d0, g0⟩ := hh_.one 0 rfl
    obtain ⟨d1, g1⟩ := hh_.one 1 rfl
    obtain ⟨d2, g2⟩ := hh_.one 2 rfl
    clear hh_
    go_wp2_with fail
    refine hK.out _ _ _ (fun u hu => hu) (⟨c0, c1, c2, c4, d0, d1, d2⟩) ?_
    clear hK K
    iterate 3
      first
        | (refine mv_free ?_ (Or.inl ⟨by rfl, ?_⟩) (⟨c0, c1, c2, c4, d0, d1, d2⟩) ?_
           rotate_left 1
           · intro u
             go_simp
             try simp only [d1]
             try simp only [d2]
             try simp only [d3]
             try with_reducible rfl
           simp only [Act.put, List.setIfInBounds_toArray, List.set_cons_zero, List.set_cons_succ])
        | (refine mv_free _ (Or.inr ⟨by rfl, rfl⟩) (⟨c0, c1, c2, c4, d0, d1, d2⟩) ?_
           simp only [Act.put, List.setIfInBounds_toArray, List.set_cons_zero, List.set_cons_succ])
    refine mv_done ?_
    clear c0 f0 c1 f1 c2 f2 c3 f3 c4 f4
    clear d0 g0 d1 g1 d2 g2
    clear ew2 DT ew
    generalize (if d < 0 then (0 : Int) else d) = md
    go_upto_region 4 with (fail)
    obtain ⟨gb, egb⟩ : ∃ gb, gb = w2.heap.size := ⟨_, rfl⟩
    have gl : q6 < gb := by rw [egb]; exact KV.out.lt
    have wl : w.heap.size < gb := by omega
    obtain ⟨w4, ew4⟩ : ∃ w4, w4 = (w2.alloc (.cells #[.int .i64 0, .int .i64 0, .int .i64 0] 65)).alloc (.cells #[.int .i64 0, .int .i64 0, .int .i64 0] 65) := ⟨_, rfl⟩
    have KG := Lib.hid (show Held gb (vC G 0) w4 by rw [ew4, egb, vC_zero]; exact (Held.new w2 [.int .i64 0, .int .i64 0, .int .i64 0] 65).alloc _)
    have KM := Lib.hid (show Held (gb + 1) (vC Mv 0) w4 by rw [ew4, egb, vC_zero]; have := Held.new (w2.alloc (.cells #[.int .i64 0, .int .i64 0, .int .i64 0] 65)) [.int .i64 0, .int .i64 0, .int .i64 0] 65; simpa using this)
    have hq4 : Below w2.heap.size w2 w4 := by rw [ew4]; exact ((Below.refl _ _).alloc (Nat.le_refl _) _).alloc (by simp) _
    replace KO := Lib.hid (KO.out.bel hq4)
    replace KB := Lib.hid (KB.out.bel hq4)
    replace KV := Lib.hid (KV.out.bel hq4)
    replace BS := Lib.hid (BS.out.trans (.of_below hq4))
    clear hq4
    rw [← ew4, ← egb]
    replace ew4 := Lib.hid ew4
    replace egb := Lib.hid egb
    go_wp2_with fail
    go_loopw [27] (fun i u => ∃ k : Nat, k ≤ 3 ∧ i = .int .i64 (k : Int) ∧ Hid (Held ob (KeC X P g tk rf) u) ∧ Hid (Held w.heap.size [.int .i64 (H 0), .int .i64 (H 1), .int .i64 (H 2), .int .i64 z, .int .i64 n] u) ∧ Hid (Held q6 [.int .i64 (V0 0), .int .i64 (V0 1), .int .i64 (V0 2)] u) ∧ Hid (Held gb (vC G k) u) ∧ Hid (Held (gb + 1) (vC Mv k) u) ∧ Hid (Beside ob w u)) (fun i _ => 3 - (intOf i).toNat)
    case atStart => exact ⟨0, by omega, rfl, KO, KB, KV, KG, KM, BS⟩
    case round =>
      clear KO KB KV KG KM BS
      obtain ⟨k, hk, rfl, KO, KB, KV, KG, KM, BS⟩ := hrel
      rcases (show k = 0 ∨ k = 1 ∨ k = 2 ∨ k = 3 by omega) with rfl | rfl | rfl | rfl
      · have kk : ((0 : Nat) : Int) = 0 := rfl
        have d0 : wr.cell? ⟨q6, 0, none⟩ = some (.int .i64 (V0 0)) := KV.out.c 0 _ rfl
        go_wp2_with fail
        refine (F1.out 0 _).mono ?_
        rintro e w5 ⟨rfl, hq⟩
        replace KO := Lib.hid (KO.out.bel hq)
        replace KB := Lib.hid (KB.out.bel hq)
        replace KV := Lib.hid (KV.out.bel hq)
        replace KG := Lib.hid (KG.out.bel hq)
        replace KM := Lib.hid (KM.out.bel hq)
        replace BS := Lib.hid (BS.out.trans (.of_below hq))
        clear hq d0
        go_wp2_with fail
        refine (C1.out 0 _).mono ?_
        rintro e w' ⟨rfl, rfl⟩
        obtain ⟨v0, hv0⟩ := vC_some G 0 0 (by omega)
        have c0 := KG.out.c 0 _ hv0
        have f0 := KG.out.f 0 (by rw [vC_len]; omega)
        go_upto_region 8 with (fail)
        obtain ⟨w6, ew6⟩ : ∃ w6, w6 = w5.setCell ⟨gb, 0, none⟩ (.int .i64 (G 0)) := ⟨_, rfl⟩
        obtain ⟨k6, b6⟩ := (((HB.start KG.out).set 0 (.int .i64 (G 0)) (by rw [vC_len]; omega)).is (vC_set G 0 (by omega))).fin (v' := w6) (by rw [ew6]) (by rw [ew6]) (by rw [ew6]) (by rw [ew6])
        have bs6 : Beside ob w w6 := by rw [ew6]; exact Beside.of_new BS.out (p := ⟨gb, 0, none⟩) wl _
        replace KO := Lib.hid (KO.out.beside b6 (by omega))
        replace KB := Lib.hid (KB.out.beside b6 (by omega))
        replace KV := Lib.hid (KV.out.beside b6 (by omega))
        replace KM := Lib.hid (KM.out.beside b6 (by omega))
        replace KG := Lib.hid k6
        replace BS := Lib.hid bs6
        rw [← ew6]
        replace ew6 := Lib.hid ew6
        clear k6 b6 bs6 c0 f0 hv0 v0
        have c0 : w6.cell? ⟨gb, 0, none⟩ = some (.int .i64 (G 0)) := KG.out.c 0 _ (by rw [vC_at (by omega)]; rfl)
        go_wp2_with fail
        refine (F2.out 0 _).mono ?_
        rintro e w7 ⟨rfl, hq⟩
        replace KO := Lib.hid (KO.out.bel hq)
        replace KB := Lib.hid (KB.out.bel hq)
        replace KV := Lib.hid (KV.out.bel hq)
        replace KG := Lib.hid (KG.out.bel hq)
        replace KM := Lib.hid (KM.out.bel hq)
        replace BS := Lib.hid (BS.out.trans (.of_below hq))
        clear hq c0
        obtain ⟨v0, hv0⟩ := vC_some Mv 0 0 (by omega)
        have c0 := KM.out.c 0 _ hv0
        have f0 := KM.out.f 0 (by rw [vC_len]; omega)
        go_upto_region 9 with (fail)
        obtain ⟨w8, ew8⟩ : ∃ w8, w8 = w7.setCell ⟨gb + 1, 0, none⟩ (.int .i64 (Mv 0)) := ⟨_, rfl⟩
        obtain ⟨k8, b8⟩ := (((HB.start KM.out).set 0 (.int .i64 (Mv 0)) (by rw [vC_len]; omega)).is (vC_set Mv 0 (by omega))).fin (v' := w8) (by rw [ew8]) (by rw [ew8]) (by rw [ew8]) (by rw [ew8])
        have bs8 : Beside ob w w8 := by rw [ew8]; exact Beside.of_new BS.out (p := ⟨gb + 1, 0, none⟩) (by show w.heap.size < gb + 1; omega) _
        replace KO := Lib.hid (KO.out.beside b8 (by omega))
        replace KB := Lib.hid (KB.out.beside b8 (by omega))
        replace KV := Lib.hid (KV.out.beside b8 (by omega))
        replace KG := Lib.hid (KG.out.beside b8 (by omega))
        replace KM := Lib.hid k8
        replace BS := Lib.hid bs8
        rw [← ew8]
        replace ew8 := Lib.hid ew8
        clear k8 b8 bs8 c0 f0 hv0 v0
        go_wp2
        go_roundw
        case rel => exact ⟨0 + 1, by omega, by first | rfl | go_num, KO, KB, KV, KG, KM, BS⟩
        case measure => simp [intOf]
      · have kk : ((1 : Nat) : Int) = 1 := rfl
        have d0 : wr.cell? ⟨q6, 1, none⟩ = some (.int .i64 (V0 1)) := KV.out.c 1 _ rfl
        go_wp2_with fail
        refine (F1.out 1 _).mono ?_
        rintro e w5 ⟨rfl, hq⟩
        replace KO := Lib.hid (KO.out.bel hq)
        replace KB := Lib.hid (KB.out.bel hq)
        replace KV := Lib.hid (KV.out.bel hq)
        replace KG := Lib.hid (KG.out.bel hq)
        replace KM := Lib.hid (KM.out.bel hq)
        replace BS := Lib.hid (BS.out.trans (.of_below hq))
        clear hq d0
        go_wp2_with fail
        refine (C1.out 1 _).mono ?_
        rintro e w' ⟨rfl, rfl⟩
        obtain ⟨v0, hv0⟩ := vC_some G 1 1 (by omega)
        have c0 := KG.out.c 1 _ hv0
        have f0 := KG.out.f 1 (by rw [vC_len]; omega)
        go_upto_region 8 with (fail)
        obtain ⟨w6, ew6⟩ : ∃ w6, w6 = w5.setCell ⟨gb, 1, none⟩ (.int .i64 (G 1)) := ⟨_, rfl⟩
        obtain ⟨k6, b6⟩ := (((HB.start KG.out).set 1 (.int .i64 (G 1)) (by rw [vC_len]; omega)).is (vC_set G 1 (by omega))).fin (v' := w6) (by rw [ew6]) (by rw [ew6]) (by rw [ew6]) (by rw [ew6])
        have bs6 : Beside ob w w6 := by rw [ew6]; exact Beside.of_new BS.out (p := ⟨gb, 1, none⟩) wl _
        replace KO := Lib.hid (KO.out.beside b6 (by omega))
        replace KB := Lib.hid (KB.out.beside b6 (by omega))
        replace KV := Lib.hid (KV.out.beside b6 (by omega))
        replace KM := Lib.hid (KM.out.beside b6 (by omega))
        replace KG := Lib.hid k6
        replace BS := Lib.hid bs6
        rw [← ew6]
        replace ew6 := Lib.hid ew6
        clear k6 b6 bs6 c0 f0 hv0 v0
        have c0 : w6.cell? ⟨gb, 1, none⟩ = some (.int .i64 (G 1)) := KG.out.c 1 _ (by rw [vC_at (by omega)]; rfl)
        go_wp2_with fail
        refine (F2.out 1 _).mono ?_
        rintro e w7 ⟨rfl, hq⟩
        replace KO := Lib.hid (KO.out.bel hq)
        replace KB := Lib.hid (KB.out.bel hq)
        replace KV := Lib.hid (KV.out.bel hq)
        replace KG := Lib.hid (KG.out.bel hq)
        replace KM := Lib.hid (KM.out.bel hq)
        replace BS := Lib.hid (BS.out.trans (.of_below hq))
        clear hq c0
        obtain ⟨v0, hv0⟩ := vC_some Mv 1 1 (by omega)
        have c0 := KM.out.c 1 _ hv0
        have f0 := KM.out.f 1 (by rw [vC_len]; omega)
        go_upto_region 9 with (fail)
        obtain ⟨w8, ew8⟩ : ∃ w8, w8 = w7.setCell ⟨gb + 1, 1, none⟩ (.int .i64 (Mv 1)) := ⟨_, rfl⟩
        obtain ⟨k8, b8⟩ := (((HB.start KM.out).set 1 (.int .i64 (Mv 1)) (by rw [vC_len]; omega)).is (vC_set Mv 1 (by omega))).fin (v' := w8) (by rw [ew8]) (by rw [ew8]) (by rw [ew8]) (by rw [ew8])
        have bs8 : Beside ob w w8 := by rw [ew8]; exact Beside.of_new BS.out (p := ⟨gb + 1, 1, none⟩) (by show w.heap.size < gb + 1; omega) _
        replace KO := Lib.hid (KO.out.beside b8 (by omega))
        replace KB := Lib.hid (KB.out.beside b8 (by omega))
        replace KV := Lib.hid (KV.out.beside b8 (by omega))
        replace KG := Lib.hid (KG.out.beside b8 (by omega))
        replace KM := Lib.hid k8
        replace BS := Lib.hid bs8
        rw [← ew8]
        replace ew8 := Lib.hid ew8
        clear k8 b8 bs8 c0 f0 hv0 v0
        go_wp2
        go_roundw
        case rel => exact ⟨1 + 1, by omega, by first | rfl | go_num, KO, KB, KV, KG, KM, BS⟩
        case measure => simp [intOf]
      · have kk : ((2 : Nat) : Int) = 2 := rfl
        have d0 : wr.cell? ⟨q6, 2, none⟩ = some (.int .i64 (V0 2)) := KV.out.c 2 _ rfl
        go_wp2_with fail
        refine (F1.out 2 _).mono ?_
        rintro e w5 ⟨rfl, hq⟩
        replace KO := Lib.hid (KO.out.bel hq)
        replace KB := Lib.hid (KB.out.bel hq)
        replace KV := Lib.hid (KV.out.bel hq)
        replace KG := Lib.hid (KG.out.bel hq)
        replace KM := Lib.hid (KM.out.bel hq)
        replace BS := Lib.hid (BS.out.trans (.of_below hq))
        clear hq d0
        go_wp2_with fail
        refine (C1.out 2 _).mono ?_
        rintro e w' ⟨rfl, rfl⟩
        obtain ⟨v0, hv0⟩ := vC_some G 2 2 (by omega)
        have c0 := KG.out.c 2 _ hv0
        have f0 := KG.out.f 2 (by rw [vC_len]; omega)
        go_upto_region 8 with (fail)
        obtain ⟨w6, ew6⟩ : ∃ w6, w6 = w5.setCell ⟨gb, 2, none⟩ (.int .i64 (G 2)) := ⟨_, rfl⟩
        obtain ⟨k6, b6⟩ := (((HB.start KG.out).set 2 (.int .i64 (G 2)) (by rw [vC_len]; omega)).is (vC_set G 2 (by omega))).fin (v' := w6) (by rw [ew6]) (by rw [ew6]) (by rw [ew6]) (by rw [ew6])
        have bs6 : Beside ob w w6 := by rw [ew6]; exact Beside.of_new BS.out (p := ⟨gb, 2, none⟩) wl _
        replace KO := Lib.hid (KO.out.beside b6 (by omega))
        replace KB := Lib.hid (KB.out.beside b6 (by omega))
        replace KV := Lib.hid (KV.out.beside b6 (by omega))
        replace KM := Lib.hid (KM.out.beside b6 (by omega))
        replace KG := Lib.hid k6
        replace BS := Lib.hid bs6
        rw [← ew6]
        replace ew6 := Lib.hid ew6
        clear k6 b6 bs6 c0 f0 hv0 v0
        have c0 : w6.cell? ⟨gb, 2, none⟩ = some (.int .i64 (G 2)) := KG.out.c 2 _ (by rw [vC_at (by omega)]; rfl)
        go_wp2_with fail
        refine (F2.out 2 _).mono ?_
        rintro e w7 ⟨rfl, hq⟩
        replace KO := Lib.hid (KO.out.bel hq)
        replace KB := Lib.hid (KB.out.bel hq)
        replace KV := Lib.hid (KV.out.bel hq)
        replace KG := Lib.hid (KG.out.bel hq)
        replace KM := Lib.hid (KM.out.bel hq)
        replace BS := Lib.hid (BS.out.trans (.of_below hq))
        clear hq c0
        obtain ⟨v0, hv0⟩ := vC_some Mv 2 2 (by omega)
        have c0 := KM.out.c 2 _ hv0
        have f0 := KM.out.f 2 (by rw [vC_len]; omega)
        go_upto_region 9 with (fail)
        obtain ⟨w8, ew8⟩ : ∃ w8, w8 = w7.setCell ⟨gb + 1, 2, none⟩ (.int .i64 (Mv 2)) := ⟨_, rfl⟩
        obtain ⟨k8, b8⟩ := (((HB.start KM.out).set 2 (.int .i64 (Mv 2)) (by rw [vC_len]; omega)).is (vC_set Mv 2 (by omega))).fin (v' := w8) (by rw [ew8]) (by rw [ew8]) (by rw [ew8]) (by rw [ew8])
        have bs8 : Beside ob w w8 := by rw [ew8]; exact Beside.of_new BS.out (p := ⟨gb + 1, 2, none⟩) (by show w.heap.size < gb + 1; omega) _
        replace KO := Lib.hid (KO.out.beside b8 (by omega))
        replace KB := Lib.hid (KB.out.beside b8 (by omega))
        replace KV := Lib.hid (KV.out.beside b8 (by omega))
        replace KG := Lib.hid (KG.out.beside b8 (by omega))
        replace KM := Lib.hid k8
        replace BS := Lib.hid bs8
        rw [← ew8]
        replace ew8 := Lib.hid ew8
        clear k8 b8 bs8 c0 f0 hv0 v0
        go_wp2
        go_roundw
        case rel => exact ⟨2 + 1, by omega, by first | rfl | go_num, KO, KB, KV, KG, KM, BS⟩
        case measure => simp [intOf]
      · have kk : ((3 : Nat) : Int) = 3 := rfl
        rw [vC_all] at KG KM
        have hh_ := KO.out
        obtain ⟨c0, f0⟩ := hh_.one 0 rfl
        obtain ⟨c1, f1⟩ := hh_.one 1 rfl
        obtain ⟨c2, f2⟩ := hh_.one 2 rfl
        obtain ⟨c3, f3⟩ := hh_.one 3 rfl
        obtain ⟨c4, f4⟩ := hh_.one 4 rfl
        obtain ⟨c5, f5⟩ := hh_.one 5 rfl
        obtain ⟨c6, f6⟩ := hh_.one 6 rfl
        obtain ⟨c7, f7⟩ := hh_.one 7 rfl
        obtain ⟨c8, f8⟩ := hh_.one 8 rfl
        obtain ⟨c9, f9⟩ := hh_.one 9 rfl
        obtain ⟨c10, f10⟩ := hh_.one 10 rfl
        obtain ⟨c11, f11⟩ := hh_.one 11 rfl
        obtain ⟨c12, f12⟩ := hh_.one 12 rfl
        obtain ⟨c13, f13⟩ := hh_.one 13 rfl
        obtain ⟨c14, f14⟩ := hh_.one 14 rfl
        clear hh_
        have hh_ := KM.out
        obtain ⟨d0, g0⟩ := hh_.one 0 rfl
        obtain ⟨d1, g1⟩ := hh_.one 1 rfl
        obtain ⟨d2, g2⟩ := hh_.one 2 rfl
        clear hh_
        go_wp2_with fail
        refine region_moves (fun u => u.cell? ⟨ob, 0, none⟩ = some (.int .i64 (X 0)) ∧ u.cell? ⟨ob, 1, none⟩ = some (.int .i64 (X 1)) ∧ u.cell? ⟨ob, 2, none⟩ = some (.int .i64 (X 2)) ∧ u.cell? ⟨gb + 1, 0, none⟩ = some (.int .i64 (Mv 0)) ∧ u.cell? ⟨gb + 1, 1, none⟩ = some (.int .i64 (Mv 1)) ∧ u.cell? ⟨gb + 1, 2, none⟩ = some (.int .i64 (Mv 2))) [(9, [(8, 9), (6, 9), (0, 9), (1, 9), (2, 9), (3, 9), (4, 9), (5, 9), (7, 8)])] [(.free, 0), (.free, 1), (.free, 2), (.free, 3), (.take, 4), (.take, 5), (.step, 6), (.free, 7), (.free, 8), (.late, 9)] _ (by kernel_rfl) (by kernel_rfl) (by kernel_rfl) (by kernel_rfl) (by decide) rfl (fun _ _ _ _ _ h => h) ?_
        simp only [List.filterMap_cons, List.filterMap_nil, List.getElem?_toArray, List.getElem?_cons_zero, List.getElem?_cons_succ, Option.map_some]
        iterate 4
          first
            | (refine mv_free ?_ (Or.inl ⟨by rfl, ?_⟩) (⟨c0, c1, c2, d0, d1, d2⟩) ?_
               rotate_left 1
               · intro u
                 go_simp
                 try simp only [d1]
                 try simp only [d2]
                 try simp only [d3]
                 try with_reducible rfl
               simp only [Act.put, List.setIfInBounds_toArray, List.set_cons_zero, List.set_cons_succ])
            | (refine mv_free _ (Or.inr ⟨by rfl, rfl⟩) (⟨c0, c1, c2, d0, d1, d2⟩) ?_
               simp only [Act.put, List.setIfInBounds_toArray, List.set_cons_zero, List.set_cons_succ])
        iterate 2
          first
            | (refine mv_take ?_ (Or.inl ⟨by rfl, ?_⟩) (⟨c0, c1, c2, d0, d1, d2⟩) ?_
               rotate_left 1
               · intro u hu
                 (try dsimp only at hu)
                 go_simp
                 try with_reducible rfl
               simp only [Act.put, List.setIfInBounds_toArray, List.set_cons_zero, List.set_cons_succ])
            | (refine mv_take _ (Or.inr ⟨by rfl, rfl⟩) (⟨c0, c1, c2, d0, d1, d2⟩) ?_
               simp only [Act.put, List.setIfInBounds_toArray, List.set_cons_zero, List.set_cons_succ])
        refine mv_step (fun K hK => ?_)
        go_simp
        refine (PL.out _).mono ?_
        rintro e w5 ⟨rfl, hq⟩
        replace KO := Lib.hid (KO.out.drew.bel hq)
        replace KB := Lib.hid (KB.out.drew.bel hq)
        replace KV := Lib.hid (KV.out.drew.bel hq)
        replace KG := Lib.hid (KG.out.drew.bel hq)
        replace KM := Lib.hid (KM.out.drew.bel hq)
        replace BS := Lib.hid ((Beside.as (v' := wr.drew) BS.out rfl rfl rfl rfl).trans (.of_below hq))
        clear hq
        clear c0 f0 c1 f1 c2 f2 c3 f3 c4 f4 c5 f5 c6 f6 c7 f7 c8 f8 c9 f9 c10 f10 c11 f11 c12 f12 c13 f13 c14 f14
        clear d0 g0 d1 g1 d2 g2
        have hh_ := KO.out
        obtain ⟨c0, f0⟩ := hh_.one 0 rfl
        obtain ⟨c1, f1⟩ := hh_.one 1 rfl
        obtain ⟨c2, f2⟩ := hh_.one 2 rfl
        obtain ⟨c3, f3⟩ := hh_.one 3 rfl
        obtain ⟨c4, f4⟩ := hh_.one 4 rfl
        obtain ⟨c5, f5⟩ := hh_.one 5 rfl
        obtain ⟨c6, f6⟩ := hh_.one 6 rfl
        obtain ⟨c7, f7⟩ := hh_.one 7 rfl
        obtain ⟨c8, f8⟩ := hh_.one 8 rfl
        obtain ⟨c9, f9⟩ := hh_.one 9 rfl
        obtain ⟨c10, f10⟩ := hh_.one 10 rfl
        obtain ⟨c11, f11⟩ := hh_.one 11 rfl
        obtain ⟨c12, f12⟩ := hh_.one 12 rfl
        obtain ⟨c13, f13⟩ := hh_.one 13 rfl
        obtain ⟨c14, f14⟩ := hh_.one 14 rfl
        clear hh_
        have hh_ := KM.out
        obtain ⟨d0, g0⟩ := hh_.one 0 rfl
        obtain ⟨d1, g1⟩ := hh_.one 1 rfl
        obtain ⟨d2, g2⟩ := hh_.one 2 rfl
        clear hh_
        go_wp2_with fail
        refine hK.out _ _ _ (fun u hu => hu) (⟨c0, c1, c2, d0, d1, d2⟩) ?_
        clear hK K
        iterate 2
          first
            | (refine mv_free ?_ (Or.inl ⟨by rfl, ?_⟩) (⟨c0, c1, c2, d0, d1, d2⟩) ?_
               rotate_left 1
               · intro u
                 go_simp
                 try simp only [d1]
                 try simp only [d2]
                 try simp only [d3]
                 try with_reducible rfl
               simp only [Act.put, List.setIfInBounds_toArray, List.set_cons_zero, List.set_cons_succ])
            | (refine mv_free _ (Or.inr ⟨by rfl, rfl⟩) (⟨c0, c1, c2, d0, d1, d2⟩) ?_
               simp only [Act.put, List.setIfInBounds_toArray, List.set_cons_zero, List.set_cons_succ])
        refine mv_late (fun K hK => ?_)
        go_simp
        refine hK.out (fun _ => True) _ _ ?_
        clear hK K
        refine mv_done ?_
        obtain ⟨w6, ew6⟩ : ∃ w6, w6 = (((w5.setCell ⟨ob, 0, none⟩ (.int .i64 (X1 0))).setCell ⟨ob, 1, none⟩ (.int .i64 (X1 1))).setCell ⟨ob, 2, none⟩ (.int .i64 (X1 2))) := ⟨_, rfl⟩
        obtain ⟨k6, b6⟩ := (((((HB.start KO.out).set 0 (.int .i64 (X1 0)) (by simp [KeC])).set 1 (.int .i64 (X1 1)) (by simp [KeC])).set 2 (.int .i64 (X1 2)) (by simp [KeC])).is (show _ = KeC X1 P g tk rf from rfl)).fin (v' := w6) (by rw [ew6]) (by rw [ew6]) (by rw [ew6]) (by rw [ew6])
        replace KB := Lib.hid (KB.out.beside b6 (by omega))
        replace KV := Lib.hid (KV.out.beside b6 (by omega))
        replace KG := Lib.hid (KG.out.beside b6 (by omega))
        replace KM := Lib.hid (KM.out.beside b6 (by omega))
        replace KO := Lib.hid k6
        replace BS := Lib.hid (BS.out.trans b6)
        rw [← ew6]
        replace ew6 := Lib.hid ew6
        clear k6 b6
        clear c0 f0 c1 f1 c2 f2 c3 f3 c4 f4 c5 f5 c6 f6 c7 f7 c8 f8 c9 f9 c10 f10 c11 f11 c12 f12 c13 f13 c14 f14
        clear d0 g0 d1 g1 d2 g2
        clear PL
        have hh_ := KO.out
        obtain ⟨c0, f0⟩ := hh_.one 0 rfl
        obtain ⟨c1, f1⟩ := hh_.one 1 rfl
        obtain ⟨c2, f2⟩ := hh_.one 2 rfl
        obtain ⟨c3, f3⟩ := hh_.one 3 rfl
        obtain ⟨c4, f4⟩ := hh_.one 4 rfl
        obtain ⟨c5, f5⟩ := hh_.one 5 rfl
        obtain ⟨c6, f6⟩ := hh_.one 6 rfl
        obtain ⟨c7, f7⟩ := hh_.one 7 rfl
        obtain ⟨c8, f8⟩ := hh_.one 8 rfl
        obtain ⟨c9, f9⟩ := hh_.one 9 rfl
        obtain ⟨c10, f10⟩ := hh_.one 10 rfl
        obtain ⟨c11, f11⟩ := hh_.one 11 rfl
        obtain ⟨c12, f12⟩ := hh_.one 12 rfl
        obtain ⟨c13, f13⟩ := hh_.one 13 rfl
        obtain ⟨c14, f14⟩ := hh_.one 14 rfl
        clear hh_
        have hh_ := KG.out
        obtain ⟨d0, g0⟩ := hh_.one 0 rfl
        obtain ⟨d1, g1⟩ := hh_.one 1 rfl
        obtain ⟨d2, g2⟩ := hh_.one 2 rfl
        clear hh_
        have hh_ := KV.out
        obtain ⟨a0, l0⟩ := hh_.one 0 rfl
        obtain ⟨a1, l1⟩ := hh_.one 1 rfl
        obtain ⟨a2, l2⟩ := hh_.one 2 rfl
        clear hh_
        go_wp2_with fail
        refine region_moves (fun u => u.cell? ⟨ob, 3, none⟩ = some (.int .i64 (P 0)) ∧ u.cell? ⟨ob, 4, none⟩ = some (.int .i64 (P 1)) ∧ u.cell? ⟨ob, 5, none⟩ = some (.int .i64 (P 2)) ∧ u.cell? ⟨ob, 6, none⟩ = some (.int .i64 (P 3)) ∧ u.cell? ⟨ob, 7, none⟩ = some (.int .i64 (P 4)) ∧ u.cell? ⟨ob, 8, none⟩ = some (.int .i64 (P 5)) ∧ u.cell? ⟨ob, 9, none⟩ = some (.int .i64 (P 6)) ∧ u.cell? ⟨ob, 10, none⟩ = some (.int .i64 (P 7)) ∧ u.cell? ⟨ob, 11, none⟩ = some (.int .i64 (P 8)) ∧ u.cell? ⟨gb, 0, none⟩ = some (.int .i64 (G 0)) ∧ u.cell? ⟨gb, 1, none⟩ = some (.int .i64 (G 1)) ∧ u.cell? ⟨gb, 2, none⟩ = some (.int .i64 (G 2)) ∧ u.cell? ⟨q6, 0, none⟩ = some (.int .i64 (V0 0)) ∧ u.cell? ⟨q6, 1, none⟩ = some (.int .i64 (V0 1)) ∧ u.cell? ⟨q6, 2, none⟩ = some (.int .i64 (V0 2))) [(11, [(10, 11), (8, 11), (0, 11), (1, 11), (2, 11), (3, 11), (4, 11), (5, 11), (6, 11), (7, 11), (9, 10)])] [(.free, 0), (.free, 1), (.free, 2), (.free, 3), (.take, 4), (.take, 5), (.take, 6), (.step, 7), (.step, 8), (.free, 9), (.free, 10), (.late, 11)] _ (by kernel_rfl) (by kernel_rfl) (by kernel_rfl) (by kernel_rfl) (by decide) rfl (fun _ _ _ _ _ h => h) ?_
        simp only [List.filterMap_cons, List.filterMap_nil, List.getElem?_toArray, List.getElem?_cons_zero, List.getElem?_cons_succ, Option.map_some]
        iterate 4
          first
            | (refine mv_free ?_ (Or.inl ⟨by rfl, ?_⟩) (⟨c3, c4, c5, c6, c7, c8, c9, c10, c11, d0, d1, d2, a0, a1, a2⟩) ?_
               rotate_left 1
               · intro u
                 go_simp
                 try simp only [d1]
                 try simp only [d2]
                 try simp only [d3]
                 try with_reducible rfl
               simp only [Act.put, List.setIfInBounds_toArray, List.set_cons_zero, List.set_cons_succ])
            | (refine mv_free _ (Or.inr ⟨by rfl, rfl⟩) (⟨c3, c4, c5, c6, c7, c8, c9, c10, c11, d0, d1, d2, a0, a1, a2⟩) ?_
               simp only [Act.put, List.setIfInBounds_toArray, List.set_cons_zero, List.set_cons_succ])
        iterate 3
          first
            | (refine mv_take ?_ (Or.inl ⟨by rfl, ?_⟩) (⟨c3, c4, c5, c6, c7, c8, c9, c10, c11, d0, d1, d2, a0, a1, a2⟩) ?_
               rotate_left 1
               · intro u hu
                 (try dsimp only at hu)
                 go_simp
                 try with_reducible rfl
               simp only [Act.put, List.setIfInBounds_toArray, List.set_cons_zero, List.set_cons_succ])
            | (refine mv_take _ (Or.inr ⟨by rfl, rfl⟩) (⟨c3, c4, c5, c6, c7, c8, c9, c10, c11, d0, d1, d2, a0, a1, a2⟩) ?_
               simp only [Act.put, List.setIfInBounds_toArray, List.set_cons_zero, List.set_cons_succ])
        refine mv_step (fun K hK => ?_)
        go_simp
        refine (OU.out _).mono ?_
        rintro e w7 ⟨rfl, hq⟩
        replace KO := Lib.hid (KO.out.drew.bel hq)
        replace KB := Lib.hid (KB.out.drew.bel hq)
        replace KV := Lib.hid (KV.out.drew.bel hq)
        replace KG := Lib.hid (KG.out.drew.bel hq)
        replace KM := Lib.hid (KM.out.drew.bel hq)
        replace BS := Lib.hid ((Beside.as (v' := w6.drew) BS.out rfl rfl rfl rfl).trans (.of_below hq))
        clear hq
        clear c0 f0 c1 f1 c2 f2 c3 f3 c4 f4 c5 f5 c6 f6 c7 f7 c8 f8 c9 f9 c10 f10 c11 f11 c12 f12 c13 f13 c14 f14
        clear d0 g0 d1 g1 d2 g2
        clear a0 l0 a1 l1 a2 l2
        have hh_ := KO.out
        obtain ⟨c0, f0⟩ := hh_.one 0 rfl
        obtain ⟨c1, f1⟩ := hh_.one 1 rfl
        obtain ⟨c2, f2⟩ := hh_.one 2 rfl
        obtain ⟨c3, f3⟩ := hh_.one 3 rfl
        obtain ⟨c4, f4⟩ := hh_.one 4 rfl
        obtain ⟨c5, f5⟩ := hh_.one 5 rfl
        obtain ⟨c6, f6⟩ := hh_.one 6 rfl
        obtain ⟨c7, f7⟩ := hh_.one 7 rfl
        obtain ⟨c8, f8⟩ := hh_.one 8 rfl
        obtain ⟨c9, f9⟩ := hh_.one 9 rfl
        obtain ⟨c10, f10⟩ := hh_.one 10 rfl
        obtain ⟨c11, f11⟩ := hh_.one 11 rfl
        obtain ⟨c12, f12⟩ := hh_.one 12 rfl
        obtain ⟨c13, f13⟩ := hh_.one 13 rfl
        obtain ⟨c14, f14⟩ := hh_.one 14 rfl
        clear hh_
        have hh_ := KG.out
        obtain ⟨d0, g0⟩ := hh_.one 0 rfl
        obtain ⟨d1, g1⟩ := hh_.one 1 rfl
        obtain ⟨d2, g2⟩ := hh_.one 2 rfl
        clear hh_
        have hh_ := KV.out
        obtain ⟨a0, l0⟩ := hh_.one 0 rfl
        obtain ⟨a1, l1⟩ := hh_.one 1 rfl
        obtain ⟨a2, l2⟩ := hh_.one 2 rfl
        clear hh_
        go_wp2_with fail
        refine hK.out _ _ _ (fun u hu => hu) (⟨c3, c4, c5, c6, c7, c8, c9, c10, c11, d0, d1, d2, a0, a1, a2⟩) ?_
        clear hK K
        refine mv_step (fun K hK => ?_)
        go_simp
        refine (SB.out _).mono ?_
        rintro e w8 ⟨rfl, hq⟩
        replace KO := Lib.hid (KO.out.bel hq)
        replace KB := Lib.hid (KB.out.bel hq)
        replace KV := Lib.hid (KV.out.bel hq)
        replace KG := Lib.hid (KG.out.bel hq)
        replace KM := Lib.hid (KM.out.bel hq)
        replace BS := Lib.hid (BS.out.trans (.of_below hq))
        clear hq
        clear c0 f0 c1 f1 c2 f2 c3 f3 c4 f4 c5 f5 c6 f6 c7 f7 c8 f8 c9 f9 c10 f10 c11 f11 c12 f12 c13 f13 c14 f14
        clear d0 g0 d1 g1 d2 g2
        clear a0 l0 a1 l1 a2 l2
        have hh_ := KO.out
        obtain ⟨c0, f0⟩ := hh_.one 0 rfl
        obtain ⟨c1, f1⟩ := hh_.one 1 rfl
        obtain ⟨c2, f2⟩ := hh_.one 2 rfl
        obtain ⟨c3, f3⟩ := hh_.one 3 rfl
        obtain ⟨c4, f4⟩ := hh_.one 4 rfl
        obtain ⟨c5, f5⟩ := hh_.one 5 rfl
        obtain ⟨c6, f6⟩ := hh_.one 6 rfl
        obtain ⟨c7, f7⟩ := hh_.one 7 rfl
        obtain ⟨c8, f8⟩ := hh_.one 8 rfl
        obtain ⟨c9, f9⟩ := hh_.one 9 rfl
        obtain ⟨c10, f10⟩ := hh_.one 10 rfl
        obtain ⟨c11, f11⟩ := hh_.one 11 rfl
        obtain ⟨c12, f12⟩ := hh_.one 12 rfl
        obtain ⟨c13, f13⟩ := hh_.one 13 rfl
        obtain ⟨c14, f14⟩ := hh_.one 14 rfl
        clear hh_
        have hh_ := KG.out
        obtain ⟨d0, g0⟩ := hh_.one 0 rfl
        obtain ⟨d1, g1⟩ := hh_.one 1 rfl
        obtain ⟨d2, g2⟩ := hh_.one 2 rfl
        clear hh_
        have hh_ := KV.out
        obtain ⟨a0, l0⟩ := hh_.one 0 rfl
        obtain ⟨a1, l1⟩ := hh_.one 1 rfl
        obtain ⟨a2, l2⟩ := hh_.one 2 rfl
        clear hh_
        go_wp2_with fail
        refine hK.out _ _ _ (fun u hu => hu) (⟨c3, c4, c5, c6, c7, c8, c9, c10, c11, d0, d1, d2, a0, a1, a2⟩) ?_
        clear hK K
        iterate 2
          first
            | (refine mv_free ?_ (Or.inl ⟨by rfl, ?_⟩) (⟨c3, c4, c5, c6, c7, c8, c9, c10, c11, d0, d1, d2, a0, a1, a2⟩) ?_
               rotate_left 1
               · intro u
                 go_simp
                 try simp only [d1]
                 try simp only [d2]
                 try simp only [d3]
                 try with_reducible rfl
               simp only [Act.put, List.setIfInBounds_toArray, List.set_cons_zero, List.set_cons_succ])
            | (refine mv_free _ (Or.inr ⟨by rfl, rfl⟩) (⟨c3, c4, c5, c6, c7, c8, c9, c10, c11, d0, d1, d2, a0, a1, a2⟩) ?_
               simp only [Act.put, List.setIfInBounds_toArray, List.set_cons_zero, List.set_cons_succ])
        refine mv_late (fun K hK => ?_)
        go_simp
        refine hK.out (fun _ => True) _ _ ?_
        clear hK K
        refine mv_done ?_
        obtain ⟨w9, ew9⟩ : ∃ w9, w9 = (((((((((w8.setCell ⟨ob, 3, none⟩ (.int .i64 (P1 0))).setCell ⟨ob, 4, none⟩ (.int .i64 (P1 1))).setCell ⟨ob, 5, none⟩ (.int .i64 (P1 2))).setCell ⟨ob, 6, none⟩ (.int .i64 (P1 3))).setCell ⟨ob, 7, none⟩ (.int .i64 (P1 4))).setCell ⟨ob, 8, none⟩ (.int .i64 (P1 5))).setCell ⟨ob, 9, none⟩ (.int .i64 (P1 6))).setCell ⟨ob, 10, none⟩ (.int .i64 (P1 7))).setCell ⟨ob, 11, none⟩ (.int .i64 (P1 8))) := ⟨_, rfl⟩
        obtain ⟨k9, b9⟩ := (((((((((((HB.start KO.out).set 3 (.int .i64 (P1 0)) (by simp [KeC])).set 4 (.int .i64 (P1 1)) (by simp [KeC])).set 5 (.int .i64 (P1 2)) (by simp [KeC])).set 6 (.int .i64 (P1 3)) (by simp [KeC])).set 7 (.int .i64 (P1 4)) (by simp [KeC])).set 8 (.int .i64 (P1 5)) (by simp [KeC])).set 9 (.int .i64 (P1 6)) (by simp [KeC])).set 10 (.int .i64 (P1 7)) (by simp [KeC])).set 11 (.int .i64 (P1 8)) (by simp [KeC])).is (show _ = KeC X1 P1 g tk rf from rfl)).fin (v' := w9) (by rw [ew9]) (by rw [ew9]) (by rw [ew9]) (by rw [ew9])
        rw [show KeC X1 P1 g tk rf = KeC (kXc X1 0) (kMx P1 0) g tk rf by rw [kXc_zero, kMx_zero]] at k9
        replace KO := Lib.hid k9
        replace BS := Lib.hid (BS.out.trans b9)
        rw [← ew9]
        replace ew9 := Lib.hid ew9
        clear k9 b9 OU SB KB KV KG KM
        clear c0 f0 c1 f1 c2 f2 c3 f3 c4 f4 c5 f5 c6 f6 c7 f7 c8 f8 c9 f9 c10 f10 c11 f11 c12 f12 c13 f13 c14 f14
        clear d0 g0 d1 g1 d2 g2
        clear a0 l0 a1 l1 a2 l2
        generalize wr = wz at *
        go_wp2_with fail
        go_loopw [66] (fun i u => ∃ k : Nat, k ≤ 3 ∧ i = .int .i64 (k : Int) ∧ Hid (Held ob (KeC (kXc X1 k) (kMx P1 k) g tk rf) u) ∧ Hid (Beside ob w u)) (fun i _ => 3 - (intOf i).toNat)
        case atStart => exact ⟨0, by omega, rfl, KO, BS⟩
        case round =>
          clear KO BS kk
          obtain ⟨k, hk, rfl, KO, BS⟩ := hrel
          rcases (show k = 0 ∨ k = 1 ∨ k = 2 ∨ k = 3 by omega) with rfl | rfl | rfl | rfl
          · have kk : ((0 : Nat) : Int) = 0 := rfl
            have c0 : wr.cell? ⟨ob, 0, none⟩ = some (.int .i64 (X1 0)) := (KO.out.c 0 _ rfl).trans (by rw [kXc_at0])
            have f0 := KO.out.f 0 (by simp [KeC])
            have e3 : (0 : Int) < 3 := by omega
            go_wp2_with fail
            refine region_moves (fun u => u.cell? ⟨ob, 0, none⟩ = some (.int .i64 (X1 0)) ∧ u = wr.drew) [(12, [(11, 12), (8, 12), (0, 12), (1, 12), (2, 12), (3, 12), (4, 12), (5, 12), (6, 12), (7, 12), (10, 11), (9, 10)])] [(.free, 0), (.free, 1), (.free, 2), (.free, 3), (.free, 4), (.free, 5), (.free, 6), (.take, 7), (.free, 9), (.free, 10), (.step, 8), (.free, 11), (.late, 12)] _ (by kernel_rfl) (by kernel_rfl) (by kernel_rfl) (by kernel_rfl) (by decide) rfl (fun _ _ _ _ _ h => h) ?_
            simp only [List.filterMap_cons, List.filterMap_nil, List.getElem?_toArray, List.getElem?_cons_zero, List.getElem?_cons_succ, Option.map_some]
            iterate 7
              first
                | (refine mv_free ?_ (Or.inl ⟨by rfl, ?_⟩) (⟨c0, rfl⟩) ?_
                   rotate_left 1
                   · intro u
                     go_simp
                     try simp only [d1]
                     try simp only [d2]
                     try simp only [d3]
                     try with_reducible rfl
                   simp only [Act.put, List.setIfInBounds_toArray, List.set_cons_zero, List.set_cons_succ])
                | (refine mv_free _ (Or.inr ⟨by rfl, rfl⟩) (⟨c0, rfl⟩) ?_
                   simp only [Act.put, List.setIfInBounds_toArray, List.set_cons_zero, List.set_cons_succ])
            iterate 1
              first
                | (refine mv_take ?_ (Or.inl ⟨by rfl, ?_⟩) (⟨c0, rfl⟩) ?_
                   rotate_left 1
                   · intro u hu
                     (try dsimp only at hu)
                     go_simp
                     try with_reducible rfl
                   simp only [Act.put, List.setIfInBounds_toArray, List.set_cons_zero, List.set_cons_succ])
                | (refine mv_take _ (Or.inr ⟨by rfl, rfl⟩) (⟨c0, rfl⟩) ?_
                   simp only [Act.put, List.setIfInBounds_toArray, List.set_cons_zero, List.set_cons_succ])
            iterate 2
              first
                | (refine mv_free ?_ (Or.inl ⟨by rfl, ?_⟩) (⟨c0, rfl⟩) ?_
                   rotate_left 1
                   · intro u
                     go_simp
                     try simp only [d1]
                     try simp only [d2]
                     try simp only [d3]
                     try with_reducible rfl
                   simp only [Act.put, List.setIfInBounds_toArray, List.set_cons_zero, List.set_cons_succ])
                | (refine mv_free _ (Or.inr ⟨by rfl, rfl⟩) (⟨c0, rfl⟩) ?_
                   simp only [Act.put, List.setIfInBounds_toArray, List.set_cons_zero, List.set_cons_succ])
            refine mv_step (fun K hK => ?_)
            go_simp
            refine (CX.out 0 _).mono ?_
            rintro e w' ⟨rfl, rfl⟩
            go_wp2_with fail
            refine hK.out _ _ _ (fun u hu => hu) (⟨c0, rfl⟩) ?_
            clear hK K
            iterate 1
              first
                | (refine mv_free ?_ (Or.inl ⟨by rfl, ?_⟩) (⟨c0, rfl⟩) ?_
                   rotate_left 1
                   · intro u
                     go_simp
                     try simp only [d1]
                     try simp only [d2]
                     try simp only [d3]
                     try with_reducible rfl
                   simp only [Act.put, List.setIfInBounds_toArray, List.set_cons_zero, List.set_cons_succ])
                | (refine mv_free _ (Or.inr ⟨by rfl, rfl⟩) (⟨c0, rfl⟩) ?_
                   simp only [Act.put, List.setIfInBounds_toArray, List.set_cons_zero, List.set_cons_succ])
            refine mv_late (fun K hK => ?_)
            go_simp
            refine hK.out (fun _ => True) _ _ ?_
            clear hK K
            refine mv_done ?_
            obtain ⟨w6, ew6⟩ : ∃ w6, w6 = (wr.setCell ⟨ob, 0, none⟩ (.int .i64 (c36 (X1 0)))).drew := ⟨_, rfl⟩
            obtain ⟨k6, b6⟩ := (((HB.start KO.out).set 0 (.int .i64 (c36 (X1 0))) (by simp [KeC])).is (kXc_set0 X1 (kMx P1 0) g tk rf)).fin (v' := w6) (by rw [ew6]; rfl) (by rw [ew6]; rfl) (by rw [ew6]; rfl) (by rw [ew6]; rfl)
            rw [← ew6]
            replace ew6 := Lib.hid ew6
            replace KO := Lib.hid k6
            replace BS := Lib.hid (BS.out.trans b6)
            clear k6 b6 c0 f0
            have c0 : w6.cell? ⟨ob, 3, none⟩ = some (.int .i64 (P1 0)) := (KO.out.c 3 _ rfl).trans (by rw [kMx_at0])
            have f0 := KO.out.f 3 (by simp [KeC])
            go_wp2_with fail
            refine region_moves (fun u => u.cell? ⟨ob, 3, none⟩ = some (.int .i64 (P1 0))) [(16, [(15, 16), (11, 16), (0, 16), (1, 16), (2, 16), (3, 16), (4, 16), (5, 16), (6, 16), (7, 16), (8, 16), (9, 16), (10, 16), (14, 15), (13, 14), (12, 13)])] [(.free, 0), (.free, 1), (.free, 2), (.free, 3), (.free, 4), (.free, 5), (.free, 6), (.free, 7), (.free, 8), (.free, 9), (.take, 10), (.free, 11), (.free, 12), (.free, 13), (.free, 14), (.free, 15), (.late, 16)] _ (by kernel_rfl) (by kernel_rfl) (by kernel_rfl) (by kernel_rfl) (by decide) rfl (fun _ _ _ _ _ h => h) ?_
            simp only [List.filterMap_cons, List.filterMap_nil, List.getElem?_toArray, List.getElem?_cons_zero, List.getElem?_cons_succ, Option.map_some]
            iterate 10
              first
                | (refine mv_free ?_ (Or.inl ⟨by rfl, ?_⟩) (c0) ?_
                   rotate_left 1
                   · intro u
                     go_simp
                     try simp only [d1]
                     try simp only [d2]
                     try simp only [d3]
                     try with_reducible rfl
                   simp only [Act.put, List.setIfInBounds_toArray, List.set_cons_zero, List.set_cons_succ])
                | (refine mv_free _ (Or.inr ⟨by rfl, rfl⟩) (c0) ?_
                   simp only [Act.put, List.setIfInBounds_toArray, List.set_cons_zero, List.set_cons_succ])
            iterate 1
              first
                | (refine mv_take ?_ (Or.inl ⟨by rfl, ?_⟩) (c0) ?_
                   rotate_left 1
                   · intro u hu
                     (try dsimp only at hu)
                     go_simp
                     try with_reducible rfl
                   simp only [Act.put, List.setIfInBounds_toArray, List.set_cons_zero, List.set_cons_succ])
                | (refine mv_take _ (Or.inr ⟨by rfl, rfl⟩) (c0) ?_
                   simp only [Act.put, List.setIfInBounds_toArray, List.set_cons_zero, List.set_cons_succ])
            iterate 5
              first
                | (refine mv_free ?_ (Or.inl ⟨by rfl, ?_⟩) (c0) ?_
                   rotate_left 1
                   · intro u
                     go_simp
                     try simp only [d1]
                     try simp only [d2]
                     try simp only [d3]
                     try with_reducible rfl
                   simp only [Act.put, List.setIfInBounds_toArray, List.set_cons_zero, List.set_cons_succ])
                | (refine mv_free _ (Or.inr ⟨by rfl, rfl⟩) (c0) ?_
                   simp only [Act.put, List.setIfInBounds_toArray, List.set_cons_zero, List.set_cons_succ])
            refine mv_late (fun K hK => ?_)
            go_simp
            refine hK.out (fun _ => True) _ _ ?_
            clear hK K
            refine mv_done ?_
            obtain ⟨w7, ew7⟩ : ∃ w7, w7 = (w6.setCell ⟨ob, 3, none⟩ (.int .i64 (if P1 0 < 0 then 0 else P1 0))).drew := ⟨_, rfl⟩
            obtain ⟨k6, b6⟩ := (((HB.start KO.out).set 3 (.int .i64 (if P1 0 < 0 then 0 else P1 0)) (by simp [KeC])).is (kMx_set0 (kXc X1 1) P1 g tk rf)).fin (v' := w7) (by rw [ew7]; rfl) (by rw [ew7]; rfl) (by rw [ew7]; rfl) (by rw [ew7]; rfl)
            rw [← ew7]
            replace ew7 := Lib.hid ew7
            replace KO := Lib.hid k6
            replace BS := Lib.hid (BS.out.trans b6)
            clear k6 b6 c0 f0
            go_wp2
            go_roundw
            case rel => exact ⟨0 + 1, by omega, by first | rfl | go_num, KO, BS⟩
            case measure => simp [intOf]
          · have kk : ((1 : Nat) : Int) = 1 := rfl
            have c0 : wr.cell? ⟨ob, 1, none⟩ = some (.int .i64 (X1 1)) := (KO.out.c 1 _ rfl).trans (by rw [kXc_at1])
            have f0 := KO.out.f 1 (by simp [KeC])
            have e3 : (1 : Int) < 3 := by omega
            go_wp2_with fail
            refine region_moves (fun u => u.cell? ⟨ob, 1, none⟩ = some (.int .i64 (X1 1)) ∧ u = wr.drew) [(12, [(11, 12), (8, 12), (0, 12), (1, 12), (2, 12), (3, 12), (4, 12), (5, 12), (6, 12), (7, 12), (10, 11), (9, 10)])] [(.free, 0), (.free, 1), (.free, 2), (.free, 3), (.free, 4), (.free, 5), (.free, 6), (.take, 7), (.free, 9), (.free, 10), (.step, 8), (.free, 11), (.late, 12)] _ (by kernel_rfl) (by kernel_rfl) (by kernel_rfl) (by kernel_rfl) (by decide) rfl (fun _ _ _ _ _ h => h) ?_
            simp only [List.filterMap_cons, List.filterMap_nil, List.getElem?_toArray, List.getElem?_cons_zero, List.getElem?_cons_succ, Option.map_some]
            iterate 7
              first
                | (refine mv_free ?_ (Or.inl ⟨by rfl, ?_⟩) (⟨c0, rfl⟩) ?_
                   rotate_left 1
                   · intro u
                     go_simp
                     try simp only [d1]
                     try simp only [d2]
                     try simp only [d3]
                     try with_reducible rfl
                   simp only [Act.put, List.setIfInBounds_toArray, List.set_cons_zero, List.set_cons_succ])
                | (refine mv_free _ (Or.inr ⟨by rfl, rfl⟩) (⟨c0, rfl⟩) ?_
                   simp only [Act.put, List.setIfInBounds_toArray, List.set_cons_zero, List.set_cons_succ])
            iterate 1
              first
                | (refine mv_take ?_ (Or.inl ⟨by rfl, ?_⟩) (⟨c0, rfl⟩) ?_
                   rotate_left 1
                   · intro u hu
                     (try dsimp only at hu)
                     go_simp
                     try with_reducible rfl
                   simp only [Act.put, List.setIfInBounds_toArray, List.set_cons_zero, List.set_cons_succ])
                | (refine mv_take _ (Or.inr ⟨by rfl, rfl⟩) (⟨c0, rfl⟩) ?_
                   simp only [Act.put, List.setIfInBounds_toArray, List.set_cons_zero, List.set_cons_succ])
            iterate 2
              first
                | (refine mv_free ?_ (Or.inl ⟨by rfl, ?_⟩) (⟨c0, rfl⟩) ?_
                   rotate_left 1
                   · intro u
                     go_simp
                     try simp only [d1]
                     try simp only [d2]
                     try simp only [d3]
                     try with_reducible rfl
                   simp only [Act.put, List.setIfInBounds_toArray, List.set_cons_zero, List.set_cons_succ])
                | (refine mv_free _ (Or.inr ⟨by rfl, rfl⟩) (⟨c0, rfl⟩) ?_
                   simp only [Act.put, List.setIfInBounds_toArray, List.set_cons_zero, List.set_cons_succ])
            refine mv_step (fun K hK => ?_)
            go_simp
            refine (CX.out 1 _).mono ?_
            rintro e w' ⟨rfl, rfl⟩
            go_wp2_with fail
            refine hK.out _ _ _ (fun u hu => hu) (⟨c0, rfl⟩) ?_
            clear hK K
            iterate 1
              first
                | (refine mv_free ?_ (Or.inl ⟨by rfl, ?_⟩) (⟨c0, rfl⟩) ?_
                   rotate_left 1
                   · intro u
                     go_simp
                     try simp only [d1]
                     try simp only [d2]
                     try simp only [d3]
                     try with_reducible rfl
                   simp only [Act.put, List.setIfInBounds_toArray, List.set_cons_zero, List.set_cons_succ])
                | (refine mv_free _ (Or.inr ⟨by rfl, rfl⟩) (⟨c0, rfl⟩) ?_
                   simp only [Act.put, List.setIfInBounds_toArray, List.set_cons_zero, List.set_cons_succ])
            refine mv_late (fun K hK => ?_)
            go_simp
            refine hK.out (fun _ => True) _ _ ?_
            clear hK K
            refine mv_done ?_
            obtain ⟨w6, ew6⟩ : ∃ w6, w6 = (wr.setCell ⟨ob, 1, none⟩ (.int .i64 (c36 (X1 1)))).drew := ⟨_, rfl⟩
            obtain ⟨k6, b6⟩ := (((HB.start KO.out).set 1 (.int .i64 (c36 (X1 1))) (by simp [KeC])).is (kXc_set1 X1 (kMx P1 1) g tk rf)).fin (v' := w6) (by rw [ew6]; rfl) (by rw [ew6]; rfl) (by rw [ew6]; rfl) (by rw [ew6]; rfl)
            rw [← ew6]
            replace ew6 := Lib.hid ew6
            replace KO := Lib.hid k6
            replace BS := Lib.hid (BS.out.trans b6)
            clear k6 b6 c0 f0
            have c0 : w6.cell? ⟨ob, 7, none⟩ = some (.int .i64 (P1 4)) := (KO.out.c 7 _ rfl).trans (by rw [kMx_at1])
            have f0 := KO.out.f 7 (by simp [KeC])
            go_wp2_with fail
            refine region_moves (fun u => u.cell? ⟨ob, 7, none⟩ = some (.int .i64 (P1 4))) [(16, [(15, 16), (11, 16), (0, 16), (1, 16), (2, 16), (3, 16), (4, 16), (5, 16), (6, 16), (7, 16), (8, 16), (9, 16), (10, 16), (14, 15), (13, 14), (12, 13)])] [(.free, 0), (.free, 1), (.free, 2), (.free, 3), (.free, 4), (.free, 5), (.free, 6), (.free, 7), (.free, 8), (.free, 9), (.take, 10), (.free, 11), (.free, 12), (.free, 13), (.free, 14), (.free, 15), (.late, 16)] _ (by kernel_rfl) (by kernel_rfl) (by kernel_rfl) (by kernel_rfl) (by decide) rfl (fun _ _ _ _ _ h => h) ?_
            simp only [List.filterMap_cons, List.filterMap_nil, List.getElem?_toArray, List.getElem?_cons_zero, List.getElem?_cons_succ, Option.map_some]
            iterate 10
              first
                | (refine mv_free ?_ (Or.inl ⟨by rfl, ?_⟩) (c0) ?_
                   rotate_left 1
                   · intro u
                     go_simp
                     try simp only [d1]
                     try simp only [d2]
                     try simp only [d3]
                     try with_reducible rfl
                   simp only [Act.put, List.setIfInBounds_toArray, List.set_cons_zero, List.set_cons_succ])
                | (refine mv_free _ (Or.inr ⟨by rfl, rfl⟩) (c0) ?_
                   simp only [Act.put, List.setIfInBounds_toArray, List.set_cons_zero, List.set_cons_succ])
            iterate 1
              first
                | (refine mv_take ?_ (Or.inl ⟨by rfl, ?_⟩) (c0) ?_
                   rotate_left 1
                   · intro u hu
                     (try dsimp only at hu)
                     go_simp
                     try with_reducible rfl
                   simp only [Act.put, List.setIfInBounds_toArray, List.set_cons_zero, List.set_cons_succ])
                | (refine mv_take _ (Or.inr ⟨by rfl, rfl⟩) (c0) ?_
                   simp only [Act.put, List.setIfInBounds_toArray, List.set_cons_zero, List.set_cons_succ])
            iterate 5
              first
                | (refine mv_free ?_ (Or.inl ⟨by rfl, ?_⟩) (c0) ?_
                   rotate_left 1
                   · intro u
                     go_simp
                     try simp only [d1]
                     try simp only [d2]
                     try simp only [d3]
                     try with_reducible rfl
                   simp only [Act.put, List.setIfInBounds_toArray, List.set_cons_zero, List.set_cons_succ])
                | (refine mv_free _ (Or.inr ⟨by rfl, rfl⟩) (c0) ?_
                   simp only [Act.put, List.setIfInBounds_toArray, List.set_cons_zero, List.set_cons_succ])
            refine mv_late (fun K hK => ?_)
            go_simp
            refine hK.out (fun _ => True) _ _ ?_
            clear hK K
            refine mv_done ?_
            obtain ⟨w7, ew7⟩ : ∃ w7, w7 = (w6.setCell ⟨ob, 7, none⟩ (.int .i64 (if P1 4 < 0 then 0 else P1 4))).drew := ⟨_, rfl⟩
            obtain ⟨k6, b6⟩ := (((HB.start KO.out).set 7 (.int .i64 (if P1 4 < 0 then 0 else P1 4)) (by simp [KeC])).is (kMx_set1 (kXc X1 2) P1 g tk rf)).fin (v' := w7) (by rw [ew7]; rfl) (by rw [ew7]; rfl) (by rw [ew7]; rfl) (by rw [ew7]; rfl)
            rw [← ew7]
            replace ew7 := Lib.hid ew7
            replace KO := Lib.hid k6
            replace BS := Lib.hid (BS.out.trans b6)
            clear k6 b6 c0 f0
            go_wp2
            go_roundw
            case rel => exact ⟨1 + 1, by omega, by first | rfl | go_num, KO, BS⟩
            case measure => simp [intOf]
          · have kk : ((2 : Nat) : Int) = 2 := rfl
            have c0 : wr.cell? ⟨ob, 2, none⟩ = some (.int .i64 (X1 2)) := (KO.out.c 2 _ rfl).trans (by rw [kXc_at2])
            have f0 := KO.out.f 2 (by simp [KeC])
            have e3 : (2 : Int) < 3 := by omega
            go_wp2_with fail
            refine region_moves (fun u => u.cell? ⟨ob, 2, none⟩ = some (.int .i64 (X1 2)) ∧ u = wr.drew) [(12, [(11, 12), (8, 12), (0, 12), (1, 12), (2, 12), (3, 12), (4, 12), (5, 12), (6, 12), (7, 12), (10, 11), (9, 10)])] [(.free, 0), (.free, 1), (.free, 2), (.free, 3), (.free, 4), (.free, 5), (.free, 6), (.take, 7), (.free, 9), (.free, 10), (.step, 8), (.free, 11), (.late, 12)] _ (by kernel_rfl) (by kernel_rfl) (by kernel_rfl) (by kernel_rfl) (by decide) rfl (fun _ _ _ _ _ h => h) ?_
            simp only [List.filterMap_cons, List.filterMap_nil, List.getElem?_toArray, List.getElem?_cons_zero, List.getElem?_cons_succ, Option.map_some]
            iterate 7
              first
                | (refine mv_free ?_ (Or.inl ⟨by rfl, ?_⟩) (⟨c0, rfl⟩) ?_
                   rotate_left 1
                   · intro u
                     go_simp
                     try simp only [d1]
                     try simp only [d2]
                     try simp only [d3]
                     try with_reducible rfl
                   simp only [Act.put, List.setIfInBounds_toArray, List.set_cons_zero, List.set_cons_succ])
                | (refine mv_free _ (Or.inr ⟨by rfl, rfl⟩) (⟨c0, rfl⟩) ?_
                   simp only [Act.put, List.setIfInBounds_toArray, List.set_cons_zero, List.set_cons_succ])
            iterate 1
              first
                | (refine mv_take ?_ (Or.inl ⟨by rfl, ?_⟩) (⟨c0, rfl⟩) ?_
                   rotate_left 1
                   · intro u hu
                     (try dsimp only at hu)
                     go_simp
                     try with_reducible rfl
                   simp only [Act.put, List.setIfInBounds_toArray, List.set_cons_zero, List.set_cons_succ])
                | (refine mv_take _ (Or.inr ⟨by rfl, rfl⟩) (⟨c0, rfl⟩) ?_
                   simp only [Act.put, List.setIfInBounds_toArray, List.set_cons_zero, List.set_cons_succ])
            iterate 2
              first
                | (refine mv_free ?_ (Or.inl ⟨by rfl, ?_⟩) (⟨c0, rfl⟩) ?_
                   rotate_left 1
                   · intro u
                     go_simp
                     try simp only [d1]
                     try simp only [d2]
                     try simp only [d3]
                     try with_reducible rfl
                   simp only [Act.put, List.setIfInBounds_toArray, List.set_cons_zero, List.set_cons_succ])
                | (refine mv_free _ (Or.inr ⟨by rfl, rfl⟩) (⟨c0, rfl⟩) ?_
                   simp only [Act.put, List.setIfInBounds_toArray, List.set_cons_zero, List.set_cons_succ])
            refine mv_step (fun K hK => ?_)
            go_simp
            refine (CX.out 2 _).mono ?_
            rintro e w' ⟨rfl, rfl⟩
            go_wp2_with fail
            refine hK.out _ _ _ (fun u hu => hu) (⟨c0, rfl⟩) ?_
            clear hK K
            iterate 1
              first
                | (refine mv_free ?_ (Or.inl ⟨by rfl, ?_⟩) (⟨c0, rfl⟩) ?_
                   rotate_left 1
                   · intro u
                     go_simp
                     try simp only [d1]
                     try simp only [d2]
                     try simp only [d3]
                     try with_reducible rfl
                   simp only [Act.put, List.setIfInBounds_toArray, List.set_cons_zero, List.set_cons_succ])
                | (refine mv_free _ (Or.inr ⟨by rfl, rfl⟩) (⟨c0, rfl⟩) ?_
                   simp only [Act.put, List.setIfInBounds_toArray, List.set_cons_zero, List.set_cons_succ])
            refine mv_late (fun K hK => ?_)
            go_simp
            refine hK.out (fun _ => True) _ _ ?_
            clear hK K
            refine mv_done ?_
            obtain ⟨w6, ew6⟩ : ∃ w6, w6 = (wr.setCell ⟨ob, 2, none⟩ (.int .i64 (c36 (X1 2)))).drew := ⟨_, rfl⟩
            obtain ⟨k6, b6⟩ := (((HB.start KO.out).set 2 (.int .i64 (c36 (X1 2))) (by simp [KeC])).is (kXc_set2 X1 (kMx P1 2) g tk rf)).fin (v' := w6) (by rw [ew6]; rfl) (by rw [ew6]; rfl) (by rw [ew6]; rfl) (by rw [ew6]; rfl)
            rw [← ew6]
            replace ew6 := Lib.hid ew6
            replace KO := Lib.hid k6
            replace BS := Lib.hid (BS.out.trans b6)
            clear k6 b6 c0 f0
            have c0 : w6.cell? ⟨ob, 11, none⟩ = some (.int .i64 (P1 8)) := (KO.out.c 11 _ rfl).trans (by rw [kMx_at2])
            have f0 := KO.out.f 11 (by simp [KeC])
            go_wp2_with fail
            refine region_moves (fun u => u.cell? ⟨ob, 11, none⟩ = some (.int .i64 (P1 8))) [(16, [(15, 16), (11, 16), (0, 16), (1, 16), (2, 16), (3, 16), (4, 16), (5, 16), (6, 16), (7, 16), (8, 16), (9, 16), (10, 16), (14, 15), (13, 14), (12, 13)])] [(.free, 0), (.free, 1), (.free, 2), (.free, 3), (.free, 4), (.free, 5), (.free, 6), (.free, 7), (.free, 8), (.free, 9), (.take, 10), (.free, 11), (.free, 12), (.free, 13), (.free, 14), (.free, 15), (.late, 16)] _ (by kernel_rfl) (by kernel_rfl) (by kernel_rfl) (by kernel_rfl) (by decide) rfl (fun _ _ _ _ _ h => h) ?_
            simp only [List.filterMap_cons, List.filterMap_nil, List.getElem?_toArray, List.getElem?_cons_zero, List.getElem?_cons_succ, Option.map_some]
            iterate 10
              first
                | (refine mv_free ?_ (Or.inl ⟨by rfl, ?_⟩) (c0) ?_
                   rotate_left 1
                   · intro u
                     go_simp
                     try simp only [d1]
                     try simp only [d2]
                     try simp only [d3]
                     try with_reducible rfl
                   simp only [Act.put, List.setIfInBounds_toArray, List.set_cons_zero, List.set_cons_succ])
                | (refine mv_free _ (Or.inr ⟨by rfl, rfl⟩) (c0) ?_
                   simp only [Act.put, List.setIfInBounds_toArray, List.set_cons_zero, List.set_cons_succ])
            iterate 1
              first
                | (refine mv_take ?_ (Or.inl ⟨by rfl, ?_⟩) (c0) ?_
                   rotate_left 1
                   · intro u hu
                     (try dsimp only at hu)
                     go_simp
                     try with_reducible rfl
                   simp only [Act.put, List.setIfInBounds_toArray, List.set_cons_zero, List.set_cons_succ])
                | (refine mv_take _ (Or.inr ⟨by rfl, rfl⟩) (c0) ?_
                   simp only [Act.put, List.setIfInBounds_toArray, List.set_cons_zero, List.set_cons_succ])
            iterate 5
              first
                | (refine mv_free ?_ (Or.inl ⟨by rfl, ?_⟩) (c0) ?_
                   rotate_left 1
                   · intro u
                     go_simp
                     try simp only [d1]
                     try simp only [d2]
                     try simp only [d3]
                     try with_reducible rfl
                   simp only [Act.put, List.setIfInBounds_toArray, List.set_cons_zero, List.set_cons_succ])
                | (refine mv_free _ (Or.inr ⟨by rfl, rfl⟩) (c0) ?_
                   simp only [Act.put, List.setIfInBounds_toArray, List.set_cons_zero, List.set_cons_succ])
            refine mv_late (fun K hK => ?_)
            go_simp
            refine hK.out (fun _ => True) _ _ ?_
            clear hK K
            refine mv_done ?_
            obtain ⟨w7, ew7⟩ : ∃ w7, w7 = (w6.setCell ⟨ob, 11, none⟩ (.int .i64 (if P1 8 < 0 then 0 else P1 8))).drew := ⟨_, rfl⟩
            obtain ⟨k6, b6⟩ := (((HB.start KO.out).set 11 (.int .i64 (if P1 8 < 0 then 0 else P1 8)) (by simp [KeC])).is (kMx_set2 (kXc X1 3) P1 g tk rf)).fin (v' := w7) (by rw [ew7]; rfl) (by rw [ew7]; rfl) (by rw [ew7]; rfl) (by rw [ew7]; rfl)
            rw [← ew7]
            replace ew7 := Lib.hid ew7
            replace KO := Lib.hid k6
            replace BS := Lib.hid (BS.out.trans b6)
            clear k6 b6 c0 f0
            go_wp2
            go_roundw
            case rel => exact ⟨2 + 1, by omega, by first | rfl | go_num, KO, BS⟩
            case measure => simp [intOf]
          · have kk : ((3 : Nat) : Int) = 3 := rfl
            have hh_ := KO.out
            obtain ⟨c0, f0⟩ := hh_.one 0 rfl
            obtain ⟨c1, f1⟩ := hh_.one 1 rfl
            obtain ⟨c2, f2⟩ := hh_.one 2 rfl
            obtain ⟨c3, f3⟩ := hh_.one 3 rfl
            obtain ⟨c4, f4⟩ := hh_.one 4 rfl
            obtain ⟨c5, f5⟩ := hh_.one 5 rfl
            obtain ⟨c6, f6⟩ := hh_.one 6 rfl
            obtain ⟨c7, f7⟩ := hh_.one 7 rfl
            obtain ⟨c8, f8⟩ := hh_.one 8 rfl
            obtain ⟨c9, f9⟩ := hh_.one 9 rfl
            obtain ⟨c10, f10⟩ := hh_.one 10 rfl
            obtain ⟨c11, f11⟩ := hh_.one 11 rfl
            obtain ⟨c12, f12⟩ := hh_.one 12 rfl
            obtain ⟨c13, f13⟩ := hh_.one 13 rfl
            obtain ⟨c14, f14⟩ := hh_.one 14 rfl
            clear hh_
            go_wp2_with fail
            refine (MI.out _).mono ?_
            rintro e w8 ⟨rfl, hq⟩
            replace KO := Lib.hid (KO.out.bel hq)
            replace BS := Lib.hid (BS.out.trans (.of_below hq))
            clear hq
            clear c0 f0 c1 f1 c2 f2 c3 f3 c4 f4 c5 f5 c6 f6 c7 f7 c8 f8 c9 f9 c10 f10 c11 f11 c12 f12 c13 f13 c14 f14
            have hh_ := KO.out
            obtain ⟨c0, f0⟩ := hh_.one 0 rfl
            obtain ⟨c1, f1⟩ := hh_.one 1 rfl
            obtain ⟨c2, f2⟩ := hh_.one 2 rfl
            obtain ⟨c3, f3⟩ := hh_.one 3 rfl
            obtain ⟨c4, f4⟩ := hh_.one 4 rfl
            obtain ⟨c5, f5⟩ := hh_.one 5 rfl
            obtain ⟨c6, f6⟩ := hh_.one 6 rfl
            obtain ⟨c7, f7⟩ := hh_.one 7 rfl
            obtain ⟨c8, f8⟩ := hh_.one 8 rfl
            obtain ⟨c9, f9⟩ := hh_.one 9 rfl
            obtain ⟨c10, f10⟩ := hh_.one 10 rfl
            obtain ⟨c11, f11⟩ := hh_.one 11 rfl
            obtain ⟨c12, f12⟩ := hh_.one 12 rfl
            obtain ⟨c13, f13⟩ := hh_.one 13 rfl
            obtain ⟨c14, f14⟩ := hh_.one 14 rfl
            clear hh_
            have fin1 : ∀ v, v = (((((((((w8.setCell ⟨ob, 3, none⟩ (.int .i64 (mir (kMx P1 3) 0))).setCell ⟨ob, 4, none⟩ (.int .i64 (mir (kMx P1 3) 1))).setCell ⟨ob, 5, none⟩ (.int .i64 (mir (kMx P1 3) 2))).setCell ⟨ob, 6, none⟩ (.int .i64 (mir (kMx P1 3) 3))).setCell ⟨ob, 7, none⟩ (.int .i64 (mir (kMx P1 3) 4))).setCell ⟨ob, 8, none⟩ (.int .i64 (mir (kMx P1 3) 5))).setCell ⟨ob, 9, none⟩ (.int .i64 (mir (kMx P1 3) 6))).setCell ⟨ob, 10, none⟩ (.int .i64 (mir (kMx P1 3) 7))).setCell ⟨ob, 11, none⟩ (.int .i64 (mir (kMx P1 3) 8))) → Held ob (KeC (kXc X1 3) (mir (kMx P1 3)) g tk rf) v ∧ Beside ob w v := fun v ev => by
              obtain ⟨k6, b6⟩ := (((((((((((HB.start KO.out).set 3 (.int .i64 (mir (kMx P1 3) 0)) (by simp [KeC])).set 4 (.int .i64 (mir (kMx P1 3) 1)) (by simp [KeC])).set 5 (.int .i64 (mir (kMx P1 3) 2)) (by simp [KeC])).set 6 (.int .i64 (mir (kMx P1 3) 3)) (by simp [KeC])).set 7 (.int .i64 (mir (kMx P1 3) 4)) (by simp [KeC])).set 8 (.int .i64 (mir (kMx P1 3) 5)) (by simp [KeC])).set 9 (.int .i64 (mir (kMx P1 3) 6)) (by simp [KeC])).set 10 (.int .i64 (mir (kMx P1 3) 7)) (by simp [KeC])).set 11 (.int .i64 (mir (kMx P1 3) 8)) (by simp [KeC])).is (show _ = KeC (kXc X1 3) (mir (kMx P1 3)) g tk rf from rfl)).fin (v' := v) (by rw [ev]) (by rw [ev]) (by rw [ev]) (by rw [ev])
              exact ⟨k6, BS.out.trans b6⟩
            replace fin1 := Lib.hid fin1
            go_wp2
            go_end0
            obtain ⟨k7, b7⟩ := fin1.out _ rfl
            exact ⟨rfl, FE.out ▸ k7, b7⟩
end Go.Proofs.Ytakocggclopngaa
