/- Package bus: a plan in the making; Spread; walked. -/
import Derived.Test.YtcpmdgbogdikiaaBus17
import Derived.Test.YtcpmdgbogdikiaaBus7
import Derived.Deep.AppendLies
namespace Go.Proofs.Ytcpmdgbogdikiaa
open Go.ChangeShapes Go.WideShapes Go.ChangeAt Go.RowKit
set_option linter.unusedVariables false
set_option linter.unusedSimpArgs false
def plL (N P F : Nat → Int) (n : Nat) : List Value := (List.range (n * 3)).map fun j => plV N P F (j / 3) (j % 3)
theorem plL_len (N P F : Nat → Int) (n : Nat) : (plL N P F n).length = n * 3 := by simp [plL]
theorem plL_snoc (N P F : Nat → Int) (n : Nat) : plL N P F (n + 1) = plL N P F n ++ [.int .i64 (N n), .int .i64 (P n), .int .i64 (F n)] := by
  unfold plL
  rw [show (n + 1) * 3 = n * 3 + 1 + 1 + 1 by omega, List.range_succ, List.range_succ, List.range_succ]
  simp only [List.map_append, List.map_cons, List.map_nil, List.append_assoc, List.cons_append, List.nil_append]
  rw [show n * 3 / 3 = n by omega, show n * 3 % 3 = 0 by omega, show (n * 3 + 1) / 3 = n by omega, show (n * 3 + 1) % 3 = 1 by omega, show (n * 3 + 1 + 1) / 3 = n by omega, show (n * 3 + 1 + 1) % 3 = 2 by omega]
  rfl
/-- A plan in the making, in a block of its own. -/
def Sl (B : Nat) (x : Value) (n : Nat) (N P F : Nat → Int) (u : World) : Prop := u.ownsRow B 30 3 x n (plL N P F n)
theorem Sl.nil (B : Nat) (N P F : Nat → Int) (u : World) : Sl B (.slice none 0 0) 0 N P F u := ⟨rfl, .inl ⟨rfl, rfl⟩⟩
theorem Sl.pl {B n : Nat} {x : Value} {N P F : Nat → Int} {u : World} (h : Sl B x n N P F u) : ∃ a c, x = .slice a n c ∧ n ≤ c ∧ Pl u a n N P F := by
  rcases h.2 with ⟨rfl, rfl⟩ | ⟨g, cap, cur, rfl, hg, hc, hn, -⟩
  · exact ⟨none, 0, rfl, Nat.le_refl _, .inl rfl⟩
  · refine ⟨_, cap, rfl, hn, pl_of_row (Array.getElem?_eq_some_iff.1 hc).1 (fun j hj => ?_)⟩
    have h' : u.ownsRow B 30 3 (.slice (some ⟨g, 0, none⟩) n cap) n (plL N P F n) := h
    rw [h'.cellAt j hj]
    simp [plL, hj]
theorem Sl.bel {B n : Nat} {x : Value} {N P F : Nat → Int} {u v : World} (h : Sl B x n N P F u) (k : Below u.heap.size u v) : Sl B x n N P F v := by
  refine ⟨h.1, ?_⟩
  rcases h.2 with h0 | ⟨g, cap, cur, rfl, hg, hc, r⟩
  · exact .inl h0
  · exact .inr ⟨g, cap, cur, rfl, hg, (k.block g (Array.getElem?_eq_some_iff.1 hc).1).trans hc, r⟩
theorem grown_bel {B : Nat} {x : Value} {n : Nat} {N P F : Nat → Int} {u v : World} (h : Sl B x n N P F u) (k : u.grownBy v x.ownBlock) (hB : B ≤ u.heap.size) : Below B u v := by
  refine ⟨k.os, k.tape, k.output, k.size, fun i hi => k.block i (by omega) (fun e => ?_)⟩
  rcases h.2 with ⟨rfl, rfl⟩ | ⟨g, cap, cur, rfl, hg, hc, r⟩
  · cases e
  · have e : i = g := Option.some.inj e
    omega
/-- May a plan be that numbers are spread to? -/
def spB (n : Nat) (X : Nat → Int) (per : Int) : Bool := decide (1 ≤ per) && rtB n X (fun _ => per) (spF per.toNat)
theorem spB_no {n : Nat} {X : Nat → Int} {per : Int} (h : 32 < n ∨ per < 1 ∨ 1000 < per) : spB n X per = false := by
  unfold spB
  rcases h with h | h | h
  · rw [show rtB n X (fun _ => per) (spF per.toNat) = false from decide_eq_false (by omega)]; simp
  · rw [decide_eq_false (show ¬ 1 ≤ per by omega)]; rfl
  · rw [show rtB n X (fun _ => per) (spF per.toNat) = false from decide_eq_false (fun q => by have h2 : 0 ≤ X 0 ∧ X 0 ≤ 255 ∧ 1 ≤ per ∧ per ≤ 1000 ∧ 0 ≤ spF per.toNat 0 ∧ spF per.toNat 0 < per := of_decide_eq_true (q.2.2 0 q.1).1; omega)]; simp
def SpR (B : Nat) (n : Nat) (X : Nat → Int) (per : Int) (e : Ending) (u : World) : Prop := ∃ x, e = .returned x ∧ Sl B x (if spB n X per = true then n else 0) X (fun _ => per) (spF per.toNat) u
theorem xs_inf : ∃ i, Try.prog.info? 30 = some i ∧ i.zero = some (.agg #[.int .i64 0, .int .i64 0, .int .i64 0]) ∧ i.size = 3 ∧ i.bytes = 24 := info_parts (show (Try.prog.info? 30).map (fun i => (i.zero, i.size, i.bytes)) = some (some (.agg #[.int .i64 0, .int .i64 0, .int .i64 0]), 3, 24) by kernel_rfl)
set_option maxRecDepth 100000 in
set_option maxHeartbeats 8000000 in
theorem bspread (a : Option Addr) (cap : Nat) (l : List Int) (per : Int) (w : World) (row : RowIs .i64 w a l) (hl : l.length ≤ maxLen) : Calls Try.prog 15 #[.slice a l.length cap, .int .i64 per] w fun e w' => SpR w.heap.size l.length (fun i => l.getD i 0) per e w' ∧ Below w.heap.size w w' := by
  obtain ⟨X, eX⟩ : ∃ X : Nat → Int, X = fun i => l.getD i 0 := ⟨_, rfl⟩
  rw [← eX]
  obtain ⟨n, en⟩ : ∃ n, l.length = n := ⟨_, rfl⟩
  have hn' : (n : Int) ≤ 9223372036854775807 := by unfold maxLen at hl; omega
  have RW := Lib.hid (fun u (k : Below w.heap.size w u) i (hi : i < n) => (show ∃ b off, a = some ⟨b, off, none⟩ ∧ u.cell? ⟨b, off + i, none⟩ = some (.int .i64 (X i)) by
    obtain ⟨b, off, ea, hc⟩ := (row.below k).at (show i < l.length by omega)
    exact ⟨b, off, ea, by rw [eX]; exact hc.2⟩))
  rw [en] at hl ⊢
  clear eX row en
  by_cases z0 : 32 < n
  · have y0 : decide ((32 : Int) < (n : Int)) = true := decide_eq_true (by omega)
    have hN := spB_no (X := X) (per := per) (.inl z0)
    go_enter Try.func15, Try.ntmps15
    go_wp2
    go_ret
    exact ⟨⟨_, rfl, by rw [hN]; exact Sl.nil _ _ _ _ _⟩, Below.refl _ _⟩
  have y0 : decide ((32 : Int) < (n : Int)) = false := decide_eq_false (by omega)
  by_cases z1 : per < 1
  · have y1 : decide (per < 1) = true := decide_eq_true z1
    have hN := spB_no (n := n) (X := X) (.inr (.inl z1))
    go_enter Try.func15, Try.ntmps15
    go_wp2
    go_ret
    exact ⟨⟨_, rfl, by rw [hN]; exact Sl.nil _ _ _ _ _⟩, Below.refl _ _⟩
  have y1 : decide (per < 1) = false := decide_eq_false z1
  by_cases z2 : 1000 < per
  · have y2 : decide (1000 < per) = true := decide_eq_true z2
    have hN := spB_no (n := n) (X := X) (.inr (.inr z2))
    go_enter Try.func15, Try.ntmps15
    go_wp2
    go_ret
    exact ⟨⟨_, rfl, by rw [hN]; exact Sl.nil _ _ _ _ _⟩, Below.refl _ _⟩
  have y2 : decide (1000 < per) = false := decide_eq_false z2
  obtain ⟨p, rfl⟩ : ∃ p : Nat, per = (p : Int) := ⟨per.toNat, by omega⟩
  have hp : 1 ≤ p := by omega
  have hS : spB n X (p : Int) = rtB n X (fun _ => (p : Int)) (spF p) := by
    unfold spB
    rw [decide_eq_true (show (1 : Int) ≤ (p : Int) by omega), Bool.true_and, Int.toNat_natCast]
  have hS := Lib.hid hS
  obtain ⟨i0, hi, hz0, hz1, hz2⟩ := xs_inf
  obtain ⟨B, eB⟩ : ∃ B, w.heap.size = B := ⟨_, rfl⟩
  have EB := Lib.hid eB
  have hb0 := Lib.hid (Below.refl B w)
  rw [eB]
  have hB0 := Lib.hid (show B ≤ w.heap.size by omega)
  replace RW := RW.out
  rw [eB] at RW
  replace RW := Lib.hid RW
  clear eB hl
  go_enter Try.func15, Try.ntmps15
  go_wp2_with fail
  go_loopw [5, 21] (fun x i v => ∃ k : Nat, k ≤ n ∧ i = .int .i64 (k : Int) ∧ Hid (Sl B x k X (fun _ => (p : Int)) (spF p) v) ∧ Hid (Below B w v)) (fun _ i _ => n - (intOf i).toNat)
  case atStart => exact ⟨0, by omega, rfl, Lib.hid (Sl.nil _ _ _ _ _), hb0⟩
  case round =>
    obtain ⟨k, hk, rfl, hX, hb⟩ := hrel
    generalize wr = v at *
    by_cases hlt : k < n
    · obtain ⟨b, off, ea, k0⟩ := RW.out v hb.out k hlt
      subst ea
      have j1 : (k : Int) < (n : Int) := by omega
      have j2 : IntKind.i64.wrap ((k : Int) + 1) = (k : Int) + 1 := by rw [IntKind.wrap_i64]; omega
      have j3 : 0 ≤ (k : Int) := by omega
      have p0 : ¬ (p : Int) = 0 := by omega
      have p1 : ((p : Int) == 0) = false := beq_eq_false_iff_ne.2 p0
      have tm : Int.tmod (k : Int) (p : Int) = spF p k := by rw [Int.tmod_eq_emod_of_nonneg (by omega)]; unfold spF; omega
      have sb := sp_right (p := p) (by omega) k
      have w1 : IntKind.i64.wrap (spF p k) = spF p k := by rw [IntKind.wrap_i64]; omega
      have hbV := (Below.refl v.heap.size v).alloc (Nat.le_refl _) (.cells #[.int .i64 (X k), .int .i64 (p : Int), .int .i64 (spF p k)] 30)
      have hX1 := Lib.hid (hX.out.bel hbV)
      have hz := Lib.hid (show B ≤ v.heap.size by have := hb.out.size; have := hB0.out; omega)
      have hb1 := Lib.hid (show Below B w _ from hb.out.trans (hbV.mono hz.out))
      have hc : ∀ j u, [Value.int .i64 (X k), .int .i64 (p : Int), .int .i64 (spF p k)][j]? = some u → (v.alloc (.cells #[.int .i64 (X k), .int .i64 (p : Int), .int .i64 (spF p k)] 30)).cell? ((⟨v.heap.size, 0, none⟩ : Addr).add j) = some u := fun j u hu => by
        match j, hu with
        | 0, hu => injection hu with hu; subst hu; go_simp
        | 1, hu => injection hu with hu; subst hu; go_simp
        | 2, hu => injection hu with hu; subst hu; go_simp
        | j + 3, hu => cases hu
      have hc := Lib.hid hc
      have h1 := Lib.hid (show ∀ u ∈ [Value.int .i64 (X k), .int .i64 (p : Int), .int .i64 (spF p k)], u.oneCell' = true from fun u hu => by
        simp only [List.mem_cons, List.not_mem_nil, or_false] at hu
        rcases hu with rfl | rfl | rfl <;> rfl)
      clear hbV
      go_wp2_with (first | (at_builtin; go_loud (refine wpList_append_own _ rfl (.tmp 26) (.tmp 33) 22 rfl B 30 i0 _ 3 24 Try.underlying22 hi hz0 hz1 hz2 rfl (by decide) _ k _ rfl hX1.out ⟨v.heap.size, 0, none⟩ 1 1 _ rfl rfl hc.out h1.out (by unfold maxLen; omega) (by omega) (by have := hz.out; simp; omega) ?_; intro x2 w2 hX2 hg2 hn2; have hb2 := Lib.hid (hb1.out.trans (grown_bel hX1.out hg2 (by have := hz.out; simp; omega))); have hX3 := Lib.hid (show Sl B x2 (k + 1) X (fun _ => (p : Int)) (spF p) w2 by unfold Sl; rw [plL_snoc]; exact hX2); clear hX2 hg2 hn2)) | fail)
      exact ⟨⟨k + 1, by omega, by first | rfl | go_num, hX3, hb2⟩, by simp [intOf]; omega⟩
    · obtain rfl : k = n := by omega
      have j1 : ¬ (k : Int) < (k : Int) := by omega
      obtain ⟨a', c', ex, hc', hPl⟩ := hX.out.pl
      have RT := bright a' c' k X (fun _ => (p : Int)) (spF p) v hPl hc' (by unfold maxLen; omega)
      have hz := Lib.hid (show B ≤ v.heap.size by have := hb.out.size; have := hB0.out; omega)
      rw [← hS.out] at RT
      obtain ⟨q, eq⟩ : ∃ q, spB k X (p : Int) = q := ⟨_, rfl⟩
      have EQ := Lib.hid eq
      rw [eq] at RT
      subst ex
      replace RT := Lib.hid RT
      clear eq hPl hS
      cases q
      · go_wp2_with fail
        refine RT.out.mono ?_
        rintro e v2 ⟨rfl, hb2⟩
        have hb3 := Lib.hid (show Below B w v2 from hb.out.trans (hb2.mono hz.out))
        go_wp2
        go_ret
        exact ⟨⟨_, rfl, by rw [EQ.out]; exact Sl.nil _ _ _ _ _⟩, hb3.out⟩
      · go_wp2_with fail
        refine RT.out.mono ?_
        rintro e v2 ⟨rfl, hb2⟩
        have hb3 := Lib.hid (show Below B w v2 from hb.out.trans (hb2.mono hz.out))
        have hX4 := Lib.hid (hX.out.bel hb2)
        clear hb2
        go_wp2
        go_ret
        exact ⟨⟨_, rfl, by rw [EQ.out]; exact hX4.out⟩, hb3.out⟩
end Go.Proofs.Ytcpmdgbogdikiaa
