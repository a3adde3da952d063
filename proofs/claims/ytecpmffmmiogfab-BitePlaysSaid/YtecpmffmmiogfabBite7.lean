/- Package bite: New; walked. -/
import Derived.Test.YtecpmffmmiogfabBite6
namespace Go.Proofs.Ytecpmffmmiogfab
open Go.ChangeShapes Go.WideShapes Go.ChangeAt Go.RowKit
set_option linter.unusedVariables false
set_option linter.unusedSimpArgs false
def btV (NM : Nat → ByteArray) (J : Nat → Nat → Int) (i r : Nat) : Value := if r = 0 then .string (NM i) else .int .i64 (J i r)
theorem bts_of_row {w : World} {g : Nat} {n : Nat} {NM : Nat → ByteArray} {J : Nat → Nat → Int} (hg : g < w.heap.size) (h : ∀ j, j < n * 7 → w.cell? ⟨g, j, none⟩ = some (btV NM J (j / 7) (j % 7))) : Bts w (some ⟨g, 0, none⟩) n NM J := by
  refine .inr ⟨g, 0, rfl, hg, fun i hi => ?_⟩
  have k : ∀ r, r < 7 → w.cell? ⟨g, i * 7 + r, none⟩ = some (btV NM J i r) := fun r hr => by
    have := h (i * 7 + r) (by omega)
    rw [show (i * 7 + r) / 7 = i by omega, show (i * 7 + r) % 7 = r by omega] at this
    exact this
  simp only [Nat.zero_add]
  exact ⟨k 0 (by omega), k 1 (by omega), k 2 (by omega), k 3 (by omega), k 4 (by omega), k 5 (by omega), k 6 (by omega)⟩
theorem row_of_bts {w : World} {b off : Nat} {n : Nat} {NM : Nat → ByteArray} {J : Nat → Nat → Int} (h : Bts w (some ⟨b, off, none⟩) n NM J) (j : Nat) (hj : j < n * 7) : w.cell? ⟨b, off + j, none⟩ = some (btV NM J (j / 7) (j % 7)) := by
  obtain ⟨b', off', e, -, k0, k1, k2, k3, k4, k5, k6⟩ := h.at (show j / 7 < n by omega)
  injection e with e
  injection e with e1 e2
  subst e1 e2
  generalize hi : j / 7 = i at *
  generalize hr : j % 7 = r at *
  obtain rfl : j = i * 7 + r := by omega
  have hr7 : r < 7 := by omega
  rw [← Nat.add_assoc]
  rcases (show r = 0 ∨ r = 1 ∨ r = 2 ∨ r = 3 ∨ r = 4 ∨ r = 5 ∨ r = 6 by omega) with rfl | rfl | rfl | rfl | rfl | rfl | rfl
  · exact k0
  · exact k1
  · exact k2
  · exact k3
  · exact k4
  · exact k5
  · exact k6
theorem bclone (b off n c : Nat) (NM : Nat → ByteArray) (J : Nat → Nat → Int) (w : World) (h : Bts w (some ⟨b, off, none⟩) n NM J) (h1 : 1 ≤ n) (hn : n ≤ 1000) : Calls Try.prog 20 #[.slice (some ⟨b, off, none⟩) n c] w fun e w' => ∃ g tc, e = .returned (.slice (some ⟨g, 0, none⟩) n tc) ∧ w.heap.size ≤ g ∧ g < w'.heap.size ∧ Bts w' (some ⟨g, 0, none⟩) n NM J ∧ Below w.heap.size w w' := by
  refine (bcloneT b off n c ((List.range (n * 7)).map fun j => btV NM J (j / 7) (j % 7)) w (by simp) hn (fun j u hu => by
    have hlt : j < n * 7 := by
      rcases Nat.lt_or_ge j (n * 7) with q | q
      · exact q
      · simp [q] at hu
    simp [hlt] at hu
    rw [row_of_bts h j hlt, hu]) (fun u hu => by
    obtain ⟨i, -, rfl⟩ := List.mem_map.1 hu
    unfold btV
    split <;> rfl)).mono ?_
  rintro e w1 ⟨v, rfl, ho, -, hb⟩
  have hl := ho.lt
  have ho' := ho
  rcases ho.2 with ⟨-, h0⟩ | ⟨g, cap, cur, rfl, hg, -⟩
  · omega
  · refine ⟨g, cap, rfl, hg, (hl g rfl).2, bts_of_row (hl g rfl).2 (fun j hj => ?_), hb⟩
    rw [ho'.cellAt j hj]
    simp [hj]
def s0 : BrSt := ⟨0, 0, 0, fun i => if i = 0 then 1 else 0⟩
theorem s0_ok {n : Nat} {NM : Nat → ByteArray} {J : Nat → Nat → Int} (hj : JOk n NM J) : BrI n J s0 := by
  have h1 := hj.n1
  have h2 := hj.l 0 (by omega)
  have h3 := hj.s 0 (by omega)
  have h4 := hj.m 0 (by omega)
  refine ⟨Nat.zero_le _, fun i h => absurd h (Nat.not_lt_zero i), fun _ => rfl, fun i h k => ?_, Int.le_refl _, Int.le_refl _, Int.le_refl _, fun _ => ?_, fun _ => ?_⟩
  · have k : 0 < i := k
    show (if i = 0 then (1 : Int) else 0) = 0
    rw [if_neg (by omega)]
  · show (0 : Int) < J 0 6
    omega
  · show (0 : Int) < J 0 5
    omega
/-- A new run, in memory of its own. -/
structure NewK (p q tb tc n : Nat) (NM : Nat → ByteArray) (J : Nat → Nat → Int) (s : BrSt) (w u : World) : Prop where
  r : BrR p q tb tc n NM J s u
  b : Below w.heap.size w u
  p : w.heap.size ≤ p
  q : w.heap.size ≤ q
  t : w.heap.size ≤ tb
theorem NewK.mk' {g q tc n : Nat} {NM : Nat → ByteArray} {J : Nat → Nat → Int} {w V : World} (hb : Below w.heap.size w V) (ht : Bts V (some ⟨g, 0, none⟩) n NM J) (hr : V.rowIs q 3 n (fun _ => .int .i64 0)) (h1 : w.heap.size ≤ g) (h2 : w.heap.size ≤ q) (h3 : g ≠ q) (h4 : g < V.heap.size) : NewK V.heap.size q g tc n NM J ⟨0, 0, 0, fun _ => 0⟩ w (V.alloc (.cells #[.slice (some ⟨g, 0, none⟩) n tc, .slice (some ⟨q, 0, none⟩) n n, .int .i64 0, .int .i64 0] 44)) := by
  have ha : Below V.heap.size V (V.alloc (.cells #[.slice (some ⟨g, 0, none⟩) n tc, .slice (some ⟨q, 0, none⟩) n n, .int .i64 0, .int .i64 0] 44)) := (Below.refl _ _).alloc (Nat.le_refl _) _
  exact ⟨⟨Held.new V [.slice (some ⟨g, 0, none⟩) n tc, .slice (some ⟨q, 0, none⟩) n n, .int .i64 0, .int .i64 0] _, hr.alloc _, ht.below ha, Ne.symm (Nat.ne_of_lt hr.lt), Nat.ne_of_lt h4, h3⟩, hb.trans (ha.mono hb.size), hb.size, h2, h1⟩
theorem NewK.drew {p q tb tc n : Nat} {NM : Nat → ByteArray} {J : Nat → Nat → Int} {s : BrSt} {w u : World} (h : NewK p q tb tc n NM J s w u) : NewK p q tb tc n NM J s w u.drew := ⟨h.r.bel (Below.refl _ _).drew, h.b.drew, h.p, h.q, h.t⟩
theorem mk_int (n : Nat) (hn : n ≤ 1000) (w : World) : (Instr.makeSlice 32 (.int .i64 (n : Int)) (.int .i64 (n : Int))).run Try.prog w = .ok (.slice (some ⟨w.heap.size, 0, none⟩) n n) (w.alloc (.cells (madeCells #[.int .i64 0] n) 3)) :=
  run_make_row' 32 3 (.int .i64 0) 8 Try.underlying32 (by kernel_rfl) rfl .i64 .i64 n (by omega) (by omega) w
set_option maxRecDepth 100000 in
set_option maxHeartbeats 8000000 in
theorem bnew_no (a : Option Addr) (cap n : Nat) (NM : Nat → ByteArray) (J : Nat → Nat → Int) (w : World) (h : Bts w a n NM J) (hl : n ≤ 1000) (hc : n ≤ cap) (hs : ∀ i, i < n → (NM i).size ≤ maxLen) (hr : rtB n NM J = false) : Calls Try.prog 9 #[.slice a n cap] w fun e w' => e = .returned (.tuple #[.pointer none, .int .i64 1]) ∧ Below w.heap.size w w' := by
  have RT := bright a cap n NM J w h hl hc hs
  rw [hr] at RT
  replace RT := Lib.hid RT
  go_enter Try.func9, Try.ntmps9
  go_wp2_with fail
  refine RT.out.mono ?_
  rintro e w1 ⟨rfl, hb1⟩
  go_wp2
  go_ret2
  exact ⟨rfl, hb1⟩
set_option maxRecDepth 100000 in
set_option maxHeartbeats 8000000 in
theorem bnew_ok (b off cap n : Nat) (NM : Nat → ByteArray) (J : Nat → Nat → Int) (w : World) (h : Bts w (some ⟨b, off, none⟩) n NM J) (hc : n ≤ cap) (hr : rtB n NM J = true) (hs : ∀ i, i < n → (NM i).size ≤ maxLen) : Calls Try.prog 9 #[.slice (some ⟨b, off, none⟩) n cap] w fun e w' => ∃ p q tb tc, e = .returned (.tuple #[.pointer (some ⟨p, 0, none⟩), .int .i64 0]) ∧ NewK p q tb tc n NM J s0 w w' := by
  have hj := rtB_j hr
  have hn := hj.n20
  have n1 := hj.n1
  have RT := bright _ cap n NM J w h (by omega) hc hs
  rw [hr] at RT
  replace RT := Lib.hid RT
  have CL := Lib.hid (fun u (k : Below w.heap.size w u) => bclone b off n cap NM J u (h.below k) n1 (by omega))
  have mk := fun u => mk_int n (by omega) u
  have z1 : (0 : Int) < (n : Int) := by omega
  have z2 : 0 < n := n1
  clear hj hr h hs
  go_enter Try.func9, Try.ntmps9
  go_wp2_with fail
  refine RT.out.mono ?_
  rintro e w1 ⟨rfl, hb1⟩
  replace hb1 := Lib.hid hb1
  go_upto_region 3 with (fail)
  go_cut [4] from 5 (fun s u => ∃ p q tb tc, s = .pointer (some ⟨p, 0, none⟩) ∧ Hid (NewK p q tb tc n NM J ⟨0, 0, 0, fun _ => 0⟩ w u))
  case first =>
    go_region_with (go_at_call 20; refine (CL.out _ (by first | exact hb1.out | exact hb1.out.drew | exact (hb1.out.alloc hb1.out.size _) | exact (hb1.out.drew.alloc hb1.out.size _) | exact (hb1.out.alloc hb1.out.size _).drew)).mono ?_; rintro e w2 ⟨g, tc, rfl, hg, hg2, ht, hb2⟩)
    · have hbA : Below w.heap.size w w2 := hb1.out.drew.trans (hb2.mono hb1.out.drew.size)
      have K := NewK.mk' (tc := tc) (n := n) (w := w) (V := w2.alloc (.cells (madeCells #[.int .i64 0] n) 3)) (hbA.alloc hbA.size _) (ht.below ((Below.refl _ _).alloc (Nat.le_refl _) _)) (World.rowIs_made w2 _ n _) (Nat.le_trans hb1.out.drew.size hg) hbA.size (Nat.ne_of_lt hg2) (by simp; omega)
      rw [show (w2.alloc (.cells (madeCells #[.int .i64 0] n) 3)).heap.size = w2.heap.size + 1 by simp] at K
      go_wp2_with fail
      go_meet
      case rel => exact ⟨_, _, _, _, rfl, Lib.hid (by first | exact K | exact K.drew)⟩
    · have R0 := (World.rowIs_made w1 (.int .i64 0) n 3).drew
      have R2 := R0.of_block (hb2.block _ R0.lt)
      have hbB : Below w.heap.size w (w1.alloc (.cells (madeCells #[.int .i64 0] n) 3)).drew := (hb1.out.alloc hb1.out.size _).drew
      have hbA : Below w.heap.size w w2 := hbB.trans (hb2.mono hbB.size)
      have hs1 : w1.heap.size < g := Nat.lt_of_lt_of_le R0.lt hg
      have K := NewK.mk' (tc := tc) (n := n) (w := w) (V := w2) hbA ht R2 (Nat.le_trans hbB.size hg) hb1.out.size (Nat.ne_of_gt hs1) hg2
      go_wp2_with fail
      go_meet
      case rel => exact ⟨_, _, _, _, rfl, Lib.hid (by first | exact K | exact K.drew)⟩
  case rest =>
    obtain ⟨p, q, tb, tc, rfl, hK⟩ := hcut
    have hp : Held p [.slice (some ⟨tb, 0, none⟩) n tc, .slice (some ⟨q, 0, none⟩) n n, .int .i64 0, .int .i64 0] _ := hK.out.r.h
    obtain ⟨c0, f0⟩ := hp.one 0 rfl
    obtain ⟨c1, f1⟩ := hp.one 1 rfl
    obtain ⟨c2, f2⟩ := hp.one 2 rfl
    obtain ⟨c3, f3⟩ := hp.one 3 rfl
    have g0 : wc.cell? ⟨q, 0, none⟩ = some (.int .i64 0) := hK.out.r.r.cell n1
    have g1 := hK.out.r.r.frozen 0
    have FN := Lib.hid (show NewK p q tb tc n NM J s0 w (wc.setCell ⟨q, 0, none⟩ (.int .i64 1)) from ⟨hK.out.r.setr 0 1, hK.out.b.setCell (p := ⟨q, 0, none⟩) hK.out.q _, hK.out.p, hK.out.q, hK.out.t⟩)
    clear hp mk hb1
    go_wp2
    go_ret2
    exact ⟨p, q, tb, tc, rfl, FN.out⟩
end Go.Proofs.Ytecpmffmmiogfab
