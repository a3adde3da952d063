/- Package bus: New; a watcher that is not there; a new one's Missing and Tick; walked. -/
import Derived.Test.YtcpmdgbogdikiaaBus5
import Derived.Test.YtcpmdgbogdikiaaNew
import Derived.Lib.SliceRun
import Derived.Deep.RegionWith
namespace Go.Proofs.Ytcpmdgbogdikiaa
open Go.ChangeShapes Go.WideShapes Go.ChangeAt Go.RowKit
set_option linter.unusedVariables false
set_option linter.unusedSimpArgs false
def plV (N P F : Nat → Int) (i r : Nat) : Value := if r = 0 then .int .i64 (N i) else if r = 1 then .int .i64 (P i) else .int .i64 (F i)
theorem pl_of_row {w : World} {g n : Nat} {N P F : Nat → Int} (hg : g < w.heap.size) (h : ∀ j, j < n * 3 → w.cell? ⟨g, j, none⟩ = some (plV N P F (j / 3) (j % 3))) : Pl w (some ⟨g, 0, none⟩) n N P F := by
  refine .inr ⟨g, 0, rfl, hg, fun i hi => ?_⟩
  have e0 := h (i * 3) (by omega)
  have e1 := h (i * 3 + 1) (by omega)
  have e2 := h (i * 3 + 2) (by omega)
  rw [show i * 3 / 3 = i by omega, show i * 3 % 3 = 0 by omega] at e0
  rw [show (i * 3 + 1) / 3 = i by omega, show (i * 3 + 1) % 3 = 1 by omega] at e1
  rw [show (i * 3 + 2) / 3 = i by omega, show (i * 3 + 2) % 3 = 2 by omega] at e2
  rw [Nat.zero_add]
  exact ⟨e0, e1, e2⟩
theorem row_of_pl {w : World} {b off n : Nat} {N P F : Nat → Int} (h : Pl w (some ⟨b, off, none⟩) n N P F) (j : Nat) (hj : j < n * 3) : w.cell? ⟨b, off + j, none⟩ = some (plV N P F (j / 3) (j % 3)) := by
  obtain ⟨b', off', e, -, k0, k1, k2⟩ := h.at (show j / 3 < n by omega)
  injection e with e
  injection e with e1 e2
  subst e1 e2
  generalize hi : j / 3 = i at *
  generalize hr : j % 3 = r at *
  obtain rfl : j = i * 3 + r := by omega
  have hr3 : r < 3 := by omega
  rw [← Nat.add_assoc]
  rcases (show r = 0 ∨ r = 1 ∨ r = 2 by omega) with rfl | rfl | rfl
  · exact k0
  · exact k1
  · exact k2
set_option maxRecDepth 100000 in
set_option maxHeartbeats 8000000 in
theorem bclone (b off n c : Nat) (N P F : Nat → Int) (w : World) (h : Pl w (some ⟨b, off, none⟩) n N P F) (h1 : 1 ≤ n) (hn : n ≤ 1000) : Calls Try.prog 26 #[.slice (some ⟨b, off, none⟩) n c] w fun e w' => ∃ g tc, e = .returned (.slice (some ⟨g, 0, none⟩) n tc) ∧ w.heap.size ≤ g ∧ g < w'.heap.size ∧ Pl w' (some ⟨g, 0, none⟩) n N P F ∧ Below w.heap.size w w' := by
  have q22 : ∀ (w : World) (a : Option Addr) (n c n' c' : Nat), (binOp .eql 22 (.slice a n c) (.slice none n' c')).run Try.prog w = .ok (.bool a.isNone) w := fun w a n c n' c' => Lib.run_eql_slice_nil w _ _ a n c n' c' Try.underlying22
  obtain ⟨i0, hi, hz0, hz1, hz2⟩ := info_parts (show (Try.prog.info? 30).map (fun i => (i.zero, i.size, i.bytes)) = some (some (.agg #[.int .i64 0, .int .i64 0, .int .i64 0]), 3, 24) by kernel_rfl)
  obtain ⟨news, enews⟩ : ∃ news, news = (List.range (n * 3)).map fun j => plV N P F (j / 3) (j % 3) := ⟨_, rfl⟩
  have hl : news.length = n * 3 := by rw [enews]; simp
  have hA := (Below.refl w.heap.size w).alloc (Nat.le_refl _) (.cells #[] 30)
  have hcell : ∀ j u, news[j]? = some u → (w.alloc (.cells #[] 30)).cell? ((⟨b, off, none⟩ : Addr).add j) = some u := fun j u hu => by
    have hlt : j < n * 3 := by
      rcases Nat.lt_or_ge j news.length with q | q
      · omega
      · rw [List.getElem?_eq_none q] at hu; cases hu
    rw [Addr.add_lit, row_of_pl (h.below hA) j hlt, ← hu, enews]
    simp [hlt]
  have hone : ∀ u ∈ news, u.oneCell' = true := fun u hu => by
    rw [enews] at hu
    obtain ⟨i, -, rfl⟩ := List.mem_map.1 hu
    unfold plV
    split
    · rfl
    · split <;> rfl
  have hown : (w.alloc (.cells #[] 30)).ownsRow w.heap.size 30 3 (.slice (some ⟨w.heap.size, 0, none⟩) 0 0) 0 [] := ⟨rfl, .inr ⟨w.heap.size, 0, #[], rfl, Nat.le_refl _, heap_alloc_new w _, Nat.le_refl _, by unfold maxLen; omega, rfl, rfl⟩⟩
  have hcell := Lib.hid hcell
  have hone := Lib.hid hone
  have hown := Lib.hid hown
  have hA := Lib.hid hA
  have HL := Lib.hid hl
  have EN := Lib.hid enews
  clear hl enews h
  go_enter Try.func26, Try.ntmps26
  go_wp2_with (first | (at_builtin; go_loud (refine wpList_append_own _ rfl (.tmp 5) (.tmp 6) 22 rfl w.heap.size 30 i0 _ 3 24 Try.underlying22 hi hz0 hz1 hz2 rfl (by decide) _ 0 [] rfl hown.out ⟨b, off, none⟩ n c news rfl HL.out hcell.out hone.out (by unfold maxLen; omega) (by omega) hA.out.size ?_; intro v' w1 hown1 hg1 hn1)) | fail)
  rw [List.nil_append, Nat.zero_add] at hown1
  have hl := hown1.lt
  have ho' := hown1
  have hbb : Below w.heap.size w w1 := hA.out.trans ⟨hg1.os, hg1.tape, hg1.output, hg1.size, fun k hk => hg1.block k (by have := hA.out.size; omega) (fun e => by have e : k = w.heap.size := Option.some.inj e; omega)⟩
  rcases hown1.2 with ⟨-, h0⟩ | ⟨g, tc, cur, rfl, hg, -⟩
  · omega
  · have FIN := Lib.hid (show w.heap.size ≤ g ∧ g < w1.heap.size ∧ Pl w1 (some ⟨g, 0, none⟩) n N P F ∧ Below w.heap.size w w1 from ⟨hg, (hl g rfl).2, pl_of_row (hl g rfl).2 (fun j hj => by
      rw [ho'.cellAt j hj, EN.out]
      simp [hj]), hbb⟩)
    clear ho' hown1 hl hbb hg1 hn1
    go_wp2
    go_ret
    exact ⟨g, tc, rfl, FIN.out⟩
theorem mk_rec (n : Nat) (hn : n ≤ 1000) (w : World) : (Instr.makeSlice 60 (.int .i64 (n : Int)) (.int .i64 (n : Int))).run Try.prog w = .ok (.slice (some ⟨w.heap.size, 0, none⟩) n n) (w.alloc (.cells (madeCells #[.int .u32 0, .bool false, .int .i64 0] (n * 3)) 64)) := by
  obtain ⟨i0, hi, hz0, hz1, hz2⟩ := info_parts (show (Try.prog.info? 64).map (fun i => (i.zero, i.size, i.bytes)) = some (some (.agg #[.int .u32 0, .bool false, .int .i64 0]), 3, 16) by kernel_rfl)
  have h := run_makeSlice (P := Try.prog) w 60 64 i0 _ Try.underlying60 hi hz0 .i64 .i64 (n : Int) (n : Int) (by omega) (by omega) (by rw [hz1]; omega) (by rw [hz2]; omega) (by omega)
  rw [hz1, show (Value.agg #[.int .u32 0, .bool false, .int .i64 0]).cells = #[.int .u32 0, .bool false, .int .i64 0] from by first | rfl | kernel_rfl | (simp [Value.cells])] at h
  simpa using h
/-- A watcher: what it knows of its slots is W, K, T; it stands in tick c. -/
structure Wr (p q g tc n : Nat) (N P F : Nat → Int) (pa c : Int) (T : Nat → Int) (u : World) : Prop where
  h : Held p [.slice (some ⟨g, 0, none⟩) n tc, .int .i64 pa, .int .i64 c, .slice (some ⟨q, 0, none⟩) n n] u
  l : Pl u (some ⟨g, 0, none⟩) n N P F
  t : ∀ i, i < n → u.cell? ⟨q, i * 3 + 2, none⟩ = some (.int .i64 (T i))
  q : q < u.heap.size
theorem Wr.bel {p q g tc n : Nat} {N P F : Nat → Int} {pa c : Int} {T : Nat → Int} {u u' : World} (h : Wr p q g tc n N P F pa c T u) (k : Below u.heap.size u u') : Wr p q g tc n N P F pa c T u' :=
  ⟨h.h.bel k, h.l.below k, fun i hi => (k.cell (p := ⟨q, i * 3 + 2, none⟩) h.q).trans (h.t i hi), Nat.lt_of_lt_of_le h.q k.size⟩
theorem rec_t (n : Nat) (w : World) : ∀ i, i < n → (w.alloc (.cells (madeCells #[.int .u32 0, .bool false, .int .i64 0] (n * 3)) 64)).cell? ⟨w.heap.size, i * 3 + 2, none⟩ = some (.int .i64 0) := fun i hi => by
  rw [cell_of_row _ w.heap.size _ _ _ _ (heap_alloc_new w _)]
  unfold madeCells
  rw [Array.getElem?_map, Array.getElem?_range, if_pos (by omega)]
  show some ((#[Value.int .u32 0, .bool false, .int .i64 0] : Array Value)[(i * 3 + 2) % 3]!) = _
  rw [show (i * 3 + 2) % 3 = 2 by omega]
  rfl
structure NewW (p q g tc n : Nat) (N P F : Nat → Int) (pa : Int) (w u : World) : Prop where
  r : Wr p q g tc n N P F pa 0 (fun _ => 0) u
  b : Below w.heap.size w u
theorem NewW.drew {p q g tc n : Nat} {N P F : Nat → Int} {pa : Int} {w u : World} (h : NewW p q g tc n N P F pa w u) : NewW p q g tc n N P F pa w u.drew := ⟨h.r.bel (Below.refl _ _).drew, h.b.drew⟩
theorem NewW.mk' {g q tc n : Nat} {N P F : Nat → Int} {pa : Int} {w V : World} (hb : Below w.heap.size w V) (hl : Pl V (some ⟨g, 0, none⟩) n N P F) (ht : ∀ i, i < n → V.cell? ⟨q, i * 3 + 2, none⟩ = some (.int .i64 0)) (hq : q < V.heap.size) : NewW V.heap.size q g tc n N P F pa w (V.alloc (.cells #[.slice (some ⟨g, 0, none⟩) n tc, .int .i64 pa, .int .i64 0, .slice (some ⟨q, 0, none⟩) n n] 62)) := by
  have ha : Below V.heap.size V (V.alloc (.cells #[.slice (some ⟨g, 0, none⟩) n tc, .int .i64 pa, .int .i64 0, .slice (some ⟨q, 0, none⟩) n n] 62)) := (Below.refl _ _).alloc (Nat.le_refl _) _
  exact ⟨⟨Held.new V [.slice (some ⟨g, 0, none⟩) n tc, .int .i64 pa, .int .i64 0, .slice (some ⟨q, 0, none⟩) n n] _, hl.below ha, fun i hi => (ha.cell (p := ⟨q, i * 3 + 2, none⟩) hq).trans (ht i hi), Nat.lt_of_lt_of_le hq ha.size⟩, hb.trans (ha.mono hb.size)⟩
set_option maxRecDepth 100000 in
set_option maxHeartbeats 8000000 in
theorem bnew_no (a : Option Addr) (cap n : Nat) (N P F : Nat → Int) (pa : Int) (w : World) (h : Pl w a n N P F) (hcap : n ≤ cap) (hn : n ≤ 1000) (hr : rtB n N P F = false) : Calls Try.prog 16 #[.slice a n cap, .int .i64 pa] w fun e w' => e = .returned (.tuple #[.pointer none, .int .i64 1]) ∧ Below w.heap.size w w' := by
  have RT := bright a cap n N P F w h hcap (by unfold maxLen; omega)
  rw [hr] at RT
  replace RT := Lib.hid RT
  go_enter Try.func16, Try.ntmps16
  go_wp2_with fail
  refine RT.out.mono ?_
  rintro e w1 ⟨rfl, hb1⟩
  go_wp2
  go_ret2
  exact ⟨rfl, hb1⟩
set_option maxRecDepth 100000 in
set_option maxHeartbeats 8000000 in
theorem bnew_bad (a : Option Addr) (cap n : Nat) (N P F : Nat → Int) (pa : Int) (w : World) (h : Pl w a n N P F) (hcap : n ≤ cap) (hn : n ≤ 1000) (hr : rtB n N P F = true) (hp : ¬ (1 ≤ pa ∧ pa ≤ 10)) : Calls Try.prog 16 #[.slice a n cap, .int .i64 pa] w fun e w' => e = .returned (.tuple #[.pointer none, .int .i64 2]) ∧ Below w.heap.size w w' := by
  have RT := bright a cap n N P F w h hcap (by unfold maxLen; omega)
  rw [hr] at RT
  replace RT := Lib.hid RT
  by_cases z : pa < 1
  · have y : decide (pa < 1) = true := decide_eq_true z
    go_enter Try.func16, Try.ntmps16
    go_wp2_with fail
    refine RT.out.mono ?_
    rintro e w1 ⟨rfl, hb1⟩
    go_wp2
    go_ret2
    exact ⟨rfl, hb1⟩
  · have y : decide (pa < 1) = false := decide_eq_false z
    have y2 : decide (10 < pa) = true := decide_eq_true (by omega)
    go_enter Try.func16, Try.ntmps16
    go_wp2_with fail
    refine RT.out.mono ?_
    rintro e w1 ⟨rfl, hb1⟩
    go_wp2
    go_ret2
    exact ⟨rfl, hb1⟩
set_option maxRecDepth 100000 in
set_option maxHeartbeats 8000000 in
theorem bnew_ok (b off cap n : Nat) (N P F : Nat → Int) (pa : Int) (w : World) (h : Pl w (some ⟨b, off, none⟩) n N P F) (hcap : n ≤ cap) (hr : rtB n N P F = true) (hp : 1 ≤ pa ∧ pa ≤ 10) : Calls Try.prog 16 #[.slice (some ⟨b, off, none⟩) n cap, .int .i64 pa] w fun e w' => ∃ p q g tc, e = .returned (.tuple #[.pointer (some ⟨p, 0, none⟩), .int .i64 0]) ∧ NewW p q g tc n N P F pa w w' := by
  have hr2 := of_decide_eq_true hr
  have n1 : 1 ≤ n := by omega
  have hn : n ≤ 32 := by omega
  have RT := bright _ cap n N P F w h hcap (by unfold maxLen; omega)
  rw [hr] at RT
  replace RT := Lib.hid RT
  have CL := Lib.hid (fun u (k : Below w.heap.size w u) => bclone b off n cap N P F u (h.below k) n1 (by omega))
  have mk := fun u => mk_rec n (by omega) u
  have z1 : (0 : Int) < (n : Int) := by omega
  have y1 : decide (pa < 1) = false := decide_eq_false (by omega)
  have y2 : decide (10 < pa) = false := decide_eq_false (by omega)
  clear hr hr2 h
  go_enter Try.func16, Try.ntmps16
  go_wp2_with fail
  refine RT.out.mono ?_
  rintro e w1 ⟨rfl, hb1⟩
  replace hb1 := Lib.hid hb1
  go_upto_region 5 with (fail)
  go_region_with (go_at_call 26; refine (CL.out _ (by first | exact hb1.out | exact hb1.out.drew | exact (hb1.out.alloc hb1.out.size _) | exact (hb1.out.drew.alloc hb1.out.size _) | exact (hb1.out.alloc hb1.out.size _).drew)).mono ?_; rintro e w2 ⟨g, tc, rfl, hg, hg2, ht, hb2⟩)
  · have hbA : Below w.heap.size w w2 := hb1.out.drew.trans (hb2.mono hb1.out.drew.size)
    have hal := (Below.refl w2.heap.size w2).alloc (Nat.le_refl _) (.cells (madeCells #[.int .u32 0, .bool false, .int .i64 0] (n * 3)) 64)
    have K := NewW.mk' (tc := tc) (n := n) (w := w) (pa := pa) (F := F) (N := N) (P := P) (V := w2.alloc (.cells (madeCells #[.int .u32 0, .bool false, .int .i64 0] (n * 3)) 64)) (q := w2.heap.size) (hbA.alloc hbA.size _) (ht.below hal) (rec_t n w2) (by simp)
    rw [show (w2.alloc (.cells (madeCells #[.int .u32 0, .bool false, .int .i64 0] (n * 3)) 64)).heap.size = w2.heap.size + 1 by simp] at K
    clear hal
    go_wp2
    go_ret2
    exact ⟨_, _, _, _, rfl, by first | exact K | exact K.drew⟩
  · have R0 : ∀ i, i < n → (w1.alloc (.cells (madeCells #[.int .u32 0, .bool false, .int .i64 0] (n * 3)) 64)).drew.cell? ⟨w1.heap.size, i * 3 + 2, none⟩ = some (.int .i64 0) := rec_t n w1
    have hsz : w1.heap.size < (w1.alloc (.cells (madeCells #[.int .u32 0, .bool false, .int .i64 0] (n * 3)) 64)).drew.heap.size := by show _ < (w1.alloc (.cells (madeCells #[.int .u32 0, .bool false, .int .i64 0] (n * 3)) 64)).heap.size; simp
    have hbB : Below w.heap.size w (w1.alloc (.cells (madeCells #[.int .u32 0, .bool false, .int .i64 0] (n * 3)) 64)).drew := (hb1.out.alloc hb1.out.size _).drew
    have hbA : Below w.heap.size w w2 := hbB.trans (hb2.mono hbB.size)
    have K := NewW.mk' (tc := tc) (n := n) (w := w) (pa := pa) (F := F) (N := N) (P := P) (V := w2) (q := w1.heap.size) hbA ht (fun i hi => (hb2.cell (p := ⟨w1.heap.size, i * 3 + 2, none⟩) hsz).trans (R0 i hi)) (Nat.lt_of_lt_of_le hsz hb2.size)
    clear R0 hsz hbB
    go_wp2
    go_ret2
    exact ⟨_, _, _, _, rfl, by first | exact K | exact K.drew⟩
theorem bword0 (x : Int) (w : World) : Calls Try.prog 17 #[.pointer none, .int .i64 x] w fun e w' => e = .returned (.tuple #[.int .u32 0, .bool false]) ∧ w = w' := by
  go_enter Try.func17, Try.ntmps17
  go_wp2
  go_ret2
  exact ⟨rfl, rfl⟩
theorem bstep0 (a : Option Addr) (n c : Nat) (w : World) : Calls Try.prog 18 #[.pointer none, .slice a n c] w fun e w' => e = .returned (.int .i64 0) ∧ w = w' := by
  go_enter Try.func18, Try.ntmps18
  go_wp2
  go_ret
  exact ⟨rfl, rfl⟩
theorem bmiss0 (w : World) : Calls Try.prog 19 #[.pointer none] w fun e w' => e = .returned (.slice none 0 0) ∧ w = w' := by
  go_enter Try.func19, Try.ntmps19
  go_wp2
  go_ret
  exact ⟨rfl, rfl⟩
theorem btick0 (w : World) : Calls Try.prog 20 #[.pointer none] w fun e w' => e = .returned (.int .i64 0) ∧ w = w' := by
  go_enter Try.func20, Try.ntmps20
  go_wp2
  go_ret
  exact ⟨rfl, rfl⟩
theorem btick {p q g tc n : Nat} {N P F : Nat → Int} {pa c : Int} {T : Nat → Int} (w : World) (h : Wr p q g tc n N P F pa c T w) : Calls Try.prog 20 #[.pointer (some ⟨p, 0, none⟩)] w fun e w' => e = .returned (.int .i64 c) ∧ w = w' := by
  have hh := h.h
  obtain ⟨c0, f0⟩ := hh.one 0 rfl
  obtain ⟨c1, f1⟩ := hh.one 1 rfl
  obtain ⟨c2, f2⟩ := hh.one 2 rfl
  obtain ⟨c3, f3⟩ := hh.one 3 rfl
  go_enter Try.func20, Try.ntmps20
  go_wp2
  go_ret
  exact ⟨rfl, rfl⟩
set_option maxRecDepth 100000 in
set_option maxHeartbeats 8000000 in
theorem bmissn {p q g tc n : Nat} {N P F : Nat → Int} {pa c : Int} {T : Nat → Int} (w : World) (h : Wr p q g tc n N P F pa c T w) (hn : n ≤ 32) (hp : 1 ≤ pa ∧ pa ≤ 10) (hc : 0 ≤ c ∧ c ≤ 1000000) (hS : ∀ i, i < n → srB (N i) (P i) (F i) = true) (hT : ∀ i, i < n → 0 ≤ T i ∧ T i ≤ c ∧ c - T i < pa * P i) : Calls Try.prog 19 #[.pointer (some ⟨p, 0, none⟩)] w fun e w' => e = .returned (.slice none 0 0) ∧ Below w.heap.size w w' := by
  have HH := Lib.hid (fun u (k : Below w.heap.size w u) => h.bel k)
  have hh := h.h
  obtain ⟨c0, f0⟩ := hh.one 0 rfl
  obtain ⟨c1, f1⟩ := hh.one 1 rfl
  obtain ⟨c2, f2⟩ := hh.one 2 rfl
  obtain ⟨c3, f3⟩ := hh.one 3 rfl
  have HS := Lib.hid hS
  have HT := Lib.hid hT
  clear h hh hS hT
  go_enter Try.func19, Try.ntmps19
  go_wp2_with fail
  go_loopw [3, 13] (fun y i v => ∃ k : Nat, k ≤ n ∧ y = .slice none 0 0 ∧ i = .int .i64 (k : Int) ∧ Hid (Below w.heap.size w v)) (fun _ i _ => n - (intOf i).toNat)
  case atStart => exact ⟨0, by omega, rfl, rfl, Lib.hid (Below.refl _ _)⟩
  case round =>
    clear c0 c1 c2 c3 f0 f1 f2 f3
    obtain ⟨k, hk, rfl, rfl, hb⟩ := hrel
    generalize wr = v at *
    by_cases hlt : k < n
    · have R := HH.out v hb.out
      obtain ⟨b, off, ea, hbb, k0, k1, k2⟩ := R.l.at hlt
      injection ea with ea
      injection ea with ea1 ea2
      subst ea1 ea2
      rw [Nat.zero_add] at k0 k1 k2
      have j1 : (k : Int) < (n : Int) := by omega
      have j2 : IntKind.i64.wrap ((k : Int) + 1) = (k : Int) + 1 := by rw [IntKind.wrap_i64]; omega
      have j3 : 0 ≤ (k : Int) := by omega
      have hs := of_decide_eq_true (HS.out k hlt)
      have ht := HT.out k hlt
      have m1 : 0 ≤ pa * P k ∧ pa * P k ≤ 10000 := by
        have e1 := Int.mul_le_mul_of_nonneg_right hp.2 (show 0 ≤ P k by omega)
        have e2 := Int.mul_nonneg (show 0 ≤ pa by omega) (show 0 ≤ P k by omega)
        omega
      have w1 : IntKind.i64.wrap (c - T k) = c - T k := by rw [IntKind.wrap_i64]; omega
      have w2 : IntKind.i64.wrap (pa * P k) = pa * P k := by rw [IntKind.wrap_i64]; omega
      have y : decide (pa * P k ≤ c - T k) = false := decide_eq_false (by omega)
      have y2 : ¬ pa * P k ≤ c - T k := by omega
      obtain ⟨V, eV, hbV, hzV, s0, s1, s2⟩ := sl_box v (N k) (P k) (F k)
      replace eV := Lib.hid eV
      obtain ⟨B, eB⟩ : ∃ B, v.heap.size = B := ⟨_, rfl⟩
      have RV := R.bel (by exact hbV)
      have hv := RV.h
      obtain ⟨d0, g0⟩ := hv.one 0 rfl
      obtain ⟨d1, g1⟩ := hv.one 1 rfl
      obtain ⟨d2, g2⟩ := hv.one 2 rfl
      obtain ⟨d3, g3⟩ := hv.one 3 rfl
      have tk := RV.t k hlt
      rw [eB] at hbV hzV s0 s1 s2
      have hbw := Lib.hid (show Below w.heap.size w V.drew from (hb.out.trans (hbV.mono (by have := hb.out.size; omega))).drew)
      clear hbb hbV hb RV hv R hs ht m1
      go_upto_region 7 with (fail)
      rw [← eV.out]
      try rw [eB]
      clear eB eV k0 k1 k2
      refine region_moves (fun u => (u.cell? ⟨p, 2, none⟩ = some (.int .i64 c) ∧ u.cell? ⟨p, 3, none⟩ = some (.slice (some ⟨q, 0, none⟩) n n)) ∧ (u.cell? ⟨q, k * 3 + 2, none⟩ = some (.int .i64 (T k)) ∧ u.cell? ⟨p, 1, none⟩ = some (.int .i64 pa)) ∧ u.cell? ⟨B, 1, none⟩ = some (.int .i64 (P k))) [] [(.free, 0), (.free, 1), (.free, 2), (.take, 3), (.free, 4), (.free, 5), (.free, 6), (.take, 7), (.free, 8), (.free, 9), (.free, 10), (.take, 11), (.free, 12), (.free, 13), (.free, 14), (.free, 15), (.take, 16), (.free, 17), (.take, 18), (.free, 19), (.free, 20)] _ (by kernel_rfl) (by kernel_rfl) (by kernel_rfl) (by kernel_rfl) (by decide) rfl (fun _ _ _ _ _ h => h) ?_
      simp only [List.filterMap_cons, List.filterMap_nil, List.getElem?_toArray, List.getElem?_cons_zero, List.getElem?_cons_succ, Option.map_some]
      iterate 3
        first
          | (refine mv_free ?_ (Or.inl ⟨by rfl, ?_⟩) (⟨⟨d2, d3⟩, ⟨tk, d1⟩, s1⟩) ?_
             rotate_left 1
             · intro u
               go_simp
               try simp only [d1]
               try simp only [d2]
               try simp only [d3]
               try simp only [d1]
               try simp only [d2]
               try simp only [d3]
               try with_reducible rfl
             simp only [Act.put, List.setIfInBounds_toArray, List.set_cons_zero, List.set_cons_succ])
          | (refine mv_free _ (Or.inr ⟨by rfl, rfl⟩) (⟨⟨d2, d3⟩, ⟨tk, d1⟩, s1⟩) ?_
             simp only [Act.put, List.setIfInBounds_toArray, List.set_cons_zero, List.set_cons_succ])
      iterate 1
        first
          | (refine mv_take ?_ (Or.inl ⟨by rfl, ?_⟩) (⟨⟨d2, d3⟩, ⟨tk, d1⟩, s1⟩) ?_
             rotate_left 1
             · intro u hu
               (try dsimp only at hu)
               go_simp
               try with_reducible rfl
             simp only [Act.put, List.setIfInBounds_toArray, List.set_cons_zero, List.set_cons_succ])
          | (refine mv_take _ (Or.inr ⟨by rfl, rfl⟩) (⟨⟨d2, d3⟩, ⟨tk, d1⟩, s1⟩) ?_
             simp only [Act.put, List.setIfInBounds_toArray, List.set_cons_zero, List.set_cons_succ])
      iterate 3
        first
          | (refine mv_free ?_ (Or.inl ⟨by rfl, ?_⟩) (⟨⟨d2, d3⟩, ⟨tk, d1⟩, s1⟩) ?_
             rotate_left 1
             · intro u
               go_simp
               try simp only [d1]
               try simp only [d2]
               try simp only [d3]
               try simp only [d1]
               try simp only [d2]
               try simp only [d3]
               try with_reducible rfl
             simp only [Act.put, List.setIfInBounds_toArray, List.set_cons_zero, List.set_cons_succ])
          | (refine mv_free _ (Or.inr ⟨by rfl, rfl⟩) (⟨⟨d2, d3⟩, ⟨tk, d1⟩, s1⟩) ?_
             simp only [Act.put, List.setIfInBounds_toArray, List.set_cons_zero, List.set_cons_succ])
      iterate 1
        first
          | (refine mv_take ?_ (Or.inl ⟨by rfl, ?_⟩) (⟨⟨d2, d3⟩, ⟨tk, d1⟩, s1⟩) ?_
             rotate_left 1
             · intro u hu
               (try dsimp only at hu)
               go_simp
               try with_reducible rfl
             simp only [Act.put, List.setIfInBounds_toArray, List.set_cons_zero, List.set_cons_succ])
          | (refine mv_take _ (Or.inr ⟨by rfl, rfl⟩) (⟨⟨d2, d3⟩, ⟨tk, d1⟩, s1⟩) ?_
             simp only [Act.put, List.setIfInBounds_toArray, List.set_cons_zero, List.set_cons_succ])
      iterate 3
        first
          | (refine mv_free ?_ (Or.inl ⟨by rfl, ?_⟩) (⟨⟨d2, d3⟩, ⟨tk, d1⟩, s1⟩) ?_
             rotate_left 1
             · intro u
               go_simp
               try simp only [d1]
               try simp only [d2]
               try simp only [d3]
               try simp only [d1]
               try simp only [d2]
               try simp only [d3]
               try with_reducible rfl
             simp only [Act.put, List.setIfInBounds_toArray, List.set_cons_zero, List.set_cons_succ])
          | (refine mv_free _ (Or.inr ⟨by rfl, rfl⟩) (⟨⟨d2, d3⟩, ⟨tk, d1⟩, s1⟩) ?_
             simp only [Act.put, List.setIfInBounds_toArray, List.set_cons_zero, List.set_cons_succ])
      iterate 1
        first
          | (refine mv_take ?_ (Or.inl ⟨by rfl, ?_⟩) (⟨⟨d2, d3⟩, ⟨tk, d1⟩, s1⟩) ?_
             rotate_left 1
             · intro u hu
               (try dsimp only at hu)
               go_simp
               try with_reducible rfl
             simp only [Act.put, List.setIfInBounds_toArray, List.set_cons_zero, List.set_cons_succ])
          | (refine mv_take _ (Or.inr ⟨by rfl, rfl⟩) (⟨⟨d2, d3⟩, ⟨tk, d1⟩, s1⟩) ?_
             simp only [Act.put, List.setIfInBounds_toArray, List.set_cons_zero, List.set_cons_succ])
      iterate 4
        first
          | (refine mv_free ?_ (Or.inl ⟨by rfl, ?_⟩) (⟨⟨d2, d3⟩, ⟨tk, d1⟩, s1⟩) ?_
             rotate_left 1
             · intro u
               go_simp
               try simp only [d1]
               try simp only [d2]
               try simp only [d3]
               try simp only [d1]
               try simp only [d2]
               try simp only [d3]
               try with_reducible rfl
             simp only [Act.put, List.setIfInBounds_toArray, List.set_cons_zero, List.set_cons_succ])
          | (refine mv_free _ (Or.inr ⟨by rfl, rfl⟩) (⟨⟨d2, d3⟩, ⟨tk, d1⟩, s1⟩) ?_
             simp only [Act.put, List.setIfInBounds_toArray, List.set_cons_zero, List.set_cons_succ])
      iterate 1
        first
          | (refine mv_take ?_ (Or.inl ⟨by rfl, ?_⟩) (⟨⟨d2, d3⟩, ⟨tk, d1⟩, s1⟩) ?_
             rotate_left 1
             · intro u hu
               (try dsimp only at hu)
               go_simp
               try with_reducible rfl
             simp only [Act.put, List.setIfInBounds_toArray, List.set_cons_zero, List.set_cons_succ])
          | (refine mv_take _ (Or.inr ⟨by rfl, rfl⟩) (⟨⟨d2, d3⟩, ⟨tk, d1⟩, s1⟩) ?_
             simp only [Act.put, List.setIfInBounds_toArray, List.set_cons_zero, List.set_cons_succ])
      iterate 1
        first
          | (refine mv_free ?_ (Or.inl ⟨by rfl, ?_⟩) (⟨⟨d2, d3⟩, ⟨tk, d1⟩, s1⟩) ?_
             rotate_left 1
             · intro u
               go_simp
               try simp only [d1]
               try simp only [d2]
               try simp only [d3]
               try simp only [d1]
               try simp only [d2]
               try simp only [d3]
               try with_reducible rfl
             simp only [Act.put, List.setIfInBounds_toArray, List.set_cons_zero, List.set_cons_succ])
          | (refine mv_free _ (Or.inr ⟨by rfl, rfl⟩) (⟨⟨d2, d3⟩, ⟨tk, d1⟩, s1⟩) ?_
             simp only [Act.put, List.setIfInBounds_toArray, List.set_cons_zero, List.set_cons_succ])
      iterate 1
        first
          | (refine mv_take ?_ (Or.inl ⟨by rfl, ?_⟩) (⟨⟨d2, d3⟩, ⟨tk, d1⟩, s1⟩) ?_
             rotate_left 1
             · intro u hu
               (try dsimp only at hu)
               go_simp
               try with_reducible rfl
             simp only [Act.put, List.setIfInBounds_toArray, List.set_cons_zero, List.set_cons_succ])
          | (refine mv_take _ (Or.inr ⟨by rfl, rfl⟩) (⟨⟨d2, d3⟩, ⟨tk, d1⟩, s1⟩) ?_
             simp only [Act.put, List.setIfInBounds_toArray, List.set_cons_zero, List.set_cons_succ])
      iterate 2
        first
          | (refine mv_free ?_ (Or.inl ⟨by rfl, ?_⟩) (⟨⟨d2, d3⟩, ⟨tk, d1⟩, s1⟩) ?_
             rotate_left 1
             · intro u
               go_simp
               try simp only [d1]
               try simp only [d2]
               try simp only [d3]
               try simp only [d1]
               try simp only [d2]
               try simp only [d3]
               try with_reducible rfl
             simp only [Act.put, List.setIfInBounds_toArray, List.set_cons_zero, List.set_cons_succ])
          | (refine mv_free _ (Or.inr ⟨by rfl, rfl⟩) (⟨⟨d2, d3⟩, ⟨tk, d1⟩, s1⟩) ?_
             simp only [Act.put, List.setIfInBounds_toArray, List.set_cons_zero, List.set_cons_succ])
      refine mv_done ?_
      clear d0 d1 d2 d3 g0 g1 g2 g3 tk s0 s1 s2
      go_wp2
      go_roundw
      case rel => exact ⟨k + 1, by omega, rfl, by first | rfl | go_num, hbw⟩
      case measure => simp [intOf]; omega
    · obtain rfl : k = n := by omega
      have j1 : ¬ (k : Int) < (k : Int) := by omega
      go_wp2
      go_ret
      exact ⟨rfl, hb.out⟩
end Go.Proofs.Ytcpmdgbogdikiaa
