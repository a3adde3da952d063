/- Package mach: the table as a curve that is built point by point; walked. -/
import Derived.Test.YtecpmffmmiogfaaGreatMgWg
import Derived.Test.YtecpmffmmiogfaaGreatReg
import Derived.Deep.AppendLies
import Derived.Deep.Cut
namespace Go.Proofs.YtecpmffmmiogfaaGreat
open Go.ChangeShapes Go.WideShapes Go.ChangeAt Go.RowKit
set_option linter.unusedVariables false
set_option linter.unusedSimpArgs false

/-- The table. -/
def mpt : Nat → Int
  | 0 => 8929 | 1 => 11328 | 2 => 14075 | 3 => 17136 | 4 => 20492 | 5 => 24133 | 6 => 28050 | 7 => 32238 | 8 => 36695 | 9 => 41418 | 10 => 46404 | _ => 0
theorem mpt_bd (k : Nat) : 0 ≤ mpt k ∧ mpt k ≤ 46404 := by
  unfold mpt
  split <;> omega
def mX (k : Nat) : List Int := (List.range k).map fun i : Nat => 10000 + 1000 * (i : Int)
def mY (k : Nat) : List Int := (List.range k).map fun i => mpt i * 1073741824 / 10000
def vals (l : List Int) : List Value := l.map (Value.int .i64)
theorem mX_succ (k : Nat) : vals (mX (k + 1)) = vals (mX k) ++ [.int .i64 (10000 + 1000 * (k : Int))] := by simp [vals, mX, List.range_succ]
theorem mY_succ (k : Nat) : vals (mY (k + 1)) = vals (mY k) ++ [.int .i64 (mpt k * 1073741824 / 10000)] := by simp [vals, mY, List.range_succ]
theorem mX_len (k : Nat) : (mX k).length = k := by simp [mX]
theorem mY_len (k : Nat) : (mY k).length = k := by simp [mY]

theorem own_set {w : World} {B : Nat} {e : TypeId} {v : Value} {n : Nat} {xs : List Value} (h : w.ownsRow B e 1 v n xs) (p : Addr) (u : Value) (hp : p.block < B) : (w.setCell p u).ownsRow B e 1 v n xs :=
  h.kept (row := some p.block) ⟨rfl, rfl, rfl, Nat.le_of_eq (by simp), fun k _ hk => Below.heap_setCell w p u k (fun e => hk (by rw [e]))⟩ (by
    cases hv : v.ownBlock with
    | none => exact .inl rfl
    | some k => exact .inr (by have := (h.lt k hv).1; intro e; injection e with e; omega))

/-- What the building loop holds. -/
structure Sup (s kx ky : Nat) (vx vy : Value) (w v : World) : Prop where
  ox : v.ownsRow (s + 3) 2 1 vx kx (vals (mX kx))
  oy : v.ownsRow (s + 3) 2 1 vy ky (vals (mY ky))
  ne : vx.ownBlock = none ∨ vx.ownBlock ≠ vy.ownBlock
  c0 : v.cell? ⟨s + 2, 0, none⟩ = some vx
  c1 : v.cell? ⟨s + 2, 1, none⟩ = some vy
  f0 : v.frozen? ⟨s + 2, 0, none⟩ = false
  f1 : v.frozen? ⟨s + 2, 1, none⟩ = false
  r0 : v.cell? ⟨s, 0, none⟩ = some (.slice none 0 0)
  r1 : v.cell? ⟨s, 1, none⟩ = some (.slice none 0 0)
  g0 : v.frozen? ⟨s, 0, none⟩ = false
  g1 : v.frozen? ⟨s, 1, none⟩ = false
  bel : Below s w v
  sz : s + 3 ≤ v.heap.size

theorem Sup.stepX {s kx ky : Nat} {vx vy : Value} {w v v' : World} (h : Sup s kx ky vx vy w v) (o : Obj) {g cap : Nat} (ho : v'.ownsRow (s + 3) 2 1 (.slice (some ⟨g, 0, none⟩) (kx + 1) cap) (kx + 1) (vals (mX kx) ++ [.int .i64 (10000 + 1000 * (kx : Int))]))
    (hg : (v.alloc o).grownBy v' vx.ownBlock) (hb : vx.ownBlock = some g ∨ g = (v.alloc o).heap.size) : Sup s (kx + 1) ky (.slice (some ⟨g, 0, none⟩) (kx + 1) cap) vy w (v'.setCell ⟨s + 2, 0, none⟩ (.slice (some ⟨g, 0, none⟩) (kx + 1) cap)) := by
  have hsz : s + 3 ≤ (v.alloc o).heap.size := by simp; have := h.sz; omega
  have hlow : ∀ k, k < s + 3 → some k ≠ vx.ownBlock := fun k hk e => by have := (h.ox.lt k e.symm).1; omega
  have hba : Below (s + 3) v (v.alloc o) := (Below.refl _ _).alloc h.sz o
  have hbg : Below (s + 3) v v' := ⟨hg.os.trans hba.os, hg.tape.trans hba.tape, hg.output.trans hba.output, Nat.le_trans hba.size hg.size, fun k hk => (hg.block k (by omega) (hlow k hk)).trans (hba.block k hk)⟩
  have hoy : v'.ownsRow (s + 3) 2 1 vy ky (vals (mY ky)) := (h.oy.alloc o).kept hg (by
    rcases h.ne with e | e
    · by_cases hv : vy.ownBlock = none
      · exact .inl hv
      · exact .inr (by rw [e]; exact hv)
    · exact .inr (fun e' => e e'.symm))
  have cc : ∀ (b i : Nat) (u : Value), b < s + 3 → v.cell? ⟨b, i, none⟩ = some u → v'.cell? ⟨b, i, none⟩ = some u := fun b i u hb' hc => (hbg.cell (p := ⟨b, i, none⟩) hb').trans hc
  have ff : ∀ (b i : Nat), b < s + 3 → v.frozen? ⟨b, i, none⟩ = false → v'.frozen? ⟨b, i, none⟩ = false := fun b i hb' hc => (hbg.frozen (p := ⟨b, i, none⟩) hb').trans hc
  have d0 := cc _ _ _ (by omega) h.c0
  have oth : ∀ (b i : Nat) (u u' : Value), (b = s + 2 → i ≠ 0) → v'.cell? ⟨b, i, none⟩ = some u → (v'.setCell ⟨s + 2, 0, none⟩ u').cell? ⟨b, i, none⟩ = some u := fun b i u u' hn hc => by
    rw [World.cell?_setCell_other v' ⟨s + 2, 0, none⟩ ⟨b, i, none⟩ u' (fun he => by injection he with h1 h2 _; exact hn h1.symm h2.symm)]; exact hc
  refine ⟨own_set (by rw [mX_succ]; exact ho) _ _ (by show s + 2 < s + 3; omega), own_set hoy _ _ (by show s + 2 < s + 3; omega), ?_, World.cell?_setCell_same v' _ _ d0, oth _ _ _ _ (by intro; omega) (cc _ _ _ (by omega) h.c1), by have := ff _ _ (by omega) h.f0; simpa using this, by have := ff _ _ (by omega) h.f1; simpa using this,
    oth _ _ _ _ (by intro; omega) (cc _ _ _ (by omega) h.r0), oth _ _ _ _ (by intro; omega) (cc _ _ _ (by omega) h.r1), by have := ff _ _ (by omega) h.g0; simpa using this, by have := ff _ _ (by omega) h.g1; simpa using this, ?_, by simp; have := hg.size; omega⟩
  · refine .inr (fun e => ?_)
    have e' : vy.ownBlock = some g := e.symm
    rcases hb with hb | hb
    · rcases h.ne with hn | hn
      · rw [hb] at hn; cases hn
      · exact hn (by rw [hb, e'])
    · have := (h.oy.lt g e').2
      simp at hb; omega
  · exact (h.bel.trans (hbg.mono (by omega))).setCell (p := ⟨s + 2, 0, none⟩) (by show s ≤ s + 2; omega) _

theorem Sup.stepY {s kx ky : Nat} {vx vy : Value} {w v v' : World} (h : Sup s kx ky vx vy w v) (o : Obj) {g cap : Nat} (ho : v'.ownsRow (s + 3) 2 1 (.slice (some ⟨g, 0, none⟩) (ky + 1) cap) (ky + 1) (vals (mY ky) ++ [.int .i64 (mpt ky * 1073741824 / 10000)]))
    (hg : (v.alloc o).grownBy v' vy.ownBlock) (hb : vy.ownBlock = some g ∨ g = (v.alloc o).heap.size) : Sup s kx (ky + 1) vx (.slice (some ⟨g, 0, none⟩) (ky + 1) cap) w (v'.setCell ⟨s + 2, 1, none⟩ (.slice (some ⟨g, 0, none⟩) (ky + 1) cap)) := by
  have hsz : s + 3 ≤ (v.alloc o).heap.size := by simp; have := h.sz; omega
  have hlow : ∀ k, k < s + 3 → some k ≠ vy.ownBlock := fun k hk e => by have := (h.oy.lt k e.symm).1; omega
  have hba : Below (s + 3) v (v.alloc o) := (Below.refl _ _).alloc h.sz o
  have hbg : Below (s + 3) v v' := ⟨hg.os.trans hba.os, hg.tape.trans hba.tape, hg.output.trans hba.output, Nat.le_trans hba.size hg.size, fun k hk => (hg.block k (by omega) (hlow k hk)).trans (hba.block k hk)⟩
  have hox : v'.ownsRow (s + 3) 2 1 vx kx (vals (mX kx)) := (h.ox.alloc o).kept hg h.ne
  have cc : ∀ (b i : Nat) (u : Value), b < s + 3 → v.cell? ⟨b, i, none⟩ = some u → v'.cell? ⟨b, i, none⟩ = some u := fun b i u hb' hc => (hbg.cell (p := ⟨b, i, none⟩) hb').trans hc
  have ff : ∀ (b i : Nat), b < s + 3 → v.frozen? ⟨b, i, none⟩ = false → v'.frozen? ⟨b, i, none⟩ = false := fun b i hb' hc => (hbg.frozen (p := ⟨b, i, none⟩) hb').trans hc
  have d1 := cc _ _ _ (by omega) h.c1
  have oth : ∀ (b i : Nat) (u u' : Value), (b = s + 2 → i ≠ 1) → v'.cell? ⟨b, i, none⟩ = some u → (v'.setCell ⟨s + 2, 1, none⟩ u').cell? ⟨b, i, none⟩ = some u := fun b i u u' hn hc => by
    rw [World.cell?_setCell_other v' ⟨s + 2, 1, none⟩ ⟨b, i, none⟩ u' (fun he => by injection he with h1 h2 _; exact hn h1.symm h2.symm)]; exact hc
  refine ⟨own_set hox _ _ (by show s + 2 < s + 3; omega), own_set (by rw [mY_succ]; exact ho) _ _ (by show s + 2 < s + 3; omega), ?_, oth _ _ _ _ (by intro; omega) (cc _ _ _ (by omega) h.c0), World.cell?_setCell_same v' _ _ d1, by have := ff _ _ (by omega) h.f0; simpa using this, by have := ff _ _ (by omega) h.f1; simpa using this,
    oth _ _ _ _ (by intro; omega) (cc _ _ _ (by omega) h.r0), oth _ _ _ _ (by intro; omega) (cc _ _ _ (by omega) h.r1), by have := ff _ _ (by omega) h.g0; simpa using this, by have := ff _ _ (by omega) h.g1; simpa using this, ?_, by simp; have := hg.size; omega⟩
  · by_cases hx : vx.ownBlock = none
    · exact .inl hx
    · refine .inr (fun e => ?_)
      have e' : vx.ownBlock = some g := e
      rcases hb with hb | hb
      · rcases h.ne with hn | hn
        · exact hx hn
        · exact hn (by rw [hb, e'])
      · have := (h.ox.lt g e').2
        simp at hb; omega
  · exact (h.bel.trans (hbg.mono (by omega))).setCell (p := ⟨s + 2, 1, none⟩) (by show s ≤ s + 2; omega) _
theorem Sup.lowX {s kx ky : Nat} {vx vy : Value} {w v v' : World} (h : Sup s kx ky vx vy w v) (o : Obj) (hg : (v.alloc o).grownBy v' vx.ownBlock) : v'.cell? ⟨s + 2, 0, none⟩ = some vx ∧ v'.frozen? ⟨s + 2, 0, none⟩ = false := by
  have hlow : ∀ k, k < s + 3 → some k ≠ vx.ownBlock := fun k hk e => by have := (h.ox.lt k e.symm).1; omega
  have hba : Below (s + 3) v (v.alloc o) := (Below.refl _ _).alloc h.sz o
  have hs := h.sz
  have hbg : Below (s + 3) v v' := ⟨hg.os.trans hba.os, hg.tape.trans hba.tape, hg.output.trans hba.output, Nat.le_trans hba.size hg.size, fun k hk => (hg.block k (by simp; omega) (hlow k hk)).trans (hba.block k hk)⟩
  exact ⟨(hbg.cell (p := ⟨s + 2, 0, none⟩) (by show s + 2 < s + 3; omega)).trans h.c0, (hbg.frozen (p := ⟨s + 2, 0, none⟩) (by show s + 2 < s + 3; omega)).trans h.f0⟩
theorem Sup.lowY {s kx ky : Nat} {vx vy : Value} {w v v' : World} (h : Sup s kx ky vx vy w v) (o : Obj) (hg : (v.alloc o).grownBy v' vy.ownBlock) : v'.cell? ⟨s + 2, 1, none⟩ = some vy ∧ v'.frozen? ⟨s + 2, 1, none⟩ = false := by
  have hlow : ∀ k, k < s + 3 → some k ≠ vy.ownBlock := fun k hk e => by have := (h.oy.lt k e.symm).1; omega
  have hba : Below (s + 3) v (v.alloc o) := (Below.refl _ _).alloc h.sz o
  have hs := h.sz
  have hbg : Below (s + 3) v v' := ⟨hg.os.trans hba.os, hg.tape.trans hba.tape, hg.output.trans hba.output, Nat.le_trans hba.size hg.size, fun k hk => (hg.block k (by simp; omega) (hlow k hk)).trans (hba.block k hk)⟩
  exact ⟨(hbg.cell (p := ⟨s + 2, 1, none⟩) (by show s + 2 < s + 3; omega)).trans h.c1, (hbg.frozen (p := ⟨s + 2, 1, none⟩) (by show s + 2 < s + 3; omega)).trans h.f1⟩
theorem one_int (k : IntKind) (n : Int) : ∀ u ∈ [Value.int k n], u.oneCell' = true := fun u hu => by simp at hu; subst hu; rfl
theorem tab_at (k : Nat) (hk : k < 11) : ∀ u, (Instr.index 154 (.agg #[.int .i64 8929, .int .i64 11328, .int .i64 14075, .int .i64 17136, .int .i64 20492, .int .i64 24133, .int .i64 28050, .int .i64 32238, .int .i64 36695, .int .i64 41418, .int .i64 46404]) (.int .i64 (k : Nat))).run Tryz.prog u = .ok (.int .i64 (mpt k)) u := by
  intro u
  rcases k with _ | _ | _ | _ | _ | _ | _ | _ | _ | _ | _ | k
  all_goals first | omega | kernel_rfl
theorem info_i64 : (Tryz.prog.info? 2).map (fun i => (i.zero, i.size, i.bytes)) = some (some (.int .i64 0), 1, 8) := by kernel_rfl

theorem new_one (w : World) (v : Value) (t : TypeId) : ∀ j u, [v][j]? = some u → (w.alloc (.cells #[v] t)).cell? ((⟨w.heap.size, 0, none⟩ : Addr).add j) = some u := by
  intro j u hu
  rcases j with _ | j
  · simp at hu
    subst hu
    rw [show (⟨w.heap.size, 0, none⟩ : Addr).add 0 = ⟨w.heap.size, 0, none⟩ by simp [Addr.add]]
    go_simp
  · simp at hu
/-- A curve that was built: two rows that lie behind what there was. -/
def Built (X Y : List Int) (w : World) (e : Ending) (w' : World) : Prop := ∃ (ax ay : Option Addr) (cx cy : Nat), e = .returned (.agg #[.slice ax X.length cx, .slice ay Y.length cy]) ∧ RowIs .i64 w' ax X ∧ RowIs .i64 w' ay Y ∧ Below w.heap.size w w'
theorem own_row {w : World} {B n : Nat} {v : Value} {l : List Int} (hn : 0 < n) (hl : l.length = n) (h : w.ownsRow B 2 1 v n (vals l)) : ∃ g cap, v = .slice (some ⟨g, 0, none⟩) n cap ∧ RowIs .i64 w (some ⟨g, 0, none⟩) l := by
  rcases h.2 with ⟨_, e⟩ | ⟨g, cap, cur, e, hb, hg, hle, hm, hs, ht⟩
  · omega
  · refine ⟨g, cap, e, .inr ⟨g, 0, rfl, (Array.getElem?_eq_some_iff.1 hg).1, fun i hi => ?_⟩⟩
    have h1 := h.cells (g := g) (by rw [e]; rfl) i (.int .i64 (l.getD i 0)) (by simp [vals, hi])
    rwa [show (⟨g, 0, none⟩ : Addr).add i = ⟨g, 0 + i, none⟩ by unfold Addr.add; split <;> simp_all] at h1

set_option maxRecDepth 100000 in
set_option maxHeartbeats 8000000 in
theorem msup_any (w : World) : Calls Tryz.prog 115 #[] w (Built (mX 11) (mY 11) w) := by
  obtain ⟨i0, hi, hz0, hz1, hz2⟩ := info_parts info_i64
  have TA := Lib.hid tab_at
  replace hi := Lib.hid hi
  replace hz0 := Lib.hid hz0
  replace hz1 := Lib.hid hz1
  replace hz2 := Lib.hid hz2
  go_enter Tryz.func115, Tryz.ntmps115
  go_wp2
  go_loopw [7] (fun i v => ∃ (k : Nat) (vx vy : Value), k ≤ 11 ∧ i = .int .i64 k ∧ Sup w.heap.size k k vx vy w v) (fun i _ => 11 - (intOf i).toNat)
  case atStart => exact ⟨0, .slice none 0 0, .slice none 0 0, by omega, rfl, World.ownsRow_nil _ _ _ _, World.ownsRow_nil _ _ _ _, .inl rfl, by go_simp, by go_simp, by first | (simp; done) | go_simp, by first | (simp; done) | go_simp, by go_simp, by go_simp, by first | (simp; done) | go_simp, by first | (simp; done) | go_simp, (by repeat (first | exact Below.refl _ _ | assumption | apply Below.drew | apply below_drewN | (refine Below.alloc ?_ (by first | exact Nat.le_refl _ | omega | (simp <;> omega)) _) | (refine Below.setCell ?_ (by first | exact Nat.le_refl _ | omega | (simp <;> omega)) _))), by simp⟩
  case round =>
    obtain ⟨k, vx, vy, hk, rfl, hS⟩ := hrel
    by_cases hlt : k < 11
    · have ta := TA.out k hlt
      have mb := mpt_bd k
      obtain ⟨m, hm⟩ : ∃ m, m = mpt k := ⟨_, rfl⟩
      rw [← hm] at ta mb
      replace hm := Lib.hid hm
      have c0 := hS.c0
      have f0 := hS.f0
      go_upto_region 7 with (first | (at_builtin; refine wpList_append_lies _ rfl (.tmp 12) (.tmp 16) _ rfl (w.heap.size + 3) 2 i0 (.int .i64 0) 1 8 Tryz.underlying37 hi.out hz0.out hz1.out hz2.out rfl (by decide) vx k (vals (mX k)) rfl (hS.ox.alloc _) ⟨_, 0, none⟩ 1 1 [.int .i64 (10000 + 1000 * (k : Int))] rfl rfl (new_one _ _ _) (one_int _ _) (by decide) (by unfold maxLen; omega) (by omega) (by simp; have := hS.sz; omega) _ rfl ?_; intro g cap w1 ho hg hb hlt1; obtain ⟨d0, e0⟩ := hS.lowX _ hg; clear hlt1; replace ho := Lib.hid ho; replace hg := Lib.hid hg; replace hb := Lib.hid hb))
      have hS1 := hS.stepX _ ho.out hg.out hb.out
      clear c0 f0 d0 e0 ho hg hb hS
      change Code.wp _ _ _ _ (w1.setCell ⟨w.heap.size + 2, 0, none⟩ (.slice (some ⟨g, 0, none⟩) (k + 1) cap))
      generalize w1.setCell ⟨w.heap.size + 2, 0, none⟩ (.slice (some ⟨g, 0, none⟩) (k + 1) cap) = v1 at *
      generalize (.slice (some ⟨g, 0, none⟩) (k + 1) cap : Value) = vx1 at *
      have hS := hS1
      clear hS1
      have c1 := hS.c1
      have f1 := hS.f1
      go_upto_region 8 with (first | (at_builtin; refine wpList_append_lies _ rfl (.tmp 20) (.tmp 24) _ rfl (w.heap.size + 3) 2 i0 (.int .i64 0) 1 8 Tryz.underlying37 hi.out hz0.out hz1.out hz2.out rfl (by decide) vy k (vals (mY k)) rfl (hS.oy.alloc _) ⟨_, 0, none⟩ 1 1 [.int .i64 (m * 1073741824 / 10000)] rfl rfl (new_one _ _ _) (one_int _ _) (by decide) (by unfold maxLen; omega) (by omega) (by simp; have := hS.sz; omega) _ rfl ?_; intro g cap w1 ho hg hb hlt1; obtain ⟨d0, e0⟩ := hS.lowY _ hg; clear hlt1; replace ho := Lib.hid ho; replace hg := Lib.hid hg; replace hb := Lib.hid hb))
      have hS1 := hS.stepY _ (by have := ho.out; rw [hm.out] at this; exact this) hg.out hb.out
      clear c1 f1 d0 e0 ho hg hb hS
      change Code.wp _ _ _ _ (w1.setCell ⟨w.heap.size + 2, 1, none⟩ (.slice (some ⟨g, 0, none⟩) (k + 1) cap))
      generalize w1.setCell ⟨w.heap.size + 2, 1, none⟩ (.slice (some ⟨g, 0, none⟩) (k + 1) cap) = v2 at *
      generalize (.slice (some ⟨g, 0, none⟩) (k + 1) cap : Value) = vy1 at *
      go_wp2
      go_roundw
      case rel => exact ⟨k + 1, vx1, vy1, by omega, by go_num, hS1⟩
      case measure => simp [intOf]; omega
    · obtain rfl : k = 11 := by omega
      have hx2 := own_set (own_set hS.ox ⟨w.heap.size, 0, none⟩ vx (by show w.heap.size < w.heap.size + 3; omega)) ⟨w.heap.size, 1, none⟩ vy (by show w.heap.size < w.heap.size + 3; omega)
      have hy2 := own_set (own_set hS.oy ⟨w.heap.size, 0, none⟩ vx (by show w.heap.size < w.heap.size + 3; omega)) ⟨w.heap.size, 1, none⟩ vy (by show w.heap.size < w.heap.size + 3; omega)
      have hbel := (hS.bel.setCell (p := ⟨w.heap.size, 0, none⟩) (Nat.le_refl _) vx).setCell (p := ⟨w.heap.size, 1, none⟩) (Nat.le_refl _) vy
      have q1 := World.cell?_setCell_same (wr.setCell ⟨w.heap.size, 0, none⟩ vx) ⟨w.heap.size, 1, none⟩ vy (show _ = some (Value.slice none 0 0) from by rw [World.cell?_setCell_other _ _ _ _ (by simp)]; exact hS.r1)
      have q0 : ((wr.setCell ⟨w.heap.size, 0, none⟩ vx).setCell ⟨w.heap.size, 1, none⟩ vy).cell? ⟨w.heap.size, 0, none⟩ = some vx := by rw [World.cell?_setCell_other _ _ _ _ (by simp)]; exact World.cell?_setCell_same _ _ _ hS.r0
      obtain ⟨gx, cx, ex, rx⟩ := own_row (by omega) (mX_len 11) hx2
      obtain ⟨gy, cy, ey, ry⟩ := own_row (by omega) (mY_len 11) hy2
      have c0 := hS.c0
      have c1 := hS.c1
      have r0 := hS.r0
      have r1 := hS.r1
      have g0 := hS.g0
      have g1 := hS.g1
      replace rx := Lib.hid rx
      replace ry := Lib.hid ry
      replace q0 := Lib.hid q0
      replace q1 := Lib.hid q1
      clear hx2 hy2
      subst ex ey
      go_wp2
      change bodyPost _ _ _ _ _ ((wr.setCell ⟨w.heap.size, 0, none⟩ (.slice (some ⟨gx, 0, none⟩) 11 cx)).setCell ⟨w.heap.size, 1, none⟩ (.slice (some ⟨gy, 0, none⟩) 11 cy))
      generalize (wr.setCell ⟨w.heap.size, 0, none⟩ (.slice (some ⟨gx, 0, none⟩) 11 cx)).setCell ⟨w.heap.size, 1, none⟩ (.slice (some ⟨gy, 0, none⟩) 11 cy) = wz at *
      refine bodyPost_ret (v := .agg #[.slice (some ⟨gx, 0, none⟩) 11 cx, .slice (some ⟨gy, 0, none⟩) 11 cy]) (by simp [results, Tryz.results115, go_sem, q0.out, q1.out]) rfl ?_
      exact ⟨_, _, cx, cy, rfl, rx.out, ry.out, hbel⟩
end Go.Proofs.YtecpmffmmiogfaaGreat
