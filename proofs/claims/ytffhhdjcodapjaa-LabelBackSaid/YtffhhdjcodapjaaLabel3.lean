/- Package label: Words; walked. -/
import Derived.Test.YtffhhdjcodapjaaLabel2
import Derived.Test.YtffhhdjcodapjaaReg
import Derived.Deep.OwnRows
import Derived.Deep.Cut
import Derived.Deep.CutRange
namespace Go.Proofs.Ytffhhdjcodapjaa
open Go.ChangeShapes Go.WideShapes Go.ChangeAt Go.RowKit
set_option linter.unusedVariables false
set_option linter.unusedSimpArgs false
/-- What is put of a label's number, and whether it is clipped. -/
def lPw (NU BI SC : Nat → Int) (SG : Nat → Bool) (VL SL : List Int) (i : Nat) : Int := parW (wV (NU i) 0 (tW (SG i) (BI i) (SC i) (VL.getD i 0) % 524288) (SL.getD i 0))
def lPc (BI SC : Nat → Int) (SG : Nat → Bool) (VL : List Int) (i : Nat) : Bool := qN (SG i) (BI i) (SC i) (VL.getD i 0) != qX (VL.getD i 0) (SC i)
theorem mk_u32 (n : Nat) (hn : n ≤ 1000000) (w : World) : (Instr.makeSlice 53 (.int .i64 (n : Int)) (.int .i64 (n : Int))).run Try.prog w = .ok (.slice (some ⟨w.heap.size, 0, none⟩) n n) (w.alloc (.cells (madeCells #[.int .u32 0] n) 78)) :=
  run_make_row' 53 78 (.int .u32 0) 4 Try.underlying53 (by kernel_rfl) rfl .i64 .i64 n (by omega) (by omega) w
theorem mk_bool (n : Nat) (hn : n ≤ 1000000) (w : World) : (Instr.makeSlice 54 (.int .i64 (n : Int)) (.int .i64 (n : Int))).run Try.prog w = .ok (.slice (some ⟨w.heap.size, 0, none⟩) n n) (w.alloc (.cells (madeCells #[.bool false] n) 4)) :=
  run_make_row' 54 4 (.bool false) 1 Try.underlying54 (by kernel_rfl) rfl .i64 .i64 n (by omega) (by omega) w
theorem RowIs.cellAt {k : IntKind} {w : World} {b off : Nat} {l : List Int} (h : RowIs k w (some ⟨b, off, none⟩) l) {i : Nat} (hi : i < l.length) : w.cell? ⟨b, off + i, none⟩ = some (.int k (l.getD i 0)) := by
  obtain ⟨b', off', e, -, hc⟩ := h.at hi
  injection e with e
  injection e with e1 e2
  subst e1 e2
  exact hc
/-- The first k told, then d. -/
def upF (f : Nat → Value) (d : Value) (k : Nat) : Nat → Value := fun i => if i < k then f i else d
theorem upF_step (f : Nat → Value) (d : Value) (k i : Nat) : (if i = k then f k else upF f d k i) = upF f d (k + 1) i := by
  unfold upF
  by_cases e : i = k
  · subst e
    rw [if_pos rfl, if_pos (by omega)]
  · rw [if_neg e]
    by_cases g : i < k
    · rw [if_pos g, if_pos (by omega)]
    · rw [if_neg g, if_neg (by omega)]
theorem upF_all (f : Nat → Value) (d : Value) (k i : Nat) (h : i < k) : upF f d k i = f i := if_pos h
/-- Two new rows. -/
structure LbW (g1 g2 n : Nat) (t1 t2 : TypeId) (F1 F2 : Nat → Value) (w u : World) : Prop where
  r1 : u.rowIs g1 t1 n F1
  r2 : u.rowIs g2 t2 n F2
  ne : g1 ≠ g2
  h1 : w.heap.size ≤ g1
  h2 : w.heap.size ≤ g2
  bel : Below w.heap.size w u
theorem rowIs_bel {u u' : World} {b : Nat} {t : TypeId} {n : Nat} {f : Nat → Value} (h : u.rowIs b t n f) (k : Below u.heap.size u u') : u'.rowIs b t n f := h.of_block (k.block b h.lt)
theorem LbW.next {g1 g2 n : Nat} {t1 t2 : TypeId} {F1 F2 : Nat → Value} {w u u' : World} (h : LbW g1 g2 n t1 t2 F1 F2 w u) (k : Below u.heap.size u u') : LbW g1 g2 n t1 t2 F1 F2 w u' :=
  ⟨rowIs_bel h.r1 k, rowIs_bel h.r2 k, h.ne, h.h1, h.h2, h.bel.trans (k.mono h.bel.size)⟩
theorem LbW.put {g1 g2 n : Nat} {t1 t2 : TypeId} {F1 F2 G1 G2 : Nat → Value} {w u : World} (h : LbW g1 g2 n t1 t2 F1 F2 w u) (k : Nat) (x y : Value) (e1 : ∀ i, i < n → (if i = k then x else F1 i) = G1 i) (e2 : ∀ i, i < n → (if i = k then y else F2 i) = G2 i) :
    LbW g1 g2 n t1 t2 G1 G2 w ((u.setCell ⟨g1, k, none⟩ x).setCell ⟨g2, k, none⟩ y) :=
  ⟨((h.r1.set k x).setOther (a := ⟨g2, k, none⟩) h.ne y).congr e1, ((h.r2.setOther (a := ⟨g1, k, none⟩) (Ne.symm h.ne) x).set k y).congr e2, h.ne, h.h1, h.h2, (h.bel.setCell (p := ⟨g1, k, none⟩) h.h1 x).setCell (p := ⟨g2, k, none⟩) h.h2 y⟩
theorem made_two (w1 : World) (n : Nat) (t1 t2 : TypeId) (z1 z2 : Value) : ((w1.alloc (.cells (madeCells #[z1] n) t1)).alloc (.cells (madeCells #[z2] n) t2)).drew.rowIs w1.heap.size t1 n (fun _ => z1) ∧ ((w1.alloc (.cells (madeCells #[z1] n) t1)).alloc (.cells (madeCells #[z2] n) t2)).drew.rowIs (w1.heap.size + 1) t2 n (fun _ => z2) := by
  refine ⟨((World.rowIs_made w1 z1 n t1).alloc _).drew, ?_⟩
  have := (World.rowIs_made (w1.alloc (.cells (madeCells #[z1] n) t1)) z2 n t2).drew
  simpa using this
theorem LbW.made {w w1 : World} (hb : Below w.heap.size w w1) (n : Nat) (t1 t2 : TypeId) (z1 z2 : Value) : LbW w1.heap.size (w1.heap.size + 1) n t1 t2 (fun _ => z1) (fun _ => z2) w ((w1.alloc (.cells (madeCells #[z1] n) t1)).alloc (.cells (madeCells #[z2] n) t2)).drew :=
  ⟨(made_two w1 n t1 t2 z1 z2).1, (made_two w1 n t1 t2 z1 z2).2, by omega, hb.size, by have := hb.size; omega, ((hb.alloc hb.size _).alloc (by have := hb.size; simp; omega) _).drew⟩
theorem LbW.made2 {w w1 : World} (hb : Below w.heap.size w w1) (n : Nat) (t1 t2 : TypeId) (z1 z2 : Value) : LbW (w1.heap.size + 1) w1.heap.size n t1 t2 (fun _ => z1) (fun _ => z2) w ((w1.alloc (.cells (madeCells #[z2] n) t2)).alloc (.cells (madeCells #[z1] n) t1)).drew :=
  ⟨(made_two w1 n t2 t1 z2 z1).2, (made_two w1 n t2 t1 z2 z1).1, by omega, by have := hb.size; omega, hb.size, ((hb.alloc hb.size _).alloc (by have := hb.size; simp; omega) _).drew⟩
set_option maxRecDepth 100000 in
set_option maxHeartbeats 8000000 in
theorem lbwords_any (a : Option Addr) (cap n : Nat) (NU BI SC : Nat → Int) (SG : Nat → Bool) (av sa : Option Addr) (cv cs : Nat) (VL SL : List Int) (w : World) (h : Labs w a n NU BI SC SG) (hl : n ≤ maxLen) (hc : n ≤ cap)
    (hB : labB n NU BI SC = true) (hv : RowIs .i64 w av VL) (hs : RowIs .i64 w sa SL) (lv : VL.length = n) (ls : SL.length = n) :
    Calls Try.prog 24 #[.slice a n cap, .slice av VL.length cv, .slice sa SL.length cs] w fun e w' => (∃ g1 g2, e = .returned (.tuple #[.slice (some ⟨g1, 0, none⟩) n n, .slice (some ⟨g2, 0, none⟩) n n, .int .i64 0]) ∧ LbW g1 g2 n 78 4 (fun i => .int .u32 (lPw NU BI SC SG VL SL i)) (fun i => .bool (lPc BI SC SG VL i)) w w' ∧ ∀ i, i < n → 0 ≤ SL.getD i 0 ∧ SL.getD i 0 ≤ 3) ∨ (e = .returned (.tuple #[.slice none 0 0, .slice none 0 0, .int .i64 2]) ∧ Below w.heap.size w w') := by
  have RT := fun u (k : Below w.heap.size w u) => lbright a cap n NU BI SC SG u (h.below k) hl hc
  rw [hB] at RT
  replace RT := Lib.hid RT
  obtain ⟨n1, n2, nB⟩ := labB_ok hB
  clear hB
  have HL := Lib.hid h
  have HV := Lib.hid hv
  have HS := Lib.hid hs
  clear h hv hs
  rw [lv, ls]
  have mk1 := fun u => mk_u32 n (by omega) u
  have mk2 := fun u => mk_bool n (by omega) u
  go_enter Try.func24, Try.ntmps24
  go_wp2_with (go_at_call 51; refine (RT.out _ (Below.refl _ _)).mono ?_; rintro e w1 ⟨rfl, hb1⟩)
  go_upto_region 5 with (fail)
  go_cut [9, 10] from 15 (fun s9 s10 u => ∃ g1 g2, s9 = .slice (some ⟨g1, 0, none⟩) n n ∧ s10 = .slice (some ⟨g2, 0, none⟩) n n ∧ Hid (LbW g1 g2 n 78 4 (fun _ => .int .u32 0) (fun _ => .bool false) w u))
  case first =>
    go_region
    all_goals
      go_wp2_with fail
      go_meet
    case rel => exact ⟨_, _, rfl, rfl, Lib.hid (LbW.made hb1 n _ _ _ _)⟩
    case rel => exact ⟨_, _, rfl, rfl, Lib.hid (LbW.made2 hb1 n _ _ _ _)⟩
  case rest =>
    obtain ⟨g1, g2, rfl, rfl, hR⟩ := hcut
    clear mk1 mk2 hb1
    go_wp2
    go_loopw [39] (fun i u => ∃ k : Nat, k ≤ n ∧ i = .int .i64 (k : Int) ∧ Hid (LbW g1 g2 n 78 4 (upF (fun i => .int .u32 (lPw NU BI SC SG VL SL i)) (.int .u32 0) k) (upF (fun i => .bool (lPc BI SC SG VL i)) (.bool false) k) w u) ∧ Hid (∀ i, i < k → 0 ≤ SL.getD i 0 ∧ SL.getD i 0 ≤ 3)) (fun i _ => n - (intOf i).toNat)
    case atStart => exact ⟨0, by omega, rfl, hR, Lib.hid (fun i hi => by omega)⟩
    case round =>
      clear hR
      obtain ⟨k, hk, rfl, hR, hG⟩ := hrel
      by_cases hlt : k < n
      · have hl1 := nB k hlt
        rcases (show SL.getD k 0 < 0 ∨ (0 ≤ SL.getD k 0 ∧ 3 < SL.getD k 0) ∨ (0 ≤ SL.getD k 0 ∧ SL.getD k 0 ≤ 3) by omega) with s0 | ⟨s0, s3⟩ | ⟨s0, s3⟩
        · have PT := Lib.hid (fun u => wput_r2 (NU k) (BI k) (SC k) (SG k) 0 (VL.getD k 0) (SL.getD k 0) hl1 (by omega) (by omega) s0 u)
          obtain ⟨b, off, ea, hbb, k0, k1, k2, k3⟩ := (HL.out.below hR.out.bel).at hlt
          subst ea
          obtain ⟨vb, vo, ev, hvb, -⟩ := (HV.out.below hR.out.bel).at (show k < VL.length by omega)
          subst ev
          obtain ⟨sb, so, es, hsb, -⟩ := (HS.out.below hR.out.bel).at (show k < SL.length by omega)
          subst es
          have j1 : (k : Int) < (n : Int) := by omega
          have j2 : IntKind.i64.wrap ((k : Int) + 1) = (k : Int) + 1 := by rw [IntKind.wrap_i64]; omega
          obtain ⟨V, eV, hm0, hz, hcs⟩ := wlb_box wr (NU k) (BI k) (SC k) (SG k)
          have hR2 := Lib.hid (hR.out.next hm0)
          have F6 := fun u (q : Below V.heap.size V u) => (⟨hcs u (q.mono (by omega)), (HV.out.below ((hR2.out.next q).bel)).cellAt (show k < VL.length by omega), (HS.out.below ((hR2.out.next q).bel)).cellAt (show k < SL.length by omega)⟩ : (u.cell? ⟨wr.heap.size, 0, none⟩ = some (.int .i64 (NU k)) ∧ u.cell? ⟨wr.heap.size, 1, none⟩ = some (.int .i64 (BI k)) ∧ u.cell? ⟨wr.heap.size, 2, none⟩ = some (.int .i64 (SC k)) ∧ u.cell? ⟨wr.heap.size, 3, none⟩ = some (.bool (SG k))) ∧ u.cell? ⟨vb, vo + k, none⟩ = some (.int .i64 (VL.getD k 0)) ∧ u.cell? ⟨sb, so + k, none⟩ = some (.int .i64 (SL.getD k 0)))
          generalize NU k = x at *
          generalize BI k = y at *
          generalize SC k = z at *
          generalize SG k = s at *
          generalize VL.getD k 0 = v at *
          generalize SL.getD k 0 = t at *
          replace F6 := Lib.hid F6
          obtain ⟨⟨m0, m1, m2, m3⟩, m4, m5⟩ := F6.out _ (Below.refl _ _)
          replace eV := Lib.hid eV
          replace hz := Lib.hid hz
          clear hm0 hl1 nB HL HV HS hbb hvb hsb
          go_upto_region 10 with (fail)
          rw [← eV.out]
          clear k0 k1 k2 k3
          refine region_moves (fun u => u.cell? ⟨wr.heap.size, 0, none⟩ = some (.int .i64 x) ∧ u.cell? ⟨wr.heap.size, 1, none⟩ = some (.int .i64 y) ∧ u.cell? ⟨wr.heap.size, 2, none⟩ = some (.int .i64 z) ∧ u.cell? ⟨wr.heap.size, 3, none⟩ = some (.bool s) ∧ u.cell? ⟨vb, vo + k, none⟩ = some (.int .i64 v) ∧ u.cell? ⟨sb, so + k, none⟩ = some (.int .i64 t)) [(19, [(18, 19), (15, 19), (13, 19), (0, 19), (1, 19), (4, 19), (5, 19), (6, 19), (7, 19), (8, 19), (9, 19), (10, 19), (11, 19), (12, 19), (14, 19)]), (21, [(20, 21), (16, 21), (19, 21), (0, 21), (1, 21), (2, 21), (3, 21), (4, 21), (5, 21), (6, 21), (7, 21), (8, 21), (9, 21), (10, 21), (11, 21), (12, 21), (13, 21), (14, 21), (15, 21), (18, 21)])] [(.free, 0), (.free, 1), (.free, 2), (.free, 3), (.take, 4), (.free, 5), (.free, 6), (.free, 7), (.take, 8), (.free, 9), (.free, 10), (.free, 11), (.take, 12), (.step, 13), (.free, 14), (.free, 15), (.free, 16), (.free, 17), (.free, 18), (.late, 19), (.free, 20), (.late, 21), (.free, 22)] _ (by kernel_rfl) (by kernel_rfl) (by kernel_rfl) (by kernel_rfl) (by decide) rfl (fun _ _ _ _ _ h => h) ?_
          simp only [List.filterMap_cons, List.filterMap_nil, List.getElem?_toArray, List.getElem?_cons_zero, List.getElem?_cons_succ, Option.map_some]
          iterate 4
            first
              | (refine mv_free ?_ (Or.inl ⟨by rfl, ?_⟩) (⟨m0, m1, m2, m3, m4, m5⟩) ?_
                 rotate_left 1
                 · intro u
                   go_simp
                   try with_reducible rfl
                 simp only [Act.put, List.setIfInBounds_toArray, List.set_cons_zero, List.set_cons_succ])
              | (refine mv_free _ (Or.inr ⟨by rfl, rfl⟩) (⟨m0, m1, m2, m3, m4, m5⟩) ?_
                 simp only [Act.put, List.setIfInBounds_toArray, List.set_cons_zero, List.set_cons_succ])
          iterate 1
            first
              | (refine mv_take ?_ (Or.inl ⟨by rfl, ?_⟩) (⟨m0, m1, m2, m3, m4, m5⟩) ?_
                 rotate_left 1
                 · intro u hu
                   (try dsimp only at hu)
                   go_simp
                   try with_reducible rfl
                 simp only [Act.put, List.setIfInBounds_toArray, List.set_cons_zero, List.set_cons_succ])
              | (refine mv_take _ (Or.inr ⟨by rfl, rfl⟩) (⟨m0, m1, m2, m3, m4, m5⟩) ?_
                 simp only [Act.put, List.setIfInBounds_toArray, List.set_cons_zero, List.set_cons_succ])
          iterate 3
            first
              | (refine mv_free ?_ (Or.inl ⟨by rfl, ?_⟩) (⟨m0, m1, m2, m3, m4, m5⟩) ?_
                 rotate_left 1
                 · intro u
                   go_simp
                   try with_reducible rfl
                 simp only [Act.put, List.setIfInBounds_toArray, List.set_cons_zero, List.set_cons_succ])
              | (refine mv_free _ (Or.inr ⟨by rfl, rfl⟩) (⟨m0, m1, m2, m3, m4, m5⟩) ?_
                 simp only [Act.put, List.setIfInBounds_toArray, List.set_cons_zero, List.set_cons_succ])
          iterate 1
            first
              | (refine mv_take ?_ (Or.inl ⟨by rfl, ?_⟩) (⟨m0, m1, m2, m3, m4, m5⟩) ?_
                 rotate_left 1
                 · intro u hu
                   (try dsimp only at hu)
                   go_simp
                   try with_reducible rfl
                 simp only [Act.put, List.setIfInBounds_toArray, List.set_cons_zero, List.set_cons_succ])
              | (refine mv_take _ (Or.inr ⟨by rfl, rfl⟩) (⟨m0, m1, m2, m3, m4, m5⟩) ?_
                 simp only [Act.put, List.setIfInBounds_toArray, List.set_cons_zero, List.set_cons_succ])
          iterate 3
            first
              | (refine mv_free ?_ (Or.inl ⟨by rfl, ?_⟩) (⟨m0, m1, m2, m3, m4, m5⟩) ?_
                 rotate_left 1
                 · intro u
                   go_simp
                   try with_reducible rfl
                 simp only [Act.put, List.setIfInBounds_toArray, List.set_cons_zero, List.set_cons_succ])
              | (refine mv_free _ (Or.inr ⟨by rfl, rfl⟩) (⟨m0, m1, m2, m3, m4, m5⟩) ?_
                 simp only [Act.put, List.setIfInBounds_toArray, List.set_cons_zero, List.set_cons_succ])
          iterate 1
            first
              | (refine mv_take ?_ (Or.inl ⟨by rfl, ?_⟩) (⟨m0, m1, m2, m3, m4, m5⟩) ?_
                 rotate_left 1
                 · intro u hu
                   (try dsimp only at hu)
                   go_simp
                   try with_reducible rfl
                 simp only [Act.put, List.setIfInBounds_toArray, List.set_cons_zero, List.set_cons_succ])
              | (refine mv_take _ (Or.inr ⟨by rfl, rfl⟩) (⟨m0, m1, m2, m3, m4, m5⟩) ?_
                 simp only [Act.put, List.setIfInBounds_toArray, List.set_cons_zero, List.set_cons_succ])
          refine mv_step (fun K hK => ?_)
          go_simp
          refine (PT.out _).mono ?_
          rintro e w2 ⟨rfl, hb2⟩
          have hR3 := Lib.hid ((hR2.out.next (Below.refl _ _).drew).next hb2)
          have g1c := hR3.out.r1.cell hlt
          have g1f := hR3.out.r1.frozen k
          have g2c := hR3.out.r2.cell hlt
          have g2f := hR3.out.r2.frozen k
          have gne := Lib.hid hR3.out.ne
          obtain ⟨⟨m0, m1, m2, m3⟩, m4, m5⟩ := F6.out w2 ((Below.refl _ _).drew.trans hb2)
          go_wp2_with fail
          refine hK.out _ _ _ (fun u hu => hu) (⟨m0, m1, m2, m3, m4, m5⟩) ?_
          clear hK K
          iterate 5
            first
              | (refine mv_free ?_ (Or.inl ⟨by rfl, ?_⟩) (⟨m0, m1, m2, m3, m4, m5⟩) ?_
                 rotate_left 1
                 · intro u
                   go_simp
                   try with_reducible rfl
                 simp only [Act.put, List.setIfInBounds_toArray, List.set_cons_zero, List.set_cons_succ])
              | (refine mv_free _ (Or.inr ⟨by rfl, rfl⟩) (⟨m0, m1, m2, m3, m4, m5⟩) ?_
                 simp only [Act.put, List.setIfInBounds_toArray, List.set_cons_zero, List.set_cons_succ])
          refine mv_late (fun K hK => ?_)
          go_simp
          refine hK.out (fun _ => True) _ _ ?_
          clear hK K
          iterate 1
            first
              | (refine mv_free ?_ (Or.inl ⟨by rfl, ?_⟩) (trivial) ?_
                 rotate_left 1
                 · intro u
                   go_simp
                   try with_reducible rfl
                 simp only [Act.put, List.setIfInBounds_toArray, List.set_cons_zero, List.set_cons_succ])
              | (refine mv_free _ (Or.inr ⟨by rfl, rfl⟩) (trivial) ?_
                 simp only [Act.put, List.setIfInBounds_toArray, List.set_cons_zero, List.set_cons_succ])
          have r2' := hR3.out.r2.setOther (a := ⟨g1, k, none⟩) (Ne.symm gne.out) (.int .u32 0)
          have g2c' := r2'.cell hlt
          have g2f' := r2'.frozen k
          clear r2'
          refine mv_late (fun K hK => ?_)
          go_simp
          refine hK.out (fun _ => True) _ _ ?_
          clear hK K
          iterate 1
            first
              | (refine mv_free ?_ (Or.inl ⟨by rfl, ?_⟩) (trivial) ?_
                 rotate_left 1
                 · intro u
                   go_simp
                   try with_reducible rfl
                 simp only [Act.put, List.setIfInBounds_toArray, List.set_cons_zero, List.set_cons_succ])
              | (refine mv_free _ (Or.inr ⟨by rfl, rfl⟩) (trivial) ?_
                 simp only [Act.put, List.setIfInBounds_toArray, List.set_cons_zero, List.set_cons_succ])
          refine mv_done ?_
          have hR4 := Lib.hid ((hR3.out.bel.setCell (p := ⟨g1, k, none⟩) hR3.out.h1 (.int .u32 0)).setCell (p := ⟨g2, k, none⟩) hR3.out.h2 (.bool false))
          clear hR3 hR2 hR F6
          go_wp2
          go_ret3
          exact .inr ⟨rfl, hR4.out⟩
        · have PT := Lib.hid (fun u => wput_r3 (NU k) (BI k) (SC k) (SG k) 0 (VL.getD k 0) (SL.getD k 0) hl1 (by omega) (by omega) s0 s3 u)
          obtain ⟨b, off, ea, hbb, k0, k1, k2, k3⟩ := (HL.out.below hR.out.bel).at hlt
          subst ea
          obtain ⟨vb, vo, ev, hvb, -⟩ := (HV.out.below hR.out.bel).at (show k < VL.length by omega)
          subst ev
          obtain ⟨sb, so, es, hsb, -⟩ := (HS.out.below hR.out.bel).at (show k < SL.length by omega)
          subst es
          have j1 : (k : Int) < (n : Int) := by omega
          have j2 : IntKind.i64.wrap ((k : Int) + 1) = (k : Int) + 1 := by rw [IntKind.wrap_i64]; omega
          obtain ⟨V, eV, hm0, hz, hcs⟩ := wlb_box wr (NU k) (BI k) (SC k) (SG k)
          have hR2 := Lib.hid (hR.out.next hm0)
          have F6 := fun u (q : Below V.heap.size V u) => (⟨hcs u (q.mono (by omega)), (HV.out.below ((hR2.out.next q).bel)).cellAt (show k < VL.length by omega), (HS.out.below ((hR2.out.next q).bel)).cellAt (show k < SL.length by omega)⟩ : (u.cell? ⟨wr.heap.size, 0, none⟩ = some (.int .i64 (NU k)) ∧ u.cell? ⟨wr.heap.size, 1, none⟩ = some (.int .i64 (BI k)) ∧ u.cell? ⟨wr.heap.size, 2, none⟩ = some (.int .i64 (SC k)) ∧ u.cell? ⟨wr.heap.size, 3, none⟩ = some (.bool (SG k))) ∧ u.cell? ⟨vb, vo + k, none⟩ = some (.int .i64 (VL.getD k 0)) ∧ u.cell? ⟨sb, so + k, none⟩ = some (.int .i64 (SL.getD k 0)))
          generalize NU k = x at *
          generalize BI k = y at *
          generalize SC k = z at *
          generalize SG k = s at *
          generalize VL.getD k 0 = v at *
          generalize SL.getD k 0 = t at *
          replace F6 := Lib.hid F6
          obtain ⟨⟨m0, m1, m2, m3⟩, m4, m5⟩ := F6.out _ (Below.refl _ _)
          replace eV := Lib.hid eV
          replace hz := Lib.hid hz
          clear hm0 hl1 nB HL HV HS hbb hvb hsb
          go_upto_region 10 with (fail)
          rw [← eV.out]
          clear k0 k1 k2 k3
          refine region_moves (fun u => u.cell? ⟨wr.heap.size, 0, none⟩ = some (.int .i64 x) ∧ u.cell? ⟨wr.heap.size, 1, none⟩ = some (.int .i64 y) ∧ u.cell? ⟨wr.heap.size, 2, none⟩ = some (.int .i64 z) ∧ u.cell? ⟨wr.heap.size, 3, none⟩ = some (.bool s) ∧ u.cell? ⟨vb, vo + k, none⟩ = some (.int .i64 v) ∧ u.cell? ⟨sb, so + k, none⟩ = some (.int .i64 t)) [(19, [(18, 19), (15, 19), (13, 19), (0, 19), (1, 19), (4, 19), (5, 19), (6, 19), (7, 19), (8, 19), (9, 19), (10, 19), (11, 19), (12, 19), (14, 19)]), (21, [(20, 21), (16, 21), (19, 21), (0, 21), (1, 21), (2, 21), (3, 21), (4, 21), (5, 21), (6, 21), (7, 21), (8, 21), (9, 21), (10, 21), (11, 21), (12, 21), (13, 21), (14, 21), (15, 21), (18, 21)])] [(.free, 0), (.free, 1), (.free, 2), (.free, 3), (.take, 4), (.free, 5), (.free, 6), (.free, 7), (.take, 8), (.free, 9), (.free, 10), (.free, 11), (.take, 12), (.step, 13), (.free, 14), (.free, 15), (.free, 16), (.free, 17), (.free, 18), (.late, 19), (.free, 20), (.late, 21), (.free, 22)] _ (by kernel_rfl) (by kernel_rfl) (by kernel_rfl) (by kernel_rfl) (by decide) rfl (fun _ _ _ _ _ h => h) ?_
          simp only [List.filterMap_cons, List.filterMap_nil, List.getElem?_toArray, List.getElem?_cons_zero, List.getElem?_cons_succ, Option.map_some]
          iterate 4
            first
              | (refine mv_free ?_ (Or.inl ⟨by rfl, ?_⟩) (⟨m0, m1, m2, m3, m4, m5⟩) ?_
                 rotate_left 1
                 · intro u
                   go_simp
                   try with_reducible rfl
                 simp only [Act.put, List.setIfInBounds_toArray, List.set_cons_zero, List.set_cons_succ])
              | (refine mv_free _ (Or.inr ⟨by rfl, rfl⟩) (⟨m0, m1, m2, m3, m4, m5⟩) ?_
                 simp only [Act.put, List.setIfInBounds_toArray, List.set_cons_zero, List.set_cons_succ])
          iterate 1
            first
              | (refine mv_take ?_ (Or.inl ⟨by rfl, ?_⟩) (⟨m0, m1, m2, m3, m4, m5⟩) ?_
                 rotate_left 1
                 · intro u hu
                   (try dsimp only at hu)
                   go_simp
                   try with_reducible rfl
                 simp only [Act.put, List.setIfInBounds_toArray, List.set_cons_zero, List.set_cons_succ])
              | (refine mv_take _ (Or.inr ⟨by rfl, rfl⟩) (⟨m0, m1, m2, m3, m4, m5⟩) ?_
                 simp only [Act.put, List.setIfInBounds_toArray, List.set_cons_zero, List.set_cons_succ])
          iterate 3
            first
              | (refine mv_free ?_ (Or.inl ⟨by rfl, ?_⟩) (⟨m0, m1, m2, m3, m4, m5⟩) ?_
                 rotate_left 1
                 · intro u
                   go_simp
                   try with_reducible rfl
                 simp only [Act.put, List.setIfInBounds_toArray, List.set_cons_zero, List.set_cons_succ])
              | (refine mv_free _ (Or.inr ⟨by rfl, rfl⟩) (⟨m0, m1, m2, m3, m4, m5⟩) ?_
                 simp only [Act.put, List.setIfInBounds_toArray, List.set_cons_zero, List.set_cons_succ])
          iterate 1
            first
              | (refine mv_take ?_ (Or.inl ⟨by rfl, ?_⟩) (⟨m0, m1, m2, m3, m4, m5⟩) ?_
                 rotate_left 1
                 · intro u hu
                   (try dsimp only at hu)
                   go_simp
                   try with_reducible rfl
                 simp only [Act.put, List.setIfInBounds_toArray, List.set_cons_zero, List.set_cons_succ])
              | (refine mv_take _ (Or.inr ⟨by rfl, rfl⟩) (⟨m0, m1, m2, m3, m4, m5⟩) ?_
                 simp only [Act.put, List.setIfInBounds_toArray, List.set_cons_zero, List.set_cons_succ])
          iterate 3
            first
              | (refine mv_free ?_ (Or.inl ⟨by rfl, ?_⟩) (⟨m0, m1, m2, m3, m4, m5⟩) ?_
                 rotate_left 1
                 · intro u
                   go_simp
                   try with_reducible rfl
                 simp only [Act.put, List.setIfInBounds_toArray, List.set_cons_zero, List.set_cons_succ])
              | (refine mv_free _ (Or.inr ⟨by rfl, rfl⟩) (⟨m0, m1, m2, m3, m4, m5⟩) ?_
                 simp only [Act.put, List.setIfInBounds_toArray, List.set_cons_zero, List.set_cons_succ])
          iterate 1
            first
              | (refine mv_take ?_ (Or.inl ⟨by rfl, ?_⟩) (⟨m0, m1, m2, m3, m4, m5⟩) ?_
                 rotate_left 1
                 · intro u hu
                   (try dsimp only at hu)
                   go_simp
                   try with_reducible rfl
                 simp only [Act.put, List.setIfInBounds_toArray, List.set_cons_zero, List.set_cons_succ])
              | (refine mv_take _ (Or.inr ⟨by rfl, rfl⟩) (⟨m0, m1, m2, m3, m4, m5⟩) ?_
                 simp only [Act.put, List.setIfInBounds_toArray, List.set_cons_zero, List.set_cons_succ])
          refine mv_step (fun K hK => ?_)
          go_simp
          refine (PT.out _).mono ?_
          rintro e w2 ⟨rfl, hb2⟩
          have hR3 := Lib.hid ((hR2.out.next (Below.refl _ _).drew).next hb2)
          have g1c := hR3.out.r1.cell hlt
          have g1f := hR3.out.r1.frozen k
          have g2c := hR3.out.r2.cell hlt
          have g2f := hR3.out.r2.frozen k
          have gne := Lib.hid hR3.out.ne
          obtain ⟨⟨m0, m1, m2, m3⟩, m4, m5⟩ := F6.out w2 ((Below.refl _ _).drew.trans hb2)
          go_wp2_with fail
          refine hK.out _ _ _ (fun u hu => hu) (⟨m0, m1, m2, m3, m4, m5⟩) ?_
          clear hK K
          iterate 5
            first
              | (refine mv_free ?_ (Or.inl ⟨by rfl, ?_⟩) (⟨m0, m1, m2, m3, m4, m5⟩) ?_
                 rotate_left 1
                 · intro u
                   go_simp
                   try with_reducible rfl
                 simp only [Act.put, List.setIfInBounds_toArray, List.set_cons_zero, List.set_cons_succ])
              | (refine mv_free _ (Or.inr ⟨by rfl, rfl⟩) (⟨m0, m1, m2, m3, m4, m5⟩) ?_
                 simp only [Act.put, List.setIfInBounds_toArray, List.set_cons_zero, List.set_cons_succ])
          refine mv_late (fun K hK => ?_)
          go_simp
          refine hK.out (fun _ => True) _ _ ?_
          clear hK K
          iterate 1
            first
              | (refine mv_free ?_ (Or.inl ⟨by rfl, ?_⟩) (trivial) ?_
                 rotate_left 1
                 · intro u
                   go_simp
                   try with_reducible rfl
                 simp only [Act.put, List.setIfInBounds_toArray, List.set_cons_zero, List.set_cons_succ])
              | (refine mv_free _ (Or.inr ⟨by rfl, rfl⟩) (trivial) ?_
                 simp only [Act.put, List.setIfInBounds_toArray, List.set_cons_zero, List.set_cons_succ])
          have r2' := hR3.out.r2.setOther (a := ⟨g1, k, none⟩) (Ne.symm gne.out) (.int .u32 0)
          have g2c' := r2'.cell hlt
          have g2f' := r2'.frozen k
          clear r2'
          refine mv_late (fun K hK => ?_)
          go_simp
          refine hK.out (fun _ => True) _ _ ?_
          clear hK K
          iterate 1
            first
              | (refine mv_free ?_ (Or.inl ⟨by rfl, ?_⟩) (trivial) ?_
                 rotate_left 1
                 · intro u
                   go_simp
                   try with_reducible rfl
                 simp only [Act.put, List.setIfInBounds_toArray, List.set_cons_zero, List.set_cons_succ])
              | (refine mv_free _ (Or.inr ⟨by rfl, rfl⟩) (trivial) ?_
                 simp only [Act.put, List.setIfInBounds_toArray, List.set_cons_zero, List.set_cons_succ])
          refine mv_done ?_
          have hR4 := Lib.hid ((hR3.out.bel.setCell (p := ⟨g1, k, none⟩) hR3.out.h1 (.int .u32 0)).setCell (p := ⟨g2, k, none⟩) hR3.out.h2 (.bool false))
          clear hR3 hR2 hR F6
          go_wp2
          go_ret3
          exact .inr ⟨rfl, hR4.out⟩
        · have hG2 := Lib.hid (fun i (hi : i < k + 1) => show 0 ≤ SL.getD i 0 ∧ SL.getD i 0 ≤ 3 from by
            by_cases e : i = k
            · subst e; exact ⟨s0, s3⟩
            · exact hG.out i (by omega))
          have PT := Lib.hid (fun u => wput_ok (NU k) (BI k) (SC k) (SG k) 0 (VL.getD k 0) (SL.getD k 0) hl1 (by omega) (by omega) s0 s3 u)
          have eP := Lib.hid (show lPw NU BI SC SG VL SL k = parW (wV (NU k) 0 (tW (SG k) (BI k) (SC k) (VL.getD k 0) % 524288) (SL.getD k 0)) from rfl)
          have eC := Lib.hid (show lPc BI SC SG VL k = (qN (SG k) (BI k) (SC k) (VL.getD k 0) != qX (VL.getD k 0) (SC k)) from rfl)
          obtain ⟨b, off, ea, hbb, k0, k1, k2, k3⟩ := (HL.out.below hR.out.bel).at hlt
          subst ea
          obtain ⟨vb, vo, ev, hvb, -⟩ := (HV.out.below hR.out.bel).at (show k < VL.length by omega)
          subst ev
          obtain ⟨sb, so, es, hsb, -⟩ := (HS.out.below hR.out.bel).at (show k < SL.length by omega)
          subst es
          have j1 : (k : Int) < (n : Int) := by omega
          have j2 : IntKind.i64.wrap ((k : Int) + 1) = (k : Int) + 1 := by rw [IntKind.wrap_i64]; omega
          obtain ⟨V, eV, hm0, hz, hcs⟩ := wlb_box wr (NU k) (BI k) (SC k) (SG k)
          have hR2 := Lib.hid (hR.out.next hm0)
          have F6 := fun u (q : Below V.heap.size V u) => (⟨hcs u (q.mono (by omega)), (HV.out.below ((hR2.out.next q).bel)).cellAt (show k < VL.length by omega), (HS.out.below ((hR2.out.next q).bel)).cellAt (show k < SL.length by omega)⟩ : (u.cell? ⟨wr.heap.size, 0, none⟩ = some (.int .i64 (NU k)) ∧ u.cell? ⟨wr.heap.size, 1, none⟩ = some (.int .i64 (BI k)) ∧ u.cell? ⟨wr.heap.size, 2, none⟩ = some (.int .i64 (SC k)) ∧ u.cell? ⟨wr.heap.size, 3, none⟩ = some (.bool (SG k))) ∧ u.cell? ⟨vb, vo + k, none⟩ = some (.int .i64 (VL.getD k 0)) ∧ u.cell? ⟨sb, so + k, none⟩ = some (.int .i64 (SL.getD k 0)))
          have hst := Lib.hid (fun u (q : LbW g1 g2 n 78 4 (upF (fun i => .int .u32 (lPw NU BI SC SG VL SL i)) (.int .u32 0) k) (upF (fun i => .bool (lPc BI SC SG VL i)) (.bool false) k) w u) => q.put (G1 := upF (fun i => .int .u32 (lPw NU BI SC SG VL SL i)) (.int .u32 0) (k + 1)) (G2 := upF (fun i => .bool (lPc BI SC SG VL i)) (.bool false) (k + 1)) k (.int .u32 (lPw NU BI SC SG VL SL k)) (.bool (lPc BI SC SG VL k)) (fun i hi => upF_step _ _ k i) (fun i hi => upF_step _ _ k i))
          rw [← eP.out, ← eC.out] at PT
          generalize lPw NU BI SC SG VL SL k = P at *
          generalize lPc BI SC SG VL k = C at *
          clear eP eC hcs
          generalize NU k = x at *
          generalize BI k = y at *
          generalize SC k = z at *
          generalize SG k = s at *
          generalize VL.getD k 0 = v at *
          generalize SL.getD k 0 = t at *
          replace F6 := Lib.hid F6
          obtain ⟨⟨m0, m1, m2, m3⟩, m4, m5⟩ := F6.out _ (Below.refl _ _)
          replace eV := Lib.hid eV
          replace hz := Lib.hid hz
          clear hm0 hl1 nB HL HV HS hbb hvb hsb
          go_upto_region 10 with (fail)
          rw [← eV.out]
          clear k0 k1 k2 k3
          refine region_moves (fun u => u.cell? ⟨wr.heap.size, 0, none⟩ = some (.int .i64 x) ∧ u.cell? ⟨wr.heap.size, 1, none⟩ = some (.int .i64 y) ∧ u.cell? ⟨wr.heap.size, 2, none⟩ = some (.int .i64 z) ∧ u.cell? ⟨wr.heap.size, 3, none⟩ = some (.bool s) ∧ u.cell? ⟨vb, vo + k, none⟩ = some (.int .i64 v) ∧ u.cell? ⟨sb, so + k, none⟩ = some (.int .i64 t)) [(19, [(18, 19), (15, 19), (13, 19), (0, 19), (1, 19), (4, 19), (5, 19), (6, 19), (7, 19), (8, 19), (9, 19), (10, 19), (11, 19), (12, 19), (14, 19)]), (21, [(20, 21), (16, 21), (19, 21), (0, 21), (1, 21), (2, 21), (3, 21), (4, 21), (5, 21), (6, 21), (7, 21), (8, 21), (9, 21), (10, 21), (11, 21), (12, 21), (13, 21), (14, 21), (15, 21), (18, 21)])] [(.free, 0), (.free, 1), (.free, 2), (.free, 3), (.take, 4), (.free, 5), (.free, 6), (.free, 7), (.take, 8), (.free, 9), (.free, 10), (.free, 11), (.take, 12), (.step, 13), (.free, 14), (.free, 15), (.free, 16), (.free, 17), (.free, 18), (.late, 19), (.free, 20), (.late, 21), (.free, 22)] _ (by kernel_rfl) (by kernel_rfl) (by kernel_rfl) (by kernel_rfl) (by decide) rfl (fun _ _ _ _ _ h => h) ?_
          simp only [List.filterMap_cons, List.filterMap_nil, List.getElem?_toArray, List.getElem?_cons_zero, List.getElem?_cons_succ, Option.map_some]
          iterate 4
            first
              | (refine mv_free ?_ (Or.inl ⟨by rfl, ?_⟩) (⟨m0, m1, m2, m3, m4, m5⟩) ?_
                 rotate_left 1
                 · intro u
                   go_simp
                   try with_reducible rfl
                 simp only [Act.put, List.setIfInBounds_toArray, List.set_cons_zero, List.set_cons_succ])
              | (refine mv_free _ (Or.inr ⟨by rfl, rfl⟩) (⟨m0, m1, m2, m3, m4, m5⟩) ?_
                 simp only [Act.put, List.setIfInBounds_toArray, List.set_cons_zero, List.set_cons_succ])
          iterate 1
            first
              | (refine mv_take ?_ (Or.inl ⟨by rfl, ?_⟩) (⟨m0, m1, m2, m3, m4, m5⟩) ?_
                 rotate_left 1
                 · intro u hu
                   (try dsimp only at hu)
                   go_simp
                   try with_reducible rfl
                 simp only [Act.put, List.setIfInBounds_toArray, List.set_cons_zero, List.set_cons_succ])
              | (refine mv_take _ (Or.inr ⟨by rfl, rfl⟩) (⟨m0, m1, m2, m3, m4, m5⟩) ?_
                 simp only [Act.put, List.setIfInBounds_toArray, List.set_cons_zero, List.set_cons_succ])
          iterate 3
            first
              | (refine mv_free ?_ (Or.inl ⟨by rfl, ?_⟩) (⟨m0, m1, m2, m3, m4, m5⟩) ?_
                 rotate_left 1
                 · intro u
                   go_simp
                   try with_reducible rfl
                 simp only [Act.put, List.setIfInBounds_toArray, List.set_cons_zero, List.set_cons_succ])
              | (refine mv_free _ (Or.inr ⟨by rfl, rfl⟩) (⟨m0, m1, m2, m3, m4, m5⟩) ?_
                 simp only [Act.put, List.setIfInBounds_toArray, List.set_cons_zero, List.set_cons_succ])
          iterate 1
            first
              | (refine mv_take ?_ (Or.inl ⟨by rfl, ?_⟩) (⟨m0, m1, m2, m3, m4, m5⟩) ?_
                 rotate_left 1
                 · intro u hu
                   (try dsimp only at hu)
                   go_simp
                   try with_reducible rfl
                 simp only [Act.put, List.setIfInBounds_toArray, List.set_cons_zero, List.set_cons_succ])
              | (refine mv_take _ (Or.inr ⟨by rfl, rfl⟩) (⟨m0, m1, m2, m3, m4, m5⟩) ?_
                 simp only [Act.put, List.setIfInBounds_toArray, List.set_cons_zero, List.set_cons_succ])
          iterate 3
            first
              | (refine mv_free ?_ (Or.inl ⟨by rfl, ?_⟩) (⟨m0, m1, m2, m3, m4, m5⟩) ?_
                 rotate_left 1
                 · intro u
                   go_simp
                   try with_reducible rfl
                 simp only [Act.put, List.setIfInBounds_toArray, List.set_cons_zero, List.set_cons_succ])
              | (refine mv_free _ (Or.inr ⟨by rfl, rfl⟩) (⟨m0, m1, m2, m3, m4, m5⟩) ?_
                 simp only [Act.put, List.setIfInBounds_toArray, List.set_cons_zero, List.set_cons_succ])
          iterate 1
            first
              | (refine mv_take ?_ (Or.inl ⟨by rfl, ?_⟩) (⟨m0, m1, m2, m3, m4, m5⟩) ?_
                 rotate_left 1
                 · intro u hu
                   (try dsimp only at hu)
                   go_simp
                   try with_reducible rfl
                 simp only [Act.put, List.setIfInBounds_toArray, List.set_cons_zero, List.set_cons_succ])
              | (refine mv_take _ (Or.inr ⟨by rfl, rfl⟩) (⟨m0, m1, m2, m3, m4, m5⟩) ?_
                 simp only [Act.put, List.setIfInBounds_toArray, List.set_cons_zero, List.set_cons_succ])
          refine mv_step (fun K hK => ?_)
          go_simp
          refine (PT.out _).mono ?_
          rintro e w2 ⟨rfl, hb2⟩
          have hR3 := Lib.hid ((hR2.out.next (Below.refl _ _).drew).next hb2)
          have g1c := hR3.out.r1.cell hlt
          have g1f := hR3.out.r1.frozen k
          have g2c := hR3.out.r2.cell hlt
          have g2f := hR3.out.r2.frozen k
          have gne := Lib.hid hR3.out.ne
          obtain ⟨⟨m0, m1, m2, m3⟩, m4, m5⟩ := F6.out w2 ((Below.refl _ _).drew.trans hb2)
          go_wp2_with fail
          refine hK.out _ _ _ (fun u hu => hu) (⟨m0, m1, m2, m3, m4, m5⟩) ?_
          clear hK K
          iterate 5
            first
              | (refine mv_free ?_ (Or.inl ⟨by rfl, ?_⟩) (⟨m0, m1, m2, m3, m4, m5⟩) ?_
                 rotate_left 1
                 · intro u
                   go_simp
                   try with_reducible rfl
                 simp only [Act.put, List.setIfInBounds_toArray, List.set_cons_zero, List.set_cons_succ])
              | (refine mv_free _ (Or.inr ⟨by rfl, rfl⟩) (⟨m0, m1, m2, m3, m4, m5⟩) ?_
                 simp only [Act.put, List.setIfInBounds_toArray, List.set_cons_zero, List.set_cons_succ])
          refine mv_late (fun K hK => ?_)
          go_simp
          refine hK.out (fun _ => True) _ _ ?_
          clear hK K
          iterate 1
            first
              | (refine mv_free ?_ (Or.inl ⟨by rfl, ?_⟩) (trivial) ?_
                 rotate_left 1
                 · intro u
                   go_simp
                   try with_reducible rfl
                 simp only [Act.put, List.setIfInBounds_toArray, List.set_cons_zero, List.set_cons_succ])
              | (refine mv_free _ (Or.inr ⟨by rfl, rfl⟩) (trivial) ?_
                 simp only [Act.put, List.setIfInBounds_toArray, List.set_cons_zero, List.set_cons_succ])
          have r2' := hR3.out.r2.setOther (a := ⟨g1, k, none⟩) (Ne.symm gne.out) (.int .u32 P)
          have g2c' := r2'.cell hlt
          have g2f' := r2'.frozen k
          clear r2'
          refine mv_late (fun K hK => ?_)
          go_simp
          refine hK.out (fun _ => True) _ _ ?_
          clear hK K
          iterate 1
            first
              | (refine mv_free ?_ (Or.inl ⟨by rfl, ?_⟩) (trivial) ?_
                 rotate_left 1
                 · intro u
                   go_simp
                   try with_reducible rfl
                 simp only [Act.put, List.setIfInBounds_toArray, List.set_cons_zero, List.set_cons_succ])
              | (refine mv_free _ (Or.inr ⟨by rfl, rfl⟩) (trivial) ?_
                 simp only [Act.put, List.setIfInBounds_toArray, List.set_cons_zero, List.set_cons_succ])
          refine mv_done ?_
          have hR4 := Lib.hid (hst.out _ hR3.out)
          clear hst hR3 hR2 hR F6
          go_wp2_with fail
          generalize (w2.setCell ⟨g1, k, none⟩ (.int .u32 P)).setCell ⟨g2, k, none⟩ (.bool C) = w4 at *
          go_roundw
          case rel => exact ⟨k + 1, by omega, by first | rfl | go_num, hR4, hG2⟩
          case measure => simp [intOf] <;> omega
      · obtain rfl : k = n := by omega
        go_wp2
        go_ret3
        refine .inl ⟨g1, g2, rfl, ?_, hG.out⟩
        have := hR.out
        exact ⟨this.r1.congr (fun i hi => upF_all _ _ _ _ hi), this.r2.congr (fun i hi => upF_all _ _ _ _ hi), this.ne, this.h1, this.h2, this.bel⟩
end Go.Proofs.Ytffhhdjcodapjaa
