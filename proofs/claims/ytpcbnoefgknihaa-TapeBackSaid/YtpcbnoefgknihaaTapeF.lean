/- Package tape: reader.rows; walked. -/
import Derived.Test.YtpcbnoefgknihaaTapeE
import Derived.Test.YtpcbnoefgknihaaBeside
import Derived.Test.YtpcbnoefgknihaaReg
namespace Go.Proofs.Ytpcbnoefgknihaa
open Go.ChangeShapes Go.WideShapes Go.ChangeAt Go.RowKit
set_option linter.unusedVariables false
set_option linter.unusedSimpArgs false
theorem fill_set (A : List Int) (n : Int) {j width : Nat} (h : A.length = j) (hj : j < width) : (A ++ List.replicate (width - j) 0).set j n = (A ++ [n]) ++ List.replicate (width - (j + 1)) 0 := by
  subst h
  obtain ⟨m, e⟩ : ∃ m, width - A.length = m + 1 := ⟨width - A.length - 1, by omega⟩
  rw [e, show width - (A.length + 1) = m by omega, List.replicate_succ, List.set_append_right _ _ (Nat.le_refl _), Nat.sub_self]
  simp
theorem Beside.cellN {b g i : Nat} {w v : World} (h : Beside b w v) (n : Value) (hg : w.heap.size ≤ g) : Beside b w (v.setCell ⟨g, i, none⟩ n) :=
  ⟨h.os, h.tape, h.output, by simpa using h.size, fun k hk hb => (Below.heap_setCell v ⟨g, i, none⟩ n k (by show k ≠ g; omega)).trans (h.block k hk hb)⟩
theorem Cl.bsd {b g : Nat} {l : List Int} {v v' : World} (h : Cl g l v) (k : Beside b v v') (hb : g ≠ b) : Cl g l v' := h.kept (k.block g h.lt hb)
theorem Cl.bel {g : Nat} {l : List Int} {v v' : World} (h : Cl g l v) (k : Below v.heap.size v v') : Cl g l v' := h.kept (k.block g h.lt)
theorem Gr.bsd {B b : Nat} {x : Value} {G : List (Nat × List Int)} {v v' : World} (h : Gr B x G v) (k : Beside b v v') (hb : b < B) : Gr B x G v' := h.kept fun g hg hl _ => k.block g hl (by omega)
theorem Gr.cell {B g i : Nat} {x : Value} {G : List (Nat × List Int)} {v : World} (h : Gr B x G v) (n : Value) (h1 : ogB x ≠ some g) (h2 : ∀ t ∈ G, t.1 ≠ g) : Gr B x G (v.setCell ⟨g, i, none⟩ n) := h.kept fun g' _ hl q => Below.heap_setCell v ⟨g, i, none⟩ n _ (by
  rcases q with q | ⟨t, ht, rfl⟩
  · intro e; subst e; exact h1 q
  · exact h2 t ht)
theorem Cl.cell_ne {g g' i : Nat} {l : List Int} {v : World} (h : Cl g l v) (n : Value) (hg : g ≠ g') : Cl g l (v.setCell ⟨g', i, none⟩ n) := h.kept (Below.heap_setCell v ⟨g', i, none⟩ n _ hg)
theorem Rd.bel {X b : Nat} {L : List Int} {w w' : World} (h : Rd X b L w) (k : Below w.heap.size w w') (hb : b < w.heap.size) : Rd X b L w' := by
  obtain ⟨a, c, h1, h2, h3, h4, h5, h6⟩ := h
  exact ⟨a, c, (k.cell (p := ⟨b, 0, none⟩) hb).trans h1, (k.frozen (p := ⟨b, 0, none⟩) hb).trans h2, h3, h4.below k, h5, h6⟩
theorem Rd.lt {X b : Nat} {L : List Int} {w : World} (h : Rd X b L w) : b < w.heap.size := by
  obtain ⟨a, c, h1, -⟩ := h
  rcases Nat.lt_or_ge b w.heap.size with q | q
  · exact q
  · simp [World.cell?, Array.getElem?_eq_none q] at h1
/-- A cell of a younger block is another one. -/
theorem Rd.cell {X b g i : Nat} {L : List Int} {w : World} (h : Rd X b L w) (n : Value) (hg : b < g) (hX : X ≤ b) : Rd X b L (w.setCell ⟨g, i, none⟩ n) := by
  obtain ⟨a, c, h1, h2, h3, h4, h5, h6⟩ := h
  have hb : (w.setCell ⟨g, i, none⟩ n).heap[b]? = w.heap[b]? := Below.heap_setCell w ⟨g, i, none⟩ n b (by show b ≠ g; omega)
  refine ⟨a, c, (World.cell?_of_block (a := ⟨b, 0, none⟩) hb).trans h1, (World.frozen?_of_block (a := ⟨b, 0, none⟩) hb).trans h2, h3, ?_, h5, h6⟩
  refine h4.only ((Only.refl g w).setCell (p := ⟨g, i, none⟩) n) (fun q p e => ?_)
  have := h6 q p e
  show p.block ≠ g
  omega
theorem Rd.kept {X b : Nat} {L : List Int} {w w' : World} (h : Rd X b L w) (hs : w.heap.size ≤ w'.heap.size) (k : ∀ g, g < X ∨ g = b → g < w.heap.size → w'.heap[g]? = w.heap[g]?) : Rd X b L w' := by
  have hl := h.lt
  obtain ⟨a, c, h1, h2, h3, h4, h5, h6⟩ := h
  refine ⟨a, c, (World.cell?_of_block (a := ⟨b, 0, none⟩) (k b (.inr rfl) hl)).trans h1, (World.frozen?_of_block (a := ⟨b, 0, none⟩) (k b (.inr rfl) hl)).trans h2, h3, ?_, h5, h6⟩
  rcases h4 with q | ⟨g, o, rfl, hg, hc⟩
  · exact .inl q
  · by_cases q : 1 ≤ L.length
    · exact .inr ⟨g, o, rfl, Nat.lt_of_lt_of_le hg hs, fun i hi => (World.cell?_of_block (a := ⟨g, o + i, none⟩) (k g (.inl (h6 q _ rfl)) hg)).trans (hc i hi)⟩
    · exact .inl (List.eq_nil_of_length_eq_zero (by omega))
theorem Rd.ogk {X b Bz : Nat} {L : List Int} {w w' : World} {e : TypeId} {x : Value} {V : List Value} (h : Rd X b L w) (hO : Og e Bz x V w) (k : OgK x w w') (hb : b < Bz) : Rd X b L w' := h.kept k.size fun g hg hl => k.block g hl fun e => by have := (hO.lt e).1; obtain ⟨_, _, _, _, _, _, h5, _⟩ := h; omega
theorem Beside.ogk {b Bz : Nat} {u w w' : World} {e : TypeId} {x : Value} {V : List Value} (h : Beside b u w) (hO : Og e Bz x V w) (k : OgK x w w') (hb : u.heap.size ≤ Bz) : Beside b u w' :=
  ⟨k.os.trans h.os, k.tape.trans h.tape, k.output.trans h.output, Nat.le_trans h.size k.size, fun i hi hne => (k.block i (Nat.lt_of_lt_of_le hi h.size) (fun e => by have := (hO.lt e).1; omega)).trans (h.block i hi hne)⟩
theorem Rd.X {X b : Nat} {L : List Int} {w : World} (h : Rd X b L w) : X ≤ b := by
  obtain ⟨a, c, h1, h2, h3, h4, h5, h6⟩ := h
  exact h5
set_option maxRecDepth 100000 in
set_option maxHeartbeats 8000000 in
theorem trows (b width : Nat) (L : List Int) (w : World) {X : Nat} (h : Rd X b L w) (hw : 1 ≤ width ∧ width ≤ 16) (hB : BYL L) : Calls Try.prog 59 #[.pointer (some ⟨b, 0, none⟩), .int .i64 (width : Int)] w fun e w' => Beside b w w' ∧ ((rdB width L = none ∧ e = .panicked [{ v := pqT, recovered := false }]) ∨ ∃ Z R x G, rdB width L = some (Z, R) ∧ e = .returned x ∧ Gr w.heap.size x G w' ∧ grL G = Z ∧ Rd X b R w') := by
  have SETB := Lib.hid (fun (v : World) (g i : Nat) (n : Value) (h : Beside b w v) (hg : w.heap.size ≤ g) => h.cellN (g := g) (i := i) n hg)
  obtain ⟨Bz, eB⟩ : ∃ B, w.heap.size = B := ⟨_, rfl⟩
  have EB := Lib.hid eB
  rw [eB] at SETB ⊢
  have HBZ := Lib.hid (show b < Bz by rw [← eB]; exact h.lt)
  have HX := Lib.hid h.X
  have h := Lib.hid h
  have HW := Lib.hid hw
  have BY := Lib.hid hB
  clear hw hB
  cases L with
  | nil =>
    have O := Lib.hid (tone_no b w h.out)
    go_enter Try.func59, Try.ntmps59
    go_wp2_with fail
    refine O.out.mono ?_
    rintro e v ⟨rfl, rfl⟩
    exact ⟨rfl, Beside.of_only (Only.refl _ _), .inl ⟨rfl, rfl⟩⟩
  | cons x L1 =>
    have bx := BY.out x (by simp)
    have BY1 := Lib.hid (show BYL L1 from fun z hz => BY.out z (by simp [hz]))
    have O := Lib.hid (tone_ok b x L1 w h.out)
    go_enter Try.func59, Try.ntmps59
    go_wp2_with fail
    refine O.out.mono ?_
    rintro e v1 ⟨rfl, hR1, hO1⟩
    have hR1 := Lib.hid hR1
    have hO1 := Lib.hid hO1
    clear O h
    by_cases hx : x = 90
    rotate_left
    · have q1 : (x == 90) = false := beq_eq_false_iff_ne.2 hx
      have hNo := Lib.hid (show rdB width (x :: L1) = none by unfold rdB; split; (rename_i h; injection h with h1 h2; subst h1; rw [if_neg (fun h => hx h.1)]); rfl)
      go_wp2
      exact ⟨rfl, Beside.of_only hO1.out, .inl ⟨hNo.out, rfl⟩⟩
    subst hx
    cases L1 with
    | nil =>
      have O := Lib.hid (tone_no b v1 hR1.out)
      go_wp2_with fail
      refine O.out.mono ?_
      rintro e v ⟨rfl, rfl⟩
      exact ⟨rfl, Beside.of_only hO1.out, .inl ⟨rfl, rfl⟩⟩
    | cons y L2 =>
      have by2 := BY1.out y (by simp)
      have BY2 := Lib.hid (show BYL L2 from fun z hz => BY1.out z (by simp [hz]))
      have O := Lib.hid (tone_ok b y L2 v1 hR1.out)
      have wy : IntKind.i64.wrap y = y := by rw [IntKind.wrap_i64]; omega
      go_wp2_with fail
      refine O.out.mono ?_
      rintro e v2 ⟨rfl, hR2, hO2⟩
      have hR2 := Lib.hid hR2
      have hO2 := Lib.hid (hO1.out.trans hO2)
      clear O hR1 hO1
      by_cases hy : 1 ≤ y ∧ y ≤ 50
      rotate_left
      · have hNo := Lib.hid (show rdB width (90 :: y :: L2) = none by unfold rdB; exact if_neg (fun h => hy h.2))
        by_cases y1 : y < 1
        · have q1 : decide (y < 1) = true := decide_eq_true y1
          go_wp2
          exact ⟨rfl, Beside.of_only hO2.out, .inl ⟨hNo.out, rfl⟩⟩
        · have q1 : decide (y < 1) = false := decide_eq_false y1
          have q2 : decide (50 < y) = true := decide_eq_true (by omega)
          go_wp2
          exact ⟨rfl, Beside.of_only hO2.out, .inl ⟨hNo.out, rfl⟩⟩
      have q1 : decide (y < 1) = false := decide_eq_false (by omega)
      have q2 : decide (50 < y) = false := decide_eq_false (by omega)
      obtain ⟨n, en⟩ : ∃ n : Nat, y = (n : Int) := ⟨y.toNat, by omega⟩
      subst en
      have HN := Lib.hid (show n ≤ 50 by omega)
      have RB := Lib.hid (show rdB width (90 :: (n : Int) :: L2) = rdG n (List.replicate width 0) L2 by unfold rdB; exact if_pos ⟨rfl, hy⟩)
      have HM := Lib.hid (fun u => mk_i64t width (by have := HW.out; omega) u)
      have hs2 := Lib.hid (show v2.heap.size = Bz by rw [hO2.out.size, EB.out])
      have mk2 := HM.out v2
      rw [hs2.out] at mk2
      have C0 := Cl.new width v2
      rw [hs2.out] at C0
      have C0 := Lib.hid C0
      have A2 := Lib.hid ((Below.refl v2.heap.size v2).alloc (Nat.le_refl _) (.cells (madeCells #[.int .i64 0] width) 2))
      have hR3 := Lib.hid (hR2.out.bel A2.out (by rw [hs2.out]; exact HBZ.out))
      have hB3 := Lib.hid ((Beside.of_only hO2.out).trans (Beside.of_below A2.out))
      clear hy by2 bx eB A2 hR2 hO2
      go_upto_region 8 with (fail)
      clear mk2
      generalize v2.alloc (.cells (madeCells #[.int .i64 0] width) 2) = v3 at *
      clear hs2 BY1 BY
      go_wp2_with fail
      go_loopw [6, 7, 27] (fun y p i v => ∃ (k : Nat) (x' : Value) (G : List (Nat × List Int)) (gp : Nat) (P M : List Int), k ≤ n ∧ y = x' ∧ p = .slice (some ⟨gp, 0, none⟩) width width ∧ i = .int .i64 (k : Int) ∧ Hid (Gr Bz x' G v) ∧ Hid (G.length = k) ∧ Hid (Cl gp P v) ∧ Hid (Bz ≤ gp) ∧ Hid (P.length = width) ∧ Hid (Rd X b M v) ∧ Hid (Beside b w v) ∧ Hid (rdG n (List.replicate width 0) L2 = (rdG (n - k) P M).map fun q => (grL G ++ q.1, q.2)) ∧ Hid (BYL M)) (fun _ _ i _ => n - (intOf i).toNat)
      case atStart => exact ⟨0, _, [], Bz, List.replicate width 0, L2, by omega, rfl, rfl, rfl, Lib.hid (Gr.nil _ _), Lib.hid rfl, C0, Lib.hid (Nat.le_refl _), Lib.hid (by simp), hR3, hB3, Lib.hid (by cases rdG n (List.replicate width 0) L2 <;> simp [grL]), BY2⟩
      case round =>
        obtain ⟨k, x', G, gp, P, M, hk, rfl, rfl, rfl, hG, hGl, hC, hgp, hPl, hR, hB, hT, hM⟩ := hrel
        generalize wr = v at *
        by_cases hlt : k < n
        · have h1 : (k : Int) < (n : Int) := by omega
          have s1 : IntKind.i64.wrap ((k : Int) + 1) = (k : Int) + 1 := by have := HN.out; rw [IntKind.wrap_i64]; omega
          have mk1 := HM.out v
          have C1 := Cl.new width v
          obtain ⟨g0, eg⟩ : ∃ g, v.heap.size = g := ⟨_, rfl⟩
          rw [eg] at mk1 C1
          have A1 := (Below.refl v.heap.size v).alloc (Nat.le_refl _) (.cells (madeCells #[.int .i64 0] width) 2)
          have hG1 := Lib.hid (hG.out.bel A1)
          have hC1 := Lib.hid (hC.out.bel A1)
          have hR1 := Lib.hid (hR.out.bel A1 hR.out.lt)
          have hB1 := Lib.hid (hB.out.trans (Beside.of_below A1))
          have ng := Lib.hid (show gp ≠ g0 ∧ b < g0 ∧ ogB _ ≠ some g0 ∧ (∀ t ∈ G, t.1 ≠ g0) from ⟨by have := hC.out.lt; omega, by have := hR.out.lt; omega, fun e => by have := hG.out.lt (.inl e); omega, fun t ht => by have := hG.out.lt (.inr ⟨t, ht, rfl⟩); omega⟩)
          have gB := Lib.hid (show Bz ≤ g0 by have := hB.out.size; have := EB.out; omega)
          replace C1 := Lib.hid C1
          clear A1 hG hC hR hB eg
          go_upto_region 11 with (fail)
          clear mk1
          generalize v.alloc (.cells (madeCells #[.int .i64 0] width) 2) = v4 at *
          go_wp2_with fail
          go_loopw [33] (fun i u => ∃ (j : Nat) (A M' : List Int), j ≤ width ∧ i = .int .i64 (j : Int) ∧ Hid (Gr Bz _ G u) ∧ Hid (A.length = j) ∧ Hid (Cl g0 (A ++ List.replicate (width - j) 0) u) ∧ Hid (Cl gp P u) ∧ Hid (Rd X b M' u) ∧ Hid (Beside b w u) ∧ Hid (rdR P M = (rdR (P.drop j) M').map fun q => (A ++ q.1, q.2)) ∧ Hid (BYL M')) (fun i _ => width - (intOf i).toNat)
          case atStart => exact ⟨0, [], M, by omega, rfl, hG1, Lib.hid rfl, C1, hC1, hR1, hB1, Lib.hid (by rw [List.drop_zero]; cases rdR P M <;> simp), hM⟩
          case round =>
            clear hG1 C1 hC1 hR1 hB1
            obtain ⟨j, A, M', hj, rfl, hG, hA, hC0, hC, hR, hB, hT2, hM2⟩ := hrel
            generalize wr = u at *
            by_cases hlj : j < width
            · have j1 : (j : Int) < (width : Int) := by omega
              have j0 : 0 ≤ (j : Int) := by omega
              have s2 : IntKind.i64.wrap ((j : Int) + 1) = (j : Int) + 1 := by have := HW.out; rw [IntKind.wrap_i64]; omega
              have c1 := hC.out.cell (show j < P.length by rw [hPl.out]; exact hlj)
              have DP := Lib.hid (drop_at (show j < P.length by rw [hPl.out]; exact hlj))
              obtain ⟨pv, ePV⟩ : ∃ z, P.getD j 0 = z := ⟨_, rfl⟩
              rw [ePV] at c1 DP
              have PV := Lib.hid ePV
              clear ePV
              have DR := (Below.refl u.heap.size u).drew
              have hR := Lib.hid (hR.out.bel DR hR.out.lt)
              have hC0 := Lib.hid (hC0.out.bel DR)
              have hG := Lib.hid (hG.out.bel DR)
              have hC := Lib.hid (hC.out.bel DR)
              have hB := Lib.hid (hB.out.trans (Beside.of_below DR))
              clear DR
              have T1 := Lib.hid (tnum b M' u.drew hR.out hM2.out)
              go_wp2_with fail
              refine region_moves (fun u => u.cell? ⟨gp, j, none⟩ = some (.int .i64 pv)) [(10, [(9, 10), (8, 10), (7, 10), (0, 10), (1, 10), (2, 10), (3, 10), (4, 10), (5, 10), (6, 10)])] [(.free, 0), (.free, 1), (.free, 2), (.free, 3), (.free, 4), (.take, 5), (.free, 6), (.step, 7), (.free, 8), (.free, 9), (.late, 10)] _ (by kernel_rfl) (by kernel_rfl) (by kernel_rfl) (by kernel_rfl) (by decide) rfl (fun _ _ _ _ _ h => h) ?_
              simp only [List.filterMap_cons, List.filterMap_nil, List.getElem?_toArray, List.getElem?_cons_zero, List.getElem?_cons_succ, Option.map_some]
              iterate 5
                first
                  | (refine mv_free ?_ (Or.inl ⟨by rfl, ?_⟩) (c1) ?_
                     rotate_left 1
                     · intro u
                       go_simp
                       try simp only [d1]
                       try simp only [d2]
                       try simp only [d3]
                       try simp only [d1]
                       try simp only [d2]
                       try simp only [d3]
                       try with_reducible rfl
                     simp only [Act.put, List.setIfInBounds_toArray, List.set_cons_zero, List.set_cons_succ])
                  | (refine mv_free _ (Or.inr ⟨by rfl, rfl⟩) (c1) ?_
                     simp only [Act.put, List.setIfInBounds_toArray, List.set_cons_zero, List.set_cons_succ])
              iterate 1
                first
                  | (refine mv_take ?_ (Or.inl ⟨by rfl, ?_⟩) (c1) ?_
                     rotate_left 1
                     · intro u hu
                       (try dsimp only at hu)
                       go_simp
                       try with_reducible rfl
                     simp only [Act.put, List.setIfInBounds_toArray, List.set_cons_zero, List.set_cons_succ])
                  | (refine mv_take _ (Or.inr ⟨by rfl, rfl⟩) (c1) ?_
                     simp only [Act.put, List.setIfInBounds_toArray, List.set_cons_zero, List.set_cons_succ])
              iterate 1
                first
                  | (refine mv_free ?_ (Or.inl ⟨by rfl, ?_⟩) (c1) ?_
                     rotate_left 1
                     · intro u
                       go_simp
                       try simp only [d1]
                       try simp only [d2]
                       try simp only [d3]
                       try simp only [d1]
                       try simp only [d2]
                       try simp only [d3]
                       try with_reducible rfl
                     simp only [Act.put, List.setIfInBounds_toArray, List.set_cons_zero, List.set_cons_succ])
                  | (refine mv_free _ (Or.inr ⟨by rfl, rfl⟩) (c1) ?_
                     simp only [Act.put, List.setIfInBounds_toArray, List.set_cons_zero, List.set_cons_succ])
              refine mv_step (fun K hK => ?_)
              go_simp
              refine T1.out.mono ?_
              rintro e v5 ⟨hO5, ⟨hNo, rfl⟩ | ⟨c, kk, hS, hc, k1, k2, rfl, hR5⟩⟩
              · have hNo2 := Lib.hid (show rdB width (90 :: (n : Int) :: L2) = none by rw [RB.out, hT.out, show n - k = (n - k - 1) + 1 by omega, rdG, hT2.out, DP.out, rdR_cons, hNo]; rfl)
                exact ⟨rfl, hB.out.trans (Beside.of_only hO5), .inl ⟨hNo2.out, rfl⟩⟩
              have c1 := hC.out.bsd (Beside.of_only hO5) (by have := hgp.out; have := HBZ.out; omega)
              have c2 := hC0.out.bsd (Beside.of_only hO5) (by have := ng.out.2.1; omega)
              have hC5 := Lib.hid c1
              have d1 := c1.cell (show j < P.length by rw [hPl.out]; exact hlj)
              rw [show P.getD j 0 = pv from PV.out] at d1
              have AL := Lib.hid (show (A ++ List.replicate (width - j) 0).length = width by rw [List.length_append, List.length_replicate, hA.out]; omega)
              have d2 := c2.cell (i := j) (by rw [AL.out]; exact hlj)
              have f2 := c2.frozen j
              generalize (A ++ List.replicate (width - j) 0).getD j 0 = old at *
              have c2 := Lib.hid c2
              go_wp2_with fail
              refine hK.out _ _ _ (fun u hu => hu) (d1) ?_
              clear hK K
              iterate 2
                first
                  | (refine mv_free ?_ (Or.inl ⟨by rfl, ?_⟩) (d1) ?_
                     rotate_left 1
                     · intro u
                       go_simp
                       try simp only [d1]
                       try simp only [d2]
                       try simp only [d3]
                       try simp only [d1]
                       try simp only [d2]
                       try simp only [d3]
                       try with_reducible rfl
                     simp only [Act.put, List.setIfInBounds_toArray, List.set_cons_zero, List.set_cons_succ])
                  | (refine mv_free _ (Or.inr ⟨by rfl, rfl⟩) (d1) ?_
                     simp only [Act.put, List.setIfInBounds_toArray, List.set_cons_zero, List.set_cons_succ])
              refine mv_late (fun K hK => ?_)
              go_simp
              refine hK.out (fun _ => True) _ _ ?_
              clear hK K
              refine mv_done ?_
              obtain ⟨nv, env⟩ : ∃ z, IntKind.i64.wrap (pv + unfo c) = z := ⟨_, rfl⟩
              rw [env]
              have r1 := Lib.hid (((hG.out.bsd (Beside.of_only hO5) HBZ.out).cell (i := j) (.int .i64 nv) ng.out.2.2.1 ng.out.2.2.2))
              have r2 := Lib.hid (show Cl g0 ((A ++ [nv]) ++ List.replicate (width - (j + 1)) 0) (v5.setCell ⟨g0, j, none⟩ (.int .i64 nv)) by rw [← fill_set A nv hA.out hlj]; exact c2.out.set j nv)
              have r3 := Lib.hid (hC5.out.cell_ne (i := j) (.int .i64 nv) ng.out.1)
              have r4 := Lib.hid (hR5.cell (i := j) (.int .i64 nv) ng.out.2.1 HX.out)
              have r5 := Lib.hid (show Beside b w (v5.setCell ⟨g0, j, none⟩ (.int .i64 nv)) from SETB.out _ _ _ _ (hB.out.trans (Beside.of_only hO5)) gB.out)
              have r6 := Lib.hid (show rdR P M = (rdR (P.drop (j + 1)) (M'.drop kk)).map fun q => ((A ++ [nv]) ++ q.1, q.2) by rw [hT2.out, DP.out, rdR_cons, hS]; show Option.map _ (Option.map _ _) = _; rw [Option.map_map]; congr 1; funext q; simp [env])
              have r7 := Lib.hid (show BYL (M'.drop kk) from fun z hz => hM2.out z (List.mem_of_mem_drop hz))
              have r8 := Lib.hid (show (A ++ [nv]).length = j + 1 by simp [hA.out])
              generalize v5.setCell ⟨g0, j, none⟩ (.int .i64 nv) = v6 at *
              clear c1 d1 c2 d2 f2 hC5 hO5 hR5 hS T1 hG hC0 hC hR hB hT2 DP PV AL hc
              go_wp2
              go_roundw
              case rel => exact ⟨j + 1, A ++ [nv], M'.drop kk, by omega, by first | rfl | go_num, r1, r8, r2, r3, r4, r5, r6, r7⟩
              case measure => simp [intOf]; omega
            · obtain rfl : j = width := by omega
              have j1 : ¬ (j : Int) < (j : Int) := by omega
              have RT := Lib.hid (show rdR P M = some (A, M') by rw [hT2.out, List.drop_eq_nil_of_le (by rw [hPl.out]; omega), rdR]; simp)
              have hC1 := Lib.hid (show Cl g0 A u by have := hC0.out; rw [Nat.sub_self] at this; simpa using this)
              clear hC0 hC hT2 hPl
              have SR := Lib.hid (src_new 35 79 79 Try.underlying35 u [.slice (some ⟨g0, 0, none⟩) j j] (fun u hu => by simp at hu; subst hu; rfl))
              have A1 := Lib.hid ((Below.refl u.heap.size u).alloc (Nat.le_refl _) (.cells #[.slice (some ⟨g0, 0, none⟩) j j] 79))
              have hG3 := Lib.hid (hG.out.bel A1.out)
              have hO3 := Lib.hid hG3.out.og
              have hz3 := Lib.hid (show Bz ≤ (u.alloc (.cells #[.slice (some ⟨g0, 0, none⟩) j j] 79)).heap.size by have := hB.out.size; have := EB.out; simp; omega)
              have GL := Lib.hid (show (grV G).length + 1 ≤ 1000 by rw [grV_len, hGl.out]; have := HN.out; omega)
              have hC2 := Lib.hid (hC1.out.bel A1.out)
              have hR2 := Lib.hid (hR.out.bel A1.out hR.out.lt)
              have hB2 := Lib.hid (hB.out.trans (Beside.of_below A1.out))
              clear hC1 hR hB hG A1
              skip
              go_upto_region 17 with (first | (at_builtin; refine wpList_append_og _ rfl (.tmp 47) (.tmp 49) 35 35 rfl 79 (.slice none 0 0) 24 Try.underlying35 (by kernel_rfl) rfl Bz _ _ rfl hO3.out hz3.out _ 1 _ rfl SR.out (by have := GL.out; unfold maxLen; omega) (by have := GL.out; omega) ?_; intro x2 w5 hO5 hK5 hN5))
              have r1 := Lib.hid (show Gr Bz x2 (G ++ [(g0, A)]) w5 from hG3.out.app (H := [(g0, A)]) (fun t ht => by simp at ht; subst ht; exact ⟨hC2.out, gB.out⟩) (by rw [show grV [(g0, A)] = [.slice (some ⟨g0, 0, none⟩) A.length A.length] from rfl, hA.out]; exact hO5) hK5)
              have r2 := Lib.hid (show Cl g0 A w5 from hC2.out.kept (hK5.block g0 hC2.out.lt (Gr.ne (B' := 0) (y := x2) hO3.out hC2.out)))
              have r3 := Lib.hid (hR2.out.ogk hO3.out hK5 HBZ.out)
              have r4 := Lib.hid (hB2.out.ogk hO3.out hK5 (Nat.le_of_eq EB.out))
              have r5 := Lib.hid (show rdG n (List.replicate j 0) L2 = (rdG (n - (k + 1)) A M').map fun q => (grL (G ++ [(g0, A)]) ++ q.1, q.2) by rw [hT.out, show n - k = (n - (k + 1)) + 1 by omega, rdG, RT.out]; show Option.map _ (Option.map _ _) = _; rw [Option.map_map]; congr 1; funext q; simp [grL])
              have r6 := Lib.hid (show (G ++ [(g0, A)]).length = k + 1 by simp [hGl.out])
              clear hO5 hK5 hN5 hG3 hO3 hz3 hC2 hR2 hB2 SR hT RT
              go_wp2
              go_roundw
              case rel => exact ⟨k + 1, x2, G ++ [(g0, A)], g0, A, M', by omega, rfl, rfl, by first | rfl | go_num, r1, r6, r2, gB, hA, r3, r4, r5, hM2⟩
              case measure => simp [intOf]; omega
        · obtain rfl : k = n := by omega
          have h1 : ¬ (k : Int) < (k : Int) := by omega
          have RES := Lib.hid (show rdB width (90 :: (k : Int) :: L2) = some (grL G, M) by rw [RB.out, hT.out, Nat.sub_self, rdG]; simp)
          go_wp2
          go_ret
          exact ⟨hB.out, .inr ⟨grL G, M, RES.out, _, rfl, G, hG.out, rfl, hR.out⟩⟩
end Go.Proofs.Ytpcbnoefgknihaa
