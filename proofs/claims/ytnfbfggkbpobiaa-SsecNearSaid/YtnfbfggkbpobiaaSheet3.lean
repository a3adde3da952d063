/- What a sheet tells, the document's; the chapter's example; walked. -/
import Derived.Test.YtnfbfggkbpobiaaSheet2
import Derived.Deep.Cut
namespace Go.Proofs.Ytnfbfggkbpobiaa
open Go.ChangeShapes Go.WideShapes Go.ChangeAt Go.RowKit
set_option linter.unusedVariables false
set_option linter.unusedSimpArgs false

theorem Bld.drew {s : Nat} {x : Value} {L : List Int} {vy : Value} {w v : World} (h : Bld s x L vy w v) : Bld s x L vy w v.drew := ⟨h.oy, h.c0, h.c1, h.f1, h.bel.drew, h.sz⟩
def CutR (a1 : Option Addr) (e1 : Nat) (X L : List Int) (w : World) (e : Ending) (w' : World) : Prop := ∃ g2 c2 : Nat, e = .returned (.agg #[.slice a1 X.length e1, .slice (some ⟨g2, 0, none⟩) L.length c2]) ∧ RowIs .i64 w' (some ⟨g2, 0, none⟩) L ∧ Below w.heap.size w w'
theorem rct_box (w : World) (a1 a2 a3 : Option Addr) (e1 e2 e3 : Nat) (X Y : List Int) (Z : List (List Int)) : ∃ V, V = ((w.alloc (.cells #[.slice a1 X.length e1, .slice a2 Y.length e2, .slice a3 Z.length e3] 25)).alloc (.cells #[.slice none 0 0, .slice none 0 0] 33)) ∧ Below w.heap.size w V ∧ V.heap.size = w.heap.size + 2 ∧ ∀ u, Below (w.heap.size + 2) V u → u.cell? ⟨w.heap.size, 0, none⟩ = some (.slice a1 X.length e1) ∧ u.cell? ⟨w.heap.size, 1, none⟩ = some (.slice a2 Y.length e2) ∧ u.cell? ⟨w.heap.size, 2, none⟩ = some (.slice a3 Z.length e3) ∧ u.cell? ⟨w.heap.size + 1, 0, none⟩ = some (.slice none 0 0) ∧ u.cell? ⟨w.heap.size + 1, 1, none⟩ = some (.slice none 0 0) ∧ u.frozen? ⟨w.heap.size + 1, 0, none⟩ = false ∧ u.frozen? ⟨w.heap.size + 1, 1, none⟩ = false :=
  ⟨_, rfl, (by repeat (first | exact Below.refl _ _ | assumption | apply Below.drew | apply below_drewN | (refine Below.alloc ?_ (by first | exact Nat.le_refl _ | omega | (simp <;> omega)) _) | (refine Below.setCell ?_ (by first | exact Nat.le_refl _ | omega | (simp <;> omega)) _))), by simp, fun u hu => ⟨(bc hu (by omega)).trans (by go_simp), (bc hu (by omega)).trans (by go_simp), (bc hu (by omega)).trans (by go_simp), (bc hu (by omega)).trans (by go_simp), (bc hu (by omega)).trans (by go_simp), (hu.frozen (p := ⟨w.heap.size + 1, 0, none⟩) (by show w.heap.size + 1 < w.heap.size + 2; omega)).trans (by first | (simp; done) | go_simp), (hu.frozen (p := ⟨w.heap.size + 1, 1, none⟩) (by show w.heap.size + 1 < w.heap.size + 2; omega)).trans (by first | (simp; done) | go_simp)⟩⟩
set_option maxRecDepth 100000 in
set_option maxHeartbeats 8000000 in
theorem rcut06 (a1 a2 a3 : Option Addr) (GA : Nat → Option Addr) (GC : Nat → Nat) (e1 e2 e3 : Nat) (X Y : List Int) (Z : List (List Int)) (y : Int) (w : World) (hx : RowIs .i64 w a1 X) (hy : RowIs .i64 w a2 Y) (hg : GridIs .i64 w a3 GA GC Z) (hX : X.length ≤ 50) (hY : Y.length ≤ 50) (hZ : Z.length ≤ 50) (hR : ∀ i, i < Z.length → (Z.getD i []).length ≤ 50) (hs : shB X Y Z = true) : Calls Try.prog 24 #[.agg #[.slice a1 X.length e1, .slice a2 Y.length e2, .slice a3 Z.length e3], .int .i64 y] w (CutR a1 e1 X (cuL Y Z y) w) := by
  obtain ⟨V, eV, hb0, hz, hcs⟩ := rct_box w a1 a2 a3 e1 e2 e3 X Y Z
  obtain ⟨i0, hi, hz0, hz1, hz2⟩ := info_parts cinfo_i64
  replace hi := Lib.hid hi
  replace hz0 := Lib.hid hz0
  replace hz1 := Lib.hid hz1
  replace hz2 := Lib.hid hz2
  obtain ⟨s1, s2, s3, s4, s5, s6⟩ := shB_at hs
  obtain ⟨n1, _⟩ := rgtB_at s1
  have GG := Lib.hid (fun u (h : Below (w.heap.size + 2) V u) => fun i (hi : i < Z.length) => (hg.below (hb0.trans (h.mono (by omega)))).at hi)
  have AT := Lib.hid (fun u (h : Below (w.heap.size + 2) V u) i (hi : i < Z.length) => rat5f a2 (GA i) e2 (GC i) Y (Z.getD i []) y u (hy.below (hb0.trans (h.mono (by omega)))) ((hg.rows i hi).below (hb0.trans (h.mono (by omega)))) (s6 i hi))
  have ZL := Lib.hid (show 0 < Z.length ∧ Z.length ≤ 50 from by omega)
  clear hx hy hg hX hY hR hs s1 s2 s3 s4 s5 s6 n1 hZ
  replace hb0 := Lib.hid hb0
  replace hz := Lib.hid hz
  replace hcs := Lib.hid hcs
  replace eV := Lib.hid eV
  go_enter Try.func24, Try.ntmps24
  go_upto_region 1 with (fail)
  rw [← eV.out]
  obtain ⟨k0, k1, k2, k3, k4, k5, k6⟩ := hcs.out _ (Below.refl _ _)
  go_upto_region 2 with (fail)
  obtain ⟨s, es⟩ : ∃ s, s = V.heap.size := ⟨_, rfl⟩
  have hB0 : Bld s (.slice a1 X.length e1) [] (.slice none 0 0) V (V.alloc (.cells #[.slice a1 X.length e1, .slice none 0 0] 33)) := by
    rw [es]
    exact ⟨World.ownsRow_nil _ _ _ _, by go_simp, by go_simp, by first | (simp; done) | go_simp, (Below.refl _ _).alloc (Nat.le_refl _) _, by simp⟩
  have hsw : s = w.heap.size + 2 := by rw [es]; exact hz.out
  rw [← es]
  generalize V.alloc (.cells #[.slice a1 X.length e1, .slice none 0 0] 33) = V2 at *
  have hbV := Lib.hid (fun u (h : Below s V u) => show Below (w.heap.size + 2) V u from h.mono (by omega))
  replace es := Lib.hid es
  replace hsw := Lib.hid hsw
  replace hB0 := Lib.hid hB0
  clear k0 k1 k2 k3 k4 k5 k6
  obtain ⟨k0, k1, k2, k3, k4, k5, k6⟩ := hcs.out _ (hbV.out _ hB0.out.bel)
  go_wp2_with fail
  go_loopw [6] (fun i v => ∃ (j : Nat) (vy : Value), j ≤ Z.length ∧ i = .int .i64 (j : Int) ∧ Hid (Bld s (.slice a1 X.length e1) (cuL Y (Z.take j) y) vy V v)) (fun i _ => Z.length - (intOf i).toNat)
  case atStart => exact ⟨0, .slice none 0 0, by omega, rfl, hB0⟩
  case round =>
    clear hB0 k0 k1 k2 k3 k4 k5 k6
    obtain ⟨j, vy, hj, rfl, hS⟩ := hrel
    have hb := hbV.out _ hS.out.bel
    obtain ⟨k0, k1, k2, k3, k4, k5, k6⟩ := hcs.out _ hb
    by_cases hlt : j < Z.length
    · obtain ⟨bz, oz, ea, hbz, c9⟩ := GG.out _ hb j hlt
      have l1 : (j : Int) < (Z.length : Int) := by omega
      have l0 : 0 ≤ (j : Int) := by omega
      have A9 := fun u h => AT.out u h j hlt
      have G9 := Lib.hid (fun u h => GG.out u h j hlt)
      have SN := Lib.hid (cuL_snoc (Y := Y) y hlt)
      have LN : (cuL Y (Z.take j) y).length = j := by rw [cuL_len]; simp; omega
      have zl := ZL.out
      generalize (Z.getD j []).length = m at *
      generalize crF Y (Z.getD j []) y = n at *
      replace A9 := Lib.hid A9
      subst ea
      have c1' := hS.out.c1
      go_wp2_with fail
      refine region_moves (fun u => u.cell? ⟨s, 1, none⟩ = some vy ∧ u.cell? ⟨w.heap.size, 1, none⟩ = some (.slice a2 Y.length e2) ∧ u.cell? ⟨w.heap.size, 2, none⟩ = some (.slice (some ⟨bz, oz, none⟩) Z.length e3) ∧ u.cell? ⟨bz, oz + j, none⟩ = some (.slice (GA j) m (GC j))) [(15, [(14, 15), (13, 15), (0, 15), (1, 15), (2, 15), (3, 15), (4, 15), (5, 15), (6, 15), (7, 15), (8, 15), (9, 15), (10, 15), (11, 15), (12, 15)])] [(.free, 0), (.take, 1), (.free, 2), (.take, 3), (.free, 4), (.take, 5), (.free, 6), (.free, 7), (.take, 8), (.free, 9), (.free, 10), (.step, 11), (.step, 12), (.step, 13), (.free, 14), (.late, 15)] _ (by kernel_rfl) (by kernel_rfl) (by kernel_rfl) (by kernel_rfl) (by decide) rfl (fun _ _ _ _ _ h => h) ?_
      simp only [List.filterMap_cons, List.filterMap_nil, List.getElem?_toArray, List.getElem?_cons_zero, List.getElem?_cons_succ, Option.map_some]
      iterate 1
        first
          | (refine mv_free ?_ (Or.inl ⟨by rfl, ?_⟩) (⟨c1', k1, k2, c9⟩) ?_
             rotate_left 1
             · intro u
               go_simp
               try simp only [d1]
               try simp only [d2]
               try simp only [d3]
               try with_reducible rfl
             simp only [Act.put, List.setIfInBounds_toArray, List.set_cons_zero, List.set_cons_succ])
          | (refine mv_free _ (Or.inr ⟨by rfl, rfl⟩) (⟨c1', k1, k2, c9⟩) ?_
             simp only [Act.put, List.setIfInBounds_toArray, List.set_cons_zero, List.set_cons_succ])
      iterate 1
        first
          | (refine mv_take ?_ (Or.inl ⟨by rfl, ?_⟩) (⟨c1', k1, k2, c9⟩) ?_
             rotate_left 1
             · intro u hu
               (try dsimp only at hu)
               go_simp
               try with_reducible rfl
             simp only [Act.put, List.setIfInBounds_toArray, List.set_cons_zero, List.set_cons_succ])
          | (refine mv_take _ (Or.inr ⟨by rfl, rfl⟩) (⟨c1', k1, k2, c9⟩) ?_
             simp only [Act.put, List.setIfInBounds_toArray, List.set_cons_zero, List.set_cons_succ])
      iterate 1
        first
          | (refine mv_free ?_ (Or.inl ⟨by rfl, ?_⟩) (⟨c1', k1, k2, c9⟩) ?_
             rotate_left 1
             · intro u
               go_simp
               try simp only [d1]
               try simp only [d2]
               try simp only [d3]
               try with_reducible rfl
             simp only [Act.put, List.setIfInBounds_toArray, List.set_cons_zero, List.set_cons_succ])
          | (refine mv_free _ (Or.inr ⟨by rfl, rfl⟩) (⟨c1', k1, k2, c9⟩) ?_
             simp only [Act.put, List.setIfInBounds_toArray, List.set_cons_zero, List.set_cons_succ])
      iterate 1
        first
          | (refine mv_take ?_ (Or.inl ⟨by rfl, ?_⟩) (⟨c1', k1, k2, c9⟩) ?_
             rotate_left 1
             · intro u hu
               (try dsimp only at hu)
               go_simp
               try with_reducible rfl
             simp only [Act.put, List.setIfInBounds_toArray, List.set_cons_zero, List.set_cons_succ])
          | (refine mv_take _ (Or.inr ⟨by rfl, rfl⟩) (⟨c1', k1, k2, c9⟩) ?_
             simp only [Act.put, List.setIfInBounds_toArray, List.set_cons_zero, List.set_cons_succ])
      iterate 1
        first
          | (refine mv_free ?_ (Or.inl ⟨by rfl, ?_⟩) (⟨c1', k1, k2, c9⟩) ?_
             rotate_left 1
             · intro u
               go_simp
               try simp only [d1]
               try simp only [d2]
               try simp only [d3]
               try with_reducible rfl
             simp only [Act.put, List.setIfInBounds_toArray, List.set_cons_zero, List.set_cons_succ])
          | (refine mv_free _ (Or.inr ⟨by rfl, rfl⟩) (⟨c1', k1, k2, c9⟩) ?_
             simp only [Act.put, List.setIfInBounds_toArray, List.set_cons_zero, List.set_cons_succ])
      iterate 1
        first
          | (refine mv_take ?_ (Or.inl ⟨by rfl, ?_⟩) (⟨c1', k1, k2, c9⟩) ?_
             rotate_left 1
             · intro u hu
               (try dsimp only at hu)
               go_simp
               try with_reducible rfl
             simp only [Act.put, List.setIfInBounds_toArray, List.set_cons_zero, List.set_cons_succ])
          | (refine mv_take _ (Or.inr ⟨by rfl, rfl⟩) (⟨c1', k1, k2, c9⟩) ?_
             simp only [Act.put, List.setIfInBounds_toArray, List.set_cons_zero, List.set_cons_succ])
      iterate 2
        first
          | (refine mv_free ?_ (Or.inl ⟨by rfl, ?_⟩) (⟨c1', k1, k2, c9⟩) ?_
             rotate_left 1
             · intro u
               go_simp
               try simp only [d1]
               try simp only [d2]
               try simp only [d3]
               try with_reducible rfl
             simp only [Act.put, List.setIfInBounds_toArray, List.set_cons_zero, List.set_cons_succ])
          | (refine mv_free _ (Or.inr ⟨by rfl, rfl⟩) (⟨c1', k1, k2, c9⟩) ?_
             simp only [Act.put, List.setIfInBounds_toArray, List.set_cons_zero, List.set_cons_succ])
      iterate 1
        first
          | (refine mv_take ?_ (Or.inl ⟨by rfl, ?_⟩) (⟨c1', k1, k2, c9⟩) ?_
             rotate_left 1
             · intro u hu
               (try dsimp only at hu)
               go_simp
               try with_reducible rfl
             simp only [Act.put, List.setIfInBounds_toArray, List.set_cons_zero, List.set_cons_succ])
          | (refine mv_take _ (Or.inr ⟨by rfl, rfl⟩) (⟨c1', k1, k2, c9⟩) ?_
             simp only [Act.put, List.setIfInBounds_toArray, List.set_cons_zero, List.set_cons_succ])
      iterate 2
        first
          | (refine mv_free ?_ (Or.inl ⟨by rfl, ?_⟩) (⟨c1', k1, k2, c9⟩) ?_
             rotate_left 1
             · intro u
               go_simp
               try simp only [d1]
               try simp only [d2]
               try simp only [d3]
               try with_reducible rfl
             simp only [Act.put, List.setIfInBounds_toArray, List.set_cons_zero, List.set_cons_succ])
          | (refine mv_free _ (Or.inr ⟨by rfl, rfl⟩) (⟨c1', k1, k2, c9⟩) ?_
             simp only [Act.put, List.setIfInBounds_toArray, List.set_cons_zero, List.set_cons_succ])
      refine mv_step (fun K hK => ?_)
      go_simp
      refine (A9.out _ hb.drew).mono ?_
      rintro e w3 ⟨rfl, hb3⟩
      have hS3 := hS.out.drew.keep hb3
      clear hb3 hS hb k0 k1 k2 k3 k4 k5 k6 c9 c1'
      have hb := hbV.out _ hS3.bel
      obtain ⟨k0, k1, k2, k3, k4, k5, k6⟩ := hcs.out _ hb
      obtain ⟨bz', oz', ea, hbz', c9⟩ := G9.out _ hb
      injection ea with ea
      injection ea with e1' e2'
      subst e1' e2'
      have c1' := hS3.c1
      go_wp2_with fail
      refine hK.out _ _ _ (fun u hu => hu) (⟨c1', k1, k2, c9⟩) ?_
      clear hK K
      refine mv_step (fun K hK => ?_)
      go_simp
      have hA := (Below.refl w3.heap.size w3).alloc (Nat.le_refl _) (.cells #[.int .i64 n] 2)
      refine hK.out _ _ _ (fun u hu => hu) (⟨(hA.cell (p := ⟨s, 1, none⟩) (by have := hS3.sz; show s < _; omega)).trans c1', (hA.cell (p := ⟨w.heap.size, 1, none⟩) (by have := hb.size; have := hz.out; show w.heap.size < _; omega)).trans k1, (hA.cell (p := ⟨w.heap.size, 2, none⟩) (by have := hb.size; have := hz.out; show w.heap.size < _; omega)).trans k2, (hA.cell (p := ⟨bz, oz + j, none⟩) hbz').trans c9⟩) ?_
      clear hK K
      refine mv_step (fun K hK => ?_)
      refine step_append_lies (w3.alloc (.cells #[.int .i64 n] 2)) rfl (.tmp 18) (.tmp 29) _ rfl (s + 1) 2 i0 (.int .i64 0) 1 8 Try.underlying22 hi.out hz0.out hz1.out hz2.out rfl (by decide) vy (cuL Y (Z.take j) y).length (cvals (cuL Y (Z.take j) y)) rfl (hS3.oy.alloc _) ⟨_, 0, none⟩ 1 1 [.int .i64 n] rfl rfl (new_one _ _ _) (one_int _ _) (by decide) (by unfold maxLen; omega) (by omega) (by simp; have := hS3.sz; omega) _ rfl ?_
      intro g cap w5 ho hg hb5 hlt5
      obtain ⟨d0, d1, e1'', hq⟩ := hS3.low _ hg
      have hS4 := hS3.step _ ho hg
      rw [← SN.out, LN] at hS4
      have hq2 := hsw.out
      obtain ⟨k0, k1, k2, k3, k4, k5, k6⟩ := hcs.out _ (hb.trans (hq.mono (by omega)))
      obtain ⟨bz', oz', ea, hbz', c9⟩ := G9.out _ (hb.trans (hq.mono (by omega)))
      injection ea with ea
      injection ea with e1' e2'
      subst e1' e2'
      replace hS4 := Lib.hid hS4
      clear ho hg hb5 hlt5 hS3 hq hb hq2 hA
      refine hK.out _ _ _ (fun u hu => hu) (⟨d1, k1, k2, c9⟩) ?_
      clear hK K
      iterate 1
        first
          | (refine mv_free ?_ (Or.inl ⟨by rfl, ?_⟩) (⟨d1, k1, k2, c9⟩) ?_
             rotate_left 1
             · intro u
               go_simp
               try simp only [d1]
               try simp only [d2]
               try simp only [d3]
               try with_reducible rfl
             simp only [Act.put, List.setIfInBounds_toArray, List.set_cons_zero, List.set_cons_succ])
          | (refine mv_free _ (Or.inr ⟨by rfl, rfl⟩) (⟨d1, k1, k2, c9⟩) ?_
             simp only [Act.put, List.setIfInBounds_toArray, List.set_cons_zero, List.set_cons_succ])
      refine mv_late (fun K hK => ?_)
      go_simp
      refine hK.out (fun _ => True) _ _ ?_
      clear hK K
      refine mv_done ?_
      clear d0 d1 e1'' k0 k1 k2 k3 k4 k5 k6 c9
      first | rw [LN] | skip
      generalize w5.setCell ⟨s, 1, none⟩ (.slice (some ⟨g, 0, none⟩) (j + 1) cap) = v1 at *
      go_wp2
      go_roundw
      case rel => exact ⟨j + 1, _, by omega, by go_num, hS4⟩
      case measure => simp [intOf]; omega
    · have hge : (Z.length : Int) ≤ (j : Int) := by omega
      have ej : j = Z.length := by omega
      have hT : Z.take j = Z := by rw [ej]; simp
      rw [hT] at hS
      have zl := ZL.out
      obtain ⟨g2, c2, rfl, x2, hg2⟩ := cown_row (by rw [cuL_len]; omega) rfl hS.out.oy
      have hq2 := hsw.out
      have c0' := hS.out.c0
      have c1' := hS.out.c1
      have z0 := World.cell?_setCell_same wr ⟨w.heap.size + 1, 0, none⟩ (.slice a1 X.length e1) k3
      have z1 := World.cell?_setCell_same (wr.setCell ⟨w.heap.size + 1, 0, none⟩ (.slice a1 X.length e1)) ⟨w.heap.size + 1, 1, none⟩ (.slice (some ⟨g2, 0, none⟩) (cuL Y Z y).length c2) ((World.cell?_setCell_other _ _ _ _ (by simp)).trans k4)
      have hbl := Lib.hid (((hb0.out.trans (hb.mono (by omega))).setCell (p := ⟨w.heap.size + 1, 0, none⟩) (by show _ ≤ w.heap.size + 1; omega) (.slice a1 X.length e1)).setCell (p := ⟨w.heap.size + 1, 1, none⟩) (by show _ ≤ w.heap.size + 1; omega) (.slice (some ⟨g2, 0, none⟩) (cuL Y Z y).length c2))
      replace z0 := Lib.hid ((World.cell?_setCell_other (wr.setCell ⟨w.heap.size + 1, 0, none⟩ (.slice a1 X.length e1)) ⟨w.heap.size + 1, 1, none⟩ ⟨w.heap.size + 1, 0, none⟩ (.slice (some ⟨g2, 0, none⟩) (cuL Y Z y).length c2) (by simp)).trans z0)
      replace z1 := Lib.hid z1
      replace x2 := Lib.hid ((x2.aside3 ⟨w.heap.size + 1, 0, none⟩ (.slice a1 X.length e1) (by show w.heap.size + 1 ≠ g2; omega)).aside3 ⟨w.heap.size + 1, 1, none⟩ (.slice (some ⟨g2, 0, none⟩) (cuL Y Z y).length c2) (by show w.heap.size + 1 ≠ g2; omega))
      replace hS := 0
      clear hq2
      go_wp2
      refine bodyPost_ret (v := .agg #[.slice a1 X.length e1, .slice (some ⟨g2, 0, none⟩) (cuL Y Z y).length c2]) (by simp [results, Try.results24, go_sem, z0.out, z1.out]) rfl ?_
      exact ⟨g2, c2, rfl, x2.out, hbl.out⟩
theorem rsa_box (w : World) (a1 a2 a3 : Option Addr) (e1 e2 e3 : Nat) (X Y : List Int) (Z : List (List Int)) : ∃ V, V = (w.alloc (.cells #[.slice a1 X.length e1, .slice a2 Y.length e2, .slice a3 Z.length e3] 25)) ∧ Below w.heap.size w V ∧ V.heap.size = w.heap.size + 1 ∧ ∀ u, Below (w.heap.size + 1) V u → u.cell? ⟨w.heap.size, 0, none⟩ = some (.slice a1 X.length e1) ∧ u.cell? ⟨w.heap.size, 1, none⟩ = some (.slice a2 Y.length e2) ∧ u.cell? ⟨w.heap.size, 2, none⟩ = some (.slice a3 Z.length e3) :=
  ⟨_, rfl, (by repeat (first | exact Below.refl _ _ | assumption | apply Below.drew | apply below_drewN | (refine Below.alloc ?_ (by first | exact Nat.le_refl _ | omega | (simp <;> omega)) _) | (refine Below.setCell ?_ (by first | exact Nat.le_refl _ | omega | (simp <;> omega)) _))), by simp, fun u hu => ⟨(bc hu (by omega)).trans (by go_simp), (bc hu (by omega)).trans (by go_simp), (bc hu (by omega)).trans (by go_simp)⟩⟩
set_option maxRecDepth 100000 in
set_option maxHeartbeats 8000000 in
theorem rat06 (a1 a2 a3 : Option Addr) (GA : Nat → Option Addr) (GC : Nat → Nat) (e1 e2 e3 : Nat) (X Y : List Int) (Z : List (List Int)) (x y : Int) (w : World) (hx : RowIs .i64 w a1 X) (hy : RowIs .i64 w a2 Y) (hg : GridIs .i64 w a3 GA GC Z) (hX : X.length ≤ 50) (hY : Y.length ≤ 50) (hZ : Z.length ≤ 50) (hR : ∀ i, i < Z.length → (Z.getD i []).length ≤ 50) (hs : shB X Y Z = true) : Calls Try.prog 20 #[.agg #[.slice a1 X.length e1, .slice a2 Y.length e2, .slice a3 Z.length e3], .int .i64 x, .int .i64 y] w fun e w' => e = .returned (.int .i64 (crF X (cuL Y Z y) x)) ∧ Below w.heap.size w w' := by
  obtain ⟨V, eV, hb0, hz, hcs⟩ := rsa_box w a1 a2 a3 e1 e2 e3 X Y Z
  have CT := Lib.hid (fun u (h : Below (w.heap.size + 1) V u) => rcut06 a1 a2 a3 GA GC e1 e2 e3 X Y Z y u (hx.below (hb0.trans (h.mono (by omega)))) (hy.below (hb0.trans (h.mono (by omega)))) (hg.below (hb0.trans (h.mono (by omega)))) hX hY hZ hR hs)
  have hq := cuL_right hs y
  have HX := Lib.hid (fun u (h : Below (w.heap.size + 1) V u) => hx.below (hb0.trans (h.mono (by omega))))
  generalize cuL Y Z y = L at *
  have AT := Lib.hid (fun g2 c2 u h1 h2 => rat5f a1 (some ⟨g2, 0, none⟩) e1 c2 X L x u h1 h2 hq)
  generalize crF X L x = v at *
  clear hx hy hg hX hY hZ hR hs hq
  replace hb0 := Lib.hid hb0
  replace hz := Lib.hid hz
  replace hcs := Lib.hid hcs
  replace eV := Lib.hid eV
  go_enter Try.func20, Try.ntmps20
  go_wp2_with fail
  rw [← eV.out]
  obtain ⟨k0, k1, k2⟩ := hcs.out _ (Below.refl _ _)
  go_wp2_with fail
  refine (CT.out _ (Below.refl _ _)).mono ?_
  rintro e w1 ⟨g2, c2, rfl, x2, hb1⟩
  have hb1 := (Below.refl (w.heap.size + 1) V).trans (hb1.mono (Nat.le_of_eq hz.out.symm))
  replace x2 := Lib.hid x2
  go_wp2_with fail
  refine (AT.out _ _ _ (HX.out _ hb1) x2.out).mono ?_
  rintro e w3 ⟨rfl, hb3⟩
  have hb3 := hb1.trans (hb3.mono (by have := hb1.size; have := hz.out; omega))
  go_wp2
  go_ret
  exact ⟨rfl, hb0.out.trans (hb3.mono (by omega))⟩
end Go.Proofs.Ytnfbfggkbpobiaa
