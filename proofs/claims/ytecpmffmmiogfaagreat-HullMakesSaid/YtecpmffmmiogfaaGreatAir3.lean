/- The steps are made: from the sea up, and down; walked. -/
import Derived.Test.YtecpmffmmiogfaaGreatAir2
import Derived.Deep.Cut
namespace Go.Proofs.YtecpmffmmiogfaaGreat
open Go.ChangeShapes Go.WideShapes Go.ChangeAt Go.RowKit
set_option linter.unusedVariables false
set_option linter.unusedSimpArgs false
theorem itN_zero (f : Nat → Nat → Nat) (p : Nat) : itN f p 0 = p := rfl
theorem asU (k : Nat) : asN (100 + k) = auN k := by
  unfold asN
  rw [if_pos (by omega), show 100 + k - 100 = k by omega]
theorem asD (k : Nat) (hk : k ≤ 100) : asN (100 - k) = adN k := by
  unfold asN
  split
  · obtain rfl : k = 0 := by omega
    rw [show 100 - 0 - 100 = 0 by omega]
    unfold auN adN
    rw [itN_zero, itN_zero]
  · rw [show 100 - (100 - k) = k by omega]
/-- The steps made so far: from the sea up; then down. -/
def agU (k : Nat) (g : Nat → Int) (i : Nat) : Int := if 100 ≤ i ∧ i ≤ 100 + k then (asN i : Int) else g i
def agD (k : Nat) (g : Nat → Int) (i : Nat) : Int := if 100 - k ≤ i then (asN i : Int) else g i
def aS (i : Nat) : Int := (asN i : Int)
set_option maxRecDepth 100000 in
set_option maxHeartbeats 8000000 in
theorem aprep1 (b : Nat) (pl : Addr) (g : Nat → Int) (w : World) (hpb : ¬ pl.block = b) (hp : w.cell? pl = some (.pointer (some ⟨b, 0, none⟩))) (hpl : pl.block < w.heap.size) (h : AirO b 0 1 g w) : Calls Tryz.prog 60 #[.pointer (some pl)] w fun e w' => e = .returned (.tuple #[]) ∧ AirO b 0 1 aS w' ∧ Beside b w w' := by
  have FA := Lib.hid (fun (k : Nat) u (hk : k < 2100) => afactors k u hk)
  have FU := Lib.hid (fun (k : Nat) u (hk : k < 2000) => by
    have := floor_any (auN k : Int) (alN (100 + k) : Int) (amN (100 + k) : Int) u (by omega) (by have := auN_bd k (by omega); omega) (by omega) (by have := al_pos (100 + k); omega) (by omega) (by have := al_pos (100 + k); omega)
    rw [au_flV k hk] at this
    exact this)
  have FD := Lib.hid (fun (k : Nat) u (hk : k < 100) => by
    have := floor_any (adN k : Int) (amN (99 - k) : Int) (alN (99 - k) : Int) u (by omega) (by have := adN_bd k (by omega); omega) (by omega) (by have := al_pos (99 - k); omega) (by omega) (by have := al_pos (99 - k); omega)
    rw [ad_flV k hk] at this
    exact this)
  have PL := Lib.hid (fun u (k : Beside b w u) => (World.cell?_of_block (a := pl) (k.block pl.block hpl hpb)).trans hp)
  have c100 := h.st 100 (by omega)
  have f100 := h.fz 103 (by omega)
  have h0 := (h.setS 100 (by omega) 6484800).fn (g' := agU 0 g) (fun i hi => by
    unfold agU
    by_cases e : i = 100
    · subst e
      rfl
    · rw [if_neg e, if_neg (by omega)])
  have bs0 : Beside b w (w.setCell ⟨b, 3 + 100, none⟩ (.int .i64 6484800)) := (Beside.of_only (Only.refl b w)).setCell (p := ⟨b, 3 + 100, none⟩) _
  obtain ⟨V, eV⟩ : ∃ V, V = w.setCell ⟨b, 3 + 100, none⟩ (.int .i64 6484800) := ⟨_, rfl⟩
  rw [← eV] at h0 bs0
  replace h0 := Lib.hid h0
  replace bs0 := Lib.hid bs0
  replace eV := Lib.hid eV
  clear h hpl
  go_enter Tryz.func60, Tryz.ntmps60
  go_upto_region 1 with (fail)
  rw [← eV.out]
  clear c100 f100 hp hpb
  go_wp2_with fail
  go_loopw [1] (fun i v => ∃ k : Nat, k ≤ 2000 ∧ i = .int .i64 ((100 + k : Nat) : Int) ∧ Hid (AirO b 0 1 (agU k g) v ∧ Beside b w v)) (fun i _ => 2100 - (intOf i).toNat)
  case atStart => exact ⟨0, by omega, rfl, Lib.hid ⟨h0.out, bs0.out⟩⟩
  case round =>
    clear h0 bs0 eV
    obtain ⟨k, hk, rfl, hS⟩ := hrel
    by_cases hlt : k < 2000
    · have FAk := Lib.hid (fun u => FA.out (100 + k) u (by omega))
      have FUk := FU.out k
      have s1 : agU k g (100 + k) = (auN k : Int) := by unfold agU; rw [if_pos (by omega), asU]
      have cx := hS.out.1.st (100 + k) (by omega)
      rw [s1] at cx
      have cy := hS.out.1.st (100 + k + 1) (by omega)
      have fy := hS.out.1.fz (3 + (100 + k + 1)) (by omega)
      have cp := PL.out _ hS.out.2
      have eS := Lib.hid (show agU (k + 1) g = fun i => if i = 100 + k + 1 then (auN (k + 1) : Int) else agU k g i from by
        funext i
        unfold agU
        by_cases e : i = 100 + k + 1
        · subst e
          rw [if_pos rfl, if_pos (by omega), show 100 + k + 1 = 100 + (k + 1) by omega, asU]
        · rw [if_neg e]
          split <;> split <;> first | rfl | omega)
      have FUk := Lib.hid (fun u => FU.out k u hlt)
      generalize auN k = x at *
      generalize auN (k + 1) = z at *
      generalize agU k g (100 + k + 1) = y at *
      obtain ⟨j, ej⟩ : ∃ j, j = 100 + k := ⟨_, rfl⟩
      rw [← ej] at FAk FUk cx cy fy eS ⊢
      have hj : j < 2100 := by omega
      replace ej := Lib.hid ej
      generalize alN j = l at *
      generalize amN j = m at *
      have i1 : (j : Int) < 2100 := by omega
      have i0 : 0 ≤ (j : Int) := by omega
      have i2 : IntKind.i64.wrap ((j : Int) + 1) = (j : Int) + 1 := by rw [IntKind.wrap_i64]; omega
      have i3 : ((j : Int) + 1).toNat = j + 1 := by omega
      have i4 : 0 ≤ (j : Int) + 1 := by omega
      have i5 : (j : Int) + 1 < 2101 := by omega
      have i6 : (j : Int) < 2101 := by omega
      generalize wr = v0 at *
      go_wp2_with fail
      refine (FAk.out _).mono ?_
      rintro e w2 ⟨rfl, hb2⟩
      have h2 := Lib.hid (hS.out.1.bel hb2)
      have bs2 := Lib.hid (hS.out.2.trans (.of_below hb2))
      have cp := PL.out _ bs2.out
      have cx := (hb2.cell (p := ⟨b, 3 + j, none⟩) hS.out.1.lt).trans cx
      have cy := (hb2.cell (p := ⟨b, 3 + (j + 1), none⟩) hS.out.1.lt).trans cy
      have fy := h2.out.fz (3 + (j + 1)) (by omega)
      clear hS hb2
      go_wp2_with fail
      refine region_moves (fun u => u.cell? pl = some (.pointer (some ⟨b, 0, none⟩)) ∧ u.cell? ⟨b, 3 + j, none⟩ = some (.int .i64 (x : Int)) ∧ u.cell? ⟨b, 3 + (j + 1), none⟩ = some (.int .i64 y) ∧ u.frozen? ⟨b, 3 + (j + 1), none⟩ = false) [(18, [(17, 18), (13, 18), (11, 18), (0, 18), (1, 18), (2, 18), (3, 18), (4, 18), (5, 18), (6, 18), (7, 18), (8, 18), (9, 18), (10, 18), (12, 18), (16, 17), (15, 16)])] [(.take, 0), (.free, 1), (.free, 2), (.take, 3), (.free, 4), (.free, 5), (.free, 6), (.free, 7), (.take, 8), (.free, 9), (.free, 10), (.free, 15), (.free, 16), (.step, 11), (.free, 12), (.free, 13), (.free, 14), (.free, 17), (.late, 18)] _ (by kernel_rfl) (by kernel_rfl) (by kernel_rfl) (by kernel_rfl) (by decide) rfl (fun _ _ _ _ _ h => h) ?_
      simp only [List.filterMap_cons, List.filterMap_nil, List.getElem?_toArray, List.getElem?_cons_zero, List.getElem?_cons_succ, Option.map_some]
      iterate 1
        first
          | (refine mv_take ?_ (Or.inl ⟨by rfl, ?_⟩) (⟨cp, cx, cy, fy⟩) ?_
             rotate_left 1
             · intro u hu
               (try dsimp only at hu)
               go_simp
               try with_reducible rfl
             simp only [Act.put, List.setIfInBounds_toArray, List.set_cons_zero, List.set_cons_succ])
          | (refine mv_take _ (Or.inr ⟨by rfl, rfl⟩) (⟨cp, cx, cy, fy⟩) ?_
             simp only [Act.put, List.setIfInBounds_toArray, List.set_cons_zero, List.set_cons_succ])
      iterate 2
        first
          | (refine mv_free ?_ (Or.inl ⟨by rfl, ?_⟩) (⟨cp, cx, cy, fy⟩) ?_
             rotate_left 1
             · intro u
               go_simp
               try simp only [d1]
               try simp only [d2]
               try simp only [d3]
               try with_reducible rfl
             simp only [Act.put, List.setIfInBounds_toArray, List.set_cons_zero, List.set_cons_succ])
          | (refine mv_free _ (Or.inr ⟨by rfl, rfl⟩) (⟨cp, cx, cy, fy⟩) ?_
             simp only [Act.put, List.setIfInBounds_toArray, List.set_cons_zero, List.set_cons_succ])
      iterate 1
        first
          | (refine mv_take ?_ (Or.inl ⟨by rfl, ?_⟩) (⟨cp, cx, cy, fy⟩) ?_
             rotate_left 1
             · intro u hu
               (try dsimp only at hu)
               go_simp
               try with_reducible rfl
             simp only [Act.put, List.setIfInBounds_toArray, List.set_cons_zero, List.set_cons_succ])
          | (refine mv_take _ (Or.inr ⟨by rfl, rfl⟩) (⟨cp, cx, cy, fy⟩) ?_
             simp only [Act.put, List.setIfInBounds_toArray, List.set_cons_zero, List.set_cons_succ])
      iterate 4
        first
          | (refine mv_free ?_ (Or.inl ⟨by rfl, ?_⟩) (⟨cp, cx, cy, fy⟩) ?_
             rotate_left 1
             · intro u
               go_simp
               try simp only [d1]
               try simp only [d2]
               try simp only [d3]
               try with_reducible rfl
             simp only [Act.put, List.setIfInBounds_toArray, List.set_cons_zero, List.set_cons_succ])
          | (refine mv_free _ (Or.inr ⟨by rfl, rfl⟩) (⟨cp, cx, cy, fy⟩) ?_
             simp only [Act.put, List.setIfInBounds_toArray, List.set_cons_zero, List.set_cons_succ])
      iterate 1
        first
          | (refine mv_take ?_ (Or.inl ⟨by rfl, ?_⟩) (⟨cp, cx, cy, fy⟩) ?_
             rotate_left 1
             · intro u hu
               (try dsimp only at hu)
               go_simp
               try with_reducible rfl
             simp only [Act.put, List.setIfInBounds_toArray, List.set_cons_zero, List.set_cons_succ])
          | (refine mv_take _ (Or.inr ⟨by rfl, rfl⟩) (⟨cp, cx, cy, fy⟩) ?_
             simp only [Act.put, List.setIfInBounds_toArray, List.set_cons_zero, List.set_cons_succ])
      iterate 4
        first
          | (refine mv_free ?_ (Or.inl ⟨by rfl, ?_⟩) (⟨cp, cx, cy, fy⟩) ?_
             rotate_left 1
             · intro u
               go_simp
               try simp only [d1]
               try simp only [d2]
               try simp only [d3]
               try with_reducible rfl
             simp only [Act.put, List.setIfInBounds_toArray, List.set_cons_zero, List.set_cons_succ])
          | (refine mv_free _ (Or.inr ⟨by rfl, rfl⟩) (⟨cp, cx, cy, fy⟩) ?_
             simp only [Act.put, List.setIfInBounds_toArray, List.set_cons_zero, List.set_cons_succ])
      refine mv_step (fun K hK => ?_)
      go_simp
      refine (FUk.out _).mono ?_
      rintro e w3 ⟨rfl, hb3⟩
      have h3 := Lib.hid (h2.out.drew.bel hb3)
      have bs3 := Lib.hid (bs2.out.trans ((Beside.of_below (Below.refl w2.heap.size w2).drew).trans (.of_below hb3)))
      have cp := PL.out _ bs3.out
      have cx := (hb3.cell (p := ⟨b, 3 + j, none⟩) h2.out.lt).trans cx
      have cy := (hb3.cell (p := ⟨b, 3 + (j + 1), none⟩) h2.out.lt).trans cy
      have fy := h3.out.fz (3 + (j + 1)) (by omega)
      clear hb3
      go_wp2_with fail
      refine hK.out _ _ _ (fun u hu => hu) (⟨cp, cx, cy, fy⟩) ?_
      clear hK K
      iterate 4
        first
          | (refine mv_free ?_ (Or.inl ⟨by rfl, ?_⟩) (⟨cp, cx, cy, fy⟩) ?_
             rotate_left 1
             · intro u
               go_simp
               try simp only [d1]
               try simp only [d2]
               try simp only [d3]
               try with_reducible rfl
             simp only [Act.put, List.setIfInBounds_toArray, List.set_cons_zero, List.set_cons_succ])
          | (refine mv_free _ (Or.inr ⟨by rfl, rfl⟩) (⟨cp, cx, cy, fy⟩) ?_
             simp only [Act.put, List.setIfInBounds_toArray, List.set_cons_zero, List.set_cons_succ])
      refine mv_late (fun K hK => ?_)
      go_simp
      refine hK.out (fun _ => True) _ _ ?_
      clear hK K
      refine mv_done ?_
      have h4 := h3.out.setS (j + 1) (by omega) (z : Int)
      rw [← eS.out] at h4
      have bs4 := bs3.out.trans ((Beside.of_only (Only.refl b w3)).setCell (p := ⟨b, 3 + (j + 1), none⟩) (.int .i64 (z : Int)))
      replace h4 := Lib.hid h4
      replace bs4 := Lib.hid bs4
      clear h2 h3 bs2 bs3 cp cx cy fy
      go_wp2
      go_roundw
      case rel => exact ⟨k + 1, by omega, by rw [ej.out]; go_num, Lib.hid ⟨h4.out, bs4.out⟩⟩
      case measure => have := ej.out; simp [intOf]; omega
    · obtain rfl : k = 2000 := by omega
      obtain ⟨h5, bs5⟩ := hS.out
      have h5 := Lib.hid (h5.fn (g' := agD 0 g) (fun i hi => by
        unfold agU agD
        split <;> split <;> first | rfl | omega))
      replace bs5 := Lib.hid bs5
      clear hS hlt hk FU FA
      have FA := Lib.hid (fun (k : Nat) u (hk : k < 2100) => afactors k u hk)
      go_wp2_with fail
      go_loopw [4] (fun i v => ∃ k : Nat, k ≤ 100 ∧ i = .int .i64 (99 - (k : Int)) ∧ Hid (AirO b 0 1 (agD k g) v ∧ Beside b w v)) (fun i _ => (intOf i + 1).toNat)
      case atStart => exact ⟨0, by omega, rfl, Lib.hid ⟨h5.out, bs5.out⟩⟩
      case round =>
        clear h5 bs5
        obtain ⟨k, hk, rfl, hS⟩ := hrel
        by_cases hlt : k < 100
        · have FAk := Lib.hid (fun u => FA.out (99 - k) u (by omega))
          have s1 : agD k g (99 - k + 1) = (adN k : Int) := by unfold agD; rw [if_pos (by omega), show 99 - k + 1 = 100 - k by omega, asD k hk]
          have cx := hS.out.1.st (99 - k + 1) (by omega)
          rw [s1] at cx
          have cy := hS.out.1.st (99 - k) (by omega)
          have fy := hS.out.1.fz (3 + (99 - k)) (by omega)
          have cp := PL.out _ hS.out.2
          have eS := Lib.hid (show agD (k + 1) g = fun i => if i = 99 - k then (adN (k + 1) : Int) else agD k g i from by
            funext i
            unfold agD
            by_cases e : i = 99 - k
            · subst e
              rw [if_pos rfl, if_pos (by omega), show 99 - k = 100 - (k + 1) by omega, asD (k + 1) (by omega)]
            · rw [if_neg e]
              split <;> split <;> first | rfl | omega)
          have FDk := Lib.hid (fun u => FD.out k u hlt)
          generalize adN k = x at *
          generalize adN (k + 1) = z at *
          generalize agD k g (99 - k) = y at *
          obtain ⟨j, ej⟩ : ∃ j, j = 99 - k := ⟨_, rfl⟩
          rw [← ej] at FAk FDk cx cy fy eS
          have hj : j < 100 := by omega
          rw [show 99 - (k : Int) = (j : Int) by omega]
          replace ej := Lib.hid ej
          generalize alN j = l at *
          generalize amN j = m at *
          have i1 : ¬ (j : Int) < 0 := by omega
          have i0 : 0 ≤ (j : Int) := by omega
          have i2 : IntKind.i64.wrap ((j : Int) + 1) = (j : Int) + 1 := by rw [IntKind.wrap_i64]; omega
          have i3 : ((j : Int) + 1).toNat = j + 1 := by omega
          have i4 : 0 ≤ (j : Int) + 1 := by omega
          have i5 : (j : Int) + 1 < 2101 := by omega
          have i6 : (j : Int) < 2101 := by omega
          have i7 : IntKind.i64.wrap ((j : Int) - 1) = (j : Int) - 1 := by rw [IntKind.wrap_i64]; omega
          generalize wr = v0 at *
          go_wp2_with fail
          refine (FAk.out _).mono ?_
          rintro e w2 ⟨rfl, hb2⟩
          have h2 := Lib.hid (hS.out.1.bel hb2)
          have bs2 := Lib.hid (hS.out.2.trans (.of_below hb2))
          have cp := PL.out _ bs2.out
          have cx := (hb2.cell (p := ⟨b, 3 + (j + 1), none⟩) hS.out.1.lt).trans cx
          have cy := (hb2.cell (p := ⟨b, 3 + j, none⟩) hS.out.1.lt).trans cy
          have fy := h2.out.fz (3 + j) (by omega)
          clear hS hb2
          go_wp2_with fail
          refine region_moves (fun u => u.cell? pl = some (.pointer (some ⟨b, 0, none⟩)) ∧ u.cell? ⟨b, 3 + (j + 1), none⟩ = some (.int .i64 (x : Int)) ∧ u.cell? ⟨b, 3 + j, none⟩ = some (.int .i64 y) ∧ u.frozen? ⟨b, 3 + j, none⟩ = false) [(18, [(17, 18), (13, 18), (11, 18), (0, 18), (1, 18), (2, 18), (3, 18), (4, 18), (5, 18), (6, 18), (7, 18), (8, 18), (9, 18), (10, 18), (12, 18), (16, 17), (15, 16)])] [(.take, 0), (.free, 1), (.take, 2), (.free, 3), (.free, 4), (.free, 5), (.free, 6), (.free, 7), (.take, 8), (.free, 9), (.free, 10), (.free, 15), (.free, 16), (.step, 11), (.free, 12), (.free, 13), (.free, 14), (.free, 17), (.late, 18)] _ (by kernel_rfl) (by kernel_rfl) (by kernel_rfl) (by kernel_rfl) (by decide) rfl (fun _ _ _ _ _ h => h) ?_
          simp only [List.filterMap_cons, List.filterMap_nil, List.getElem?_toArray, List.getElem?_cons_zero, List.getElem?_cons_succ, Option.map_some]
          iterate 1
            first
              | (refine mv_take ?_ (Or.inl ⟨by rfl, ?_⟩) (⟨cp, cx, cy, fy⟩) ?_
                 rotate_left 1
                 · intro u hu
                   (try dsimp only at hu)
                   go_simp
                   try with_reducible rfl
                 simp only [Act.put, List.setIfInBounds_toArray, List.set_cons_zero, List.set_cons_succ])
              | (refine mv_take _ (Or.inr ⟨by rfl, rfl⟩) (⟨cp, cx, cy, fy⟩) ?_
                 simp only [Act.put, List.setIfInBounds_toArray, List.set_cons_zero, List.set_cons_succ])
          iterate 1
            first
              | (refine mv_free ?_ (Or.inl ⟨by rfl, ?_⟩) (⟨cp, cx, cy, fy⟩) ?_
                 rotate_left 1
                 · intro u
                   go_simp
                   try simp only [d1]
                   try simp only [d2]
                   try simp only [d3]
                   try with_reducible rfl
                 simp only [Act.put, List.setIfInBounds_toArray, List.set_cons_zero, List.set_cons_succ])
              | (refine mv_free _ (Or.inr ⟨by rfl, rfl⟩) (⟨cp, cx, cy, fy⟩) ?_
                 simp only [Act.put, List.setIfInBounds_toArray, List.set_cons_zero, List.set_cons_succ])
          iterate 1
            first
              | (refine mv_take ?_ (Or.inl ⟨by rfl, ?_⟩) (⟨cp, cx, cy, fy⟩) ?_
                 rotate_left 1
                 · intro u hu
                   (try dsimp only at hu)
                   go_simp
                   try with_reducible rfl
                 simp only [Act.put, List.setIfInBounds_toArray, List.set_cons_zero, List.set_cons_succ])
              | (refine mv_take _ (Or.inr ⟨by rfl, rfl⟩) (⟨cp, cx, cy, fy⟩) ?_
                 simp only [Act.put, List.setIfInBounds_toArray, List.set_cons_zero, List.set_cons_succ])
          iterate 5
            first
              | (refine mv_free ?_ (Or.inl ⟨by rfl, ?_⟩) (⟨cp, cx, cy, fy⟩) ?_
                 rotate_left 1
                 · intro u
                   go_simp
                   try simp only [d1]
                   try simp only [d2]
                   try simp only [d3]
                   try with_reducible rfl
                 simp only [Act.put, List.setIfInBounds_toArray, List.set_cons_zero, List.set_cons_succ])
              | (refine mv_free _ (Or.inr ⟨by rfl, rfl⟩) (⟨cp, cx, cy, fy⟩) ?_
                 simp only [Act.put, List.setIfInBounds_toArray, List.set_cons_zero, List.set_cons_succ])
          iterate 1
            first
              | (refine mv_take ?_ (Or.inl ⟨by rfl, ?_⟩) (⟨cp, cx, cy, fy⟩) ?_
                 rotate_left 1
                 · intro u hu
                   (try dsimp only at hu)
                   go_simp
                   try with_reducible rfl
                 simp only [Act.put, List.setIfInBounds_toArray, List.set_cons_zero, List.set_cons_succ])
              | (refine mv_take _ (Or.inr ⟨by rfl, rfl⟩) (⟨cp, cx, cy, fy⟩) ?_
                 simp only [Act.put, List.setIfInBounds_toArray, List.set_cons_zero, List.set_cons_succ])
          iterate 4
            first
              | (refine mv_free ?_ (Or.inl ⟨by rfl, ?_⟩) (⟨cp, cx, cy, fy⟩) ?_
                 rotate_left 1
                 · intro u
                   go_simp
                   try simp only [d1]
                   try simp only [d2]
                   try simp only [d3]
                   try with_reducible rfl
                 simp only [Act.put, List.setIfInBounds_toArray, List.set_cons_zero, List.set_cons_succ])
              | (refine mv_free _ (Or.inr ⟨by rfl, rfl⟩) (⟨cp, cx, cy, fy⟩) ?_
                 simp only [Act.put, List.setIfInBounds_toArray, List.set_cons_zero, List.set_cons_succ])
          refine mv_step (fun K hK => ?_)
          go_simp
          refine (FDk.out _).mono ?_
          rintro e w3 ⟨rfl, hb3⟩
          have h3 := Lib.hid (h2.out.drew.bel hb3)
          have bs3 := Lib.hid (bs2.out.trans ((Beside.of_below (Below.refl w2.heap.size w2).drew).trans (.of_below hb3)))
          have cp := PL.out _ bs3.out
          have cx := (hb3.cell (p := ⟨b, 3 + (j + 1), none⟩) h2.out.lt).trans cx
          have cy := (hb3.cell (p := ⟨b, 3 + j, none⟩) h2.out.lt).trans cy
          have fy := h3.out.fz (3 + j) (by omega)
          clear hb3
          go_wp2_with fail
          refine hK.out _ _ _ (fun u hu => hu) (⟨cp, cx, cy, fy⟩) ?_
          clear hK K
          iterate 4
            first
              | (refine mv_free ?_ (Or.inl ⟨by rfl, ?_⟩) (⟨cp, cx, cy, fy⟩) ?_
                 rotate_left 1
                 · intro u
                   go_simp
                   try simp only [d1]
                   try simp only [d2]
                   try simp only [d3]
                   try with_reducible rfl
                 simp only [Act.put, List.setIfInBounds_toArray, List.set_cons_zero, List.set_cons_succ])
              | (refine mv_free _ (Or.inr ⟨by rfl, rfl⟩) (⟨cp, cx, cy, fy⟩) ?_
                 simp only [Act.put, List.setIfInBounds_toArray, List.set_cons_zero, List.set_cons_succ])
          refine mv_late (fun K hK => ?_)
          go_simp
          refine hK.out (fun _ => True) _ _ ?_
          clear hK K
          refine mv_done ?_
          have h4 := h3.out.setS j (by omega) (z : Int)
          rw [← eS.out] at h4
          have bs4 := bs3.out.trans ((Beside.of_only (Only.refl b w3)).setCell (p := ⟨b, 3 + j, none⟩) (.int .i64 (z : Int)))
          replace h4 := Lib.hid h4
          replace bs4 := Lib.hid bs4
          clear h2 h3 bs2 bs3 cp cx cy fy
          go_wp2
          go_roundw
          case rel =>
            repeat apply Exists.intro
            exact ⟨⟨k + 1, by omega, by have := ej.out; first | (congr 1; omega) | (simp; omega), Lib.hid ⟨h4.out, bs4.out⟩⟩, rfl⟩
          case measure => have := ej.out; simp [intOf] <;> omega
        · obtain rfl : k = 100 := by omega
          obtain ⟨h6, bs6⟩ := hS.out
          have h6 := Lib.hid (h6.fn (g' := aS) (fun i hi => by
            unfold agD aS
            rw [if_pos (by omega)]))
          replace bs6 := Lib.hid bs6
          clear hS
          go_wp2
          go_end0
          exact ⟨rfl, h6.out, bs6.out⟩
end Go.Proofs.YtecpmffmmiogfaaGreat
