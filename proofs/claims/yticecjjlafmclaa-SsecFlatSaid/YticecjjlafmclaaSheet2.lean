/- What a sheet tells: Cut, At; walked. -/
import Derived.Test.YticecjjlafmclaaSheet1
import Derived.Test.YticecjjlafmclaaMach1
import Derived.Test.YticecjjlafmclaaObj
import Derived.Deep.Cut
namespace Go.Proofs.Yticecjjlafmclaa
open Go.ChangeShapes Go.WideShapes Go.ChangeAt Go.RowKit
set_option linter.unusedVariables false
set_option linter.unusedSimpArgs false

theorem RowIs.aside3 {w : World} {g : Nat} {l : List Int} (h : RowIs .i64 w (some ⟨g, 0, none⟩) l) (p : Addr) (v : Value) (hp : p.block ≠ g) : RowIs .i64 (w.setCell p v) (some ⟨g, 0, none⟩) l := by
  rcases h with rfl | ⟨b, off, e, hlt, hc⟩
  · exact .inl rfl
  · injection e with e
    injection e with e1 e2
    subst e1 e2
    exact .inr ⟨_, _, rfl, by simpa using hlt, fun i hi => (World.cell?_setCell_other _ _ _ _ (by first | (intro e; exact hp (by rw [e])) | (intro e; exact hp (by rw [← e])) | simp [hp])).trans (hc i hi)⟩
/-- A curve in the making: block s holds it, its second row is the call's own. -/
structure Bld (s : Nat) (x : Value) (L : List Int) (vy : Value) (w v : World) : Prop where
  oy : v.ownsRow (s + 1) 2 1 vy L.length (cvals L)
  c0 : v.cell? ⟨s, 0, none⟩ = some x
  c1 : v.cell? ⟨s, 1, none⟩ = some vy
  f1 : v.frozen? ⟨s, 1, none⟩ = false
  bel : Below s w v
  sz : s + 1 ≤ v.heap.size
theorem Bld.keep {s : Nat} {x : Value} {L : List Int} {vy : Value} {w v v' : World} (h : Bld s x L vy w v) (k : Below v.heap.size v v') : Bld s x L vy w v' :=
  ⟨h.oy.kept (row := none) ⟨k.os, k.tape, k.output, k.size, fun j hj _ => k.block j hj⟩ (by cases vy.ownBlock <;> simp), (k.cell (p := ⟨s, 0, none⟩) (by have := h.sz; show s < _; omega)).trans h.c0, (k.cell (p := ⟨s, 1, none⟩) (by have := h.sz; show s < _; omega)).trans h.c1, (k.frozen (p := ⟨s, 1, none⟩) (by have := h.sz; show s < _; omega)).trans h.f1, h.bel.trans (k.mono (by have := h.sz; omega)), Nat.le_trans h.sz k.size⟩
theorem Bld.low {s : Nat} {x : Value} {L : List Int} {vy : Value} {w v v' : World} (h : Bld s x L vy w v) (o : Obj) (hg : (v.alloc o).grownBy v' vy.ownBlock) : v'.cell? ⟨s, 0, none⟩ = some x ∧ v'.cell? ⟨s, 1, none⟩ = some vy ∧ v'.frozen? ⟨s, 1, none⟩ = false ∧ Below (s + 1) v v' := by
  have hlow : ∀ k, k < s + 1 → some k ≠ vy.ownBlock := fun k hk e => by have := (h.oy.lt k e.symm).1; omega
  have hba : Below (s + 1) v (v.alloc o) := (Below.refl _ _).alloc h.sz o
  have hs := h.sz
  have hbg : Below (s + 1) v v' := ⟨hg.os.trans hba.os, hg.tape.trans hba.tape, hg.output.trans hba.output, Nat.le_trans hba.size hg.size, fun k hk => (hg.block k (by simp; omega) (hlow k hk)).trans (hba.block k hk)⟩
  exact ⟨(hbg.cell (p := ⟨s, 0, none⟩) (by show s < s + 1; omega)).trans h.c0, (hbg.cell (p := ⟨s, 1, none⟩) (by show s < s + 1; omega)).trans h.c1, (hbg.frozen (p := ⟨s, 1, none⟩) (by show s < s + 1; omega)).trans h.f1, hbg⟩
theorem Bld.step {s : Nat} {x : Value} {L : List Int} {n : Int} {vy : Value} {w v v' : World} (h : Bld s x L vy w v) (o : Obj) {g cap : Nat} (ho : v'.ownsRow (s + 1) 2 1 (.slice (some ⟨g, 0, none⟩) (L.length + 1) cap) (L.length + 1) (cvals L ++ [.int .i64 n]))
    (hg : (v.alloc o).grownBy v' vy.ownBlock) : Bld s x (L ++ [n]) (.slice (some ⟨g, 0, none⟩) (L.length + 1) cap) w (v'.setCell ⟨s, 1, none⟩ (.slice (some ⟨g, 0, none⟩) (L.length + 1) cap)) := by
  obtain ⟨d0, d1, e1, hbg⟩ := h.low o hg
  refine ⟨own_set (by simpa [cvals] using ho) _ _ (by show s < s + 1; omega), ?_, World.cell?_setCell_same v' _ _ d1, by simpa using e1, ?_, by simp; have := hbg.size; have := h.sz; omega⟩
  · rw [World.cell?_setCell_other v' ⟨s, 1, none⟩ ⟨s, 0, none⟩ _ (by simp)]; exact d0
  · exact (h.bel.trans (hbg.mono (by omega))).setCell (p := ⟨s, 1, none⟩) (Nat.le_refl _) _
def CutP (X L : List Int) (w : World) (e : Ending) (w' : World) : Prop := ∃ g1 c1 g2 c2 : Nat, e = .returned (.tuple #[.agg #[.slice (some ⟨g1, 0, none⟩) X.length c1, .slice (some ⟨g2, 0, none⟩) L.length c2], .bool true]) ∧ RowIs .i64 w' (some ⟨g1, 0, none⟩) X ∧ RowIs .i64 w' (some ⟨g2, 0, none⟩) L ∧ Below w.heap.size w w'
/-- What the rows of a sheet tell at a place. -/
noncomputable def cuL (Y : List Int) (Z : List (List Int)) (y : Int) : List Int := Z.map (fun r => crF Y r y)
theorem cuL_len (Y : List Int) (Z : List (List Int)) (y : Int) : (cuL Y Z y).length = Z.length := by simp [cuL]
theorem cuL_at {Y : List Int} {Z : List (List Int)} (y : Int) {i : Nat} (hi : i < Z.length) : (cuL Y Z y).getD i 0 = crF Y (Z.getD i []) y := by simp [cuL, List.getD, hi]
theorem cuL_snoc {Y : List Int} {Z : List (List Int)} (y : Int) {j : Nat} (h : j < Z.length) : cuL Y (Z.take (j + 1)) y = cuL Y (Z.take j) y ++ [crF Y (Z.getD j []) y] := by
  unfold cuL
  rw [rows_snoc [] h, List.map_append]
  rfl
theorem cuL_right {X Y : List Int} {Z : List (List Int)} (h : shB X Y Z = true) (y : Int) : rgtB X (cuL Y Z y) = true := by
  obtain ⟨h1, h2, h3, h4, h5, h6⟩ := shB_at h
  obtain ⟨n1, n2, _, r1, r2, _⟩ := rgtB_at h1
  unfold rgtB
  have hi : insB (cuL Y Z y) = true := decide_eq_true fun i hi => by
    rw [cuL_len] at hi
    rw [cuL_at y hi]
    exact crF_bd (h6 i hi) y
  simp only [Bool.and_eq_true, decide_eq_true_eq]
  exact ⟨⟨⟨⟨⟨n1, n2⟩, by rw [cuL_len]; omega⟩, r1⟩, r2⟩, hi⟩
theorem cut_box (w : World) (a1 a2 a3 : Option Addr) (e1 e2 e3 : Nat) (X Y : List Int) (Z : List (List Int)) : ∃ V, V = ((w.alloc (.cells #[.slice a1 X.length e1, .slice a2 Y.length e2, .slice a3 Z.length e3] 26)).alloc (.cells #[.slice none 0 0, .slice none 0 0] 76)) ∧ Below w.heap.size w V ∧ V.heap.size = w.heap.size + 2 ∧ ∀ u, Below (w.heap.size + 2) V u → u.cell? ⟨w.heap.size, 0, none⟩ = some (.slice a1 X.length e1) ∧ u.cell? ⟨w.heap.size, 1, none⟩ = some (.slice a2 Y.length e2) ∧ u.cell? ⟨w.heap.size, 2, none⟩ = some (.slice a3 Z.length e3) ∧ u.cell? ⟨w.heap.size + 1, 0, none⟩ = some (.slice none 0 0) ∧ u.cell? ⟨w.heap.size + 1, 1, none⟩ = some (.slice none 0 0) ∧ u.frozen? ⟨w.heap.size + 1, 0, none⟩ = false ∧ u.frozen? ⟨w.heap.size + 1, 1, none⟩ = false :=
  ⟨_, rfl, (by repeat (first | exact Below.refl _ _ | assumption | apply Below.drew | apply below_drewN | (refine Below.alloc ?_ (by first | exact Nat.le_refl _ | omega | (simp <;> omega)) _) | (refine Below.setCell ?_ (by first | exact Nat.le_refl _ | omega | (simp <;> omega)) _))), by simp, fun u hu => ⟨(bc hu (by omega)).trans (by go_simp), (bc hu (by omega)).trans (by go_simp), (bc hu (by omega)).trans (by go_simp), (bc hu (by omega)).trans (by go_simp), (bc hu (by omega)).trans (by go_simp), (hu.frozen (p := ⟨w.heap.size + 1, 0, none⟩) (by show w.heap.size + 1 < w.heap.size + 2; omega)).trans (by first | (simp; done) | go_simp), (hu.frozen (p := ⟨w.heap.size + 1, 1, none⟩) (by show w.heap.size + 1 < w.heap.size + 2; omega)).trans (by first | (simp; done) | go_simp)⟩⟩
set_option maxRecDepth 100000 in
set_option maxHeartbeats 8000000 in
theorem scut_no (a1 a2 a3 : Option Addr) (GA : Nat → Option Addr) (GC : Nat → Nat) (e1 e2 e3 : Nat) (X Y : List Int) (Z : List (List Int)) (y : Int) (w : World) (hx : RowIs .i64 w a1 X) (hy : RowIs .i64 w a2 Y) (hg : GridIs .i64 w a3 GA GC Z) (hX : X.length ≤ 50) (hY : Y.length ≤ 50) (hZ : Z.length ≤ 50) (hR : ∀ i, i < Z.length → (Z.getD i []).length ≤ 50) (hs : shB X Y Z = false) : Calls Try.prog 54 #[.agg #[.slice a1 X.length e1, .slice a2 Y.length e2, .slice a3 Z.length e3], .int .i64 y] w fun e w' => e = .returned (.tuple #[.agg #[.slice none 0 0, .slice none 0 0], .bool false]) ∧ Below w.heap.size w w' := by
  obtain ⟨V, eV, hb0, hz, hcs⟩ := cut_box w a1 a2 a3 e1 e2 e3 X Y Z
  have RT := fun u (h : Below (w.heap.size + 2) V u) => sright a1 a2 a3 GA GC e1 e2 e3 X Y Z u (hx.below (hb0.trans (h.mono (by omega)))) (hy.below (hb0.trans (h.mono (by omega)))) (hg.below (hb0.trans (h.mono (by omega)))) hX hY hZ hR
  rw [hs] at RT
  replace RT := Lib.hid RT
  clear hx hy hg hX hY hZ hR hs
  replace hb0 := Lib.hid hb0
  replace hz := Lib.hid hz
  replace hcs := Lib.hid hcs
  replace eV := Lib.hid eV
  go_enter Try.func54, Try.ntmps54
  go_wp2_with fail
  rw [← eV.out]
  obtain ⟨k0, k1, k2, k3, k4, k5, k6⟩ := hcs.out _ (Below.refl _ _)
  go_wp2_with fail
  refine (RT.out _ (Below.refl _ _)).mono ?_
  rintro e w1 ⟨rfl, hb1⟩
  have hb1 := (Below.refl (w.heap.size + 2) V).trans (hb1.mono (Nat.le_of_eq hz.out.symm))
  obtain ⟨k0, k1, k2, k3, k4, k5, k6⟩ := hcs.out _ hb1
  have z0 := World.cell?_setCell_same w1 ⟨w.heap.size + 1, 0, none⟩ (.slice none 0 0) k3
  have z1 := World.cell?_setCell_same (w1.setCell ⟨w.heap.size + 1, 0, none⟩ (.slice none 0 0)) ⟨w.heap.size + 1, 1, none⟩ (.slice none 0 0) ((World.cell?_setCell_other _ _ _ _ (by simp)).trans k4)
  have hbl := Lib.hid (((hb0.out.trans (hb1.mono (by omega))).setCell (p := ⟨w.heap.size + 1, 0, none⟩) (by show _ ≤ w.heap.size + 1; omega) (.slice none 0 0)).setCell (p := ⟨w.heap.size + 1, 1, none⟩) (by show _ ≤ w.heap.size + 1; omega) (.slice none 0 0))
  replace z0 := Lib.hid ((World.cell?_setCell_other (w1.setCell ⟨w.heap.size + 1, 0, none⟩ (.slice none 0 0)) ⟨w.heap.size + 1, 1, none⟩ ⟨w.heap.size + 1, 0, none⟩ (.slice none 0 0) (by simp)).trans z0)
  replace z1 := Lib.hid z1
  go_wp2
  refine bodyPost_ret (v := .tuple #[.agg #[.slice none 0 0, .slice none 0 0], .bool false]) (by simp [results, Try.results54, go_sem, z0.out, z1.out]) rfl ?_
  exact ⟨rfl, hbl.out⟩
set_option maxRecDepth 100000 in
set_option maxHeartbeats 8000000 in
theorem scut_ok (a1 a2 a3 : Option Addr) (GA : Nat → Option Addr) (GC : Nat → Nat) (e1 e2 e3 : Nat) (X Y : List Int) (Z : List (List Int)) (y : Int) (w : World) (hx : RowIs .i64 w a1 X) (hy : RowIs .i64 w a2 Y) (hg : GridIs .i64 w a3 GA GC Z) (hX : X.length ≤ 50) (hY : Y.length ≤ 50) (hZ : Z.length ≤ 50) (hR : ∀ i, i < Z.length → (Z.getD i []).length ≤ 50) (hs : shB X Y Z = true) : Calls Try.prog 54 #[.agg #[.slice a1 X.length e1, .slice a2 Y.length e2, .slice a3 Z.length e3], .int .i64 y] w (CutP X (cuL Y Z y) w) := by
  obtain ⟨V, eV, hb0, hz, hcs⟩ := cut_box w a1 a2 a3 e1 e2 e3 X Y Z
  obtain ⟨i0, hi, hz0, hz1, hz2⟩ := info_parts cinfo_i64
  replace hi := Lib.hid hi
  replace hz0 := Lib.hid hz0
  replace hz1 := Lib.hid hz1
  replace hz2 := Lib.hid hz2
  obtain ⟨s1, s2, s3, s4, s5, s6⟩ := shB_at hs
  obtain ⟨n1, _⟩ := rgtB_at s1
  have RT := fun u (h : Below (w.heap.size + 2) V u) => sright a1 a2 a3 GA GC e1 e2 e3 X Y Z u (hx.below (hb0.trans (h.mono (by omega)))) (hy.below (hb0.trans (h.mono (by omega)))) (hg.below (hb0.trans (h.mono (by omega)))) hX hY hZ hR
  rw [hs] at RT
  replace RT := Lib.hid RT
  have CX := Lib.hid (fun u (h : Below (w.heap.size + 2) V u) => cclone_any a1 e1 X u (hx.below (hb0.trans (h.mono (by omega)))) (by omega) (by omega))
  have GG := Lib.hid (fun u (h : Below (w.heap.size + 2) V u) => fun i (hi : i < Z.length) => (hg.below (hb0.trans (h.mono (by omega)))).at hi)
  have AT := Lib.hid (fun u (h : Below (w.heap.size + 2) V u) i (hi : i < Z.length) => by
    have q := cat5f a2 (GA i) e2 (GC i) Y (Z.getD i []) y u (hy.below (hb0.trans (h.mono (by omega)))) ((hg.rows i hi).below (hb0.trans (h.mono (by omega)))) (by omega) (by have := hR i hi; omega)
    rw [s6 i hi] at q
    simp only [if_true] at q
    exact q)
  have ZL := Lib.hid (show 0 < Z.length ∧ Z.length ≤ 50 from by omega)
  clear hx hy hg hX hY hR hs s1 s2 s3 s4 s5 s6 n1 hZ
  replace hb0 := Lib.hid hb0
  replace hz := Lib.hid hz
  replace hcs := Lib.hid hcs
  replace eV := Lib.hid eV
  go_enter Try.func54, Try.ntmps54
  go_wp2_with fail
  rw [← eV.out]
  obtain ⟨k0, k1, k2, k3, k4, k5, k6⟩ := hcs.out _ (Below.refl _ _)
  go_wp2_with fail
  refine (RT.out _ (Below.refl _ _)).mono ?_
  rintro e w1 ⟨rfl, hb1⟩
  have hb1 := (Below.refl (w.heap.size + 2) V).trans (hb1.mono (Nat.le_of_eq hz.out.symm))
  obtain ⟨k0, k1, k2, k3, k4, k5, k6⟩ := hcs.out _ hb1
  go_wp2_with fail
  refine (CX.out _ hb1).mono ?_
  rintro e w2 ⟨g1, c1, rfl, x1, hg1, hb2⟩
  have hb2 := hb1.trans (hb2.mono (by have := hb1.size; have := hz.out; omega))
  replace hg1 : w.heap.size + 2 ≤ g1 := by have := hb1.size; have := hz.out; omega
  clear hb1
  obtain ⟨k0, k1, k2, k3, k4, k5, k6⟩ := hcs.out _ hb2
  go_upto_region 4 with (fail)
  obtain ⟨s, es⟩ : ∃ s, s = w2.heap.size := ⟨_, rfl⟩
  have hB0 : Bld s (.slice (some ⟨g1, 0, none⟩) X.length c1) [] (.slice none 0 0) w2 (w2.alloc (.cells #[.slice (some ⟨g1, 0, none⟩) X.length c1, .slice none 0 0] 76)) := by
    rw [es]
    exact ⟨World.ownsRow_nil _ _ _ _, by go_simp, by go_simp, by first | (simp; done) | go_simp, (Below.refl _ _).alloc (Nat.le_refl _) _, by simp⟩
  have hsw : w.heap.size + 2 ≤ s := by rw [es]; have := hb2.size; have := hz.out; omega
  have x9 := Lib.hid (fun u (h : Below s w2 u) => x1.below (h.mono (by rw [es]; exact Nat.le_refl _)))
  rw [← es]
  generalize w2.alloc (.cells #[.slice (some ⟨g1, 0, none⟩) X.length c1, .slice none 0 0] 76) = V2 at *
  have hbV := Lib.hid (fun u (h : Below s w2 u) => hb2.trans (h.mono hsw))
  replace es := Lib.hid es
  replace hB0 := Lib.hid hB0
  clear x1 hb2 k0 k1 k2 k3 k4 k5 k6
  have hb2 := hbV.out _ hB0.out.bel
  obtain ⟨k0, k1, k2, k3, k4, k5, k6⟩ := hcs.out _ hb2
  go_wp2_with fail
  go_loopw [22] (fun i v => ∃ (j : Nat) (vy : Value), j ≤ Z.length ∧ i = .int .i64 (j : Int) ∧ Hid (Bld s (.slice (some ⟨g1, 0, none⟩) X.length c1) (cuL Y (Z.take j) y) vy w2 v)) (fun i _ => Z.length - (intOf i).toNat)
  case atStart => exact ⟨0, .slice none 0 0, by omega, rfl, hB0⟩
  case round =>
    clear hB0 hb2 k0 k1 k2 k3 k4 k5 k6
    obtain ⟨j, vy, hj, rfl, hS⟩ := hrel
    have hb := hbV.out _ hS.out.bel
    obtain ⟨k0, k1, k2, k3, k4, k5, k6⟩ := hcs.out _ hb
    by_cases hlt : j < Z.length
    · obtain ⟨bz, oz, ea, -, c9⟩ := GG.out _ hb j hlt
      subst ea
      have l1 : (j : Int) < (Z.length : Int) := by omega
      have l0 : 0 ≤ (j : Int) := by omega
      have A9 := AT.out _ hb j hlt
      have SN := Lib.hid (cuL_snoc (Y := Y) y hlt)
      generalize (Z.getD j []).length = m at *
      generalize crF Y (Z.getD j []) y = n at *
      replace A9 := Lib.hid A9
      go_wp2_with fail
      refine A9.out.mono ?_
      rintro e w3 ⟨rfl, hb3⟩
      have hS3 := hS.out.keep hb3
      have LN : (cuL Y (Z.take j) y).length = j := by rw [cuL_len]; simp; omega
      have zl := ZL.out
      clear hb3 hS k0 k1 k2 k3 k4 k5 k6 hb
      have c1' := hS3.c1
      have f1' := hS3.f1
      go_upto_region 9 with (first | (at_builtin; refine wpList_append_lies _ rfl (.tmp 36) (.tmp 38) _ rfl (s + 1) 2 i0 (.int .i64 0) 1 8 Try.underlying23 hi.out hz0.out hz1.out hz2.out rfl (by decide) vy (cuL Y (Z.take j) y).length (cvals (cuL Y (Z.take j) y)) rfl (hS3.oy.alloc _) ⟨_, 0, none⟩ 1 1 [.int .i64 n] rfl rfl (new_one _ _ _) (one_int _ _) (by decide) (by unfold maxLen; omega) (by omega) (by simp; have := hS3.sz; omega) _ rfl ?_; intro g cap w1 ho hg hb hlt1; obtain ⟨-, d1, e1, -⟩ := hS3.low _ hg; clear hlt1 hb; replace ho := Lib.hid ho; replace hg := Lib.hid hg))
      have hS4 := hS3.step _ ho.out hg.out
      rw [← SN.out, LN] at hS4
      clear c1' f1' d1 e1 ho hg hS3
      change Code.wp _ _ _ _ (w1.setCell ⟨s, 1, none⟩ (.slice (some ⟨g, 0, none⟩) (j + 1) cap))
      generalize w1.setCell ⟨s, 1, none⟩ (.slice (some ⟨g, 0, none⟩) (j + 1) cap) = v1 at *
      replace hS4 := Lib.hid hS4
      go_wp2
      go_roundw
      case rel => exact ⟨j + 1, _, by omega, by go_num, hS4⟩
      case measure => simp [intOf]; omega
    · have hge : (Z.length : Int) ≤ (j : Int) := by omega
      have ej : j = Z.length := by omega
      have hT : Z.take j = Z := by rw [ej]; simp
      rw [hT] at hS
      have zl := ZL.out
      obtain ⟨g2, c2, rfl, x2, hg2⟩ := cown_row (by rw [cuL_len]; omega) rfl hS.out.oy
      have x1 := Lib.hid (x9.out _ hS.out.bel)
      have c0' := hS.out.c0
      have c1' := hS.out.c1
      have z0 := World.cell?_setCell_same wr ⟨w.heap.size + 1, 0, none⟩ (.slice (some ⟨g1, 0, none⟩) X.length c1) k3
      have z1 := World.cell?_setCell_same (wr.setCell ⟨w.heap.size + 1, 0, none⟩ (.slice (some ⟨g1, 0, none⟩) X.length c1)) ⟨w.heap.size + 1, 1, none⟩ (.slice (some ⟨g2, 0, none⟩) (cuL Y Z y).length c2) ((World.cell?_setCell_other _ _ _ _ (by simp)).trans k4)
      have hbl := Lib.hid (((hb0.out.trans (hb.mono (by omega))).setCell (p := ⟨w.heap.size + 1, 0, none⟩) (by show _ ≤ w.heap.size + 1; omega) (.slice (some ⟨g1, 0, none⟩) X.length c1)).setCell (p := ⟨w.heap.size + 1, 1, none⟩) (by show _ ≤ w.heap.size + 1; omega) (.slice (some ⟨g2, 0, none⟩) (cuL Y Z y).length c2))
      replace z0 := Lib.hid ((World.cell?_setCell_other (wr.setCell ⟨w.heap.size + 1, 0, none⟩ (.slice (some ⟨g1, 0, none⟩) X.length c1)) ⟨w.heap.size + 1, 1, none⟩ ⟨w.heap.size + 1, 0, none⟩ (.slice (some ⟨g2, 0, none⟩) (cuL Y Z y).length c2) (by simp)).trans z0)
      replace z1 := Lib.hid z1
      replace x1 := Lib.hid ((x1.out.aside3 ⟨w.heap.size + 1, 0, none⟩ (.slice (some ⟨g1, 0, none⟩) X.length c1) (by show w.heap.size + 1 ≠ g1; omega)).aside3 ⟨w.heap.size + 1, 1, none⟩ (.slice (some ⟨g2, 0, none⟩) (cuL Y Z y).length c2) (by show w.heap.size + 1 ≠ g1; omega))
      replace x2 := Lib.hid ((x2.aside3 ⟨w.heap.size + 1, 0, none⟩ (.slice (some ⟨g1, 0, none⟩) X.length c1) (by show w.heap.size + 1 ≠ g2; omega)).aside3 ⟨w.heap.size + 1, 1, none⟩ (.slice (some ⟨g2, 0, none⟩) (cuL Y Z y).length c2) (by show w.heap.size + 1 ≠ g2; omega))
      replace hS := 0
      go_wp2
      refine bodyPost_ret (v := .tuple #[.agg #[.slice (some ⟨g1, 0, none⟩) X.length c1, .slice (some ⟨g2, 0, none⟩) (cuL Y Z y).length c2], .bool true]) (by simp [results, Try.results54, go_sem, z0.out, z1.out]) rfl ?_
      exact ⟨g1, c1, g2, c2, rfl, x1.out, x2.out, hbl.out⟩
theorem sat_box (w : World) (a1 a2 a3 : Option Addr) (e1 e2 e3 : Nat) (X Y : List Int) (Z : List (List Int)) : ∃ V, V = (w.alloc (.cells #[.slice a1 X.length e1, .slice a2 Y.length e2, .slice a3 Z.length e3] 26)) ∧ Below w.heap.size w V ∧ V.heap.size = w.heap.size + 1 ∧ ∀ u, Below (w.heap.size + 1) V u → u.cell? ⟨w.heap.size, 0, none⟩ = some (.slice a1 X.length e1) ∧ u.cell? ⟨w.heap.size, 1, none⟩ = some (.slice a2 Y.length e2) ∧ u.cell? ⟨w.heap.size, 2, none⟩ = some (.slice a3 Z.length e3) :=
  ⟨_, rfl, (by repeat (first | exact Below.refl _ _ | assumption | apply Below.drew | apply below_drewN | (refine Below.alloc ?_ (by first | exact Nat.le_refl _ | omega | (simp <;> omega)) _) | (refine Below.setCell ?_ (by first | exact Nat.le_refl _ | omega | (simp <;> omega)) _))), by simp, fun u hu => ⟨(bc hu (by omega)).trans (by go_simp), (bc hu (by omega)).trans (by go_simp), (bc hu (by omega)).trans (by go_simp)⟩⟩
theorem scv_box (w : World) (g1 c1 g2 c2 : Nat) (X L : List Int) : ∃ V, V = (w.alloc (.cells #[.slice (some ⟨g1, 0, none⟩) X.length c1, .slice (some ⟨g2, 0, none⟩) L.length c2] 76)) ∧ Below w.heap.size w V ∧ V.heap.size = w.heap.size + 1 ∧ ∀ u, Below (w.heap.size + 1) V u → u.cell? ⟨w.heap.size, 0, none⟩ = some (.slice (some ⟨g1, 0, none⟩) X.length c1) ∧ u.cell? ⟨w.heap.size, 1, none⟩ = some (.slice (some ⟨g2, 0, none⟩) L.length c2) :=
  ⟨_, rfl, (by repeat (first | exact Below.refl _ _ | assumption | apply Below.drew | apply below_drewN | (refine Below.alloc ?_ (by first | exact Nat.le_refl _ | omega | (simp <;> omega)) _) | (refine Below.setCell ?_ (by first | exact Nat.le_refl _ | omega | (simp <;> omega)) _))), by simp, fun u hu => ⟨(bc hu (by omega)).trans (by go_simp), (bc hu (by omega)).trans (by go_simp)⟩⟩
set_option maxRecDepth 100000 in
set_option maxHeartbeats 8000000 in
theorem sat_any (a1 a2 a3 : Option Addr) (GA : Nat → Option Addr) (GC : Nat → Nat) (e1 e2 e3 : Nat) (X Y : List Int) (Z : List (List Int)) (x y : Int) (w : World) (hx : RowIs .i64 w a1 X) (hy : RowIs .i64 w a2 Y) (hg : GridIs .i64 w a3 GA GC Z) (hX : X.length ≤ 50) (hY : Y.length ≤ 50) (hZ : Z.length ≤ 50) (hR : ∀ i, i < Z.length → (Z.getD i []).length ≤ 50) : Calls Try.prog 49 #[.agg #[.slice a1 X.length e1, .slice a2 Y.length e2, .slice a3 Z.length e3], .int .i64 x, .int .i64 y] w fun e w' => e = .returned (.tuple #[.int .i64 (if shB X Y Z then crF X (cuL Y Z y) x else 0), .bool (shB X Y Z)]) ∧ Below w.heap.size w w' := by
  obtain ⟨V, eV, hb0, hz, hcs⟩ := sat_box w a1 a2 a3 e1 e2 e3 X Y Z
  cases hs : shB X Y Z
  · have CT := Lib.hid (fun u (h : Below (w.heap.size + 1) V u) => scut_no a1 a2 a3 GA GC e1 e2 e3 X Y Z y u (hx.below (hb0.trans (h.mono (by omega)))) (hy.below (hb0.trans (h.mono (by omega)))) (hg.below (hb0.trans (h.mono (by omega)))) hX hY hZ hR hs)
    simp only [Bool.false_eq_true, if_false]
    clear hx hy hg hX hY hZ hR hs
    replace hb0 := Lib.hid hb0
    replace hz := Lib.hid hz
    replace hcs := Lib.hid hcs
    replace eV := Lib.hid eV
    go_enter Try.func49, Try.ntmps49
    go_wp2_with fail
    rw [← eV.out]
    obtain ⟨k0, k1, k2⟩ := hcs.out _ (Below.refl _ _)
    go_wp2_with fail
    refine (CT.out _ (Below.refl _ _)).mono ?_
    rintro e w1 ⟨rfl, hb1⟩
    have hb1 := (Below.refl (w.heap.size + 1) V).trans (hb1.mono (Nat.le_of_eq hz.out.symm))
    obtain ⟨k0, k1, k2⟩ := hcs.out _ hb1
    have hb9 := Lib.hid (hb0.out.trans (hb1.mono (by omega)))
    go_wp2
    go_ret2
    exact ⟨rfl, by first | exact hb9.out.alloc hb9.out.size _ | exact hb9.out⟩
  · have CT := Lib.hid (fun u (h : Below (w.heap.size + 1) V u) => scut_ok a1 a2 a3 GA GC e1 e2 e3 X Y Z y u (hx.below (hb0.trans (h.mono (by omega)))) (hy.below (hb0.trans (h.mono (by omega)))) (hg.below (hb0.trans (h.mono (by omega)))) hX hY hZ hR hs)
    obtain ⟨s1, s2, s3, s4, s5, s6⟩ := shB_at hs
    have hq := cuL_right hs y
    have hL := cuL_len Y Z y
    generalize cuL Y Z y = L at *
    have AT := Lib.hid (fun g1 c1 g2 c2 u h1 h2 => by
      have q := cat5f (some ⟨g1, 0, none⟩) (some ⟨g2, 0, none⟩) c1 c2 X L x u h1 h2 (by omega) (by omega)
      rw [hq] at q
      simp only [if_true] at q
      exact q)
    simp only [if_true]
    generalize crF X L x = v at *
    clear hx hy hg hX hY hZ hR hs hq s1 s2 s3 s4 s5 s6 hL
    replace hb0 := Lib.hid hb0
    replace hz := Lib.hid hz
    replace hcs := Lib.hid hcs
    replace eV := Lib.hid eV
    go_enter Try.func49, Try.ntmps49
    go_wp2_with fail
    rw [← eV.out]
    obtain ⟨k0, k1, k2⟩ := hcs.out _ (Below.refl _ _)
    go_wp2_with fail
    refine (CT.out _ (Below.refl _ _)).mono ?_
    rintro e w1 ⟨g1, c1, g2, c2, rfl, x1, x2, hb1⟩
    have hb1 := hb0.out.trans (hb1.mono (by have := hz.out; omega))
    clear k0 k1 k2
    replace x1 := Lib.hid x1
    replace x2 := Lib.hid x2
    go_upto_region 2 with (fail)
    obtain ⟨V1, eV1, hm0, hz9, hcs1⟩ := scv_box w1 g1 c1 g2 c2 X L
    have hb2 := hb1.trans (hm0.mono hb1.size)
    replace eV1 := Lib.hid eV1
    rw [← eV1.out]
    obtain ⟨j0, j1⟩ := hcs1 _ (Below.refl _ _)
    have x3 := Lib.hid (x1.out.below hm0)
    have x4 := Lib.hid (x2.out.below hm0)
    clear hb1 hm0 hz9 hcs1
    go_wp2_with fail
    refine (AT.out _ _ _ _ _ x3.out x4.out).mono ?_
    rintro e w3 ⟨rfl, hb3⟩
    have hb3 := hb2.trans (hb3.mono hb2.size)
    go_wp2
    go_ret2
    exact ⟨rfl, hb3⟩
end Go.Proofs.Yticecjjlafmclaa
