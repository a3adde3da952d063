/- Package tape: Take, which recovers; walked. -/
import Derived.Test.YtpcbnoefgknihaaTape9
import Derived.Defers
import Derived.Recover
import Derived.Laws.Pointers
import Derived.Deep.RegionHeld3
namespace Go.Proofs.Ytpcbnoefgknihaa
open Go.ChangeShapes Go.WideShapes Go.ChangeAt Go.RowKit
set_option linter.unusedVariables false
set_option linter.unusedSimpArgs false
theorem tk_catch (p q r : Addr) (x y z : Value) (u : TypeId) (pv : Value) (older : List PanicEntry) (w : World) (h1 : w.cell? p = some x) (f1 : w.frozen? p = false) (h2 : w.cell? q = some y) (f2 : w.frozen? q = false) (h3 : w.cell? r = some z) (f3 : w.frozen? r = false) (pq : q.block ≠ p.block) (pr : r.block ≠ p.block) (qr : r.block ≠ q.block) (s1 : p.spot = none) (s2 : q.spot = none) (s3 : r.spot = none) :
    CallsD Try.prog 45 #[.pointer (some p), .pointer (some q), .pointer (some r)] (.panicking ({ v := .iface u pv, recovered := false } :: older)) w fun e u' w' =>
      e = .returned (.tuple #[]) ∧ u' = .panicking ({ v := .iface u pv, recovered := true } :: older) ∧ w' = ((w.setCell p (.int .i64 0)).setCell q (.slice none 0 0)).setCell r (.bool false) := by
  have h2' : (w.setCell p (.int .i64 0)).cell? q = some y := (World.cell?_of_block (a := q) (Below.heap_setCell w p _ _ pq)).trans h2
  have f2' : (w.setCell p (.int .i64 0)).frozen? q = false := by simp [f2]
  have h3' : ((w.setCell p (.int .i64 0)).setCell q (.slice none 0 0)).cell? r = some z := (World.cell?_of_block (a := r) (Below.heap_setCell _ q _ _ qr)).trans ((World.cell?_of_block (a := r) (Below.heap_setCell w p _ _ pr)).trans h3)
  have f3' : ((w.setCell p (.int .i64 0)).setCell q (.slice none 0 0)).frozen? r = false := by simp [f3]
  refine callsD_of_wpS Try.func45 rfl fun c₀ cs hu => ?_
  apply wpS_seq
  apply wpS_region
  simp [wpOpsS, go_sem, recoverD, hu, Try.ntmps45, Exit.thenS]
  refine wpS_cond (t := true) (by simp [Act.eval, Array.replicate]) ?_
  simp only [if_true]
  apply wpS_region
  simp [wpOpsS, go_sem, h1, f1, h2', f2', h3', f3', bodyPostS, results, Try.results45]
theorem tk_idle (p q r : Addr) (w : World) :
    CallsD Try.prog 45 #[.pointer (some p), .pointer (some q), .pointer (some r)] .returning w fun e u' w' => e = .returned (.tuple #[]) ∧ u' = .returning ∧ w' = w := by
  refine callsD_of_wpS Try.func45 rfl fun c₀ cs hu => ?_
  apply wpS_seq
  apply wpS_region
  simp [wpOpsS, go_sem, recoverD, hu, Try.ntmps45, Exit.thenS]
  refine wpS_cond (t := false) (by simp [Act.eval, Array.replicate]) ?_
  simp only [Bool.false_eq_true, if_false]
  refine wpS_of_wp (wp_skip ?_)
  cases c₀
  simp_all [bodyPostS, results, Try.results45]
theorem tk_box (w : World) (a : Option Addr) (n c : Nat) : ∃ V, V = (((w.alloc (.cells #[.int .i64 0] 2)).alloc (.cells #[.slice none 0 0] 22)).alloc (.cells #[.bool false] 4)).alloc (.cells #[.slice a n c] 76) ∧ Below w.heap.size w V ∧ V.heap.size = w.heap.size + 4 ∧ (V.cell? ⟨w.heap.size, 0, none⟩ = some (.int .i64 0) ∧ V.cell? ⟨w.heap.size + 1, 0, none⟩ = some (.slice none 0 0) ∧ V.cell? ⟨w.heap.size + 2, 0, none⟩ = some (.bool false) ∧ V.cell? ⟨w.heap.size + 3, 0, none⟩ = some (.slice a n c)) ∧ V.frozen? ⟨w.heap.size, 0, none⟩ = false ∧ V.frozen? ⟨w.heap.size + 1, 0, none⟩ = false ∧ V.frozen? ⟨w.heap.size + 2, 0, none⟩ = false ∧ V.frozen? ⟨w.heap.size + 3, 0, none⟩ = false :=
  ⟨_, rfl, (((((Below.refl w.heap.size w).alloc (Nat.le_refl _) _).alloc (by simp) _).alloc (by simp; omega) _).alloc (by simp; omega) _), by simp, ⟨by go_simp, by go_simp, by go_simp, by go_simp⟩, by go_simp, by go_simp, by go_simp, by go_simp⟩
set_option maxRecDepth 100000 in
set_option maxHeartbeats 8000000 in
theorem ttake (a : Option Addr) (cap : Nat) (L : List Int) (w : World) (hr : RowIs .u8 w a L) (hcap : L.length ≤ cap) (ha : 1 ≤ L.length → ∀ p, a = some p → p.block < w.heap.size) (hL : L.length ≤ 1000000) (hB : BYL L) : Calls Try.prog 17 #[.slice a L.length cap] w fun e w' => Below w.heap.size w w' ∧ ((tkU 0 L = none ∧ e = .returned (.tuple #[.int .i64 0, .slice none 0 0, .bool false])) ∨ ∃ c k x, tkU 0 L = some (c, k) ∧ c < 18446744073709551616 ∧ 1 ≤ k ∧ k ≤ L.length ∧ e = .returned (.tuple #[.int .i64 (unfo c), x, .bool true]) ∧ Og 5 w.heap.size x (nvals .u8 (L.drop k)) w') := by
  have hmf : ∀ (fn : Fn) (first cap : Array Value) (w : World), (Instr.makeFunc fn first cap).run Try.prog w = .ok (.func fn first cap) w := fun _ _ _ _ => rfl
  obtain ⟨V, eV, hbV, hsV, ⟨k0, k1, k2, k3⟩, f0, f1, f2, f3⟩ := tk_box w a L.length cap
  have hR : Rd w.heap.size (w.heap.size + 3) L V := ⟨a, cap, k3, f3, hcap, hr.below hbV, by omega, ha⟩
  have TN := Lib.hid (tnum (w.heap.size + 3) L V hR hB)
  have HBV := Lib.hid hbV
  have HSV := Lib.hid hsV
  have HK := Lib.hid (⟨⟨k0, k1, k2⟩, f0, f1, f2⟩ : (V.cell? ⟨w.heap.size, 0, none⟩ = some (.int .i64 0) ∧ V.cell? ⟨w.heap.size + 1, 0, none⟩ = some (.slice none 0 0) ∧ V.cell? ⟨w.heap.size + 2, 0, none⟩ = some (.bool false)) ∧ V.frozen? ⟨w.heap.size, 0, none⟩ = false ∧ V.frozen? ⟨w.heap.size + 1, 0, none⟩ = false ∧ V.frozen? ⟨w.heap.size + 2, 0, none⟩ = false)
  have HL := Lib.hid hL
  replace eV := Lib.hid eV
  clear k0 k1 k2 k3 f0 f1 f2 f3 hR hbV hsV hr ha hcap hB hL
  obtain ⟨n, en⟩ : ∃ n, L.length = n := ⟨_, rfl⟩
  have EN := Lib.hid en
  rw [en] at eV TN HL ⊢
  clear en
  replace eV := Lib.hid eV.out
  replace TN := Lib.hid TN.out
  replace HL := Lib.hid HL.out
  go_enter_defers Try.func17, Try.ntmps17
  go_upto_region 3 with (fail)
  rw [show w.heap.size + 1 + 1 + 1 = w.heap.size + 3 from rfl, show w.heap.size + 1 + 1 = w.heap.size + 2 from rfl, ← eV.out]
  go_wp2_with fail
  refine TN.out.mono ?_
  rintro e v2 ⟨hO, ⟨hNo, rfl⟩ | ⟨c, k, hS, hc, h1, h2, rfl, hR2⟩⟩
  · obtain ⟨⟨k0, k1, k2⟩, f0, f1, f2⟩ := HK.out
    have k0 := (hO.cell (p := ⟨w.heap.size, 0, none⟩) (by show w.heap.size ≠ _; omega)).trans k0
    have k1 := (hO.cell (p := ⟨w.heap.size + 1, 0, none⟩) (by show w.heap.size + 1 ≠ _; omega)).trans k1
    have k2 := (hO.cell (p := ⟨w.heap.size + 2, 0, none⟩) (by show w.heap.size + 2 ≠ _; omega)).trans k2
    have f0 := (hO.frozen (p := ⟨w.heap.size, 0, none⟩) (by show w.heap.size ≠ _; omega)).trans f0
    have f1 := (hO.frozen (p := ⟨w.heap.size + 1, 0, none⟩) (by show w.heap.size + 1 ≠ _; omega)).trans f1
    have f2 := (hO.frozen (p := ⟨w.heap.size + 2, 0, none⟩) (by show w.heap.size + 2 ≠ _; omega)).trans f2
    have HO := Lib.hid hO
    obtain ⟨B, eB⟩ : ∃ B, w.heap.size = B := ⟨_, rfl⟩
    have EB := Lib.hid eB
    rw [eB] at k0 k1 k2 f0 f1 f2
    refine leaves_cons (f := 45) (args := #[.pointer (some ⟨w.heap.size, 0, none⟩), .pointer (some ⟨w.heap.size + 1, 0, none⟩), .pointer (some ⟨w.heap.size + 2, 0, none⟩)]) (by simp) (by simp [go_sem]) ?_
    rw [eB]
    refine (tk_catch ⟨B, 0, none⟩ ⟨B + 1, 0, none⟩ ⟨B + 2, 0, none⟩ _ _ _ _ _ [] v2 k0 f0 k1 f1 k2 f2 (by show B + 1 ≠ B; omega) (by show B + 2 ≠ B; omega) (by show B + 2 ≠ B + 1; omega) rfl rfl rfl).mono ?_
    rintro e u' w'' ⟨rfl, rfl, rfl⟩
    have hW := Lib.hid (show Below B w (((v2.setCell ⟨B, 0, none⟩ (.int .i64 0)).setCell ⟨B + 1, 0, none⟩ (.slice none 0 0)).setCell ⟨B + 2, 0, none⟩ (.bool false)) from ((((by have := HBV.out; rw [eB] at this; exact this : Below B w V).trans (HO.out.below (by omega))).setCell (p := ⟨B, 0, none⟩) (Nat.le_refl B) _).setCell (p := ⟨B + 1, 0, none⟩) (by show B ≤ B + 1; omega) _).setCell (p := ⟨B + 2, 0, none⟩) (by show B ≤ B + 2; omega) _)
    have c0 : (((v2.setCell ⟨B, 0, none⟩ (.int .i64 0)).setCell ⟨B + 1, 0, none⟩ (.slice none 0 0)).setCell ⟨B + 2, 0, none⟩ (.bool false)).cell? ⟨B, 0, none⟩ = some (.int .i64 0) := by simp [k0, k1, k2, go_sem]
    have c1 : (((v2.setCell ⟨B, 0, none⟩ (.int .i64 0)).setCell ⟨B + 1, 0, none⟩ (.slice none 0 0)).setCell ⟨B + 2, 0, none⟩ (.bool false)).cell? ⟨B + 1, 0, none⟩ = some (.slice none 0 0) := by simp [k0, k1, k2, go_sem]
    have c2 : (((v2.setCell ⟨B, 0, none⟩ (.int .i64 0)).setCell ⟨B + 1, 0, none⟩ (.slice none 0 0)).setCell ⟨B + 2, 0, none⟩ (.bool false)).cell? ⟨B + 2, 0, none⟩ = some (.bool false) := by simp [k0, k1, k2, go_sem]
    generalize ((v2.setCell ⟨B, 0, none⟩ (.int .i64 0)).setCell ⟨B + 1, 0, none⟩ (.slice none 0 0)).setCell ⟨B + 2, 0, none⟩ (.bool false) = W at *
    have fin : Below B w W ∧ ((tkU 0 L = none ∧ Ending.returned (.tuple #[.int .i64 0, .slice none 0 0, .bool false]) = Ending.returned (.tuple #[.int .i64 0, .slice none 0 0, .bool false])) ∨ ∃ c k x, tkU 0 L = some (c, k) ∧ c < 18446744073709551616 ∧ 1 ≤ k ∧ k ≤ n ∧ Ending.returned (.tuple #[.int .i64 0, .slice none 0 0, .bool false]) = .returned (.tuple #[.int .i64 (unfo c), x, .bool true]) ∧ Og 5 B x (nvals .u8 (L.drop k)) W) := ⟨hW.out, .inl ⟨hNo, rfl⟩⟩
    simp [Leaves, settle, results, Try.results17, go_sem, c0, c1, c2]
    exact ⟨hW.out, hNo⟩
  · obtain ⟨⟨k0, k1, k2⟩, f0, f1, f2⟩ := HK.out
    have k0 := (hO.cell (p := ⟨w.heap.size, 0, none⟩) (by show w.heap.size ≠ _; omega)).trans k0
    have k1 := (hO.cell (p := ⟨w.heap.size + 1, 0, none⟩) (by show w.heap.size + 1 ≠ _; omega)).trans k1
    have k2 := (hO.cell (p := ⟨w.heap.size + 2, 0, none⟩) (by show w.heap.size + 2 ≠ _; omega)).trans k2
    have f0 := (hO.frozen (p := ⟨w.heap.size, 0, none⟩) (by show w.heap.size ≠ _; omega)).trans f0
    have f1 := (hO.frozen (p := ⟨w.heap.size + 1, 0, none⟩) (by show w.heap.size + 1 ≠ _; omega)).trans f1
    have f2 := (hO.frozen (p := ⟨w.heap.size + 2, 0, none⟩) (by show w.heap.size + 2 ≠ _; omega)).trans f2
    have hS := Lib.hid hS
    have HC := Lib.hid (⟨hc, h1, h2⟩ : c < 18446744073709551616 ∧ 1 ≤ k ∧ k ≤ n)
    have hb2 := Lib.hid (show Below w.heap.size w v2 from HBV.out.trans (hO.below (by omega)))
    have s2 := Lib.hid (show v2.heap.size = w.heap.size + 4 from by rw [hO.size, HSV.out])
    obtain ⟨a2, cc2, r3, -, -, hr2, -, hlt2⟩ := hR2
    obtain ⟨N, eN⟩ : ∃ N, unfo c = N := ⟨_, rfl⟩
    rw [eN]
    replace eN := Lib.hid eN
    obtain ⟨B, eB⟩ : ∃ B, w.heap.size = B := ⟨_, rfl⟩
    have EB := Lib.hid eB
    rw [eB] at k0 k1 k2 f0 f1 f2 r3 hlt2 hb2 s2 ⊢
    obtain ⟨U, eU⟩ : ∃ U, U = v2.setCell ⟨B, 0, none⟩ (.int .i64 N) := ⟨_, rfl⟩
    have u0 : U.cell? ⟨B, 0, none⟩ = some (.int .i64 N) := by rw [eU]; exact World.cell?_setCell_same _ _ _ k0
    have u1 : U.cell? ⟨B + 1, 0, none⟩ = some (.slice none 0 0) := by rw [eU]; exact (World.cell?_of_block (a := ⟨B + 1, 0, none⟩) (Below.heap_setCell v2 ⟨B, 0, none⟩ _ _ (by show B + 1 ≠ B; omega))).trans k1
    have u2 : U.cell? ⟨B + 2, 0, none⟩ = some (.bool false) := by rw [eU]; exact (World.cell?_of_block (a := ⟨B + 2, 0, none⟩) (Below.heap_setCell v2 ⟨B, 0, none⟩ _ _ (by show B + 2 ≠ B; omega))).trans k2
    have u3 : U.cell? ⟨B + 3, 0, none⟩ = some (.slice a2 (L.drop k).length cc2) := by rw [eU]; exact (World.cell?_of_block (a := ⟨B + 3, 0, none⟩) (Below.heap_setCell v2 ⟨B, 0, none⟩ _ _ (by show B + 3 ≠ B; omega))).trans r3
    have g0 : U.frozen? ⟨B, 0, none⟩ = false := by rw [eU]; simpa using f0
    have g1 : U.frozen? ⟨B + 1, 0, none⟩ = false := by rw [eU]; simpa using f1
    have g2 : U.frozen? ⟨B + 2, 0, none⟩ = false := by rw [eU]; simpa using f2
    have hUO : Only B v2 U := by rw [eU]; exact (Only.refl B v2).setCell (p := ⟨B, 0, none⟩) _
    have hrU := hr2.only hUO (fun q p hp => by have := hlt2 q p hp; omega)
    have sU := Lib.hid (show U.heap.size = B + 4 from by rw [hUO.size, s2.out])
    have hbU := Lib.hid (show Below B w U from hb2.out.trans (hUO.below (Nat.le_refl _)))
    have CL := Lib.hid (tclone a2 cc2 (L.drop k) U.drew (hrU.below (Below.refl _ _).drew) (by rw [List.length_drop]; have := HL.out; have := EN.out; omega))
    obtain ⟨m, em⟩ : ∃ m, (L.drop k).length = m := ⟨_, rfl⟩
    rw [em] at u3 CL
    replace CL := Lib.hid CL.out
    clear em hrU hUO hr2 hlt2 r3 hO
    go_upto_region 4 with (fail)
    rw [← eU]
    clear k0 k1 k2 f0 f1 f2 eU
    refine wp_region_noPanic ?_
    refine region_moves (fun u => u.cell? ⟨B, 0, none⟩ = some (.int .i64 N) ∧ u.cell? ⟨B + 3, 0, none⟩ = some (.slice a2 m cc2)) [(4, [(0, 4), (3, 4), (2, 3), (1, 2)]), (5, [(3, 5), (4, 5), (0, 5), (1, 5), (2, 5)]), (6, [(5, 6), (0, 6), (1, 6), (2, 6), (3, 6), (4, 6)])] [(.take, 0), (.free, 1), (.take, 2), (.step, 3), (.late, 4), (.late, 5), (.late, 6)] _ (by kernel_rfl) (by kernel_rfl) (by kernel_rfl) (by kernel_rfl) (by decide) rfl (fun _ _ _ _ _ h => h) ?_
    simp only [List.filterMap_cons, List.filterMap_nil, List.getElem?_toArray, List.getElem?_cons_zero, List.getElem?_cons_succ, Option.map_some]
    iterate 1
      first
        | (refine mv_take ?_ (Or.inl ⟨by rfl, ?_⟩) (⟨u0, u3⟩) ?_
           rotate_left 1
           · intro u hu
             (try dsimp only at hu)
             go_simp
             try with_reducible rfl
           simp only [Act.put, List.setIfInBounds_toArray, List.set_cons_zero, List.set_cons_succ])
        | (refine mv_take _ (Or.inr ⟨by rfl, rfl⟩) (⟨u0, u3⟩) ?_
           simp only [Act.put, List.setIfInBounds_toArray, List.set_cons_zero, List.set_cons_succ])
    iterate 1
      first
        | (refine mv_free ?_ (Or.inl ⟨by rfl, ?_⟩) (⟨u0, u3⟩) ?_
           rotate_left 1
           · intro u
             go_simp
             try simp only [d1]
             try simp only [d2]
             try simp only [d3]
             try simp only [d1]
             try simp only [d2]
             try simp only [d3]
             try with_reducible rfl
           simp only [Act.put, List.setIfInBounds_toArray, List.set_cons_zero, List.set_cons_succ])
        | (refine mv_free _ (Or.inr ⟨by rfl, rfl⟩) (⟨u0, u3⟩) ?_
           simp only [Act.put, List.setIfInBounds_toArray, List.set_cons_zero, List.set_cons_succ])
    iterate 1
      first
        | (refine mv_take ?_ (Or.inl ⟨by rfl, ?_⟩) (⟨u0, u3⟩) ?_
           rotate_left 1
           · intro u hu
             (try dsimp only at hu)
             go_simp
             try with_reducible rfl
           simp only [Act.put, List.setIfInBounds_toArray, List.set_cons_zero, List.set_cons_succ])
        | (refine mv_take _ (Or.inr ⟨by rfl, rfl⟩) (⟨u0, u3⟩) ?_
           simp only [Act.put, List.setIfInBounds_toArray, List.set_cons_zero, List.set_cons_succ])
    refine mv_step (fun K hK => ?_)
    go_simp
    refine CL.out.mono ?_
    rintro e v3 ⟨x3, rfl, hO3, hb3, -⟩
    have hbx := (Below.refl U.heap.size U).drew.trans hb3
    have u0 := (hbx.cell (p := ⟨B, 0, none⟩) (by have := sU.out; show B < _; omega)).trans u0
    have u1 := (hbx.cell (p := ⟨B + 1, 0, none⟩) (by have := sU.out; show B + 1 < _; omega)).trans u1
    have u2 := (hbx.cell (p := ⟨B + 2, 0, none⟩) (by have := sU.out; show B + 2 < _; omega)).trans u2
    have u3 := (hbx.cell (p := ⟨B + 3, 0, none⟩) (by have := sU.out; show B + 3 < _; omega)).trans u3
    have g0 := (hbx.frozen (p := ⟨B, 0, none⟩) (by have := sU.out; show B < _; omega)).trans g0
    have g1 := (hbx.frozen (p := ⟨B + 1, 0, none⟩) (by have := sU.out; show B + 1 < _; omega)).trans g1
    have g2 := (hbx.frozen (p := ⟨B + 2, 0, none⟩) (by have := sU.out; show B + 2 < _; omega)).trans g2
    have hb4 := Lib.hid (show Below B w v3 from hbU.out.trans (hbx.mono (by have := sU.out; omega)))
    obtain ⟨a9, c9, rfl, -, -, -, -⟩ := hO3.rowIs
    rw [List.length_drop] at hO3
    have hO3 := Lib.hid hO3
    clear hb3 hbx
    go_wp2_with fail
    refine hK.out _ _ _ (fun u hu => hu) (⟨u0, u3⟩) ?_
    clear hK K
    refine mv_late (fun K hK => ?_)
    go_simp
    refine hK.out (fun u => True) _ _ ?_
    clear hK K
    refine mv_late (fun K hK => ?_)
    go_simp
    refine hK.out (fun u => True) _ _ ?_
    clear hK K
    refine mv_late (fun K hK => ?_)
    go_simp
    refine hK.out (fun _ => True) _ _ ?_
    clear hK K
    refine mv_done ?_
    refine NoPanic.normal ?_
    have c0 : (((v3.setCell ⟨B, 0, none⟩ (.int .i64 N)).setCell ⟨B + 1, 0, none⟩ (.slice a9 (L.length - k) c9)).setCell ⟨B + 2, 0, none⟩ (.bool true)).cell? ⟨B, 0, none⟩ = some (.int .i64 N) := by simp [u0, u1, u2, go_sem]
    have c1 : (((v3.setCell ⟨B, 0, none⟩ (.int .i64 N)).setCell ⟨B + 1, 0, none⟩ (.slice a9 (L.length - k) c9)).setCell ⟨B + 2, 0, none⟩ (.bool true)).cell? ⟨B + 1, 0, none⟩ = some (.slice a9 (L.length - k) c9) := by simp [u0, u1, u2, go_sem]
    have c2 : (((v3.setCell ⟨B, 0, none⟩ (.int .i64 N)).setCell ⟨B + 1, 0, none⟩ (.slice a9 (L.length - k) c9)).setCell ⟨B + 2, 0, none⟩ (.bool true)).cell? ⟨B + 2, 0, none⟩ = some (.bool true) := by simp [u0, u1, u2, go_sem]
    have hW := Lib.hid (show Below B w (((v3.setCell ⟨B, 0, none⟩ (.int .i64 N)).setCell ⟨B + 1, 0, none⟩ (.slice a9 (L.length - k) c9)).setCell ⟨B + 2, 0, none⟩ (.bool true)) from ((hb4.out.setCell (p := ⟨B, 0, none⟩) (Nat.le_refl B) _).setCell (p := ⟨B + 1, 0, none⟩) (by show B ≤ B + 1; omega) _).setCell (p := ⟨B + 2, 0, none⟩) (by show B ≤ B + 2; omega) _)
    have hOW := Lib.hid (show Og 5 B (.slice a9 (L.length - k) c9) (nvals .u8 (L.drop k)) (((v3.setCell ⟨B, 0, none⟩ (.int .i64 N)).setCell ⟨B + 1, 0, none⟩ (.slice a9 (L.length - k) c9)).setCell ⟨B + 2, 0, none⟩ (.bool true)) from (hO3.out.kept fun g hg hl => by
      have hg2 := (hO3.out.lt hg).1
      have hg3 : B + 4 ≤ g := by have := sU.out; exact (show U.heap.size ≤ g from hg2) |> fun h => by omega
      exact (Below.heap_setCell _ ⟨B + 2, 0, none⟩ _ g (by show g ≠ B + 2; omega)).trans ((Below.heap_setCell _ ⟨B + 1, 0, none⟩ _ g (by show g ≠ B + 1; omega)).trans (Below.heap_setCell _ ⟨B, 0, none⟩ _ g (by show g ≠ B; omega)))).mono (by have := sU.out; show B ≤ U.heap.size; omega))
    generalize ((v3.setCell ⟨B, 0, none⟩ (.int .i64 N)).setCell ⟨B + 1, 0, none⟩ (.slice a9 (L.length - k) c9)).setCell ⟨B + 2, 0, none⟩ (.bool true) = W at *
    clear u0 u1 u2 u3 g0 g1 g2 hO3 hb4 CL
    go_wp2
    refine leaves_cons (f := 45) (args := #[.pointer (some ⟨B, 0, none⟩), .pointer (some ⟨B + 1, 0, none⟩), .pointer (some ⟨B + 2, 0, none⟩)]) (by simp) (by simp [go_sem]) ?_
    refine (tk_idle ⟨B, 0, none⟩ ⟨B + 1, 0, none⟩ ⟨B + 2, 0, none⟩ W).mono ?_
    rintro e u' w'' ⟨rfl, rfl, rfl⟩
    simp [Leaves, settle, results, Try.results17, go_sem, c0, c1, c2]
    rw [eB]
    exact ⟨hW.out, c, k, hS.out, HC.out.1, HC.out.2.1, HC.out.2.2, _, ⟨eN.out.symm, rfl⟩, hOW.out⟩
end Go.Proofs.Ytpcbnoefgknihaa
