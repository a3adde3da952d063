/- The document's meter; walked. -/
import Derived.Test.YtmmenpaodofahaaAoa3
import Derived.Deep.Cut
namespace Go.Proofs.Ytmmenpaodofahaa
open Go.ChangeShapes Go.WideShapes Go.ChangeAt Go.RowKit
set_option linter.unusedVariables false
set_option linter.unusedSimpArgs false

/-- The document's meter: its vanes, its lag. -/
def mdC (p0 p1 p2 p3 p4 : Value) (sh y : Int) (kn : Bool) : List Value := [p0, p1, p2, p3, p4, .int .i64 sh, .int .i64 y, .bool kn]
set_option maxRecDepth 100000 in
set_option maxHeartbeats 4000000 in
theorem rlgstep5 (p0 p1 p2 p3 p4 : Value) (b : Nat) {sh y : Int} {kn : Bool} (x0 : Int) (w : World) (h : Held b (mdC p0 p1 p2 p3 p4 sh y kn) w) (h0 : 0 ≤ sh) (h1 : sh ≤ 16) (y1 : -549755813887 ≤ y) (y2 : y ≤ 549755813887) :
    Calls Try.prog 90 #[.pointer (some ⟨b, 5, none⟩), .int .i64 x0] w fun e w' => e = .returned (.int .i64 (lgV sh (if kn then y else clq x0) (clq x0))) ∧ Held b (mdC p0 p1 p2 p3 p4 sh (lgV sh (if kn then y else clq x0) (clq x0)) true) w' ∧ Beside b w w' := by
  have CL := Lib.hid (fun u => r16clip_any x0 u)
  have xb := clq_bd x0
  generalize clq x0 = x at *
  obtain ⟨c0, f0⟩ := h.one 0 rfl
  obtain ⟨c1, f1⟩ := h.one 1 rfl
  obtain ⟨c2, f2⟩ := h.one 2 rfl
  obtain ⟨c3, f3⟩ := h.one 3 rfl
  obtain ⟨c4, f4⟩ := h.one 4 rfl
  obtain ⟨c5, f5⟩ := h.one 5 rfl
  obtain ⟨c6, f6⟩ := h.one 6 rfl
  obtain ⟨c7, f7⟩ := h.one 7 rfl
  have hpow := Lib.hid (show ∀ k : Nat, k < 17 → (1 : Int) ≤ 2 ^ k ∧ (2 : Int) ^ k ≤ 65536 by decide)
  cases kn <;> simp only [if_true, if_false, Bool.false_eq_true]
  · rw [lgV_self]
    go_enter Try.func90, Try.ntmps90
    go_wp2_with ((go_at_call 110; (with_reducible refine (CL.out _).mono ?_); rintro e w' ⟨rfl, rfl⟩))
    go_loop [5, 6] (fun s i => ∃ k : Nat, (k : Int) ≤ sh ∧ i = .int .i64 k ∧ ∃ p : Int, Hid (p = 2 ^ k) ∧ 1 ≤ p ∧ p ≤ 65536 ∧ s = .int .i64 p) (fun _ i => sh.toNat - (intOf i).toNat)
    case atStart => exact ⟨0, by omega, rfl, 1, Lib.hid (by simp), by omega, by omega, rfl⟩
    case round =>
      obtain ⟨k, hk, rfl, p, hp, p1, p2, rfl⟩ := hrel
      by_cases hlt : (k : Int) < sh
      · have hq := hpow.out (k + 1) (by omega)
        rw [Int.pow_succ, ← hp.out] at hq
        have HE : Hid (p * 2 = 2 ^ (k + 1)) := Lib.hid (by rw [hp.out, Int.pow_succ])
        go_wp2
        go_round
        case rel => exact ⟨k + 1, by omega, by go_num, p * 2, HE, by omega, by omega, rfl⟩
        case measure => simp [intOf]; omega
      · obtain rfl : sh = (k : Int) := by omega
        go_wp2
        go_ret
        exact ⟨rfl, ((((HB.start h).set 6 (.int .i64 x) (by simp [mdC])).set 7 (.bool true) (by simp [mdC]))).fin rfl rfl rfl rfl⟩
  · have BV := lgV_between sh y x (by omega)
    have BV := Lib.hid BV
    go_enter Try.func90, Try.ntmps90
    go_wp2_with ((go_at_call 110; (with_reducible refine (CL.out _).mono ?_); rintro e w' ⟨rfl, rfl⟩))
    go_loop [5, 6] (fun s i => ∃ k : Nat, (k : Int) ≤ sh ∧ i = .int .i64 k ∧ ∃ p : Int, Hid (p = 2 ^ k) ∧ 1 ≤ p ∧ p ≤ 65536 ∧ s = .int .i64 p) (fun _ i => sh.toNat - (intOf i).toNat)
    case atStart => exact ⟨0, by omega, rfl, 1, Lib.hid (by simp), by omega, by omega, rfl⟩
    case round =>
      obtain ⟨k, hk, rfl, p, hp, p1, p2, rfl⟩ := hrel
      by_cases hlt : (k : Int) < sh
      · have hq := hpow.out (k + 1) (by omega)
        rw [Int.pow_succ, ← hp.out] at hq
        have HE : Hid (p * 2 = 2 ^ (k + 1)) := Lib.hid (by rw [hp.out, Int.pow_succ])
        go_wp2
        go_round
        case rel => exact ⟨k + 1, by omega, by go_num, p * 2, HE, by omega, by omega, rfl⟩
        case measure => simp [intOf]; omega
      · obtain rfl : sh = (k : Int) := by omega
        have FL := Lib.hid (fun a h1 h2 u => floor01_any a p u (by omega) h1 h2)
        have HV : lgV (k : Int) y x = y + (x - y) / p := by rw [hp.out]; rfl
        have bv := BV.out
        rw [HV] at bv
        have HV := Lib.hid HV
        have hw1 : IntKind.i64.wrap (x - y) = x - y := IntWalk.i64_in _ ⟨by omega, by omega⟩
        have hw2 : IntKind.i64.wrap (y + (x - y) / p) = y + (x - y) / p := IntWalk.i64_in _ ⟨by omega, by omega⟩
        go_wp2_with fail
        refine region_still [(16, [(15, 16), (13, 16), (12, 16), (0, 16), (1, 16), (2, 16), (3, 16), (4, 16), (5, 16), (6, 16), (7, 16), (8, 16), (9, 16), (10, 16), (11, 16), (14, 15)])] [(.free, 0), (.free, 1), (.free, 2), (.free, 3), (.take, 4), (.free, 5), (.free, 6), (.free, 7), (.free, 8), (.take, 9), (.free, 10), (.free, 11), (.step, 12), (.free, 13), (.free, 14), (.free, 15), (.late, 16)] _ (by kernel_rfl) (by kernel_rfl) (by kernel_rfl) (by kernel_rfl) (by decide) rfl (fun _ _ _ _ _ h => h) ?_
        simp only [List.filterMap_cons, List.filterMap_nil, List.getElem?_toArray, List.getElem?_cons_zero, List.getElem?_cons_succ, Option.map_some]
        iterate 4
          first
            | (refine mv_free ?_ (Or.inl ⟨by rfl, ?_⟩) (rfl) ?_
               rotate_left 1
               · intro u
                 go_simp
                 try simp only [d1]
                 try simp only [d2]
                 try simp only [d3]
                 try with_reducible rfl
               simp only [Act.put, List.setIfInBounds_toArray, List.set_cons_zero, List.set_cons_succ])
            | (refine mv_free _ (Or.inr ⟨by rfl, rfl⟩) (rfl) ?_
               simp only [Act.put, List.setIfInBounds_toArray, List.set_cons_zero, List.set_cons_succ])
        iterate 1
          first
            | (refine mv_take ?_ (Or.inl ⟨by rfl, ?_⟩) (rfl) ?_
               rotate_left 1
               · intro u hu
                 (try dsimp only at hu)
                 go_simp
                 try with_reducible rfl
               simp only [Act.put, List.setIfInBounds_toArray, List.set_cons_zero, List.set_cons_succ])
            | (refine mv_take _ (Or.inr ⟨by rfl, rfl⟩) (rfl) ?_
               simp only [Act.put, List.setIfInBounds_toArray, List.set_cons_zero, List.set_cons_succ])
        iterate 4
          first
            | (refine mv_free ?_ (Or.inl ⟨by rfl, ?_⟩) (rfl) ?_
               rotate_left 1
               · intro u
                 go_simp
                 try simp only [d1]
                 try simp only [d2]
                 try simp only [d3]
                 try with_reducible rfl
               simp only [Act.put, List.setIfInBounds_toArray, List.set_cons_zero, List.set_cons_succ])
            | (refine mv_free _ (Or.inr ⟨by rfl, rfl⟩) (rfl) ?_
               simp only [Act.put, List.setIfInBounds_toArray, List.set_cons_zero, List.set_cons_succ])
        iterate 1
          first
            | (refine mv_take ?_ (Or.inl ⟨by rfl, ?_⟩) (rfl) ?_
               rotate_left 1
               · intro u hu
                 (try dsimp only at hu)
                 go_simp
                 try with_reducible rfl
               simp only [Act.put, List.setIfInBounds_toArray, List.set_cons_zero, List.set_cons_succ])
            | (refine mv_take _ (Or.inr ⟨by rfl, rfl⟩) (rfl) ?_
               simp only [Act.put, List.setIfInBounds_toArray, List.set_cons_zero, List.set_cons_succ])
        iterate 2
          first
            | (refine mv_free ?_ (Or.inl ⟨by rfl, ?_⟩) (rfl) ?_
               rotate_left 1
               · intro u
                 go_simp
                 try simp only [d1]
                 try simp only [d2]
                 try simp only [d3]
                 try with_reducible rfl
               simp only [Act.put, List.setIfInBounds_toArray, List.set_cons_zero, List.set_cons_succ])
            | (refine mv_free _ (Or.inr ⟨by rfl, rfl⟩) (rfl) ?_
               simp only [Act.put, List.setIfInBounds_toArray, List.set_cons_zero, List.set_cons_succ])
        refine mv_step (fun K hK => ?_)
        go_simp
        refine (FL.out _ (by omega) (by omega) _).mono ?_
        rintro e w' ⟨rfl, rfl⟩
        go_wp2_with fail
        refine hK.out _ _ _ (fun u hu => hu) (rfl) ?_
        clear hK K
        iterate 3
          first
            | (refine mv_free ?_ (Or.inl ⟨by rfl, ?_⟩) (rfl) ?_
               rotate_left 1
               · intro u
                 go_simp
                 try simp only [d1]
                 try simp only [d2]
                 try simp only [d3]
                 try with_reducible rfl
               simp only [Act.put, List.setIfInBounds_toArray, List.set_cons_zero, List.set_cons_succ])
            | (refine mv_free _ (Or.inr ⟨by rfl, rfl⟩) (rfl) ?_
               simp only [Act.put, List.setIfInBounds_toArray, List.set_cons_zero, List.set_cons_succ])
        refine mv_late (fun K hK => ?_)
        go_simp
        refine hK.out (fun _ => True) _ _ ?_
        clear hK K
        refine mv_done ?_
        go_wp2
        go_ret
        rw [HV.out]
        exact ⟨rfl, ((HB.start h).set 6 (.int .i64 (y + (x - y) / p)) (by simp [mdC])).fin rfl rfl rfl rfl⟩
theorem abs01b (n : Int) (w : World) (h : -4611686018427387904 ≤ n) : Calls Try.prog 89 #[.int .i64 n] w fun e w' => e = .returned (.int .i64 (if n < 0 then -n else n)) ∧ w = w' := by
  have hw : n < 0 → IntKind.i64.wrap (-n) = -n := fun h1 => IntWalk.i64_in _ ⟨by omega, by omega⟩
  rcases (show n < 0 ∨ 0 ≤ n by omega) with h1 | h1
  · have hw := hw h1
    rw [if_pos h1]
    go_enter Try.func89, Try.ntmps89
    go_wp2
    go_ret
    exact ⟨rfl, rfl⟩
  · clear hw
    rw [if_neg (by omega)]
    go_enter Try.func89, Try.ntmps89
    go_wp2
    go_ret
    exact ⟨rfl, rfl⟩
theorem apt_abs {a b : Int} (h1 : -90000 ≤ a) (h2 : a ≤ 90000) (h3 : -549755813887 ≤ b) (h4 : b ≤ 549755813887) : apt a b = if a - b < 0 then -(a - b) else a - b := by
  unfold apt clq
  omega
theorem ch5_box (w : World) (x e1 x2 e2 : Int) : ∃ V, V = ((w.alloc (.cells #[.int .i64 x, .int .i64 e1] 70)).alloc (.cells #[.int .i64 x2, .int .i64 e2] 70)) ∧ Below w.heap.size w V ∧ V.heap.size = w.heap.size + 2 ∧ ∀ u, Below (w.heap.size + 2) V u → u.cell? ⟨w.heap.size, 0, none⟩ = some (.int .i64 x) ∧ u.cell? ⟨w.heap.size, 1, none⟩ = some (.int .i64 e1) ∧ u.cell? ⟨w.heap.size + 1, 0, none⟩ = some (.int .i64 x2) ∧ u.cell? ⟨w.heap.size + 1, 1, none⟩ = some (.int .i64 e2) :=
  ⟨_, rfl, (by repeat (first | exact Below.refl _ _ | assumption | apply Below.drew | apply below_drewN | (refine Below.alloc ?_ (by first | exact Nat.le_refl _ | omega | (simp <;> omega)) _) | (refine Below.setCell ?_ (by first | exact Nat.le_refl _ | omega | (simp <;> omega)) _))), by simp, fun u hu => ⟨(bc hu (by omega)).trans (by go_simp), (bc hu (by omega)).trans (by go_simp), (bc hu (by omega)).trans (by go_simp), (bc hu (by omega)).trans (by go_simp)⟩⟩
set_option maxRecDepth 100000 in
set_option maxHeartbeats 8000000 in
theorem rstep39 (k : Nat) (ax ay : Option Addr) (cx cy : Nat) (X Y : List Int) (tau arm sh : Int) (y : Int) (kn : Bool) (x e1 x2 e2 rate speed : Int) (w : World) (h : Held k (mdC (.slice ax X.length cx) (.slice ay Y.length cy) (.int .i64 tau) (.int .i64 arm) (.int .i64 sh) sh y kn) w) (hx : RowIs .i64 w ax X) (hy : RowIs .i64 w ay Y) (hs : speed ≤ 9223372036854775807) (hg : agB X Y tau arm sh = true) (y1 : -549755813887 ≤ y) (y2 : y ≤ 549755813887) :
    Calls Try.prog 52 #[.pointer (some ⟨k, 0, none⟩), .agg #[.int .i64 x, .int .i64 e1], .agg #[.int .i64 x2, .int .i64 e2], .int .i64 rate, .int .i64 speed] w fun e w' => e = .returned (.tuple #[.int .i64 (stY (chV (trV X Y arm x rate speed) e1 (trV X Y arm x2 rate speed) e2 tau y kn) (chO (trV X Y arm x rate speed) e1 (trV X Y arm x2 rate speed) e2 tau y kn) sh y kn), .int .i64 (chO (trV X Y arm x rate speed) e1 (trV X Y arm x2 rate speed) e2 tau y kn)]) ∧ Held k (mdC (.slice ax X.length cx) (.slice ay Y.length cy) (.int .i64 tau) (.int .i64 arm) (.int .i64 sh) sh (stY (chV (trV X Y arm x rate speed) e1 (trV X Y arm x2 rate speed) e2 tau y kn) (chO (trV X Y arm x rate speed) e1 (trV X Y arm x2 rate speed) e2 tau y kn) sh y kn) (stK (chO (trV X Y arm x rate speed) e1 (trV X Y arm x2 rate speed) e2 tau y kn) kn)) w' ∧ Beside k w w' := by
  obtain ⟨V, eV, hb0, hz, hcs⟩ := ch5_box w x e1 x2 e2
  obtain ⟨hgg, -, ⟨a1, a2⟩, s1, s2⟩ := agB_at hg
  have W := fun u (h : Below (w.heap.size + 2) V u) => show Below w.heap.size w u from hb0.trans (h.mono (by omega))
  have HK := Lib.hid (fun u (j : Below (w.heap.size + 2) V u) => h.bel (W u j))
  have A1 := Lib.hid (fun u (j : Below (w.heap.size + 2) V u) => rtrue39 ax ay cx cy X Y tau arm sh x rate speed u (hx.below (W u j)) (hy.below (W u j)) hgg a1 a2 hs)
  have A2 := Lib.hid (fun u (j : Below (w.heap.size + 2) V u) => rtrue39 ax ay cx cy X Y tau arm sh x2 rate speed u (hx.below (W u j)) (hy.below (W u j)) hgg a1 a2 hs)
  have pb : -90000 ≤ trV X Y arm x rate speed ∧ trV X Y arm x rate speed ≤ 90000 := clA_bd _
  have qb : -90000 ≤ trV X Y arm x2 rate speed ∧ trV X Y arm x2 rate speed ≤ 90000 := clA_bd _
  generalize trV X Y arm x rate speed = p at *
  generalize trV X Y arm x2 rate speed = q at *
  obtain ⟨pb1, pb2⟩ := pb
  obtain ⟨qb1, qb2⟩ := qb
  have LS := Lib.hid (fun n u hl => rlgstep5 (.slice ax X.length cx) (.slice ay Y.length cy) (.int .i64 tau) (.int .i64 arm) (.int .i64 sh) k (kn := kn) n u hl s1 s2 y1 y2)
  have AP := fun u => rapart_any p q u
  have ME := fun u => rmean_any p q u
  have BQ := fun u => abs01b (q - y) u (by omega)
  have BP := fun u => abs01b (p - y) u (by omega)
  have hwq : IntKind.i64.wrap (q - y) = q - y := IntWalk.i64_in _ ⟨by omega, by omega⟩
  have hwp : IntKind.i64.wrap (p - y) = p - y := IntWalk.i64_in _ ⟨by omega, by omega⟩
  have eq := apt_abs qb1 qb2 y1 y2
  have ep := apt_abs pb1 pb2 y1 y2
  rw [← eq] at BQ
  rw [← ep] at BP
  replace BQ := Lib.hid BQ
  replace BP := Lib.hid BP
  replace W := Lib.hid W
  clear h hx hy hs hg hgg y1 y2 s1 s2 a1 a2 eq ep pb1 pb2 qb1 qb2
  replace hb0 := Lib.hid hb0
  replace hz := Lib.hid hz
  replace hcs := Lib.hid hcs
  replace eV := Lib.hid eV
  by_cases he1 : e1 = 0
  · by_cases he2 : e2 = 0
    · subst he1 he2
      rcases (show apt p q ≤ tau ∨ tau < apt p q by omega) with ht | ht
      · have hn : ¬ tau < apt p q := by omega
        clear BQ BP
        have E : chV p 0 q 0 tau y kn = men p q ∧ chO p 0 q 0 tau y kn = 0 := by unfold chV chO cloB vrd; simp [hn]
        rw [E.1, E.2, show stY (men p q) 0 sh y kn = lgV sh (if kn then y else clq (men p q)) (clq (men p q)) from if_neg (by decide), show stK 0 kn = true from if_neg (by decide)]
        have LS1 := Lib.hid (fun u h => LS.out (men p q) u h)
        clear E LS
        generalize lgV sh (if kn then y else clq (men p q)) (clq (men p q)) = R at *
        go_enter Try.func52, Try.ntmps52
        go_upto_region 1 with (fail)
        rw [← eV.out]
        obtain ⟨k0, k1, k2, k3⟩ := hcs.out _ (Below.refl _ _)
        obtain ⟨c0, f0⟩ := (HK.out _ (Below.refl _ _)).one 0 rfl
        obtain ⟨c1, f1⟩ := (HK.out _ (Below.refl _ _)).one 1 rfl
        obtain ⟨c2, f2⟩ := (HK.out _ (Below.refl _ _)).one 2 rfl
        obtain ⟨c3, f3⟩ := (HK.out _ (Below.refl _ _)).one 3 rfl
        obtain ⟨c4, f4⟩ := (HK.out _ (Below.refl _ _)).one 4 rfl
        obtain ⟨c5, f5⟩ := (HK.out _ (Below.refl _ _)).one 5 rfl
        obtain ⟨c6, f6⟩ := (HK.out _ (Below.refl _ _)).one 6 rfl
        obtain ⟨c7, f7⟩ := (HK.out _ (Below.refl _ _)).one 7 rfl
        refine region_moves (fun u => u.cell? ⟨k, 0, none⟩ = some (.slice ax X.length cx) ∧ u.cell? ⟨k, 1, none⟩ = some (.slice ay Y.length cy) ∧ u.cell? ⟨k, 2, none⟩ = some (.int .i64 tau) ∧ u.cell? ⟨k, 3, none⟩ = some (.int .i64 arm) ∧ u.cell? ⟨k, 4, none⟩ = some (.int .i64 sh) ∧ u.cell? ⟨w.heap.size, 0, none⟩ = some (.int .i64 x) ∧ u.cell? ⟨w.heap.size + 1, 0, none⟩ = some (.int .i64 x2)) [] [(.free, 0), (.free, 1), (.free, 2), (.take, 3), (.free, 4), (.take, 5), (.free, 6), (.free, 7), (.free, 9), (.free, 10), (.free, 11), (.take, 12), (.free, 13), (.take, 14), (.free, 15), (.free, 16), (.step, 8), (.step, 17), (.free, 18), (.free, 19)] _ (by kernel_rfl) (by kernel_rfl) (by kernel_rfl) (by kernel_rfl) (by decide) rfl (fun _ _ _ _ _ h => h) ?_
        simp only [List.filterMap_cons, List.filterMap_nil, List.getElem?_toArray, List.getElem?_cons_zero, List.getElem?_cons_succ, Option.map_some]
        iterate 3
          first
            | (refine mv_free ?_ (Or.inl ⟨by rfl, ?_⟩) (⟨c0, c1, c2, c3, c4, k0, k2⟩) ?_
               rotate_left 1
               · intro u
                 go_simp
                 try simp only [d1]
                 try simp only [d2]
                 try simp only [d3]
                 try with_reducible rfl
               simp only [Act.put, List.setIfInBounds_toArray, List.set_cons_zero, List.set_cons_succ])
            | (refine mv_free _ (Or.inr ⟨by rfl, rfl⟩) (⟨c0, c1, c2, c3, c4, k0, k2⟩) ?_
               simp only [Act.put, List.setIfInBounds_toArray, List.set_cons_zero, List.set_cons_succ])
        iterate 1
          first
            | (refine mv_take ?_ (Or.inl ⟨by rfl, ?_⟩) (⟨c0, c1, c2, c3, c4, k0, k2⟩) ?_
               rotate_left 1
               · intro u hu
                 (try dsimp only at hu)
                 go_simp
                 try with_reducible rfl
               simp only [Act.put, List.setIfInBounds_toArray, List.set_cons_zero, List.set_cons_succ])
            | (refine mv_take _ (Or.inr ⟨by rfl, rfl⟩) (⟨c0, c1, c2, c3, c4, k0, k2⟩) ?_
               simp only [Act.put, List.setIfInBounds_toArray, List.set_cons_zero, List.set_cons_succ])
        iterate 1
          first
            | (refine mv_free ?_ (Or.inl ⟨by rfl, ?_⟩) (⟨c0, c1, c2, c3, c4, k0, k2⟩) ?_
               rotate_left 1
               · intro u
                 go_simp
                 try simp only [d1]
                 try simp only [d2]
                 try simp only [d3]
                 try with_reducible rfl
               simp only [Act.put, List.setIfInBounds_toArray, List.set_cons_zero, List.set_cons_succ])
            | (refine mv_free _ (Or.inr ⟨by rfl, rfl⟩) (⟨c0, c1, c2, c3, c4, k0, k2⟩) ?_
               simp only [Act.put, List.setIfInBounds_toArray, List.set_cons_zero, List.set_cons_succ])
        iterate 1
          first
            | (refine mv_take ?_ (Or.inl ⟨by rfl, ?_⟩) (⟨c0, c1, c2, c3, c4, k0, k2⟩) ?_
               rotate_left 1
               · intro u hu
                 (try dsimp only at hu)
                 go_simp
                 try with_reducible rfl
               simp only [Act.put, List.setIfInBounds_toArray, List.set_cons_zero, List.set_cons_succ])
            | (refine mv_take _ (Or.inr ⟨by rfl, rfl⟩) (⟨c0, c1, c2, c3, c4, k0, k2⟩) ?_
               simp only [Act.put, List.setIfInBounds_toArray, List.set_cons_zero, List.set_cons_succ])
        iterate 5
          first
            | (refine mv_free ?_ (Or.inl ⟨by rfl, ?_⟩) (⟨c0, c1, c2, c3, c4, k0, k2⟩) ?_
               rotate_left 1
               · intro u
                 go_simp
                 try simp only [d1]
                 try simp only [d2]
                 try simp only [d3]
                 try with_reducible rfl
               simp only [Act.put, List.setIfInBounds_toArray, List.set_cons_zero, List.set_cons_succ])
            | (refine mv_free _ (Or.inr ⟨by rfl, rfl⟩) (⟨c0, c1, c2, c3, c4, k0, k2⟩) ?_
               simp only [Act.put, List.setIfInBounds_toArray, List.set_cons_zero, List.set_cons_succ])
        iterate 1
          first
            | (refine mv_take ?_ (Or.inl ⟨by rfl, ?_⟩) (⟨c0, c1, c2, c3, c4, k0, k2⟩) ?_
               rotate_left 1
               · intro u hu
                 (try dsimp only at hu)
                 go_simp
                 try with_reducible rfl
               simp only [Act.put, List.setIfInBounds_toArray, List.set_cons_zero, List.set_cons_succ])
            | (refine mv_take _ (Or.inr ⟨by rfl, rfl⟩) (⟨c0, c1, c2, c3, c4, k0, k2⟩) ?_
               simp only [Act.put, List.setIfInBounds_toArray, List.set_cons_zero, List.set_cons_succ])
        iterate 1
          first
            | (refine mv_free ?_ (Or.inl ⟨by rfl, ?_⟩) (⟨c0, c1, c2, c3, c4, k0, k2⟩) ?_
               rotate_left 1
               · intro u
                 go_simp
                 try simp only [d1]
                 try simp only [d2]
                 try simp only [d3]
                 try with_reducible rfl
               simp only [Act.put, List.setIfInBounds_toArray, List.set_cons_zero, List.set_cons_succ])
            | (refine mv_free _ (Or.inr ⟨by rfl, rfl⟩) (⟨c0, c1, c2, c3, c4, k0, k2⟩) ?_
               simp only [Act.put, List.setIfInBounds_toArray, List.set_cons_zero, List.set_cons_succ])
        iterate 1
          first
            | (refine mv_take ?_ (Or.inl ⟨by rfl, ?_⟩) (⟨c0, c1, c2, c3, c4, k0, k2⟩) ?_
               rotate_left 1
               · intro u hu
                 (try dsimp only at hu)
                 go_simp
                 try with_reducible rfl
               simp only [Act.put, List.setIfInBounds_toArray, List.set_cons_zero, List.set_cons_succ])
            | (refine mv_take _ (Or.inr ⟨by rfl, rfl⟩) (⟨c0, c1, c2, c3, c4, k0, k2⟩) ?_
               simp only [Act.put, List.setIfInBounds_toArray, List.set_cons_zero, List.set_cons_succ])
        iterate 2
          first
            | (refine mv_free ?_ (Or.inl ⟨by rfl, ?_⟩) (⟨c0, c1, c2, c3, c4, k0, k2⟩) ?_
               rotate_left 1
               · intro u
                 go_simp
                 try simp only [d1]
                 try simp only [d2]
                 try simp only [d3]
                 try with_reducible rfl
               simp only [Act.put, List.setIfInBounds_toArray, List.set_cons_zero, List.set_cons_succ])
            | (refine mv_free _ (Or.inr ⟨by rfl, rfl⟩) (⟨c0, c1, c2, c3, c4, k0, k2⟩) ?_
               simp only [Act.put, List.setIfInBounds_toArray, List.set_cons_zero, List.set_cons_succ])
        refine mv_step (fun K hK => ?_)
        go_simp
        refine (A1.out _ ((Below.refl (w.heap.size + 2) V).drew)).mono ?_
        rintro e w1 ⟨rfl, hb1⟩
        have hb1 := ((Below.refl (w.heap.size + 2) V).drew).trans (hb1.mono (by have := hz.out; show _ ≤ V.heap.size; omega))
        obtain ⟨k0, k1, k2, k3⟩ := hcs.out _ hb1
        clear c0 c1 c2 c3 c4 c5 c6 c7 f0 f1 f2 f3 f4 f5 f6 f7
        obtain ⟨c0, f0⟩ := (HK.out _ hb1).one 0 rfl
        obtain ⟨c1, f1⟩ := (HK.out _ hb1).one 1 rfl
        obtain ⟨c2, f2⟩ := (HK.out _ hb1).one 2 rfl
        obtain ⟨c3, f3⟩ := (HK.out _ hb1).one 3 rfl
        obtain ⟨c4, f4⟩ := (HK.out _ hb1).one 4 rfl
        obtain ⟨c5, f5⟩ := (HK.out _ hb1).one 5 rfl
        obtain ⟨c6, f6⟩ := (HK.out _ hb1).one 6 rfl
        obtain ⟨c7, f7⟩ := (HK.out _ hb1).one 7 rfl
        go_wp2_with fail
        refine hK.out _ _ _ (fun u hu => hu) (⟨c0, c1, c2, c3, c4, k0, k2⟩) ?_
        clear hK K
        refine mv_step (fun K hK => ?_)
        go_simp
        refine (A2.out _ (hb1)).mono ?_
        rintro e w2 ⟨rfl, hb2⟩
        have hb2 := (hb1).trans (hb2.mono (by have := hb1.size; have := hz.out; show _ ≤ w1.heap.size; omega))
        clear hb1
        obtain ⟨k0, k1, k2, k3⟩ := hcs.out _ hb2
        clear c0 c1 c2 c3 c4 c5 c6 c7 f0 f1 f2 f3 f4 f5 f6 f7
        obtain ⟨c0, f0⟩ := (HK.out _ hb2).one 0 rfl
        obtain ⟨c1, f1⟩ := (HK.out _ hb2).one 1 rfl
        obtain ⟨c2, f2⟩ := (HK.out _ hb2).one 2 rfl
        obtain ⟨c3, f3⟩ := (HK.out _ hb2).one 3 rfl
        obtain ⟨c4, f4⟩ := (HK.out _ hb2).one 4 rfl
        obtain ⟨c5, f5⟩ := (HK.out _ hb2).one 5 rfl
        obtain ⟨c6, f6⟩ := (HK.out _ hb2).one 6 rfl
        obtain ⟨c7, f7⟩ := (HK.out _ hb2).one 7 rfl
        go_wp2_with fail
        refine hK.out _ _ _ (fun u hu => hu) (⟨c0, c1, c2, c3, c4, k0, k2⟩) ?_
        clear hK K
        iterate 2
          first
            | (refine mv_free ?_ (Or.inl ⟨by rfl, ?_⟩) (⟨c0, c1, c2, c3, c4, k0, k2⟩) ?_
               rotate_left 1
               · intro u
                 go_simp
                 try simp only [d1]
                 try simp only [d2]
                 try simp only [d3]
                 try with_reducible rfl
               simp only [Act.put, List.setIfInBounds_toArray, List.set_cons_zero, List.set_cons_succ])
            | (refine mv_free _ (Or.inr ⟨by rfl, rfl⟩) (⟨c0, c1, c2, c3, c4, k0, k2⟩) ?_
               simp only [Act.put, List.setIfInBounds_toArray, List.set_cons_zero, List.set_cons_succ])
        refine mv_done ?_
        go_wp2_with fail
        refine region_moves (fun u => u.cell? ⟨k, 2, none⟩ = some (.int .i64 tau)) [] [(.free, 0), (.free, 1), (.free, 3), (.free, 4), (.free, 5), (.free, 6), (.take, 7), (.step, 2), (.free, 8), (.free, 9)] _ (by kernel_rfl) (by kernel_rfl) (by kernel_rfl) (by kernel_rfl) (by decide) rfl (fun _ _ _ _ _ h => h) ?_
        simp only [List.filterMap_cons, List.filterMap_nil, List.getElem?_toArray, List.getElem?_cons_zero, List.getElem?_cons_succ, Option.map_some]
        iterate 6
          first
            | (refine mv_free ?_ (Or.inl ⟨by rfl, ?_⟩) (c2) ?_
               rotate_left 1
               · intro u
                 go_simp
                 try simp only [d1]
                 try simp only [d2]
                 try simp only [d3]
                 try with_reducible rfl
               simp only [Act.put, List.setIfInBounds_toArray, List.set_cons_zero, List.set_cons_succ])
            | (refine mv_free _ (Or.inr ⟨by rfl, rfl⟩) (c2) ?_
               simp only [Act.put, List.setIfInBounds_toArray, List.set_cons_zero, List.set_cons_succ])
        iterate 1
          first
            | (refine mv_take ?_ (Or.inl ⟨by rfl, ?_⟩) (c2) ?_
               rotate_left 1
               · intro u hu
                 (try dsimp only at hu)
                 go_simp
                 try with_reducible rfl
               simp only [Act.put, List.setIfInBounds_toArray, List.set_cons_zero, List.set_cons_succ])
            | (refine mv_take _ (Or.inr ⟨by rfl, rfl⟩) (c2) ?_
               simp only [Act.put, List.setIfInBounds_toArray, List.set_cons_zero, List.set_cons_succ])
        refine mv_step (fun K hK => ?_)
        go_simp
        refine (AP _).mono ?_
        rintro e w3 ⟨rfl, rfl⟩
        go_wp2_with fail
        refine hK.out _ _ _ (fun u hu => hu) (c2) ?_
        clear hK K
        iterate 2
          first
            | (refine mv_free ?_ (Or.inl ⟨by rfl, ?_⟩) (c2) ?_
               rotate_left 1
               · intro u
                 go_simp
                 try simp only [d1]
                 try simp only [d2]
                 try simp only [d3]
                 try with_reducible rfl
               simp only [Act.put, List.setIfInBounds_toArray, List.set_cons_zero, List.set_cons_succ])
            | (refine mv_free _ (Or.inr ⟨by rfl, rfl⟩) (c2) ?_
               simp only [Act.put, List.setIfInBounds_toArray, List.set_cons_zero, List.set_cons_succ])
        refine mv_done ?_
        go_wp2_with fail
        refine (ME _).mono ?_
        rintro e w4 ⟨rfl, rfl⟩
        go_wp2_with fail
        refine (LS1.out _ (HK.out _ hb2.drew)).mono ?_
        rintro e w5 ⟨rfl, hl, hb5⟩
        have hl := Lib.hid hl
        have hB := Lib.hid ((Beside.of_below (b := k) (W.out _ hb2.drew)).trans hb5)
        clear hb5
        go_wp2
        go_ret2
        exact ⟨rfl, hl.out, hB.out⟩
      · cases kn
        · clear BQ BP
          have E : chV p 0 q 0 tau y false = p ∧ chO p 0 q 0 tau y false = 1 := by unfold chV chO cloB vrd; simp [ht]
          rw [E.1, E.2, show stY (p) 1 sh y false = lgV sh (if false then y else clq (p)) (clq (p)) from if_neg (by decide), show stK 1 false = true from if_neg (by decide)]
          have LS1 := Lib.hid (fun u h => LS.out (p) u h)
          clear E LS
          generalize lgV sh (if false then y else clq (p)) (clq (p)) = R at *
          go_enter Try.func52, Try.ntmps52
          go_upto_region 1 with (fail)
          rw [← eV.out]
          obtain ⟨k0, k1, k2, k3⟩ := hcs.out _ (Below.refl _ _)
          obtain ⟨c0, f0⟩ := (HK.out _ (Below.refl _ _)).one 0 rfl
          obtain ⟨c1, f1⟩ := (HK.out _ (Below.refl _ _)).one 1 rfl
          obtain ⟨c2, f2⟩ := (HK.out _ (Below.refl _ _)).one 2 rfl
          obtain ⟨c3, f3⟩ := (HK.out _ (Below.refl _ _)).one 3 rfl
          obtain ⟨c4, f4⟩ := (HK.out _ (Below.refl _ _)).one 4 rfl
          obtain ⟨c5, f5⟩ := (HK.out _ (Below.refl _ _)).one 5 rfl
          obtain ⟨c6, f6⟩ := (HK.out _ (Below.refl _ _)).one 6 rfl
          obtain ⟨c7, f7⟩ := (HK.out _ (Below.refl _ _)).one 7 rfl
          refine region_moves (fun u => u.cell? ⟨k, 0, none⟩ = some (.slice ax X.length cx) ∧ u.cell? ⟨k, 1, none⟩ = some (.slice ay Y.length cy) ∧ u.cell? ⟨k, 2, none⟩ = some (.int .i64 tau) ∧ u.cell? ⟨k, 3, none⟩ = some (.int .i64 arm) ∧ u.cell? ⟨k, 4, none⟩ = some (.int .i64 sh) ∧ u.cell? ⟨w.heap.size, 0, none⟩ = some (.int .i64 x) ∧ u.cell? ⟨w.heap.size + 1, 0, none⟩ = some (.int .i64 x2)) [] [(.free, 0), (.free, 1), (.free, 2), (.take, 3), (.free, 4), (.take, 5), (.free, 6), (.free, 7), (.free, 9), (.free, 10), (.free, 11), (.take, 12), (.free, 13), (.take, 14), (.free, 15), (.free, 16), (.step, 8), (.step, 17), (.free, 18), (.free, 19)] _ (by kernel_rfl) (by kernel_rfl) (by kernel_rfl) (by kernel_rfl) (by decide) rfl (fun _ _ _ _ _ h => h) ?_
          simp only [List.filterMap_cons, List.filterMap_nil, List.getElem?_toArray, List.getElem?_cons_zero, List.getElem?_cons_succ, Option.map_some]
          iterate 3
            first
              | (refine mv_free ?_ (Or.inl ⟨by rfl, ?_⟩) (⟨c0, c1, c2, c3, c4, k0, k2⟩) ?_
                 rotate_left 1
                 · intro u
                   go_simp
                   try simp only [d1]
                   try simp only [d2]
                   try simp only [d3]
                   try with_reducible rfl
                 simp only [Act.put, List.setIfInBounds_toArray, List.set_cons_zero, List.set_cons_succ])
              | (refine mv_free _ (Or.inr ⟨by rfl, rfl⟩) (⟨c0, c1, c2, c3, c4, k0, k2⟩) ?_
                 simp only [Act.put, List.setIfInBounds_toArray, List.set_cons_zero, List.set_cons_succ])
          iterate 1
            first
              | (refine mv_take ?_ (Or.inl ⟨by rfl, ?_⟩) (⟨c0, c1, c2, c3, c4, k0, k2⟩) ?_
                 rotate_left 1
                 · intro u hu
                   (try dsimp only at hu)
                   go_simp
                   try with_reducible rfl
                 simp only [Act.put, List.setIfInBounds_toArray, List.set_cons_zero, List.set_cons_succ])
              | (refine mv_take _ (Or.inr ⟨by rfl, rfl⟩) (⟨c0, c1, c2, c3, c4, k0, k2⟩) ?_
                 simp only [Act.put, List.setIfInBounds_toArray, List.set_cons_zero, List.set_cons_succ])
          iterate 1
            first
              | (refine mv_free ?_ (Or.inl ⟨by rfl, ?_⟩) (⟨c0, c1, c2, c3, c4, k0, k2⟩) ?_
                 rotate_left 1
                 · intro u
                   go_simp
                   try simp only [d1]
                   try simp only [d2]
                   try simp only [d3]
                   try with_reducible rfl
                 simp only [Act.put, List.setIfInBounds_toArray, List.set_cons_zero, List.set_cons_succ])
              | (refine mv_free _ (Or.inr ⟨by rfl, rfl⟩) (⟨c0, c1, c2, c3, c4, k0, k2⟩) ?_
                 simp only [Act.put, List.setIfInBounds_toArray, List.set_cons_zero, List.set_cons_succ])
          iterate 1
            first
              | (refine mv_take ?_ (Or.inl ⟨by rfl, ?_⟩) (⟨c0, c1, c2, c3, c4, k0, k2⟩) ?_
                 rotate_left 1
                 · intro u hu
                   (try dsimp only at hu)
                   go_simp
                   try with_reducible rfl
                 simp only [Act.put, List.setIfInBounds_toArray, List.set_cons_zero, List.set_cons_succ])
              | (refine mv_take _ (Or.inr ⟨by rfl, rfl⟩) (⟨c0, c1, c2, c3, c4, k0, k2⟩) ?_
                 simp only [Act.put, List.setIfInBounds_toArray, List.set_cons_zero, List.set_cons_succ])
          iterate 5
            first
              | (refine mv_free ?_ (Or.inl ⟨by rfl, ?_⟩) (⟨c0, c1, c2, c3, c4, k0, k2⟩) ?_
                 rotate_left 1
                 · intro u
                   go_simp
                   try simp only [d1]
                   try simp only [d2]
                   try simp only [d3]
                   try with_reducible rfl
                 simp only [Act.put, List.setIfInBounds_toArray, List.set_cons_zero, List.set_cons_succ])
              | (refine mv_free _ (Or.inr ⟨by rfl, rfl⟩) (⟨c0, c1, c2, c3, c4, k0, k2⟩) ?_
                 simp only [Act.put, List.setIfInBounds_toArray, List.set_cons_zero, List.set_cons_succ])
          iterate 1
            first
              | (refine mv_take ?_ (Or.inl ⟨by rfl, ?_⟩) (⟨c0, c1, c2, c3, c4, k0, k2⟩) ?_
                 rotate_left 1
                 · intro u hu
                   (try dsimp only at hu)
                   go_simp
                   try with_reducible rfl
                 simp only [Act.put, List.setIfInBounds_toArray, List.set_cons_zero, List.set_cons_succ])
              | (refine mv_take _ (Or.inr ⟨by rfl, rfl⟩) (⟨c0, c1, c2, c3, c4, k0, k2⟩) ?_
                 simp only [Act.put, List.setIfInBounds_toArray, List.set_cons_zero, List.set_cons_succ])
          iterate 1
            first
              | (refine mv_free ?_ (Or.inl ⟨by rfl, ?_⟩) (⟨c0, c1, c2, c3, c4, k0, k2⟩) ?_
                 rotate_left 1
                 · intro u
                   go_simp
                   try simp only [d1]
                   try simp only [d2]
                   try simp only [d3]
                   try with_reducible rfl
                 simp only [Act.put, List.setIfInBounds_toArray, List.set_cons_zero, List.set_cons_succ])
              | (refine mv_free _ (Or.inr ⟨by rfl, rfl⟩) (⟨c0, c1, c2, c3, c4, k0, k2⟩) ?_
                 simp only [Act.put, List.setIfInBounds_toArray, List.set_cons_zero, List.set_cons_succ])
          iterate 1
            first
              | (refine mv_take ?_ (Or.inl ⟨by rfl, ?_⟩) (⟨c0, c1, c2, c3, c4, k0, k2⟩) ?_
                 rotate_left 1
                 · intro u hu
                   (try dsimp only at hu)
                   go_simp
                   try with_reducible rfl
                 simp only [Act.put, List.setIfInBounds_toArray, List.set_cons_zero, List.set_cons_succ])
              | (refine mv_take _ (Or.inr ⟨by rfl, rfl⟩) (⟨c0, c1, c2, c3, c4, k0, k2⟩) ?_
                 simp only [Act.put, List.setIfInBounds_toArray, List.set_cons_zero, List.set_cons_succ])
          iterate 2
            first
              | (refine mv_free ?_ (Or.inl ⟨by rfl, ?_⟩) (⟨c0, c1, c2, c3, c4, k0, k2⟩) ?_
                 rotate_left 1
                 · intro u
                   go_simp
                   try simp only [d1]
                   try simp only [d2]
                   try simp only [d3]
                   try with_reducible rfl
                 simp only [Act.put, List.setIfInBounds_toArray, List.set_cons_zero, List.set_cons_succ])
              | (refine mv_free _ (Or.inr ⟨by rfl, rfl⟩) (⟨c0, c1, c2, c3, c4, k0, k2⟩) ?_
                 simp only [Act.put, List.setIfInBounds_toArray, List.set_cons_zero, List.set_cons_succ])
          refine mv_step (fun K hK => ?_)
          go_simp
          refine (A1.out _ ((Below.refl (w.heap.size + 2) V).drew)).mono ?_
          rintro e w1 ⟨rfl, hb1⟩
          have hb1 := ((Below.refl (w.heap.size + 2) V).drew).trans (hb1.mono (by have := hz.out; show _ ≤ V.heap.size; omega))
          obtain ⟨k0, k1, k2, k3⟩ := hcs.out _ hb1
          clear c0 c1 c2 c3 c4 c5 c6 c7 f0 f1 f2 f3 f4 f5 f6 f7
          obtain ⟨c0, f0⟩ := (HK.out _ hb1).one 0 rfl
          obtain ⟨c1, f1⟩ := (HK.out _ hb1).one 1 rfl
          obtain ⟨c2, f2⟩ := (HK.out _ hb1).one 2 rfl
          obtain ⟨c3, f3⟩ := (HK.out _ hb1).one 3 rfl
          obtain ⟨c4, f4⟩ := (HK.out _ hb1).one 4 rfl
          obtain ⟨c5, f5⟩ := (HK.out _ hb1).one 5 rfl
          obtain ⟨c6, f6⟩ := (HK.out _ hb1).one 6 rfl
          obtain ⟨c7, f7⟩ := (HK.out _ hb1).one 7 rfl
          go_wp2_with fail
          refine hK.out _ _ _ (fun u hu => hu) (⟨c0, c1, c2, c3, c4, k0, k2⟩) ?_
          clear hK K
          refine mv_step (fun K hK => ?_)
          go_simp
          refine (A2.out _ (hb1)).mono ?_
          rintro e w2 ⟨rfl, hb2⟩
          have hb2 := (hb1).trans (hb2.mono (by have := hb1.size; have := hz.out; show _ ≤ w1.heap.size; omega))
          clear hb1
          obtain ⟨k0, k1, k2, k3⟩ := hcs.out _ hb2
          clear c0 c1 c2 c3 c4 c5 c6 c7 f0 f1 f2 f3 f4 f5 f6 f7
          obtain ⟨c0, f0⟩ := (HK.out _ hb2).one 0 rfl
          obtain ⟨c1, f1⟩ := (HK.out _ hb2).one 1 rfl
          obtain ⟨c2, f2⟩ := (HK.out _ hb2).one 2 rfl
          obtain ⟨c3, f3⟩ := (HK.out _ hb2).one 3 rfl
          obtain ⟨c4, f4⟩ := (HK.out _ hb2).one 4 rfl
          obtain ⟨c5, f5⟩ := (HK.out _ hb2).one 5 rfl
          obtain ⟨c6, f6⟩ := (HK.out _ hb2).one 6 rfl
          obtain ⟨c7, f7⟩ := (HK.out _ hb2).one 7 rfl
          go_wp2_with fail
          refine hK.out _ _ _ (fun u hu => hu) (⟨c0, c1, c2, c3, c4, k0, k2⟩) ?_
          clear hK K
          iterate 2
            first
              | (refine mv_free ?_ (Or.inl ⟨by rfl, ?_⟩) (⟨c0, c1, c2, c3, c4, k0, k2⟩) ?_
                 rotate_left 1
                 · intro u
                   go_simp
                   try simp only [d1]
                   try simp only [d2]
                   try simp only [d3]
                   try with_reducible rfl
                 simp only [Act.put, List.setIfInBounds_toArray, List.set_cons_zero, List.set_cons_succ])
              | (refine mv_free _ (Or.inr ⟨by rfl, rfl⟩) (⟨c0, c1, c2, c3, c4, k0, k2⟩) ?_
                 simp only [Act.put, List.setIfInBounds_toArray, List.set_cons_zero, List.set_cons_succ])
          refine mv_done ?_
          go_wp2_with fail
          refine region_moves (fun u => u.cell? ⟨k, 2, none⟩ = some (.int .i64 tau)) [] [(.free, 0), (.free, 1), (.free, 3), (.free, 4), (.free, 5), (.free, 6), (.take, 7), (.step, 2), (.free, 8), (.free, 9)] _ (by kernel_rfl) (by kernel_rfl) (by kernel_rfl) (by kernel_rfl) (by decide) rfl (fun _ _ _ _ _ h => h) ?_
          simp only [List.filterMap_cons, List.filterMap_nil, List.getElem?_toArray, List.getElem?_cons_zero, List.getElem?_cons_succ, Option.map_some]
          iterate 6
            first
              | (refine mv_free ?_ (Or.inl ⟨by rfl, ?_⟩) (c2) ?_
                 rotate_left 1
                 · intro u
                   go_simp
                   try simp only [d1]
                   try simp only [d2]
                   try simp only [d3]
                   try with_reducible rfl
                 simp only [Act.put, List.setIfInBounds_toArray, List.set_cons_zero, List.set_cons_succ])
              | (refine mv_free _ (Or.inr ⟨by rfl, rfl⟩) (c2) ?_
                 simp only [Act.put, List.setIfInBounds_toArray, List.set_cons_zero, List.set_cons_succ])
          iterate 1
            first
              | (refine mv_take ?_ (Or.inl ⟨by rfl, ?_⟩) (c2) ?_
                 rotate_left 1
                 · intro u hu
                   (try dsimp only at hu)
                   go_simp
                   try with_reducible rfl
                 simp only [Act.put, List.setIfInBounds_toArray, List.set_cons_zero, List.set_cons_succ])
              | (refine mv_take _ (Or.inr ⟨by rfl, rfl⟩) (c2) ?_
                 simp only [Act.put, List.setIfInBounds_toArray, List.set_cons_zero, List.set_cons_succ])
          refine mv_step (fun K hK => ?_)
          go_simp
          refine (AP _).mono ?_
          rintro e w3 ⟨rfl, rfl⟩
          go_wp2_with fail
          refine hK.out _ _ _ (fun u hu => hu) (c2) ?_
          clear hK K
          iterate 2
            first
              | (refine mv_free ?_ (Or.inl ⟨by rfl, ?_⟩) (c2) ?_
                 rotate_left 1
                 · intro u
                   go_simp
                   try simp only [d1]
                   try simp only [d2]
                   try simp only [d3]
                   try with_reducible rfl
                 simp only [Act.put, List.setIfInBounds_toArray, List.set_cons_zero, List.set_cons_succ])
              | (refine mv_free _ (Or.inr ⟨by rfl, rfl⟩) (c2) ?_
                 simp only [Act.put, List.setIfInBounds_toArray, List.set_cons_zero, List.set_cons_succ])
          refine mv_done ?_
          go_wp2_with fail
          refine region_moves (fun u => u.cell? ⟨k, 6, none⟩ = some (.int .i64 y) ∧ u.cell? ⟨k, 7, none⟩ = some (.bool false)) [] [(.free, 0), (.free, 1), (.free, 2), (.free, 3), (.take, 4), (.free, 5), (.free, 6), (.free, 7), (.free, 8), (.free, 9), (.free, 10), (.take, 11), (.free, 12), (.free, 14), (.free, 15), (.free, 16), (.free, 17), (.free, 18), (.take, 19), (.free, 20), (.step, 13), (.step, 21), (.free, 22), (.free, 23), (.free, 24)] _ (by kernel_rfl) (by kernel_rfl) (by kernel_rfl) (by kernel_rfl) (by decide) rfl (fun _ _ _ _ _ h => h) ?_
          simp only [List.filterMap_cons, List.filterMap_nil, List.getElem?_toArray, List.getElem?_cons_zero, List.getElem?_cons_succ, Option.map_some]
          iterate 4
            first
              | (refine mv_free ?_ (Or.inl ⟨by rfl, ?_⟩) (⟨c6, c7⟩) ?_
                 rotate_left 1
                 · intro u
                   go_simp
                   try simp only [d1]
                   try simp only [d2]
                   try simp only [d3]
                   try with_reducible rfl
                 simp only [Act.put, List.setIfInBounds_toArray, List.set_cons_zero, List.set_cons_succ])
              | (refine mv_free _ (Or.inr ⟨by rfl, rfl⟩) (⟨c6, c7⟩) ?_
                 simp only [Act.put, List.setIfInBounds_toArray, List.set_cons_zero, List.set_cons_succ])
          iterate 1
            first
              | (refine mv_take ?_ (Or.inl ⟨by rfl, ?_⟩) (⟨c6, c7⟩) ?_
                 rotate_left 1
                 · intro u hu
                   (try dsimp only at hu)
                   go_simp
                   try with_reducible rfl
                 simp only [Act.put, List.setIfInBounds_toArray, List.set_cons_zero, List.set_cons_succ])
              | (refine mv_take _ (Or.inr ⟨by rfl, rfl⟩) (⟨c6, c7⟩) ?_
                 simp only [Act.put, List.setIfInBounds_toArray, List.set_cons_zero, List.set_cons_succ])
          iterate 6
            first
              | (refine mv_free ?_ (Or.inl ⟨by rfl, ?_⟩) (⟨c6, c7⟩) ?_
                 rotate_left 1
                 · intro u
                   go_simp
                   try simp only [d1]
                   try simp only [d2]
                   try simp only [d3]
                   try with_reducible rfl
                 simp only [Act.put, List.setIfInBounds_toArray, List.set_cons_zero, List.set_cons_succ])
              | (refine mv_free _ (Or.inr ⟨by rfl, rfl⟩) (⟨c6, c7⟩) ?_
                 simp only [Act.put, List.setIfInBounds_toArray, List.set_cons_zero, List.set_cons_succ])
          iterate 1
            first
              | (refine mv_take ?_ (Or.inl ⟨by rfl, ?_⟩) (⟨c6, c7⟩) ?_
                 rotate_left 1
                 · intro u hu
                   (try dsimp only at hu)
                   go_simp
                   try with_reducible rfl
                 simp only [Act.put, List.setIfInBounds_toArray, List.set_cons_zero, List.set_cons_succ])
              | (refine mv_take _ (Or.inr ⟨by rfl, rfl⟩) (⟨c6, c7⟩) ?_
                 simp only [Act.put, List.setIfInBounds_toArray, List.set_cons_zero, List.set_cons_succ])
          iterate 6
            first
              | (refine mv_free ?_ (Or.inl ⟨by rfl, ?_⟩) (⟨c6, c7⟩) ?_
                 rotate_left 1
                 · intro u
                   go_simp
                   try simp only [d1]
                   try simp only [d2]
                   try simp only [d3]
                   try with_reducible rfl
                 simp only [Act.put, List.setIfInBounds_toArray, List.set_cons_zero, List.set_cons_succ])
              | (refine mv_free _ (Or.inr ⟨by rfl, rfl⟩) (⟨c6, c7⟩) ?_
                 simp only [Act.put, List.setIfInBounds_toArray, List.set_cons_zero, List.set_cons_succ])
          iterate 1
            first
              | (refine mv_take ?_ (Or.inl ⟨by rfl, ?_⟩) (⟨c6, c7⟩) ?_
                 rotate_left 1
                 · intro u hu
                   (try dsimp only at hu)
                   go_simp
                   try with_reducible rfl
                 simp only [Act.put, List.setIfInBounds_toArray, List.set_cons_zero, List.set_cons_succ])
              | (refine mv_take _ (Or.inr ⟨by rfl, rfl⟩) (⟨c6, c7⟩) ?_
                 simp only [Act.put, List.setIfInBounds_toArray, List.set_cons_zero, List.set_cons_succ])
          iterate 1
            first
              | (refine mv_free ?_ (Or.inl ⟨by rfl, ?_⟩) (⟨c6, c7⟩) ?_
                 rotate_left 1
                 · intro u
                   go_simp
                   try simp only [d1]
                   try simp only [d2]
                   try simp only [d3]
                   try with_reducible rfl
                 simp only [Act.put, List.setIfInBounds_toArray, List.set_cons_zero, List.set_cons_succ])
              | (refine mv_free _ (Or.inr ⟨by rfl, rfl⟩) (⟨c6, c7⟩) ?_
                 simp only [Act.put, List.setIfInBounds_toArray, List.set_cons_zero, List.set_cons_succ])
          refine mv_step (fun K hK => ?_)
          go_simp
          refine hK.out _ _ _ (fun u hu => hu) (⟨c6, c7⟩) ?_
          clear hK K
          refine mv_step (fun K hK => ?_)
          go_simp
          refine hK.out _ _ _ (fun u hu => hu) (⟨c6, c7⟩) ?_
          clear hK K
          iterate 3
            first
              | (refine mv_free ?_ (Or.inl ⟨by rfl, ?_⟩) (⟨c6, c7⟩) ?_
                 rotate_left 1
                 · intro u
                   go_simp
                   try simp only [d1]
                   try simp only [d2]
                   try simp only [d3]
                   try with_reducible rfl
                 simp only [Act.put, List.setIfInBounds_toArray, List.set_cons_zero, List.set_cons_succ])
              | (refine mv_free _ (Or.inr ⟨by rfl, rfl⟩) (⟨c6, c7⟩) ?_
                 simp only [Act.put, List.setIfInBounds_toArray, List.set_cons_zero, List.set_cons_succ])
          refine mv_done ?_
          go_wp2_with fail
          refine (LS1.out _ (HK.out _ hb2.drew.drew)).mono ?_
          rintro e w5 ⟨rfl, hl, hb5⟩
          have hl := Lib.hid hl
          have hB := Lib.hid ((Beside.of_below (b := k) (W.out _ hb2.drew.drew)).trans hb5)
          clear hb5
          go_wp2
          go_ret2
          exact ⟨rfl, hl.out, hB.out⟩
        · rcases (show apt q y < apt p y ∨ apt p y ≤ apt q y by omega) with hq | hq
          · have E : chV p 0 q 0 tau y true = q ∧ chO p 0 q 0 tau y true = 2 := by unfold chV chO cloB vrd; simp [ht, hq]
            rw [E.1, E.2, show stY (q) 2 sh y true = lgV sh (if true then y else clq (q)) (clq (q)) from if_neg (by decide), show stK 2 true = true from if_neg (by decide)]
            have LS1 := Lib.hid (fun u h => LS.out (q) u h)
            clear E LS
            generalize lgV sh (if true then y else clq (q)) (clq (q)) = R at *
            go_enter Try.func52, Try.ntmps52
            go_upto_region 1 with (fail)
            rw [← eV.out]
            obtain ⟨k0, k1, k2, k3⟩ := hcs.out _ (Below.refl _ _)
            obtain ⟨c0, f0⟩ := (HK.out _ (Below.refl _ _)).one 0 rfl
            obtain ⟨c1, f1⟩ := (HK.out _ (Below.refl _ _)).one 1 rfl
            obtain ⟨c2, f2⟩ := (HK.out _ (Below.refl _ _)).one 2 rfl
            obtain ⟨c3, f3⟩ := (HK.out _ (Below.refl _ _)).one 3 rfl
            obtain ⟨c4, f4⟩ := (HK.out _ (Below.refl _ _)).one 4 rfl
            obtain ⟨c5, f5⟩ := (HK.out _ (Below.refl _ _)).one 5 rfl
            obtain ⟨c6, f6⟩ := (HK.out _ (Below.refl _ _)).one 6 rfl
            obtain ⟨c7, f7⟩ := (HK.out _ (Below.refl _ _)).one 7 rfl
            refine region_moves (fun u => u.cell? ⟨k, 0, none⟩ = some (.slice ax X.length cx) ∧ u.cell? ⟨k, 1, none⟩ = some (.slice ay Y.length cy) ∧ u.cell? ⟨k, 2, none⟩ = some (.int .i64 tau) ∧ u.cell? ⟨k, 3, none⟩ = some (.int .i64 arm) ∧ u.cell? ⟨k, 4, none⟩ = some (.int .i64 sh) ∧ u.cell? ⟨w.heap.size, 0, none⟩ = some (.int .i64 x) ∧ u.cell? ⟨w.heap.size + 1, 0, none⟩ = some (.int .i64 x2)) [] [(.free, 0), (.free, 1), (.free, 2), (.take, 3), (.free, 4), (.take, 5), (.free, 6), (.free, 7), (.free, 9), (.free, 10), (.free, 11), (.take, 12), (.free, 13), (.take, 14), (.free, 15), (.free, 16), (.step, 8), (.step, 17), (.free, 18), (.free, 19)] _ (by kernel_rfl) (by kernel_rfl) (by kernel_rfl) (by kernel_rfl) (by decide) rfl (fun _ _ _ _ _ h => h) ?_
            simp only [List.filterMap_cons, List.filterMap_nil, List.getElem?_toArray, List.getElem?_cons_zero, List.getElem?_cons_succ, Option.map_some]
            iterate 3
              first
                | (refine mv_free ?_ (Or.inl ⟨by rfl, ?_⟩) (⟨c0, c1, c2, c3, c4, k0, k2⟩) ?_
                   rotate_left 1
                   · intro u
                     go_simp
                     try simp only [d1]
                     try simp only [d2]
                     try simp only [d3]
                     try with_reducible rfl
                   simp only [Act.put, List.setIfInBounds_toArray, List.set_cons_zero, List.set_cons_succ])
                | (refine mv_free _ (Or.inr ⟨by rfl, rfl⟩) (⟨c0, c1, c2, c3, c4, k0, k2⟩) ?_
                   simp only [Act.put, List.setIfInBounds_toArray, List.set_cons_zero, List.set_cons_succ])
            iterate 1
              first
                | (refine mv_take ?_ (Or.inl ⟨by rfl, ?_⟩) (⟨c0, c1, c2, c3, c4, k0, k2⟩) ?_
                   rotate_left 1
                   · intro u hu
                     (try dsimp only at hu)
                     go_simp
                     try with_reducible rfl
                   simp only [Act.put, List.setIfInBounds_toArray, List.set_cons_zero, List.set_cons_succ])
                | (refine mv_take _ (Or.inr ⟨by rfl, rfl⟩) (⟨c0, c1, c2, c3, c4, k0, k2⟩) ?_
                   simp only [Act.put, List.setIfInBounds_toArray, List.set_cons_zero, List.set_cons_succ])
            iterate 1
              first
                | (refine mv_free ?_ (Or.inl ⟨by rfl, ?_⟩) (⟨c0, c1, c2, c3, c4, k0, k2⟩) ?_
                   rotate_left 1
                   · intro u
                     go_simp
                     try simp only [d1]
                     try simp only [d2]
                     try simp only [d3]
                     try with_reducible rfl
                   simp only [Act.put, List.setIfInBounds_toArray, List.set_cons_zero, List.set_cons_succ])
                | (refine mv_free _ (Or.inr ⟨by rfl, rfl⟩) (⟨c0, c1, c2, c3, c4, k0, k2⟩) ?_
                   simp only [Act.put, List.setIfInBounds_toArray, List.set_cons_zero, List.set_cons_succ])
            iterate 1
              first
                | (refine mv_take ?_ (Or.inl ⟨by rfl, ?_⟩) (⟨c0, c1, c2, c3, c4, k0, k2⟩) ?_
                   rotate_left 1
                   · intro u hu
                     (try dsimp only at hu)
                     go_simp
                     try with_reducible rfl
                   simp only [Act.put, List.setIfInBounds_toArray, List.set_cons_zero, List.set_cons_succ])
                | (refine mv_take _ (Or.inr ⟨by rfl, rfl⟩) (⟨c0, c1, c2, c3, c4, k0, k2⟩) ?_
                   simp only [Act.put, List.setIfInBounds_toArray, List.set_cons_zero, List.set_cons_succ])
            iterate 5
              first
                | (refine mv_free ?_ (Or.inl ⟨by rfl, ?_⟩) (⟨c0, c1, c2, c3, c4, k0, k2⟩) ?_
                   rotate_left 1
                   · intro u
                     go_simp
                     try simp only [d1]
                     try simp only [d2]
                     try simp only [d3]
                     try with_reducible rfl
                   simp only [Act.put, List.setIfInBounds_toArray, List.set_cons_zero, List.set_cons_succ])
                | (refine mv_free _ (Or.inr ⟨by rfl, rfl⟩) (⟨c0, c1, c2, c3, c4, k0, k2⟩) ?_
                   simp only [Act.put, List.setIfInBounds_toArray, List.set_cons_zero, List.set_cons_succ])
            iterate 1
              first
                | (refine mv_take ?_ (Or.inl ⟨by rfl, ?_⟩) (⟨c0, c1, c2, c3, c4, k0, k2⟩) ?_
                   rotate_left 1
                   · intro u hu
                     (try dsimp only at hu)
                     go_simp
                     try with_reducible rfl
                   simp only [Act.put, List.setIfInBounds_toArray, List.set_cons_zero, List.set_cons_succ])
                | (refine mv_take _ (Or.inr ⟨by rfl, rfl⟩) (⟨c0, c1, c2, c3, c4, k0, k2⟩) ?_
                   simp only [Act.put, List.setIfInBounds_toArray, List.set_cons_zero, List.set_cons_succ])
            iterate 1
              first
                | (refine mv_free ?_ (Or.inl ⟨by rfl, ?_⟩) (⟨c0, c1, c2, c3, c4, k0, k2⟩) ?_
                   rotate_left 1
                   · intro u
                     go_simp
                     try simp only [d1]
                     try simp only [d2]
                     try simp only [d3]
                     try with_reducible rfl
                   simp only [Act.put, List.setIfInBounds_toArray, List.set_cons_zero, List.set_cons_succ])
                | (refine mv_free _ (Or.inr ⟨by rfl, rfl⟩) (⟨c0, c1, c2, c3, c4, k0, k2⟩) ?_
                   simp only [Act.put, List.setIfInBounds_toArray, List.set_cons_zero, List.set_cons_succ])
            iterate 1
              first
                | (refine mv_take ?_ (Or.inl ⟨by rfl, ?_⟩) (⟨c0, c1, c2, c3, c4, k0, k2⟩) ?_
                   rotate_left 1
                   · intro u hu
                     (try dsimp only at hu)
                     go_simp
                     try with_reducible rfl
                   simp only [Act.put, List.setIfInBounds_toArray, List.set_cons_zero, List.set_cons_succ])
                | (refine mv_take _ (Or.inr ⟨by rfl, rfl⟩) (⟨c0, c1, c2, c3, c4, k0, k2⟩) ?_
                   simp only [Act.put, List.setIfInBounds_toArray, List.set_cons_zero, List.set_cons_succ])
            iterate 2
              first
                | (refine mv_free ?_ (Or.inl ⟨by rfl, ?_⟩) (⟨c0, c1, c2, c3, c4, k0, k2⟩) ?_
                   rotate_left 1
                   · intro u
                     go_simp
                     try simp only [d1]
                     try simp only [d2]
                     try simp only [d3]
                     try with_reducible rfl
                   simp only [Act.put, List.setIfInBounds_toArray, List.set_cons_zero, List.set_cons_succ])
                | (refine mv_free _ (Or.inr ⟨by rfl, rfl⟩) (⟨c0, c1, c2, c3, c4, k0, k2⟩) ?_
                   simp only [Act.put, List.setIfInBounds_toArray, List.set_cons_zero, List.set_cons_succ])
            refine mv_step (fun K hK => ?_)
            go_simp
            refine (A1.out _ ((Below.refl (w.heap.size + 2) V).drew)).mono ?_
            rintro e w1 ⟨rfl, hb1⟩
            have hb1 := ((Below.refl (w.heap.size + 2) V).drew).trans (hb1.mono (by have := hz.out; show _ ≤ V.heap.size; omega))
            obtain ⟨k0, k1, k2, k3⟩ := hcs.out _ hb1
            clear c0 c1 c2 c3 c4 c5 c6 c7 f0 f1 f2 f3 f4 f5 f6 f7
            obtain ⟨c0, f0⟩ := (HK.out _ hb1).one 0 rfl
            obtain ⟨c1, f1⟩ := (HK.out _ hb1).one 1 rfl
            obtain ⟨c2, f2⟩ := (HK.out _ hb1).one 2 rfl
            obtain ⟨c3, f3⟩ := (HK.out _ hb1).one 3 rfl
            obtain ⟨c4, f4⟩ := (HK.out _ hb1).one 4 rfl
            obtain ⟨c5, f5⟩ := (HK.out _ hb1).one 5 rfl
            obtain ⟨c6, f6⟩ := (HK.out _ hb1).one 6 rfl
            obtain ⟨c7, f7⟩ := (HK.out _ hb1).one 7 rfl
            go_wp2_with fail
            refine hK.out _ _ _ (fun u hu => hu) (⟨c0, c1, c2, c3, c4, k0, k2⟩) ?_
            clear hK K
            refine mv_step (fun K hK => ?_)
            go_simp
            refine (A2.out _ (hb1)).mono ?_
            rintro e w2 ⟨rfl, hb2⟩
            have hb2 := (hb1).trans (hb2.mono (by have := hb1.size; have := hz.out; show _ ≤ w1.heap.size; omega))
            clear hb1
            obtain ⟨k0, k1, k2, k3⟩ := hcs.out _ hb2
            clear c0 c1 c2 c3 c4 c5 c6 c7 f0 f1 f2 f3 f4 f5 f6 f7
            obtain ⟨c0, f0⟩ := (HK.out _ hb2).one 0 rfl
            obtain ⟨c1, f1⟩ := (HK.out _ hb2).one 1 rfl
            obtain ⟨c2, f2⟩ := (HK.out _ hb2).one 2 rfl
            obtain ⟨c3, f3⟩ := (HK.out _ hb2).one 3 rfl
            obtain ⟨c4, f4⟩ := (HK.out _ hb2).one 4 rfl
            obtain ⟨c5, f5⟩ := (HK.out _ hb2).one 5 rfl
            obtain ⟨c6, f6⟩ := (HK.out _ hb2).one 6 rfl
            obtain ⟨c7, f7⟩ := (HK.out _ hb2).one 7 rfl
            go_wp2_with fail
            refine hK.out _ _ _ (fun u hu => hu) (⟨c0, c1, c2, c3, c4, k0, k2⟩) ?_
            clear hK K
            iterate 2
              first
                | (refine mv_free ?_ (Or.inl ⟨by rfl, ?_⟩) (⟨c0, c1, c2, c3, c4, k0, k2⟩) ?_
                   rotate_left 1
                   · intro u
                     go_simp
                     try simp only [d1]
                     try simp only [d2]
                     try simp only [d3]
                     try with_reducible rfl
                   simp only [Act.put, List.setIfInBounds_toArray, List.set_cons_zero, List.set_cons_succ])
                | (refine mv_free _ (Or.inr ⟨by rfl, rfl⟩) (⟨c0, c1, c2, c3, c4, k0, k2⟩) ?_
                   simp only [Act.put, List.setIfInBounds_toArray, List.set_cons_zero, List.set_cons_succ])
            refine mv_done ?_
            go_wp2_with fail
            refine region_moves (fun u => u.cell? ⟨k, 2, none⟩ = some (.int .i64 tau)) [] [(.free, 0), (.free, 1), (.free, 3), (.free, 4), (.free, 5), (.free, 6), (.take, 7), (.step, 2), (.free, 8), (.free, 9)] _ (by kernel_rfl) (by kernel_rfl) (by kernel_rfl) (by kernel_rfl) (by decide) rfl (fun _ _ _ _ _ h => h) ?_
            simp only [List.filterMap_cons, List.filterMap_nil, List.getElem?_toArray, List.getElem?_cons_zero, List.getElem?_cons_succ, Option.map_some]
            iterate 6
              first
                | (refine mv_free ?_ (Or.inl ⟨by rfl, ?_⟩) (c2) ?_
                   rotate_left 1
                   · intro u
                     go_simp
                     try simp only [d1]
                     try simp only [d2]
                     try simp only [d3]
                     try with_reducible rfl
                   simp only [Act.put, List.setIfInBounds_toArray, List.set_cons_zero, List.set_cons_succ])
                | (refine mv_free _ (Or.inr ⟨by rfl, rfl⟩) (c2) ?_
                   simp only [Act.put, List.setIfInBounds_toArray, List.set_cons_zero, List.set_cons_succ])
            iterate 1
              first
                | (refine mv_take ?_ (Or.inl ⟨by rfl, ?_⟩) (c2) ?_
                   rotate_left 1
                   · intro u hu
                     (try dsimp only at hu)
                     go_simp
                     try with_reducible rfl
                   simp only [Act.put, List.setIfInBounds_toArray, List.set_cons_zero, List.set_cons_succ])
                | (refine mv_take _ (Or.inr ⟨by rfl, rfl⟩) (c2) ?_
                   simp only [Act.put, List.setIfInBounds_toArray, List.set_cons_zero, List.set_cons_succ])
            refine mv_step (fun K hK => ?_)
            go_simp
            refine (AP _).mono ?_
            rintro e w3 ⟨rfl, rfl⟩
            go_wp2_with fail
            refine hK.out _ _ _ (fun u hu => hu) (c2) ?_
            clear hK K
            iterate 2
              first
                | (refine mv_free ?_ (Or.inl ⟨by rfl, ?_⟩) (c2) ?_
                   rotate_left 1
                   · intro u
                     go_simp
                     try simp only [d1]
                     try simp only [d2]
                     try simp only [d3]
                     try with_reducible rfl
                   simp only [Act.put, List.setIfInBounds_toArray, List.set_cons_zero, List.set_cons_succ])
                | (refine mv_free _ (Or.inr ⟨by rfl, rfl⟩) (c2) ?_
                   simp only [Act.put, List.setIfInBounds_toArray, List.set_cons_zero, List.set_cons_succ])
            refine mv_done ?_
            go_wp2_with fail
            refine region_moves (fun u => u.cell? ⟨k, 6, none⟩ = some (.int .i64 y) ∧ u.cell? ⟨k, 7, none⟩ = some (.bool true)) [] [(.free, 0), (.free, 1), (.free, 2), (.free, 3), (.take, 4), (.free, 5), (.free, 6), (.free, 7), (.free, 8), (.free, 9), (.free, 10), (.take, 11), (.free, 12), (.free, 14), (.free, 15), (.free, 16), (.free, 17), (.free, 18), (.take, 19), (.free, 20), (.step, 13), (.step, 21), (.free, 22), (.free, 23), (.free, 24)] _ (by kernel_rfl) (by kernel_rfl) (by kernel_rfl) (by kernel_rfl) (by decide) rfl (fun _ _ _ _ _ h => h) ?_
            simp only [List.filterMap_cons, List.filterMap_nil, List.getElem?_toArray, List.getElem?_cons_zero, List.getElem?_cons_succ, Option.map_some]
            iterate 4
              first
                | (refine mv_free ?_ (Or.inl ⟨by rfl, ?_⟩) (⟨c6, c7⟩) ?_
                   rotate_left 1
                   · intro u
                     go_simp
                     try simp only [d1]
                     try simp only [d2]
                     try simp only [d3]
                     try with_reducible rfl
                   simp only [Act.put, List.setIfInBounds_toArray, List.set_cons_zero, List.set_cons_succ])
                | (refine mv_free _ (Or.inr ⟨by rfl, rfl⟩) (⟨c6, c7⟩) ?_
                   simp only [Act.put, List.setIfInBounds_toArray, List.set_cons_zero, List.set_cons_succ])
            iterate 1
              first
                | (refine mv_take ?_ (Or.inl ⟨by rfl, ?_⟩) (⟨c6, c7⟩) ?_
                   rotate_left 1
                   · intro u hu
                     (try dsimp only at hu)
                     go_simp
                     try with_reducible rfl
                   simp only [Act.put, List.setIfInBounds_toArray, List.set_cons_zero, List.set_cons_succ])
                | (refine mv_take _ (Or.inr ⟨by rfl, rfl⟩) (⟨c6, c7⟩) ?_
                   simp only [Act.put, List.setIfInBounds_toArray, List.set_cons_zero, List.set_cons_succ])
            iterate 6
              first
                | (refine mv_free ?_ (Or.inl ⟨by rfl, ?_⟩) (⟨c6, c7⟩) ?_
                   rotate_left 1
                   · intro u
                     go_simp
                     try simp only [d1]
                     try simp only [d2]
                     try simp only [d3]
                     try with_reducible rfl
                   simp only [Act.put, List.setIfInBounds_toArray, List.set_cons_zero, List.set_cons_succ])
                | (refine mv_free _ (Or.inr ⟨by rfl, rfl⟩) (⟨c6, c7⟩) ?_
                   simp only [Act.put, List.setIfInBounds_toArray, List.set_cons_zero, List.set_cons_succ])
            iterate 1
              first
                | (refine mv_take ?_ (Or.inl ⟨by rfl, ?_⟩) (⟨c6, c7⟩) ?_
                   rotate_left 1
                   · intro u hu
                     (try dsimp only at hu)
                     go_simp
                     try with_reducible rfl
                   simp only [Act.put, List.setIfInBounds_toArray, List.set_cons_zero, List.set_cons_succ])
                | (refine mv_take _ (Or.inr ⟨by rfl, rfl⟩) (⟨c6, c7⟩) ?_
                   simp only [Act.put, List.setIfInBounds_toArray, List.set_cons_zero, List.set_cons_succ])
            iterate 6
              first
                | (refine mv_free ?_ (Or.inl ⟨by rfl, ?_⟩) (⟨c6, c7⟩) ?_
                   rotate_left 1
                   · intro u
                     go_simp
                     try simp only [d1]
                     try simp only [d2]
                     try simp only [d3]
                     try with_reducible rfl
                   simp only [Act.put, List.setIfInBounds_toArray, List.set_cons_zero, List.set_cons_succ])
                | (refine mv_free _ (Or.inr ⟨by rfl, rfl⟩) (⟨c6, c7⟩) ?_
                   simp only [Act.put, List.setIfInBounds_toArray, List.set_cons_zero, List.set_cons_succ])
            iterate 1
              first
                | (refine mv_take ?_ (Or.inl ⟨by rfl, ?_⟩) (⟨c6, c7⟩) ?_
                   rotate_left 1
                   · intro u hu
                     (try dsimp only at hu)
                     go_simp
                     try with_reducible rfl
                   simp only [Act.put, List.setIfInBounds_toArray, List.set_cons_zero, List.set_cons_succ])
                | (refine mv_take _ (Or.inr ⟨by rfl, rfl⟩) (⟨c6, c7⟩) ?_
                   simp only [Act.put, List.setIfInBounds_toArray, List.set_cons_zero, List.set_cons_succ])
            iterate 1
              first
                | (refine mv_free ?_ (Or.inl ⟨by rfl, ?_⟩) (⟨c6, c7⟩) ?_
                   rotate_left 1
                   · intro u
                     go_simp
                     try simp only [d1]
                     try simp only [d2]
                     try simp only [d3]
                     try with_reducible rfl
                   simp only [Act.put, List.setIfInBounds_toArray, List.set_cons_zero, List.set_cons_succ])
                | (refine mv_free _ (Or.inr ⟨by rfl, rfl⟩) (⟨c6, c7⟩) ?_
                   simp only [Act.put, List.setIfInBounds_toArray, List.set_cons_zero, List.set_cons_succ])
            refine mv_step (fun K hK => ?_)
            go_simp
            refine (BQ.out _).mono ?_
            rintro e w4 ⟨rfl, rfl⟩
            go_wp2_with fail
            refine hK.out _ _ _ (fun u hu => hu) (⟨c6, c7⟩) ?_
            clear hK K
            refine mv_step (fun K hK => ?_)
            go_simp
            refine (BP.out _).mono ?_
            rintro e w4 ⟨rfl, rfl⟩
            go_wp2_with fail
            refine hK.out _ _ _ (fun u hu => hu) (⟨c6, c7⟩) ?_
            clear hK K
            iterate 3
              first
                | (refine mv_free ?_ (Or.inl ⟨by rfl, ?_⟩) (⟨c6, c7⟩) ?_
                   rotate_left 1
                   · intro u
                     go_simp
                     try simp only [d1]
                     try simp only [d2]
                     try simp only [d3]
                     try with_reducible rfl
                   simp only [Act.put, List.setIfInBounds_toArray, List.set_cons_zero, List.set_cons_succ])
                | (refine mv_free _ (Or.inr ⟨by rfl, rfl⟩) (⟨c6, c7⟩) ?_
                   simp only [Act.put, List.setIfInBounds_toArray, List.set_cons_zero, List.set_cons_succ])
            refine mv_done ?_
            go_wp2_with fail
            refine (LS1.out _ (HK.out _ hb2.drew.drew)).mono ?_
            rintro e w5 ⟨rfl, hl, hb5⟩
            have hl := Lib.hid hl
            have hB := Lib.hid ((Beside.of_below (b := k) (W.out _ hb2.drew.drew)).trans hb5)
            clear hb5
            go_wp2
            go_ret2
            exact ⟨rfl, hl.out, hB.out⟩
          · have hn : ¬ apt q y < apt p y := by omega
            have E : chV p 0 q 0 tau y true = p ∧ chO p 0 q 0 tau y true = 1 := by unfold chV chO cloB vrd; simp [ht, hn]
            rw [E.1, E.2, show stY (p) 1 sh y true = lgV sh (if true then y else clq (p)) (clq (p)) from if_neg (by decide), show stK 1 true = true from if_neg (by decide)]
            have LS1 := Lib.hid (fun u h => LS.out (p) u h)
            clear E LS
            generalize lgV sh (if true then y else clq (p)) (clq (p)) = R at *
            go_enter Try.func52, Try.ntmps52
            go_upto_region 1 with (fail)
            rw [← eV.out]
            obtain ⟨k0, k1, k2, k3⟩ := hcs.out _ (Below.refl _ _)
            obtain ⟨c0, f0⟩ := (HK.out _ (Below.refl _ _)).one 0 rfl
            obtain ⟨c1, f1⟩ := (HK.out _ (Below.refl _ _)).one 1 rfl
            obtain ⟨c2, f2⟩ := (HK.out _ (Below.refl _ _)).one 2 rfl
            obtain ⟨c3, f3⟩ := (HK.out _ (Below.refl _ _)).one 3 rfl
            obtain ⟨c4, f4⟩ := (HK.out _ (Below.refl _ _)).one 4 rfl
            obtain ⟨c5, f5⟩ := (HK.out _ (Below.refl _ _)).one 5 rfl
            obtain ⟨c6, f6⟩ := (HK.out _ (Below.refl _ _)).one 6 rfl
            obtain ⟨c7, f7⟩ := (HK.out _ (Below.refl _ _)).one 7 rfl
            refine region_moves (fun u => u.cell? ⟨k, 0, none⟩ = some (.slice ax X.length cx) ∧ u.cell? ⟨k, 1, none⟩ = some (.slice ay Y.length cy) ∧ u.cell? ⟨k, 2, none⟩ = some (.int .i64 tau) ∧ u.cell? ⟨k, 3, none⟩ = some (.int .i64 arm) ∧ u.cell? ⟨k, 4, none⟩ = some (.int .i64 sh) ∧ u.cell? ⟨w.heap.size, 0, none⟩ = some (.int .i64 x) ∧ u.cell? ⟨w.heap.size + 1, 0, none⟩ = some (.int .i64 x2)) [] [(.free, 0), (.free, 1), (.free, 2), (.take, 3), (.free, 4), (.take, 5), (.free, 6), (.free, 7), (.free, 9), (.free, 10), (.free, 11), (.take, 12), (.free, 13), (.take, 14), (.free, 15), (.free, 16), (.step, 8), (.step, 17), (.free, 18), (.free, 19)] _ (by kernel_rfl) (by kernel_rfl) (by kernel_rfl) (by kernel_rfl) (by decide) rfl (fun _ _ _ _ _ h => h) ?_
            simp only [List.filterMap_cons, List.filterMap_nil, List.getElem?_toArray, List.getElem?_cons_zero, List.getElem?_cons_succ, Option.map_some]
            iterate 3
              first
                | (refine mv_free ?_ (Or.inl ⟨by rfl, ?_⟩) (⟨c0, c1, c2, c3, c4, k0, k2⟩) ?_
                   rotate_left 1
                   · intro u
                     go_simp
                     try simp only [d1]
                     try simp only [d2]
                     try simp only [d3]
                     try with_reducible rfl
                   simp only [Act.put, List.setIfInBounds_toArray, List.set_cons_zero, List.set_cons_succ])
                | (refine mv_free _ (Or.inr ⟨by rfl, rfl⟩) (⟨c0, c1, c2, c3, c4, k0, k2⟩) ?_
                   simp only [Act.put, List.setIfInBounds_toArray, List.set_cons_zero, List.set_cons_succ])
            iterate 1
              first
                | (refine mv_take ?_ (Or.inl ⟨by rfl, ?_⟩) (⟨c0, c1, c2, c3, c4, k0, k2⟩) ?_
                   rotate_left 1
                   · intro u hu
                     (try dsimp only at hu)
                     go_simp
                     try with_reducible rfl
                   simp only [Act.put, List.setIfInBounds_toArray, List.set_cons_zero, List.set_cons_succ])
                | (refine mv_take _ (Or.inr ⟨by rfl, rfl⟩) (⟨c0, c1, c2, c3, c4, k0, k2⟩) ?_
                   simp only [Act.put, List.setIfInBounds_toArray, List.set_cons_zero, List.set_cons_succ])
            iterate 1
              first
                | (refine mv_free ?_ (Or.inl ⟨by rfl, ?_⟩) (⟨c0, c1, c2, c3, c4, k0, k2⟩) ?_
                   rotate_left 1
                   · intro u
                     go_simp
                     try simp only [d1]
                     try simp only [d2]
                     try simp only [d3]
                     try with_reducible rfl
                   simp only [Act.put, List.setIfInBounds_toArray, List.set_cons_zero, List.set_cons_succ])
                | (refine mv_free _ (Or.inr ⟨by rfl, rfl⟩) (⟨c0, c1, c2, c3, c4, k0, k2⟩) ?_
                   simp only [Act.put, List.setIfInBounds_toArray, List.set_cons_zero, List.set_cons_succ])
            iterate 1
              first
                | (refine mv_take ?_ (Or.inl ⟨by rfl, ?_⟩) (⟨c0, c1, c2, c3, c4, k0, k2⟩) ?_
                   rotate_left 1
                   · intro u hu
                     (try dsimp only at hu)
                     go_simp
                     try with_reducible rfl
                   simp only [Act.put, List.setIfInBounds_toArray, List.set_cons_zero, List.set_cons_succ])
                | (refine mv_take _ (Or.inr ⟨by rfl, rfl⟩) (⟨c0, c1, c2, c3, c4, k0, k2⟩) ?_
                   simp only [Act.put, List.setIfInBounds_toArray, List.set_cons_zero, List.set_cons_succ])
            iterate 5
              first
                | (refine mv_free ?_ (Or.inl ⟨by rfl, ?_⟩) (⟨c0, c1, c2, c3, c4, k0, k2⟩) ?_
                   rotate_left 1
                   · intro u
                     go_simp
                     try simp only [d1]
                     try simp only [d2]
                     try simp only [d3]
                     try with_reducible rfl
                   simp only [Act.put, List.setIfInBounds_toArray, List.set_cons_zero, List.set_cons_succ])
                | (refine mv_free _ (Or.inr ⟨by rfl, rfl⟩) (⟨c0, c1, c2, c3, c4, k0, k2⟩) ?_
                   simp only [Act.put, List.setIfInBounds_toArray, List.set_cons_zero, List.set_cons_succ])
            iterate 1
              first
                | (refine mv_take ?_ (Or.inl ⟨by rfl, ?_⟩) (⟨c0, c1, c2, c3, c4, k0, k2⟩) ?_
                   rotate_left 1
                   · intro u hu
                     (try dsimp only at hu)
                     go_simp
                     try with_reducible rfl
                   simp only [Act.put, List.setIfInBounds_toArray, List.set_cons_zero, List.set_cons_succ])
                | (refine mv_take _ (Or.inr ⟨by rfl, rfl⟩) (⟨c0, c1, c2, c3, c4, k0, k2⟩) ?_
                   simp only [Act.put, List.setIfInBounds_toArray, List.set_cons_zero, List.set_cons_succ])
            iterate 1
              first
                | (refine mv_free ?_ (Or.inl ⟨by rfl, ?_⟩) (⟨c0, c1, c2, c3, c4, k0, k2⟩) ?_
                   rotate_left 1
                   · intro u
                     go_simp
                     try simp only [d1]
                     try simp only [d2]
                     try simp only [d3]
                     try with_reducible rfl
                   simp only [Act.put, List.setIfInBounds_toArray, List.set_cons_zero, List.set_cons_succ])
                | (refine mv_free _ (Or.inr ⟨by rfl, rfl⟩) (⟨c0, c1, c2, c3, c4, k0, k2⟩) ?_
                   simp only [Act.put, List.setIfInBounds_toArray, List.set_cons_zero, List.set_cons_succ])
            iterate 1
              first
                | (refine mv_take ?_ (Or.inl ⟨by rfl, ?_⟩) (⟨c0, c1, c2, c3, c4, k0, k2⟩) ?_
                   rotate_left 1
                   · intro u hu
                     (try dsimp only at hu)
                     go_simp
                     try with_reducible rfl
                   simp only [Act.put, List.setIfInBounds_toArray, List.set_cons_zero, List.set_cons_succ])
                | (refine mv_take _ (Or.inr ⟨by rfl, rfl⟩) (⟨c0, c1, c2, c3, c4, k0, k2⟩) ?_
                   simp only [Act.put, List.setIfInBounds_toArray, List.set_cons_zero, List.set_cons_succ])
            iterate 2
              first
                | (refine mv_free ?_ (Or.inl ⟨by rfl, ?_⟩) (⟨c0, c1, c2, c3, c4, k0, k2⟩) ?_
                   rotate_left 1
                   · intro u
                     go_simp
                     try simp only [d1]
                     try simp only [d2]
                     try simp only [d3]
                     try with_reducible rfl
                   simp only [Act.put, List.setIfInBounds_toArray, List.set_cons_zero, List.set_cons_succ])
                | (refine mv_free _ (Or.inr ⟨by rfl, rfl⟩) (⟨c0, c1, c2, c3, c4, k0, k2⟩) ?_
                   simp only [Act.put, List.setIfInBounds_toArray, List.set_cons_zero, List.set_cons_succ])
            refine mv_step (fun K hK => ?_)
            go_simp
            refine (A1.out _ ((Below.refl (w.heap.size + 2) V).drew)).mono ?_
            rintro e w1 ⟨rfl, hb1⟩
            have hb1 := ((Below.refl (w.heap.size + 2) V).drew).trans (hb1.mono (by have := hz.out; show _ ≤ V.heap.size; omega))
            obtain ⟨k0, k1, k2, k3⟩ := hcs.out _ hb1
            clear c0 c1 c2 c3 c4 c5 c6 c7 f0 f1 f2 f3 f4 f5 f6 f7
            obtain ⟨c0, f0⟩ := (HK.out _ hb1).one 0 rfl
            obtain ⟨c1, f1⟩ := (HK.out _ hb1).one 1 rfl
            obtain ⟨c2, f2⟩ := (HK.out _ hb1).one 2 rfl
            obtain ⟨c3, f3⟩ := (HK.out _ hb1).one 3 rfl
            obtain ⟨c4, f4⟩ := (HK.out _ hb1).one 4 rfl
            obtain ⟨c5, f5⟩ := (HK.out _ hb1).one 5 rfl
            obtain ⟨c6, f6⟩ := (HK.out _ hb1).one 6 rfl
            obtain ⟨c7, f7⟩ := (HK.out _ hb1).one 7 rfl
            go_wp2_with fail
            refine hK.out _ _ _ (fun u hu => hu) (⟨c0, c1, c2, c3, c4, k0, k2⟩) ?_
            clear hK K
            refine mv_step (fun K hK => ?_)
            go_simp
            refine (A2.out _ (hb1)).mono ?_
            rintro e w2 ⟨rfl, hb2⟩
            have hb2 := (hb1).trans (hb2.mono (by have := hb1.size; have := hz.out; show _ ≤ w1.heap.size; omega))
            clear hb1
            obtain ⟨k0, k1, k2, k3⟩ := hcs.out _ hb2
            clear c0 c1 c2 c3 c4 c5 c6 c7 f0 f1 f2 f3 f4 f5 f6 f7
            obtain ⟨c0, f0⟩ := (HK.out _ hb2).one 0 rfl
            obtain ⟨c1, f1⟩ := (HK.out _ hb2).one 1 rfl
            obtain ⟨c2, f2⟩ := (HK.out _ hb2).one 2 rfl
            obtain ⟨c3, f3⟩ := (HK.out _ hb2).one 3 rfl
            obtain ⟨c4, f4⟩ := (HK.out _ hb2).one 4 rfl
            obtain ⟨c5, f5⟩ := (HK.out _ hb2).one 5 rfl
            obtain ⟨c6, f6⟩ := (HK.out _ hb2).one 6 rfl
            obtain ⟨c7, f7⟩ := (HK.out _ hb2).one 7 rfl
            go_wp2_with fail
            refine hK.out _ _ _ (fun u hu => hu) (⟨c0, c1, c2, c3, c4, k0, k2⟩) ?_
            clear hK K
            iterate 2
              first
                | (refine mv_free ?_ (Or.inl ⟨by rfl, ?_⟩) (⟨c0, c1, c2, c3, c4, k0, k2⟩) ?_
                   rotate_left 1
                   · intro u
                     go_simp
                     try simp only [d1]
                     try simp only [d2]
                     try simp only [d3]
                     try with_reducible rfl
                   simp only [Act.put, List.setIfInBounds_toArray, List.set_cons_zero, List.set_cons_succ])
                | (refine mv_free _ (Or.inr ⟨by rfl, rfl⟩) (⟨c0, c1, c2, c3, c4, k0, k2⟩) ?_
                   simp only [Act.put, List.setIfInBounds_toArray, List.set_cons_zero, List.set_cons_succ])
            refine mv_done ?_
            go_wp2_with fail
            refine region_moves (fun u => u.cell? ⟨k, 2, none⟩ = some (.int .i64 tau)) [] [(.free, 0), (.free, 1), (.free, 3), (.free, 4), (.free, 5), (.free, 6), (.take, 7), (.step, 2), (.free, 8), (.free, 9)] _ (by kernel_rfl) (by kernel_rfl) (by kernel_rfl) (by kernel_rfl) (by decide) rfl (fun _ _ _ _ _ h => h) ?_
            simp only [List.filterMap_cons, List.filterMap_nil, List.getElem?_toArray, List.getElem?_cons_zero, List.getElem?_cons_succ, Option.map_some]
            iterate 6
              first
                | (refine mv_free ?_ (Or.inl ⟨by rfl, ?_⟩) (c2) ?_
                   rotate_left 1
                   · intro u
                     go_simp
                     try simp only [d1]
                     try simp only [d2]
                     try simp only [d3]
                     try with_reducible rfl
                   simp only [Act.put, List.setIfInBounds_toArray, List.set_cons_zero, List.set_cons_succ])
                | (refine mv_free _ (Or.inr ⟨by rfl, rfl⟩) (c2) ?_
                   simp only [Act.put, List.setIfInBounds_toArray, List.set_cons_zero, List.set_cons_succ])
            iterate 1
              first
                | (refine mv_take ?_ (Or.inl ⟨by rfl, ?_⟩) (c2) ?_
                   rotate_left 1
                   · intro u hu
                     (try dsimp only at hu)
                     go_simp
                     try with_reducible rfl
                   simp only [Act.put, List.setIfInBounds_toArray, List.set_cons_zero, List.set_cons_succ])
                | (refine mv_take _ (Or.inr ⟨by rfl, rfl⟩) (c2) ?_
                   simp only [Act.put, List.setIfInBounds_toArray, List.set_cons_zero, List.set_cons_succ])
            refine mv_step (fun K hK => ?_)
            go_simp
            refine (AP _).mono ?_
            rintro e w3 ⟨rfl, rfl⟩
            go_wp2_with fail
            refine hK.out _ _ _ (fun u hu => hu) (c2) ?_
            clear hK K
            iterate 2
              first
                | (refine mv_free ?_ (Or.inl ⟨by rfl, ?_⟩) (c2) ?_
                   rotate_left 1
                   · intro u
                     go_simp
                     try simp only [d1]
                     try simp only [d2]
                     try simp only [d3]
                     try with_reducible rfl
                   simp only [Act.put, List.setIfInBounds_toArray, List.set_cons_zero, List.set_cons_succ])
                | (refine mv_free _ (Or.inr ⟨by rfl, rfl⟩) (c2) ?_
                   simp only [Act.put, List.setIfInBounds_toArray, List.set_cons_zero, List.set_cons_succ])
            refine mv_done ?_
            go_wp2_with fail
            refine region_moves (fun u => u.cell? ⟨k, 6, none⟩ = some (.int .i64 y) ∧ u.cell? ⟨k, 7, none⟩ = some (.bool true)) [] [(.free, 0), (.free, 1), (.free, 2), (.free, 3), (.take, 4), (.free, 5), (.free, 6), (.free, 7), (.free, 8), (.free, 9), (.free, 10), (.take, 11), (.free, 12), (.free, 14), (.free, 15), (.free, 16), (.free, 17), (.free, 18), (.take, 19), (.free, 20), (.step, 13), (.step, 21), (.free, 22), (.free, 23), (.free, 24)] _ (by kernel_rfl) (by kernel_rfl) (by kernel_rfl) (by kernel_rfl) (by decide) rfl (fun _ _ _ _ _ h => h) ?_
            simp only [List.filterMap_cons, List.filterMap_nil, List.getElem?_toArray, List.getElem?_cons_zero, List.getElem?_cons_succ, Option.map_some]
            iterate 4
              first
                | (refine mv_free ?_ (Or.inl ⟨by rfl, ?_⟩) (⟨c6, c7⟩) ?_
                   rotate_left 1
                   · intro u
                     go_simp
                     try simp only [d1]
                     try simp only [d2]
                     try simp only [d3]
                     try with_reducible rfl
                   simp only [Act.put, List.setIfInBounds_toArray, List.set_cons_zero, List.set_cons_succ])
                | (refine mv_free _ (Or.inr ⟨by rfl, rfl⟩) (⟨c6, c7⟩) ?_
                   simp only [Act.put, List.setIfInBounds_toArray, List.set_cons_zero, List.set_cons_succ])
            iterate 1
              first
                | (refine mv_take ?_ (Or.inl ⟨by rfl, ?_⟩) (⟨c6, c7⟩) ?_
                   rotate_left 1
                   · intro u hu
                     (try dsimp only at hu)
                     go_simp
                     try with_reducible rfl
                   simp only [Act.put, List.setIfInBounds_toArray, List.set_cons_zero, List.set_cons_succ])
                | (refine mv_take _ (Or.inr ⟨by rfl, rfl⟩) (⟨c6, c7⟩) ?_
                   simp only [Act.put, List.setIfInBounds_toArray, List.set_cons_zero, List.set_cons_succ])
            iterate 6
              first
                | (refine mv_free ?_ (Or.inl ⟨by rfl, ?_⟩) (⟨c6, c7⟩) ?_
                   rotate_left 1
                   · intro u
                     go_simp
                     try simp only [d1]
                     try simp only [d2]
                     try simp only [d3]
                     try with_reducible rfl
                   simp only [Act.put, List.setIfInBounds_toArray, List.set_cons_zero, List.set_cons_succ])
                | (refine mv_free _ (Or.inr ⟨by rfl, rfl⟩) (⟨c6, c7⟩) ?_
                   simp only [Act.put, List.setIfInBounds_toArray, List.set_cons_zero, List.set_cons_succ])
            iterate 1
              first
                | (refine mv_take ?_ (Or.inl ⟨by rfl, ?_⟩) (⟨c6, c7⟩) ?_
                   rotate_left 1
                   · intro u hu
                     (try dsimp only at hu)
                     go_simp
                     try with_reducible rfl
                   simp only [Act.put, List.setIfInBounds_toArray, List.set_cons_zero, List.set_cons_succ])
                | (refine mv_take _ (Or.inr ⟨by rfl, rfl⟩) (⟨c6, c7⟩) ?_
                   simp only [Act.put, List.setIfInBounds_toArray, List.set_cons_zero, List.set_cons_succ])
            iterate 6
              first
                | (refine mv_free ?_ (Or.inl ⟨by rfl, ?_⟩) (⟨c6, c7⟩) ?_
                   rotate_left 1
                   · intro u
                     go_simp
                     try simp only [d1]
                     try simp only [d2]
                     try simp only [d3]
                     try with_reducible rfl
                   simp only [Act.put, List.setIfInBounds_toArray, List.set_cons_zero, List.set_cons_succ])
                | (refine mv_free _ (Or.inr ⟨by rfl, rfl⟩) (⟨c6, c7⟩) ?_
                   simp only [Act.put, List.setIfInBounds_toArray, List.set_cons_zero, List.set_cons_succ])
            iterate 1
              first
                | (refine mv_take ?_ (Or.inl ⟨by rfl, ?_⟩) (⟨c6, c7⟩) ?_
                   rotate_left 1
                   · intro u hu
                     (try dsimp only at hu)
                     go_simp
                     try with_reducible rfl
                   simp only [Act.put, List.setIfInBounds_toArray, List.set_cons_zero, List.set_cons_succ])
                | (refine mv_take _ (Or.inr ⟨by rfl, rfl⟩) (⟨c6, c7⟩) ?_
                   simp only [Act.put, List.setIfInBounds_toArray, List.set_cons_zero, List.set_cons_succ])
            iterate 1
              first
                | (refine mv_free ?_ (Or.inl ⟨by rfl, ?_⟩) (⟨c6, c7⟩) ?_
                   rotate_left 1
                   · intro u
                     go_simp
                     try simp only [d1]
                     try simp only [d2]
                     try simp only [d3]
                     try with_reducible rfl
                   simp only [Act.put, List.setIfInBounds_toArray, List.set_cons_zero, List.set_cons_succ])
                | (refine mv_free _ (Or.inr ⟨by rfl, rfl⟩) (⟨c6, c7⟩) ?_
                   simp only [Act.put, List.setIfInBounds_toArray, List.set_cons_zero, List.set_cons_succ])
            refine mv_step (fun K hK => ?_)
            go_simp
            refine (BQ.out _).mono ?_
            rintro e w4 ⟨rfl, rfl⟩
            go_wp2_with fail
            refine hK.out _ _ _ (fun u hu => hu) (⟨c6, c7⟩) ?_
            clear hK K
            refine mv_step (fun K hK => ?_)
            go_simp
            refine (BP.out _).mono ?_
            rintro e w4 ⟨rfl, rfl⟩
            go_wp2_with fail
            refine hK.out _ _ _ (fun u hu => hu) (⟨c6, c7⟩) ?_
            clear hK K
            iterate 3
              first
                | (refine mv_free ?_ (Or.inl ⟨by rfl, ?_⟩) (⟨c6, c7⟩) ?_
                   rotate_left 1
                   · intro u
                     go_simp
                     try simp only [d1]
                     try simp only [d2]
                     try simp only [d3]
                     try with_reducible rfl
                   simp only [Act.put, List.setIfInBounds_toArray, List.set_cons_zero, List.set_cons_succ])
                | (refine mv_free _ (Or.inr ⟨by rfl, rfl⟩) (⟨c6, c7⟩) ?_
                   simp only [Act.put, List.setIfInBounds_toArray, List.set_cons_zero, List.set_cons_succ])
            refine mv_done ?_
            go_wp2_with fail
            refine (LS1.out _ (HK.out _ hb2.drew.drew)).mono ?_
            rintro e w5 ⟨rfl, hl, hb5⟩
            have hl := Lib.hid hl
            have hB := Lib.hid ((Beside.of_below (b := k) (W.out _ hb2.drew.drew)).trans hb5)
            clear hb5
            go_wp2
            go_ret2
            exact ⟨rfl, hl.out, hB.out⟩
    · subst he1
      have ze2 : (e2 != 0) = true := by simp [he2]
      clear AP ME BQ BP
      have E : chV p 0 q e2 tau y kn = p ∧ chO p 0 q e2 tau y kn = 1 := by unfold chV chO cloB vrd; simp [he2]
      rw [E.1, E.2, show stY (p) 1 sh y kn = lgV sh (if kn then y else clq (p)) (clq (p)) from if_neg (by decide), show stK 1 kn = true from if_neg (by decide)]
      have LS1 := Lib.hid (fun u h => LS.out (p) u h)
      clear E LS
      generalize lgV sh (if kn then y else clq (p)) (clq (p)) = R at *
      go_enter Try.func52, Try.ntmps52
      go_upto_region 1 with (fail)
      rw [← eV.out]
      obtain ⟨k0, k1, k2, k3⟩ := hcs.out _ (Below.refl _ _)
      obtain ⟨c0, f0⟩ := (HK.out _ (Below.refl _ _)).one 0 rfl
      obtain ⟨c1, f1⟩ := (HK.out _ (Below.refl _ _)).one 1 rfl
      obtain ⟨c2, f2⟩ := (HK.out _ (Below.refl _ _)).one 2 rfl
      obtain ⟨c3, f3⟩ := (HK.out _ (Below.refl _ _)).one 3 rfl
      obtain ⟨c4, f4⟩ := (HK.out _ (Below.refl _ _)).one 4 rfl
      obtain ⟨c5, f5⟩ := (HK.out _ (Below.refl _ _)).one 5 rfl
      obtain ⟨c6, f6⟩ := (HK.out _ (Below.refl _ _)).one 6 rfl
      obtain ⟨c7, f7⟩ := (HK.out _ (Below.refl _ _)).one 7 rfl
      refine region_moves (fun u => u.cell? ⟨k, 0, none⟩ = some (.slice ax X.length cx) ∧ u.cell? ⟨k, 1, none⟩ = some (.slice ay Y.length cy) ∧ u.cell? ⟨k, 2, none⟩ = some (.int .i64 tau) ∧ u.cell? ⟨k, 3, none⟩ = some (.int .i64 arm) ∧ u.cell? ⟨k, 4, none⟩ = some (.int .i64 sh) ∧ u.cell? ⟨w.heap.size, 0, none⟩ = some (.int .i64 x) ∧ u.cell? ⟨w.heap.size + 1, 0, none⟩ = some (.int .i64 x2)) [] [(.free, 0), (.free, 1), (.free, 2), (.take, 3), (.free, 4), (.take, 5), (.free, 6), (.free, 7), (.free, 9), (.free, 10), (.free, 11), (.take, 12), (.free, 13), (.take, 14), (.free, 15), (.free, 16), (.step, 8), (.step, 17), (.free, 18), (.free, 19)] _ (by kernel_rfl) (by kernel_rfl) (by kernel_rfl) (by kernel_rfl) (by decide) rfl (fun _ _ _ _ _ h => h) ?_
      simp only [List.filterMap_cons, List.filterMap_nil, List.getElem?_toArray, List.getElem?_cons_zero, List.getElem?_cons_succ, Option.map_some]
      iterate 3
        first
          | (refine mv_free ?_ (Or.inl ⟨by rfl, ?_⟩) (⟨c0, c1, c2, c3, c4, k0, k2⟩) ?_
             rotate_left 1
             · intro u
               go_simp
               try simp only [d1]
               try simp only [d2]
               try simp only [d3]
               try with_reducible rfl
             simp only [Act.put, List.setIfInBounds_toArray, List.set_cons_zero, List.set_cons_succ])
          | (refine mv_free _ (Or.inr ⟨by rfl, rfl⟩) (⟨c0, c1, c2, c3, c4, k0, k2⟩) ?_
             simp only [Act.put, List.setIfInBounds_toArray, List.set_cons_zero, List.set_cons_succ])
      iterate 1
        first
          | (refine mv_take ?_ (Or.inl ⟨by rfl, ?_⟩) (⟨c0, c1, c2, c3, c4, k0, k2⟩) ?_
             rotate_left 1
             · intro u hu
               (try dsimp only at hu)
               go_simp
               try with_reducible rfl
             simp only [Act.put, List.setIfInBounds_toArray, List.set_cons_zero, List.set_cons_succ])
          | (refine mv_take _ (Or.inr ⟨by rfl, rfl⟩) (⟨c0, c1, c2, c3, c4, k0, k2⟩) ?_
             simp only [Act.put, List.setIfInBounds_toArray, List.set_cons_zero, List.set_cons_succ])
      iterate 1
        first
          | (refine mv_free ?_ (Or.inl ⟨by rfl, ?_⟩) (⟨c0, c1, c2, c3, c4, k0, k2⟩) ?_
             rotate_left 1
             · intro u
               go_simp
               try simp only [d1]
               try simp only [d2]
               try simp only [d3]
               try with_reducible rfl
             simp only [Act.put, List.setIfInBounds_toArray, List.set_cons_zero, List.set_cons_succ])
          | (refine mv_free _ (Or.inr ⟨by rfl, rfl⟩) (⟨c0, c1, c2, c3, c4, k0, k2⟩) ?_
             simp only [Act.put, List.setIfInBounds_toArray, List.set_cons_zero, List.set_cons_succ])
      iterate 1
        first
          | (refine mv_take ?_ (Or.inl ⟨by rfl, ?_⟩) (⟨c0, c1, c2, c3, c4, k0, k2⟩) ?_
             rotate_left 1
             · intro u hu
               (try dsimp only at hu)
               go_simp
               try with_reducible rfl
             simp only [Act.put, List.setIfInBounds_toArray, List.set_cons_zero, List.set_cons_succ])
          | (refine mv_take _ (Or.inr ⟨by rfl, rfl⟩) (⟨c0, c1, c2, c3, c4, k0, k2⟩) ?_
             simp only [Act.put, List.setIfInBounds_toArray, List.set_cons_zero, List.set_cons_succ])
      iterate 5
        first
          | (refine mv_free ?_ (Or.inl ⟨by rfl, ?_⟩) (⟨c0, c1, c2, c3, c4, k0, k2⟩) ?_
             rotate_left 1
             · intro u
               go_simp
               try simp only [d1]
               try simp only [d2]
               try simp only [d3]
               try with_reducible rfl
             simp only [Act.put, List.setIfInBounds_toArray, List.set_cons_zero, List.set_cons_succ])
          | (refine mv_free _ (Or.inr ⟨by rfl, rfl⟩) (⟨c0, c1, c2, c3, c4, k0, k2⟩) ?_
             simp only [Act.put, List.setIfInBounds_toArray, List.set_cons_zero, List.set_cons_succ])
      iterate 1
        first
          | (refine mv_take ?_ (Or.inl ⟨by rfl, ?_⟩) (⟨c0, c1, c2, c3, c4, k0, k2⟩) ?_
             rotate_left 1
             · intro u hu
               (try dsimp only at hu)
               go_simp
               try with_reducible rfl
             simp only [Act.put, List.setIfInBounds_toArray, List.set_cons_zero, List.set_cons_succ])
          | (refine mv_take _ (Or.inr ⟨by rfl, rfl⟩) (⟨c0, c1, c2, c3, c4, k0, k2⟩) ?_
             simp only [Act.put, List.setIfInBounds_toArray, List.set_cons_zero, List.set_cons_succ])
      iterate 1
        first
          | (refine mv_free ?_ (Or.inl ⟨by rfl, ?_⟩) (⟨c0, c1, c2, c3, c4, k0, k2⟩) ?_
             rotate_left 1
             · intro u
               go_simp
               try simp only [d1]
               try simp only [d2]
               try simp only [d3]
               try with_reducible rfl
             simp only [Act.put, List.setIfInBounds_toArray, List.set_cons_zero, List.set_cons_succ])
          | (refine mv_free _ (Or.inr ⟨by rfl, rfl⟩) (⟨c0, c1, c2, c3, c4, k0, k2⟩) ?_
             simp only [Act.put, List.setIfInBounds_toArray, List.set_cons_zero, List.set_cons_succ])
      iterate 1
        first
          | (refine mv_take ?_ (Or.inl ⟨by rfl, ?_⟩) (⟨c0, c1, c2, c3, c4, k0, k2⟩) ?_
             rotate_left 1
             · intro u hu
               (try dsimp only at hu)
               go_simp
               try with_reducible rfl
             simp only [Act.put, List.setIfInBounds_toArray, List.set_cons_zero, List.set_cons_succ])
          | (refine mv_take _ (Or.inr ⟨by rfl, rfl⟩) (⟨c0, c1, c2, c3, c4, k0, k2⟩) ?_
             simp only [Act.put, List.setIfInBounds_toArray, List.set_cons_zero, List.set_cons_succ])
      iterate 2
        first
          | (refine mv_free ?_ (Or.inl ⟨by rfl, ?_⟩) (⟨c0, c1, c2, c3, c4, k0, k2⟩) ?_
             rotate_left 1
             · intro u
               go_simp
               try simp only [d1]
               try simp only [d2]
               try simp only [d3]
               try with_reducible rfl
             simp only [Act.put, List.setIfInBounds_toArray, List.set_cons_zero, List.set_cons_succ])
          | (refine mv_free _ (Or.inr ⟨by rfl, rfl⟩) (⟨c0, c1, c2, c3, c4, k0, k2⟩) ?_
             simp only [Act.put, List.setIfInBounds_toArray, List.set_cons_zero, List.set_cons_succ])
      refine mv_step (fun K hK => ?_)
      go_simp
      refine (A1.out _ ((Below.refl (w.heap.size + 2) V).drew)).mono ?_
      rintro e w1 ⟨rfl, hb1⟩
      have hb1 := ((Below.refl (w.heap.size + 2) V).drew).trans (hb1.mono (by have := hz.out; show _ ≤ V.heap.size; omega))
      obtain ⟨k0, k1, k2, k3⟩ := hcs.out _ hb1
      clear c0 c1 c2 c3 c4 c5 c6 c7 f0 f1 f2 f3 f4 f5 f6 f7
      obtain ⟨c0, f0⟩ := (HK.out _ hb1).one 0 rfl
      obtain ⟨c1, f1⟩ := (HK.out _ hb1).one 1 rfl
      obtain ⟨c2, f2⟩ := (HK.out _ hb1).one 2 rfl
      obtain ⟨c3, f3⟩ := (HK.out _ hb1).one 3 rfl
      obtain ⟨c4, f4⟩ := (HK.out _ hb1).one 4 rfl
      obtain ⟨c5, f5⟩ := (HK.out _ hb1).one 5 rfl
      obtain ⟨c6, f6⟩ := (HK.out _ hb1).one 6 rfl
      obtain ⟨c7, f7⟩ := (HK.out _ hb1).one 7 rfl
      go_wp2_with fail
      refine hK.out _ _ _ (fun u hu => hu) (⟨c0, c1, c2, c3, c4, k0, k2⟩) ?_
      clear hK K
      refine mv_step (fun K hK => ?_)
      go_simp
      refine (A2.out _ (hb1)).mono ?_
      rintro e w2 ⟨rfl, hb2⟩
      have hb2 := (hb1).trans (hb2.mono (by have := hb1.size; have := hz.out; show _ ≤ w1.heap.size; omega))
      clear hb1
      obtain ⟨k0, k1, k2, k3⟩ := hcs.out _ hb2
      clear c0 c1 c2 c3 c4 c5 c6 c7 f0 f1 f2 f3 f4 f5 f6 f7
      obtain ⟨c0, f0⟩ := (HK.out _ hb2).one 0 rfl
      obtain ⟨c1, f1⟩ := (HK.out _ hb2).one 1 rfl
      obtain ⟨c2, f2⟩ := (HK.out _ hb2).one 2 rfl
      obtain ⟨c3, f3⟩ := (HK.out _ hb2).one 3 rfl
      obtain ⟨c4, f4⟩ := (HK.out _ hb2).one 4 rfl
      obtain ⟨c5, f5⟩ := (HK.out _ hb2).one 5 rfl
      obtain ⟨c6, f6⟩ := (HK.out _ hb2).one 6 rfl
      obtain ⟨c7, f7⟩ := (HK.out _ hb2).one 7 rfl
      go_wp2_with fail
      refine hK.out _ _ _ (fun u hu => hu) (⟨c0, c1, c2, c3, c4, k0, k2⟩) ?_
      clear hK K
      iterate 2
        first
          | (refine mv_free ?_ (Or.inl ⟨by rfl, ?_⟩) (⟨c0, c1, c2, c3, c4, k0, k2⟩) ?_
             rotate_left 1
             · intro u
               go_simp
               try simp only [d1]
               try simp only [d2]
               try simp only [d3]
               try with_reducible rfl
             simp only [Act.put, List.setIfInBounds_toArray, List.set_cons_zero, List.set_cons_succ])
          | (refine mv_free _ (Or.inr ⟨by rfl, rfl⟩) (⟨c0, c1, c2, c3, c4, k0, k2⟩) ?_
             simp only [Act.put, List.setIfInBounds_toArray, List.set_cons_zero, List.set_cons_succ])
      refine mv_done ?_
      go_wp2_with fail
      refine (LS1.out _ (HK.out _ hb2)).mono ?_
      rintro e w5 ⟨rfl, hl, hb5⟩
      have hl := Lib.hid hl
      have hB := Lib.hid ((Beside.of_below (b := k) (W.out _ hb2)).trans hb5)
      clear hb5
      go_wp2
      go_ret2
      exact ⟨rfl, hl.out, hB.out⟩
  · by_cases he2 : e2 = 0
    · subst he2
      have ze1 : (e1 != 0) = true := by simp [he1]
      clear AP ME BQ BP
      have E : chV p e1 q 0 tau y kn = q ∧ chO p e1 q 0 tau y kn = 2 := by unfold chV chO cloB vrd; simp [he1]
      rw [E.1, E.2, show stY (q) 2 sh y kn = lgV sh (if kn then y else clq (q)) (clq (q)) from if_neg (by decide), show stK 2 kn = true from if_neg (by decide)]
      have LS1 := Lib.hid (fun u h => LS.out (q) u h)
      clear E LS
      generalize lgV sh (if kn then y else clq (q)) (clq (q)) = R at *
      go_enter Try.func52, Try.ntmps52
      go_upto_region 1 with (fail)
      rw [← eV.out]
      obtain ⟨k0, k1, k2, k3⟩ := hcs.out _ (Below.refl _ _)
      obtain ⟨c0, f0⟩ := (HK.out _ (Below.refl _ _)).one 0 rfl
      obtain ⟨c1, f1⟩ := (HK.out _ (Below.refl _ _)).one 1 rfl
      obtain ⟨c2, f2⟩ := (HK.out _ (Below.refl _ _)).one 2 rfl
      obtain ⟨c3, f3⟩ := (HK.out _ (Below.refl _ _)).one 3 rfl
      obtain ⟨c4, f4⟩ := (HK.out _ (Below.refl _ _)).one 4 rfl
      obtain ⟨c5, f5⟩ := (HK.out _ (Below.refl _ _)).one 5 rfl
      obtain ⟨c6, f6⟩ := (HK.out _ (Below.refl _ _)).one 6 rfl
      obtain ⟨c7, f7⟩ := (HK.out _ (Below.refl _ _)).one 7 rfl
      refine region_moves (fun u => u.cell? ⟨k, 0, none⟩ = some (.slice ax X.length cx) ∧ u.cell? ⟨k, 1, none⟩ = some (.slice ay Y.length cy) ∧ u.cell? ⟨k, 2, none⟩ = some (.int .i64 tau) ∧ u.cell? ⟨k, 3, none⟩ = some (.int .i64 arm) ∧ u.cell? ⟨k, 4, none⟩ = some (.int .i64 sh) ∧ u.cell? ⟨w.heap.size, 0, none⟩ = some (.int .i64 x) ∧ u.cell? ⟨w.heap.size + 1, 0, none⟩ = some (.int .i64 x2)) [] [(.free, 0), (.free, 1), (.free, 2), (.take, 3), (.free, 4), (.take, 5), (.free, 6), (.free, 7), (.free, 9), (.free, 10), (.free, 11), (.take, 12), (.free, 13), (.take, 14), (.free, 15), (.free, 16), (.step, 8), (.step, 17), (.free, 18), (.free, 19)] _ (by kernel_rfl) (by kernel_rfl) (by kernel_rfl) (by kernel_rfl) (by decide) rfl (fun _ _ _ _ _ h => h) ?_
      simp only [List.filterMap_cons, List.filterMap_nil, List.getElem?_toArray, List.getElem?_cons_zero, List.getElem?_cons_succ, Option.map_some]
      iterate 3
        first
          | (refine mv_free ?_ (Or.inl ⟨by rfl, ?_⟩) (⟨c0, c1, c2, c3, c4, k0, k2⟩) ?_
             rotate_left 1
             · intro u
               go_simp
               try simp only [d1]
               try simp only [d2]
               try simp only [d3]
               try with_reducible rfl
             simp only [Act.put, List.setIfInBounds_toArray, List.set_cons_zero, List.set_cons_succ])
          | (refine mv_free _ (Or.inr ⟨by rfl, rfl⟩) (⟨c0, c1, c2, c3, c4, k0, k2⟩) ?_
             simp only [Act.put, List.setIfInBounds_toArray, List.set_cons_zero, List.set_cons_succ])
      iterate 1
        first
          | (refine mv_take ?_ (Or.inl ⟨by rfl, ?_⟩) (⟨c0, c1, c2, c3, c4, k0, k2⟩) ?_
             rotate_left 1
             · intro u hu
               (try dsimp only at hu)
               go_simp
               try with_reducible rfl
             simp only [Act.put, List.setIfInBounds_toArray, List.set_cons_zero, List.set_cons_succ])
          | (refine mv_take _ (Or.inr ⟨by rfl, rfl⟩) (⟨c0, c1, c2, c3, c4, k0, k2⟩) ?_
             simp only [Act.put, List.setIfInBounds_toArray, List.set_cons_zero, List.set_cons_succ])
      iterate 1
        first
          | (refine mv_free ?_ (Or.inl ⟨by rfl, ?_⟩) (⟨c0, c1, c2, c3, c4, k0, k2⟩) ?_
             rotate_left 1
             · intro u
               go_simp
               try simp only [d1]
               try simp only [d2]
               try simp only [d3]
               try with_reducible rfl
             simp only [Act.put, List.setIfInBounds_toArray, List.set_cons_zero, List.set_cons_succ])
          | (refine mv_free _ (Or.inr ⟨by rfl, rfl⟩) (⟨c0, c1, c2, c3, c4, k0, k2⟩) ?_
             simp only [Act.put, List.setIfInBounds_toArray, List.set_cons_zero, List.set_cons_succ])
      iterate 1
        first
          | (refine mv_take ?_ (Or.inl ⟨by rfl, ?_⟩) (⟨c0, c1, c2, c3, c4, k0, k2⟩) ?_
             rotate_left 1
             · intro u hu
               (try dsimp only at hu)
               go_simp
               try with_reducible rfl
             simp only [Act.put, List.setIfInBounds_toArray, List.set_cons_zero, List.set_cons_succ])
          | (refine mv_take _ (Or.inr ⟨by rfl, rfl⟩) (⟨c0, c1, c2, c3, c4, k0, k2⟩) ?_
             simp only [Act.put, List.setIfInBounds_toArray, List.set_cons_zero, List.set_cons_succ])
      iterate 5
        first
          | (refine mv_free ?_ (Or.inl ⟨by rfl, ?_⟩) (⟨c0, c1, c2, c3, c4, k0, k2⟩) ?_
             rotate_left 1
             · intro u
               go_simp
               try simp only [d1]
               try simp only [d2]
               try simp only [d3]
               try with_reducible rfl
             simp only [Act.put, List.setIfInBounds_toArray, List.set_cons_zero, List.set_cons_succ])
          | (refine mv_free _ (Or.inr ⟨by rfl, rfl⟩) (⟨c0, c1, c2, c3, c4, k0, k2⟩) ?_
             simp only [Act.put, List.setIfInBounds_toArray, List.set_cons_zero, List.set_cons_succ])
      iterate 1
        first
          | (refine mv_take ?_ (Or.inl ⟨by rfl, ?_⟩) (⟨c0, c1, c2, c3, c4, k0, k2⟩) ?_
             rotate_left 1
             · intro u hu
               (try dsimp only at hu)
               go_simp
               try with_reducible rfl
             simp only [Act.put, List.setIfInBounds_toArray, List.set_cons_zero, List.set_cons_succ])
          | (refine mv_take _ (Or.inr ⟨by rfl, rfl⟩) (⟨c0, c1, c2, c3, c4, k0, k2⟩) ?_
             simp only [Act.put, List.setIfInBounds_toArray, List.set_cons_zero, List.set_cons_succ])
      iterate 1
        first
          | (refine mv_free ?_ (Or.inl ⟨by rfl, ?_⟩) (⟨c0, c1, c2, c3, c4, k0, k2⟩) ?_
             rotate_left 1
             · intro u
               go_simp
               try simp only [d1]
               try simp only [d2]
               try simp only [d3]
               try with_reducible rfl
             simp only [Act.put, List.setIfInBounds_toArray, List.set_cons_zero, List.set_cons_succ])
          | (refine mv_free _ (Or.inr ⟨by rfl, rfl⟩) (⟨c0, c1, c2, c3, c4, k0, k2⟩) ?_
             simp only [Act.put, List.setIfInBounds_toArray, List.set_cons_zero, List.set_cons_succ])
      iterate 1
        first
          | (refine mv_take ?_ (Or.inl ⟨by rfl, ?_⟩) (⟨c0, c1, c2, c3, c4, k0, k2⟩) ?_
             rotate_left 1
             · intro u hu
               (try dsimp only at hu)
               go_simp
               try with_reducible rfl
             simp only [Act.put, List.setIfInBounds_toArray, List.set_cons_zero, List.set_cons_succ])
          | (refine mv_take _ (Or.inr ⟨by rfl, rfl⟩) (⟨c0, c1, c2, c3, c4, k0, k2⟩) ?_
             simp only [Act.put, List.setIfInBounds_toArray, List.set_cons_zero, List.set_cons_succ])
      iterate 2
        first
          | (refine mv_free ?_ (Or.inl ⟨by rfl, ?_⟩) (⟨c0, c1, c2, c3, c4, k0, k2⟩) ?_
             rotate_left 1
             · intro u
               go_simp
               try simp only [d1]
               try simp only [d2]
               try simp only [d3]
               try with_reducible rfl
             simp only [Act.put, List.setIfInBounds_toArray, List.set_cons_zero, List.set_cons_succ])
          | (refine mv_free _ (Or.inr ⟨by rfl, rfl⟩) (⟨c0, c1, c2, c3, c4, k0, k2⟩) ?_
             simp only [Act.put, List.setIfInBounds_toArray, List.set_cons_zero, List.set_cons_succ])
      refine mv_step (fun K hK => ?_)
      go_simp
      refine (A1.out _ ((Below.refl (w.heap.size + 2) V).drew)).mono ?_
      rintro e w1 ⟨rfl, hb1⟩
      have hb1 := ((Below.refl (w.heap.size + 2) V).drew).trans (hb1.mono (by have := hz.out; show _ ≤ V.heap.size; omega))
      obtain ⟨k0, k1, k2, k3⟩ := hcs.out _ hb1
      clear c0 c1 c2 c3 c4 c5 c6 c7 f0 f1 f2 f3 f4 f5 f6 f7
      obtain ⟨c0, f0⟩ := (HK.out _ hb1).one 0 rfl
      obtain ⟨c1, f1⟩ := (HK.out _ hb1).one 1 rfl
      obtain ⟨c2, f2⟩ := (HK.out _ hb1).one 2 rfl
      obtain ⟨c3, f3⟩ := (HK.out _ hb1).one 3 rfl
      obtain ⟨c4, f4⟩ := (HK.out _ hb1).one 4 rfl
      obtain ⟨c5, f5⟩ := (HK.out _ hb1).one 5 rfl
      obtain ⟨c6, f6⟩ := (HK.out _ hb1).one 6 rfl
      obtain ⟨c7, f7⟩ := (HK.out _ hb1).one 7 rfl
      go_wp2_with fail
      refine hK.out _ _ _ (fun u hu => hu) (⟨c0, c1, c2, c3, c4, k0, k2⟩) ?_
      clear hK K
      refine mv_step (fun K hK => ?_)
      go_simp
      refine (A2.out _ (hb1)).mono ?_
      rintro e w2 ⟨rfl, hb2⟩
      have hb2 := (hb1).trans (hb2.mono (by have := hb1.size; have := hz.out; show _ ≤ w1.heap.size; omega))
      clear hb1
      obtain ⟨k0, k1, k2, k3⟩ := hcs.out _ hb2
      clear c0 c1 c2 c3 c4 c5 c6 c7 f0 f1 f2 f3 f4 f5 f6 f7
      obtain ⟨c0, f0⟩ := (HK.out _ hb2).one 0 rfl
      obtain ⟨c1, f1⟩ := (HK.out _ hb2).one 1 rfl
      obtain ⟨c2, f2⟩ := (HK.out _ hb2).one 2 rfl
      obtain ⟨c3, f3⟩ := (HK.out _ hb2).one 3 rfl
      obtain ⟨c4, f4⟩ := (HK.out _ hb2).one 4 rfl
      obtain ⟨c5, f5⟩ := (HK.out _ hb2).one 5 rfl
      obtain ⟨c6, f6⟩ := (HK.out _ hb2).one 6 rfl
      obtain ⟨c7, f7⟩ := (HK.out _ hb2).one 7 rfl
      go_wp2_with fail
      refine hK.out _ _ _ (fun u hu => hu) (⟨c0, c1, c2, c3, c4, k0, k2⟩) ?_
      clear hK K
      iterate 2
        first
          | (refine mv_free ?_ (Or.inl ⟨by rfl, ?_⟩) (⟨c0, c1, c2, c3, c4, k0, k2⟩) ?_
             rotate_left 1
             · intro u
               go_simp
               try simp only [d1]
               try simp only [d2]
               try simp only [d3]
               try with_reducible rfl
             simp only [Act.put, List.setIfInBounds_toArray, List.set_cons_zero, List.set_cons_succ])
          | (refine mv_free _ (Or.inr ⟨by rfl, rfl⟩) (⟨c0, c1, c2, c3, c4, k0, k2⟩) ?_
             simp only [Act.put, List.setIfInBounds_toArray, List.set_cons_zero, List.set_cons_succ])
      refine mv_done ?_
      go_wp2_with fail
      refine (LS1.out _ (HK.out _ hb2)).mono ?_
      rintro e w5 ⟨rfl, hl, hb5⟩
      have hl := Lib.hid hl
      have hB := Lib.hid ((Beside.of_below (b := k) (W.out _ hb2)).trans hb5)
      clear hb5
      go_wp2
      go_ret2
      exact ⟨rfl, hl.out, hB.out⟩
    · have ze1 : (e1 != 0) = true := by simp [he1]
      have ze2 : (e2 != 0) = true := by simp [he2]
      clear AP ME BQ BP
      have E : chV p e1 q e2 tau y kn = 0 ∧ chO p e1 q e2 tau y kn = 3 := by unfold chV chO cloB vrd; simp [he1, he2]
      rw [E.1, E.2, show stY 0 3 sh y kn = y from if_pos rfl, show stK 3 kn = kn from if_pos rfl]
      clear E LS
      go_enter Try.func52, Try.ntmps52
      go_upto_region 1 with (fail)
      rw [← eV.out]
      obtain ⟨k0, k1, k2, k3⟩ := hcs.out _ (Below.refl _ _)
      obtain ⟨c0, f0⟩ := (HK.out _ (Below.refl _ _)).one 0 rfl
      obtain ⟨c1, f1⟩ := (HK.out _ (Below.refl _ _)).one 1 rfl
      obtain ⟨c2, f2⟩ := (HK.out _ (Below.refl _ _)).one 2 rfl
      obtain ⟨c3, f3⟩ := (HK.out _ (Below.refl _ _)).one 3 rfl
      obtain ⟨c4, f4⟩ := (HK.out _ (Below.refl _ _)).one 4 rfl
      obtain ⟨c5, f5⟩ := (HK.out _ (Below.refl _ _)).one 5 rfl
      obtain ⟨c6, f6⟩ := (HK.out _ (Below.refl _ _)).one 6 rfl
      obtain ⟨c7, f7⟩ := (HK.out _ (Below.refl _ _)).one 7 rfl
      refine region_moves (fun u => u.cell? ⟨k, 0, none⟩ = some (.slice ax X.length cx) ∧ u.cell? ⟨k, 1, none⟩ = some (.slice ay Y.length cy) ∧ u.cell? ⟨k, 2, none⟩ = some (.int .i64 tau) ∧ u.cell? ⟨k, 3, none⟩ = some (.int .i64 arm) ∧ u.cell? ⟨k, 4, none⟩ = some (.int .i64 sh) ∧ u.cell? ⟨w.heap.size, 0, none⟩ = some (.int .i64 x) ∧ u.cell? ⟨w.heap.size + 1, 0, none⟩ = some (.int .i64 x2)) [] [(.free, 0), (.free, 1), (.free, 2), (.take, 3), (.free, 4), (.take, 5), (.free, 6), (.free, 7), (.free, 9), (.free, 10), (.free, 11), (.take, 12), (.free, 13), (.take, 14), (.free, 15), (.free, 16), (.step, 8), (.step, 17), (.free, 18), (.free, 19)] _ (by kernel_rfl) (by kernel_rfl) (by kernel_rfl) (by kernel_rfl) (by decide) rfl (fun _ _ _ _ _ h => h) ?_
      simp only [List.filterMap_cons, List.filterMap_nil, List.getElem?_toArray, List.getElem?_cons_zero, List.getElem?_cons_succ, Option.map_some]
      iterate 3
        first
          | (refine mv_free ?_ (Or.inl ⟨by rfl, ?_⟩) (⟨c0, c1, c2, c3, c4, k0, k2⟩) ?_
             rotate_left 1
             · intro u
               go_simp
               try simp only [d1]
               try simp only [d2]
               try simp only [d3]
               try with_reducible rfl
             simp only [Act.put, List.setIfInBounds_toArray, List.set_cons_zero, List.set_cons_succ])
          | (refine mv_free _ (Or.inr ⟨by rfl, rfl⟩) (⟨c0, c1, c2, c3, c4, k0, k2⟩) ?_
             simp only [Act.put, List.setIfInBounds_toArray, List.set_cons_zero, List.set_cons_succ])
      iterate 1
        first
          | (refine mv_take ?_ (Or.inl ⟨by rfl, ?_⟩) (⟨c0, c1, c2, c3, c4, k0, k2⟩) ?_
             rotate_left 1
             · intro u hu
               (try dsimp only at hu)
               go_simp
               try with_reducible rfl
             simp only [Act.put, List.setIfInBounds_toArray, List.set_cons_zero, List.set_cons_succ])
          | (refine mv_take _ (Or.inr ⟨by rfl, rfl⟩) (⟨c0, c1, c2, c3, c4, k0, k2⟩) ?_
             simp only [Act.put, List.setIfInBounds_toArray, List.set_cons_zero, List.set_cons_succ])
      iterate 1
        first
          | (refine mv_free ?_ (Or.inl ⟨by rfl, ?_⟩) (⟨c0, c1, c2, c3, c4, k0, k2⟩) ?_
             rotate_left 1
             · intro u
               go_simp
               try simp only [d1]
               try simp only [d2]
               try simp only [d3]
               try with_reducible rfl
             simp only [Act.put, List.setIfInBounds_toArray, List.set_cons_zero, List.set_cons_succ])
          | (refine mv_free _ (Or.inr ⟨by rfl, rfl⟩) (⟨c0, c1, c2, c3, c4, k0, k2⟩) ?_
             simp only [Act.put, List.setIfInBounds_toArray, List.set_cons_zero, List.set_cons_succ])
      iterate 1
        first
          | (refine mv_take ?_ (Or.inl ⟨by rfl, ?_⟩) (⟨c0, c1, c2, c3, c4, k0, k2⟩) ?_
             rotate_left 1
             · intro u hu
               (try dsimp only at hu)
               go_simp
               try with_reducible rfl
             simp only [Act.put, List.setIfInBounds_toArray, List.set_cons_zero, List.set_cons_succ])
          | (refine mv_take _ (Or.inr ⟨by rfl, rfl⟩) (⟨c0, c1, c2, c3, c4, k0, k2⟩) ?_
             simp only [Act.put, List.setIfInBounds_toArray, List.set_cons_zero, List.set_cons_succ])
      iterate 5
        first
          | (refine mv_free ?_ (Or.inl ⟨by rfl, ?_⟩) (⟨c0, c1, c2, c3, c4, k0, k2⟩) ?_
             rotate_left 1
             · intro u
               go_simp
               try simp only [d1]
               try simp only [d2]
               try simp only [d3]
               try with_reducible rfl
             simp only [Act.put, List.setIfInBounds_toArray, List.set_cons_zero, List.set_cons_succ])
          | (refine mv_free _ (Or.inr ⟨by rfl, rfl⟩) (⟨c0, c1, c2, c3, c4, k0, k2⟩) ?_
             simp only [Act.put, List.setIfInBounds_toArray, List.set_cons_zero, List.set_cons_succ])
      iterate 1
        first
          | (refine mv_take ?_ (Or.inl ⟨by rfl, ?_⟩) (⟨c0, c1, c2, c3, c4, k0, k2⟩) ?_
             rotate_left 1
             · intro u hu
               (try dsimp only at hu)
               go_simp
               try with_reducible rfl
             simp only [Act.put, List.setIfInBounds_toArray, List.set_cons_zero, List.set_cons_succ])
          | (refine mv_take _ (Or.inr ⟨by rfl, rfl⟩) (⟨c0, c1, c2, c3, c4, k0, k2⟩) ?_
             simp only [Act.put, List.setIfInBounds_toArray, List.set_cons_zero, List.set_cons_succ])
      iterate 1
        first
          | (refine mv_free ?_ (Or.inl ⟨by rfl, ?_⟩) (⟨c0, c1, c2, c3, c4, k0, k2⟩) ?_
             rotate_left 1
             · intro u
               go_simp
               try simp only [d1]
               try simp only [d2]
               try simp only [d3]
               try with_reducible rfl
             simp only [Act.put, List.setIfInBounds_toArray, List.set_cons_zero, List.set_cons_succ])
          | (refine mv_free _ (Or.inr ⟨by rfl, rfl⟩) (⟨c0, c1, c2, c3, c4, k0, k2⟩) ?_
             simp only [Act.put, List.setIfInBounds_toArray, List.set_cons_zero, List.set_cons_succ])
      iterate 1
        first
          | (refine mv_take ?_ (Or.inl ⟨by rfl, ?_⟩) (⟨c0, c1, c2, c3, c4, k0, k2⟩) ?_
             rotate_left 1
             · intro u hu
               (try dsimp only at hu)
               go_simp
               try with_reducible rfl
             simp only [Act.put, List.setIfInBounds_toArray, List.set_cons_zero, List.set_cons_succ])
          | (refine mv_take _ (Or.inr ⟨by rfl, rfl⟩) (⟨c0, c1, c2, c3, c4, k0, k2⟩) ?_
             simp only [Act.put, List.setIfInBounds_toArray, List.set_cons_zero, List.set_cons_succ])
      iterate 2
        first
          | (refine mv_free ?_ (Or.inl ⟨by rfl, ?_⟩) (⟨c0, c1, c2, c3, c4, k0, k2⟩) ?_
             rotate_left 1
             · intro u
               go_simp
               try simp only [d1]
               try simp only [d2]
               try simp only [d3]
               try with_reducible rfl
             simp only [Act.put, List.setIfInBounds_toArray, List.set_cons_zero, List.set_cons_succ])
          | (refine mv_free _ (Or.inr ⟨by rfl, rfl⟩) (⟨c0, c1, c2, c3, c4, k0, k2⟩) ?_
             simp only [Act.put, List.setIfInBounds_toArray, List.set_cons_zero, List.set_cons_succ])
      refine mv_step (fun K hK => ?_)
      go_simp
      refine (A1.out _ ((Below.refl (w.heap.size + 2) V).drew)).mono ?_
      rintro e w1 ⟨rfl, hb1⟩
      have hb1 := ((Below.refl (w.heap.size + 2) V).drew).trans (hb1.mono (by have := hz.out; show _ ≤ V.heap.size; omega))
      obtain ⟨k0, k1, k2, k3⟩ := hcs.out _ hb1
      clear c0 c1 c2 c3 c4 c5 c6 c7 f0 f1 f2 f3 f4 f5 f6 f7
      obtain ⟨c0, f0⟩ := (HK.out _ hb1).one 0 rfl
      obtain ⟨c1, f1⟩ := (HK.out _ hb1).one 1 rfl
      obtain ⟨c2, f2⟩ := (HK.out _ hb1).one 2 rfl
      obtain ⟨c3, f3⟩ := (HK.out _ hb1).one 3 rfl
      obtain ⟨c4, f4⟩ := (HK.out _ hb1).one 4 rfl
      obtain ⟨c5, f5⟩ := (HK.out _ hb1).one 5 rfl
      obtain ⟨c6, f6⟩ := (HK.out _ hb1).one 6 rfl
      obtain ⟨c7, f7⟩ := (HK.out _ hb1).one 7 rfl
      go_wp2_with fail
      refine hK.out _ _ _ (fun u hu => hu) (⟨c0, c1, c2, c3, c4, k0, k2⟩) ?_
      clear hK K
      refine mv_step (fun K hK => ?_)
      go_simp
      refine (A2.out _ (hb1)).mono ?_
      rintro e w2 ⟨rfl, hb2⟩
      have hb2 := (hb1).trans (hb2.mono (by have := hb1.size; have := hz.out; show _ ≤ w1.heap.size; omega))
      clear hb1
      obtain ⟨k0, k1, k2, k3⟩ := hcs.out _ hb2
      clear c0 c1 c2 c3 c4 c5 c6 c7 f0 f1 f2 f3 f4 f5 f6 f7
      obtain ⟨c0, f0⟩ := (HK.out _ hb2).one 0 rfl
      obtain ⟨c1, f1⟩ := (HK.out _ hb2).one 1 rfl
      obtain ⟨c2, f2⟩ := (HK.out _ hb2).one 2 rfl
      obtain ⟨c3, f3⟩ := (HK.out _ hb2).one 3 rfl
      obtain ⟨c4, f4⟩ := (HK.out _ hb2).one 4 rfl
      obtain ⟨c5, f5⟩ := (HK.out _ hb2).one 5 rfl
      obtain ⟨c6, f6⟩ := (HK.out _ hb2).one 6 rfl
      obtain ⟨c7, f7⟩ := (HK.out _ hb2).one 7 rfl
      go_wp2_with fail
      refine hK.out _ _ _ (fun u hu => hu) (⟨c0, c1, c2, c3, c4, k0, k2⟩) ?_
      clear hK K
      iterate 2
        first
          | (refine mv_free ?_ (Or.inl ⟨by rfl, ?_⟩) (⟨c0, c1, c2, c3, c4, k0, k2⟩) ?_
             rotate_left 1
             · intro u
               go_simp
               try simp only [d1]
               try simp only [d2]
               try simp only [d3]
               try with_reducible rfl
             simp only [Act.put, List.setIfInBounds_toArray, List.set_cons_zero, List.set_cons_succ])
          | (refine mv_free _ (Or.inr ⟨by rfl, rfl⟩) (⟨c0, c1, c2, c3, c4, k0, k2⟩) ?_
             simp only [Act.put, List.setIfInBounds_toArray, List.set_cons_zero, List.set_cons_succ])
      refine mv_done ?_
      go_wp2
      go_ret2
      exact ⟨rfl, HK.out _ hb2, Beside.of_below (W.out _ hb2)⟩
end Go.Proofs.Ytmmenpaodofahaa
