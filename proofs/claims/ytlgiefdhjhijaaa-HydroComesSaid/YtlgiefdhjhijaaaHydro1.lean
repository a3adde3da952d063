/- Package hydro: a learner; the document's; the chapter's example. -/
import Derived.Test.YtlgiefdhjhijaaaAir11
import Derived.Test.YtlgiefdhjhijaaaClip09
import Derived.Test.YtlgiefdhjhijaaaHb
import Derived.Deep.Cut
namespace Go.Proofs.Ytlgiefdhjhijaaa
open Go.ChangeShapes Go.WideShapes Go.ChangeAt Go.RowKit
set_option linter.unusedVariables false
set_option linter.unusedSimpArgs false

def hcl (h : Int) : Int := c09 h (-100000000) 100000000
theorem hcl_bd (h : Int) : -100000000 ≤ hcl h ∧ hcl h ≤ 100000000 := c09_bd _ _ _ (by omega)
def hyC (gt st off : Int) (kn : Bool) : List Value := [.int .i64 gt, .int .i64 st, .int .i64 off, .bool kn]
def hmC (gt st off : Int) (kn : Bool) : List Value := [.int .i64 gt, .int .i64 st, .int .i64 off, .bool kn]
/-- Too far away. -/
def hyF (gt off d : Int) : Bool := decide (gt < d - off) || decide (gt < off - d)
def hyE (gt off : Int) (kn : Bool) (d : Int) : Int := if (kn && hyF gt off d) = true then 2 else 0
def hyO (gt st off : Int) (kn : Bool) (d : Int) : Int := if kn = true then (if hyF gt off d = true then off else c09 d (off - st) (off + st)) else d
structure HyOk (gt st : Int) : Prop where
  a : 0 ≤ gt
  b : gt ≤ 10000000
  c : 1 ≤ st
  d : st ≤ 1000000
def hyR (gt st : Int) : Bool := decide (0 ≤ gt) && decide (gt ≤ 10000000) && decide (1 ≤ st) && decide (st ≤ 1000000)
theorem hyR_ok {gt st : Int} (h : hyR gt st = true) : HyOk gt st := by
  unfold hyR at h
  simp at h
  obtain ⟨⟨⟨a, b⟩, c⟩, d⟩ := h
  exact ⟨a, b, c, d⟩
theorem hyR_no {gt st : Int} (h : hyR gt st = false) : ¬ (0 ≤ gt ∧ gt ≤ 10000000 ∧ 1 ≤ st ∧ st ≤ 1000000) := by
  intro ⟨a, b, c, d⟩
  simp [hyR, a, b, c, d] at h
theorem hyO_bd {gt st off d : Int} {kn : Bool} (s : 1 ≤ st) (o1 : -200000000 ≤ off) (o2 : off ≤ 200000000) (d1 : -200000000 ≤ d) (d2 : d ≤ 200000000) : -200000000 ≤ hyO gt st off kn d ∧ hyO gt st off kn d ≤ 200000000 := by
  unfold hyO c09
  split
  · split
    · omega
    · omega
  · omega
theorem c09_way {d off st : Int} (s : 1 ≤ st) : off + min (max (d - off) (-st)) st = c09 d (off - st) (off + st) := by
  unfold c09; omega

set_option maxHeartbeats 1000000 in
theorem hclip_any (h : Int) (w : World) : Calls Try.prog 53 #[.int .i64 h] w fun e w' => e = .returned (.int .i64 (hcl h)) ∧ w = w' := by
  go_enter Try.func53, Try.ntmps53
  go_wp2
  all_goals
    go_ret
    exact ⟨ret_int (by unfold hcl c09; omega), rfl⟩
set_option maxHeartbeats 1000000 in
theorem rhclip_any (h : Int) (w : World) : Calls Try.prog 38 #[.int .i64 h] w fun e w' => e = .returned (.int .i64 (hcl h)) ∧ w = w' := by
  go_enter Try.func38, Try.ntmps38
  go_wp2_with fail
  refine (c09_any h (-100000000) 100000000 (by omega) _).mono ?_
  rintro e w' ⟨rfl, rfl⟩
  go_wp2
  go_ret
  exact ⟨rfl, rfl⟩
set_option maxHeartbeats 400000 in
theorem hget_any (v : Int) (k : Bool) (w : World) :
    Calls Try.prog 52 #[.agg #[.int .i64 v, .bool k]] w fun e w' => e = .returned (.tuple #[.int .i64 v, .bool k]) ∧ Below w.heap.size w w' := by
  go_enter Try.func52, Try.ntmps52
  go_wp2_with fail
  go_quiet (fail)
  go_wp2
  go_ret2
  exact ⟨rfl, (by repeat (first | exact Below.refl _ _ | assumption | apply Below.drew | apply below_drewN | (refine Below.alloc ?_ (by first | exact Nat.le_refl _ | omega | (simp <;> omega)) _) | (refine Below.setCell ?_ (by first | exact Nat.le_refl _ | omega | (simp <;> omega)) _)))⟩
set_option maxHeartbeats 400000 in
theorem hof_any (v : Int) (w : World) :
    Calls Try.prog 54 #[.int .i64 v] w fun e w' => e = .returned (.agg #[.int .i64 v, .bool true]) ∧ Below w.heap.size w w' := by
  go_enter Try.func54, Try.ntmps54
  go_wp2
  exact bodyPost_ret (v := .agg #[.int .i64 v, .bool true]) (by simp [results, Try.results54, go_sem]) rfl ⟨rfl, (by repeat (first | exact Below.refl _ _ | assumption | apply Below.drew | apply below_drewN | (refine Below.alloc ?_ (by first | exact Nat.le_refl _ | omega | (simp <;> omega)) _) | (refine Below.setCell ?_ (by first | exact Nat.le_refl _ | omega | (simp <;> omega)) _)))⟩
set_option maxHeartbeats 1000000 in
theorem hnew_ok (gt st : Int) (w : World) (h : hyR gt st = true) : Calls Try.prog 30 #[.int .i64 gt, .int .i64 st] w (NewObj (hyC gt st 0 false) w) := by
  obtain ⟨h1, h2, h3, h4⟩ := hyR_ok h
  clear h
  go_enter Try.func30, Try.ntmps30
  go_wp2
  go_ret2
  exact ⟨w.heap.size, by omega, rfl, Held.new w (hyC gt st 0 false) _, (by repeat (first | exact Below.refl _ _ | assumption | apply Below.drew | apply below_drewN | (refine Below.alloc ?_ (by first | exact Nat.le_refl _ | omega | (simp <;> omega)) _) | (refine Below.setCell ?_ (by first | exact Nat.le_refl _ | omega | (simp <;> omega)) _)))⟩
set_option maxHeartbeats 1000000 in
theorem hnew_no (gt st : Int) (w : World) (h : hyR gt st = false) : Calls Try.prog 30 #[.int .i64 gt, .int .i64 st] w fun e w' => e = .returned (.tuple #[.pointer none, .int .i64 2]) ∧ w = w' := by
  have h := hyR_no h
  go_enter Try.func30, Try.ntmps30
  go_wp2
  all_goals first | (exfalso; omega) | skip
  all_goals
    go_ret2
    exact ⟨rfl, rfl⟩
set_option maxHeartbeats 1000000 in
theorem hright_any (gt st : Int) (w : World) : Calls Try.prog 35 #[.int .i64 gt, .int .i64 st] w fun e w' => e = .returned (.bool (hyR gt st)) ∧ w = w' := by
  cases h : hyR gt st
  · have h := hyR_no h
    go_enter Try.func35, Try.ntmps35
    go_wp2
    all_goals first | (exfalso; omega) | skip
    all_goals
      go_ret
      refine ⟨ret_bool ?_, rfl⟩
      simp
      try omega
  · obtain ⟨h1, h2, h3, h4⟩ := hyR_ok h
    clear h
    go_enter Try.func35, Try.ntmps35
    go_wp2
    go_ret
    refine ⟨ret_bool ?_, rfl⟩
    simp
    try omega
theorem hforget_nil (w : World) : Calls Try.prog 31 #[.pointer none] w fun e w' => e = .returned (.tuple #[]) ∧ w = w' := by
  go_enter Try.func31, Try.ntmps31
  go_wp2
  go_end0
  exact ⟨rfl, rfl⟩
set_option maxHeartbeats 1000000 in
theorem hforget_any (b : Nat) {gt st off : Int} {kn : Bool} (w : World) (h : Held b (hyC gt st off kn) w) : Calls Try.prog 31 #[.pointer (some ⟨b, 0, none⟩)] w fun e w' => e = .returned (.tuple #[]) ∧ Held b (hyC gt st 0 false) w' ∧ Beside b w w' := by
  obtain ⟨c0, f0⟩ := h.one 0 rfl
  obtain ⟨c1, f1⟩ := h.one 1 rfl
  obtain ⟨c2, f2⟩ := h.one 2 rfl
  obtain ⟨c3, f3⟩ := h.one 3 rfl
  go_enter Try.func31, Try.ntmps31
  go_wp2
  go_end0
  exact ⟨rfl, (((HB.start h).set 2 (.int .i64 0) (by simp [hyC])).set 3 (.bool false) (by simp [hyC])).fin rfl rfl rfl rfl⟩
theorem hoffset_nil (w : World) : Calls Try.prog 32 #[.pointer none] w fun e w' => e = .returned (.tuple #[.int .i64 0, .bool false]) ∧ w = w' := by
  go_enter Try.func32, Try.ntmps32
  go_wp2
  go_ret2
  exact ⟨rfl, rfl⟩
set_option maxHeartbeats 1000000 in
theorem hoffset_any (b : Nat) {gt st off : Int} {kn : Bool} (w : World) (h : Held b (hyC gt st off kn) w) : Calls Try.prog 32 #[.pointer (some ⟨b, 0, none⟩)] w fun e w' => e = .returned (.tuple #[.int .i64 off, .bool kn]) ∧ Below w.heap.size w w' := by
  obtain ⟨c0, f0⟩ := h.one 0 rfl
  obtain ⟨c1, f1⟩ := h.one 1 rfl
  obtain ⟨c2, f2⟩ := h.one 2 rfl
  obtain ⟨c3, f3⟩ := h.one 3 rfl
  go_enter Try.func32, Try.ntmps32
  go_wp2_with (go_at_call 52; refine (hget_any _ _ _).mono ?_; rintro e w1 ⟨rfl, hb1⟩)
  go_ret2
  exact ⟨rfl, hb1⟩
theorem hpress_nil (a : Value) (h : Int) (w : World) : Calls Try.prog 33 #[.pointer none, a, .int .i64 h] w fun e w' => e = .returned (.tuple #[.int .i64 0, .bool false]) ∧ w = w' := by
  go_enter Try.func33, Try.ntmps33
  go_wp2_with fail
  refine (hoffset_nil _).mono ?_
  rintro e w' ⟨rfl, rfl⟩
  go_wp2
  go_ret2
  exact ⟨rfl, rfl⟩
set_option maxHeartbeats 1000000 in
theorem hpress_no (b : Nat) {gt st off : Int} (a : Value) (m : Int) (w : World) (h : Held b (hyC gt st off false) w) : Calls Try.prog 33 #[.pointer (some ⟨b, 0, none⟩), a, .int .i64 m] w fun e w' => e = .returned (.tuple #[.int .i64 0, .bool false]) ∧ Below w.heap.size w w' := by
  go_enter Try.func33, Try.ntmps33
  go_wp2_with fail
  refine (hoffset_any b _ h).mono ?_
  rintro e w1 ⟨rfl, hb1⟩
  go_wp2
  go_ret2
  exact ⟨rfl, hb1⟩
theorem hlearn_nil (m h : Int) (w : World) : Calls Try.prog 34 #[.pointer none, .int .i64 m, .int .i64 h] w fun e w' => e = .returned (.int .i64 1) ∧ w = w' := by
  go_enter Try.func34, Try.ntmps34
  go_wp2
  go_ret
  exact ⟨rfl, rfl⟩

set_option maxRecDepth 100000 in
set_option maxHeartbeats 2000000 in
theorem hlearn_any (b : Nat) {gt st off : Int} {kn : Bool} (m h : Int) (w : World) (hh : Held b (hyC gt st off kn) w) (ok : HyOk gt st) (l0 : -200000000 ≤ off) (l1 : off ≤ 200000000) :
    Calls Try.prog 34 #[.pointer (some ⟨b, 0, none⟩), .int .i64 m, .int .i64 h] w fun e w' => e = .returned (.int .i64 (hyE gt off kn (hcl m - hcl h))) ∧ Held b (hyC gt st (hyO gt st off kn (hcl m - hcl h)) true) w' ∧ Beside b w w' := by
  obtain ⟨o1, o2, o3, o4⟩ := ok
  have CM := Lib.hid (fun u => hclip_any m u)
  have CH := Lib.hid (fun u => hclip_any h u)
  have bm := hcl_bd m
  have bh := hcl_bd h
  generalize hcl m = M at *
  generalize hcl h = H at *
  have bb := hh.lt
  cases kn
  · rw [show hyE gt off false (M - H) = 0 by simp [hyE], show hyO gt st off false (M - H) = M - H by simp [hyO]]
    obtain ⟨c0, f0⟩ := hh.one 0 rfl
    obtain ⟨c1, f1⟩ := hh.one 1 rfl
    obtain ⟨c2, f2⟩ := hh.one 2 rfl
    obtain ⟨c3, f3⟩ := hh.one 3 rfl
    go_enter Try.func34, Try.ntmps34
    go_wp2_with fail
    refine (CM.out _).mono ?_
    rintro e w' ⟨rfl, rfl⟩
    go_wp2_with fail
    refine (CH.out _).mono ?_
    rintro e w' ⟨rfl, rfl⟩
    go_wp2_with fail
    refine (hget_any _ _ _).mono ?_
    rintro e w1 ⟨rfl, hb1⟩
    have h1 := hh.bel hb1
    have ob1 : Beside b w w1 := Beside.of_below hb1
    clear c0 c1 c2 c3 f0 f1 f2 f3 hh hb1
    go_wp2_with fail
    refine (hof_any _ _).mono ?_
    rintro e w2 ⟨rfl, hb2⟩
    have h2 := h1.bel hb2
    have ob2 : Beside b w w2 := ob1.trans (Beside.of_below hb2)
    clear h1 ob1 hb2
    obtain ⟨c0, f0⟩ := h2.one 0 rfl
    obtain ⟨c1, f1⟩ := h2.one 1 rfl
    obtain ⟨c2, f2⟩ := h2.one 2 rfl
    obtain ⟨c3, f3⟩ := h2.one 3 rfl
    go_wp2
    go_ret
    exact ⟨rfl, (((HB.mk h2 ob2).set 2 (.int .i64 (M - H)) (by simp [hyC])).set 3 (.bool true) (by simp [hyC])).fin rfl rfl rfl rfl⟩
  · have w1' : IntKind.i64.wrap (M - H) = M - H := IntWalk.i64_in _ ⟨by omega, by omega⟩
    generalize hd : M - H = d at *
    have bd1 : -200000000 ≤ d := by omega
    have bd2 : d ≤ 200000000 := by omega
    by_cases hf : gt < d - off ∨ gt < off - d
    · rw [show hyE gt off true d = 2 by unfold hyE hyF; rw [if_pos (by simpa using hf)], show hyO gt st off true d = off by unfold hyO hyF; rw [if_pos rfl, if_pos (by simpa using hf)]]
      obtain ⟨c0, f0⟩ := hh.one 0 rfl
      obtain ⟨c1, f1⟩ := hh.one 1 rfl
      obtain ⟨c2, f2⟩ := hh.one 2 rfl
      obtain ⟨c3, f3⟩ := hh.one 3 rfl
      subst hd
      go_enter Try.func34, Try.ntmps34
      go_wp2_with fail
      refine (CM.out _).mono ?_
      rintro e w' ⟨rfl, rfl⟩
      go_wp2_with fail
      refine (CH.out _).mono ?_
      rintro e w' ⟨rfl, rfl⟩
      go_wp2_with fail
      refine (hget_any _ _ _).mono ?_
      rintro e w1 ⟨rfl, hb1⟩
      have h1 := hh.bel hb1
      have ob1 : Beside b w w1 := Beside.of_below hb1
      clear c0 c1 c2 c3 f0 f1 f2 f3 hh hb1
      obtain ⟨c0, f0⟩ := h1.one 0 rfl
      obtain ⟨c1, f1⟩ := h1.one 1 rfl
      obtain ⟨c2, f2⟩ := h1.one 2 rfl
      obtain ⟨c3, f3⟩ := h1.one 3 rfl
      go_wp2
      all_goals first | (exfalso; omega) | skip
      all_goals
        go_ret
        exact ⟨rfl, (HB.mk h1 ob1).fin rfl rfl rfl rfl⟩
    · have E0 : hyE gt off true d = 0 := by unfold hyE hyF; rw [if_neg (by simpa using hf)]
      have O0 : hyO gt st off true d = c09 d (off - st) (off + st) := by unfold hyO hyF; rw [if_pos rfl, if_neg (by simpa using hf)]
      rw [E0, O0]
      clear E0 O0
      have z1 : IntKind.i64.wrap (-st) = -st := IntWalk.i64_in _ ⟨by omega, by omega⟩
      subst hd
      rcases (show M - H - off < -st ∨ st < M - H - off ∨ (-st ≤ M - H - off ∧ M - H - off ≤ st) by omega) with hc | hc | ⟨hc, hc2⟩
      · rw [show c09 (M - H) (off - st) (off + st) = off + -st by unfold c09; omega]
        have z2 : IntKind.i64.wrap (off + -st) = off + -st := IntWalk.i64_in _ ⟨by omega, by omega⟩
        obtain ⟨c0, f0⟩ := hh.one 0 rfl
        obtain ⟨c1, f1⟩ := hh.one 1 rfl
        obtain ⟨c2, f2⟩ := hh.one 2 rfl
        obtain ⟨c3, f3⟩ := hh.one 3 rfl
        go_enter Try.func34, Try.ntmps34
        go_wp2_with fail
        refine (CM.out _).mono ?_
        rintro e w' ⟨rfl, rfl⟩
        go_wp2_with fail
        refine (CH.out _).mono ?_
        rintro e w' ⟨rfl, rfl⟩
        go_wp2_with fail
        refine (hget_any _ _ _).mono ?_
        rintro e w1 ⟨rfl, hb1⟩
        have h1 := hh.bel hb1
        have ob1 : Beside b w w1 := Beside.of_below hb1
        clear c0 c1 c2 c3 f0 f1 f2 f3 hh hb1
        obtain ⟨c0, f0⟩ := h1.one 0 rfl
        obtain ⟨c1, f1⟩ := h1.one 1 rfl
        obtain ⟨c2, f2⟩ := h1.one 2 rfl
        obtain ⟨c3, f3⟩ := h1.one 3 rfl
        go_wp2_with fail
        all_goals first | (exfalso; omega) | skip
        all_goals
          refine region_moves (fun u => u.cell? ⟨b, 1, none⟩ = some (.int .i64 st)) [(18, [(17, 18), (15, 18), (0, 18), (1, 18), (2, 18), (3, 18), (4, 18), (5, 18), (6, 18), (7, 18), (8, 18), (9, 18), (10, 18), (11, 18), (12, 18), (13, 18), (14, 18), (16, 17)])] [(.free, 0), (.free, 1), (.free, 2), (.free, 3), (.free, 4), (.free, 5), (.take, 6), (.free, 7), (.free, 8), (.free, 9), (.free, 10), (.free, 11), (.take, 12), (.free, 13), (.free, 14), (.step, 15), (.free, 16), (.free, 17), (.late, 18)] _ (by kernel_rfl) (by kernel_rfl) (by kernel_rfl) (by kernel_rfl) (by decide) rfl (fun _ _ _ _ _ h => h) ?_
          simp only [List.filterMap_cons, List.filterMap_nil, List.getElem?_toArray, List.getElem?_cons_zero, List.getElem?_cons_succ, Option.map_some]
          iterate 6
            first
              | (refine mv_free ?_ (Or.inl ⟨by rfl, ?_⟩) (c1) ?_
                 rotate_left 1
                 · intro u
                   go_simp
                   try simp only [d1]
                   try simp only [d2]
                   try simp only [d3]
                   try with_reducible rfl
                 simp only [Act.put, List.setIfInBounds_toArray, List.set_cons_zero, List.set_cons_succ])
              | (refine mv_free _ (Or.inr ⟨by rfl, rfl⟩) (c1) ?_
                 simp only [Act.put, List.setIfInBounds_toArray, List.set_cons_zero, List.set_cons_succ])
          iterate 1
            first
              | (refine mv_take ?_ (Or.inl ⟨by rfl, ?_⟩) (c1) ?_
                 rotate_left 1
                 · intro u hu
                   (try dsimp only at hu)
                   go_simp
                   try with_reducible rfl
                 simp only [Act.put, List.setIfInBounds_toArray, List.set_cons_zero, List.set_cons_succ])
              | (refine mv_take _ (Or.inr ⟨by rfl, rfl⟩) (c1) ?_
                 simp only [Act.put, List.setIfInBounds_toArray, List.set_cons_zero, List.set_cons_succ])
          iterate 5
            first
              | (refine mv_free ?_ (Or.inl ⟨by rfl, ?_⟩) (c1) ?_
                 rotate_left 1
                 · intro u
                   go_simp
                   try simp only [d1]
                   try simp only [d2]
                   try simp only [d3]
                   try with_reducible rfl
                 simp only [Act.put, List.setIfInBounds_toArray, List.set_cons_zero, List.set_cons_succ])
              | (refine mv_free _ (Or.inr ⟨by rfl, rfl⟩) (c1) ?_
                 simp only [Act.put, List.setIfInBounds_toArray, List.set_cons_zero, List.set_cons_succ])
          iterate 1
            first
              | (refine mv_take ?_ (Or.inl ⟨by rfl, ?_⟩) (c1) ?_
                 rotate_left 1
                 · intro u hu
                   (try dsimp only at hu)
                   go_simp
                   try with_reducible rfl
                 simp only [Act.put, List.setIfInBounds_toArray, List.set_cons_zero, List.set_cons_succ])
              | (refine mv_take _ (Or.inr ⟨by rfl, rfl⟩) (c1) ?_
                 simp only [Act.put, List.setIfInBounds_toArray, List.set_cons_zero, List.set_cons_succ])
          iterate 2
            first
              | (refine mv_free ?_ (Or.inl ⟨by rfl, ?_⟩) (c1) ?_
                 rotate_left 1
                 · intro u
                   go_simp
                   try simp only [d1]
                   try simp only [d2]
                   try simp only [d3]
                   try with_reducible rfl
                 simp only [Act.put, List.setIfInBounds_toArray, List.set_cons_zero, List.set_cons_succ])
              | (refine mv_free _ (Or.inr ⟨by rfl, rfl⟩) (c1) ?_
                 simp only [Act.put, List.setIfInBounds_toArray, List.set_cons_zero, List.set_cons_succ])
          refine mv_step (fun K hK => ?_)
          go_simp
          refine (hof_any _ _).mono ?_
          rintro e w2 ⟨rfl, hb2⟩
          have h2 := h1.drew.bel hb2
          have ob2 : Beside b w w2 := (ob1.trans (Beside.of_below (Below.refl _ _).drew)).trans (Beside.of_below hb2)
          clear c0 c1 c2 c3 f0 f1 f2 f3
          obtain ⟨c0, f0⟩ := h2.one 0 rfl
          obtain ⟨c1, f1⟩ := h2.one 1 rfl
          obtain ⟨c2, f2⟩ := h2.one 2 rfl
          obtain ⟨c3, f3⟩ := h2.one 3 rfl
          go_wp2_with fail
          refine hK.out _ _ _ (fun u hu => hu) (c1) ?_
          clear hK K
          iterate 2
            first
              | (refine mv_free ?_ (Or.inl ⟨by rfl, ?_⟩) (c1) ?_
                 rotate_left 1
                 · intro u
                   go_simp
                   try simp only [d1]
                   try simp only [d2]
                   try simp only [d3]
                   try with_reducible rfl
                 simp only [Act.put, List.setIfInBounds_toArray, List.set_cons_zero, List.set_cons_succ])
              | (refine mv_free _ (Or.inr ⟨by rfl, rfl⟩) (c1) ?_
                 simp only [Act.put, List.setIfInBounds_toArray, List.set_cons_zero, List.set_cons_succ])
          refine mv_late (fun K hK => ?_)
          go_simp
          refine hK.out (fun _ => True) _ _ ?_
          clear hK K
          refine mv_done ?_
          go_wp2
          go_ret
          exact ⟨rfl, (((HB.mk h2 ob2).set 2 (.int .i64 (off + -st)) (by simp [hyC])).set 3 (.bool true) (by simp [hyC])).fin rfl rfl rfl rfl⟩
      · rw [show c09 (M - H) (off - st) (off + st) = off + st by unfold c09; omega]
        have z2 : IntKind.i64.wrap (off + st) = off + st := IntWalk.i64_in _ ⟨by omega, by omega⟩
        obtain ⟨c0, f0⟩ := hh.one 0 rfl
        obtain ⟨c1, f1⟩ := hh.one 1 rfl
        obtain ⟨c2, f2⟩ := hh.one 2 rfl
        obtain ⟨c3, f3⟩ := hh.one 3 rfl
        go_enter Try.func34, Try.ntmps34
        go_wp2_with fail
        refine (CM.out _).mono ?_
        rintro e w' ⟨rfl, rfl⟩
        go_wp2_with fail
        refine (CH.out _).mono ?_
        rintro e w' ⟨rfl, rfl⟩
        go_wp2_with fail
        refine (hget_any _ _ _).mono ?_
        rintro e w1 ⟨rfl, hb1⟩
        have h1 := hh.bel hb1
        have ob1 : Beside b w w1 := Beside.of_below hb1
        clear c0 c1 c2 c3 f0 f1 f2 f3 hh hb1
        obtain ⟨c0, f0⟩ := h1.one 0 rfl
        obtain ⟨c1, f1⟩ := h1.one 1 rfl
        obtain ⟨c2, f2⟩ := h1.one 2 rfl
        obtain ⟨c3, f3⟩ := h1.one 3 rfl
        go_wp2_with fail
        all_goals first | (exfalso; omega) | skip
        all_goals
          refine region_moves (fun u => u.cell? ⟨b, 1, none⟩ = some (.int .i64 st)) [(18, [(17, 18), (15, 18), (0, 18), (1, 18), (2, 18), (3, 18), (4, 18), (5, 18), (6, 18), (7, 18), (8, 18), (9, 18), (10, 18), (11, 18), (12, 18), (13, 18), (14, 18), (16, 17)])] [(.free, 0), (.free, 1), (.free, 2), (.free, 3), (.free, 4), (.free, 5), (.take, 6), (.free, 7), (.free, 8), (.free, 9), (.free, 10), (.free, 11), (.take, 12), (.free, 13), (.free, 14), (.step, 15), (.free, 16), (.free, 17), (.late, 18)] _ (by kernel_rfl) (by kernel_rfl) (by kernel_rfl) (by kernel_rfl) (by decide) rfl (fun _ _ _ _ _ h => h) ?_
          simp only [List.filterMap_cons, List.filterMap_nil, List.getElem?_toArray, List.getElem?_cons_zero, List.getElem?_cons_succ, Option.map_some]
          iterate 6
            first
              | (refine mv_free ?_ (Or.inl ⟨by rfl, ?_⟩) (c1) ?_
                 rotate_left 1
                 · intro u
                   go_simp
                   try simp only [d1]
                   try simp only [d2]
                   try simp only [d3]
                   try with_reducible rfl
                 simp only [Act.put, List.setIfInBounds_toArray, List.set_cons_zero, List.set_cons_succ])
              | (refine mv_free _ (Or.inr ⟨by rfl, rfl⟩) (c1) ?_
                 simp only [Act.put, List.setIfInBounds_toArray, List.set_cons_zero, List.set_cons_succ])
          iterate 1
            first
              | (refine mv_take ?_ (Or.inl ⟨by rfl, ?_⟩) (c1) ?_
                 rotate_left 1
                 · intro u hu
                   (try dsimp only at hu)
                   go_simp
                   try with_reducible rfl
                 simp only [Act.put, List.setIfInBounds_toArray, List.set_cons_zero, List.set_cons_succ])
              | (refine mv_take _ (Or.inr ⟨by rfl, rfl⟩) (c1) ?_
                 simp only [Act.put, List.setIfInBounds_toArray, List.set_cons_zero, List.set_cons_succ])
          iterate 5
            first
              | (refine mv_free ?_ (Or.inl ⟨by rfl, ?_⟩) (c1) ?_
                 rotate_left 1
                 · intro u
                   go_simp
                   try simp only [d1]
                   try simp only [d2]
                   try simp only [d3]
                   try with_reducible rfl
                 simp only [Act.put, List.setIfInBounds_toArray, List.set_cons_zero, List.set_cons_succ])
              | (refine mv_free _ (Or.inr ⟨by rfl, rfl⟩) (c1) ?_
                 simp only [Act.put, List.setIfInBounds_toArray, List.set_cons_zero, List.set_cons_succ])
          iterate 1
            first
              | (refine mv_take ?_ (Or.inl ⟨by rfl, ?_⟩) (c1) ?_
                 rotate_left 1
                 · intro u hu
                   (try dsimp only at hu)
                   go_simp
                   try with_reducible rfl
                 simp only [Act.put, List.setIfInBounds_toArray, List.set_cons_zero, List.set_cons_succ])
              | (refine mv_take _ (Or.inr ⟨by rfl, rfl⟩) (c1) ?_
                 simp only [Act.put, List.setIfInBounds_toArray, List.set_cons_zero, List.set_cons_succ])
          iterate 2
            first
              | (refine mv_free ?_ (Or.inl ⟨by rfl, ?_⟩) (c1) ?_
                 rotate_left 1
                 · intro u
                   go_simp
                   try simp only [d1]
                   try simp only [d2]
                   try simp only [d3]
                   try with_reducible rfl
                 simp only [Act.put, List.setIfInBounds_toArray, List.set_cons_zero, List.set_cons_succ])
              | (refine mv_free _ (Or.inr ⟨by rfl, rfl⟩) (c1) ?_
                 simp only [Act.put, List.setIfInBounds_toArray, List.set_cons_zero, List.set_cons_succ])
          refine mv_step (fun K hK => ?_)
          go_simp
          refine (hof_any _ _).mono ?_
          rintro e w2 ⟨rfl, hb2⟩
          have h2 := h1.drew.bel hb2
          have ob2 : Beside b w w2 := (ob1.trans (Beside.of_below (Below.refl _ _).drew)).trans (Beside.of_below hb2)
          clear c0 c1 c2 c3 f0 f1 f2 f3
          obtain ⟨c0, f0⟩ := h2.one 0 rfl
          obtain ⟨c1, f1⟩ := h2.one 1 rfl
          obtain ⟨c2, f2⟩ := h2.one 2 rfl
          obtain ⟨c3, f3⟩ := h2.one 3 rfl
          go_wp2_with fail
          refine hK.out _ _ _ (fun u hu => hu) (c1) ?_
          clear hK K
          iterate 2
            first
              | (refine mv_free ?_ (Or.inl ⟨by rfl, ?_⟩) (c1) ?_
                 rotate_left 1
                 · intro u
                   go_simp
                   try simp only [d1]
                   try simp only [d2]
                   try simp only [d3]
                   try with_reducible rfl
                 simp only [Act.put, List.setIfInBounds_toArray, List.set_cons_zero, List.set_cons_succ])
              | (refine mv_free _ (Or.inr ⟨by rfl, rfl⟩) (c1) ?_
                 simp only [Act.put, List.setIfInBounds_toArray, List.set_cons_zero, List.set_cons_succ])
          refine mv_late (fun K hK => ?_)
          go_simp
          refine hK.out (fun _ => True) _ _ ?_
          clear hK K
          refine mv_done ?_
          go_wp2
          go_ret
          exact ⟨rfl, (((HB.mk h2 ob2).set 2 (.int .i64 (off + st)) (by simp [hyC])).set 3 (.bool true) (by simp [hyC])).fin rfl rfl rfl rfl⟩
      · rw [show c09 (M - H) (off - st) (off + st) = off + (M - H - off) by unfold c09; omega]
        have z2 : IntKind.i64.wrap (off + (M - H - off)) = off + (M - H - off) := IntWalk.i64_in _ ⟨by omega, by omega⟩
        obtain ⟨c0, f0⟩ := hh.one 0 rfl
        obtain ⟨c1, f1⟩ := hh.one 1 rfl
        obtain ⟨c2, f2⟩ := hh.one 2 rfl
        obtain ⟨c3, f3⟩ := hh.one 3 rfl
        go_enter Try.func34, Try.ntmps34
        go_wp2_with fail
        refine (CM.out _).mono ?_
        rintro e w' ⟨rfl, rfl⟩
        go_wp2_with fail
        refine (CH.out _).mono ?_
        rintro e w' ⟨rfl, rfl⟩
        go_wp2_with fail
        refine (hget_any _ _ _).mono ?_
        rintro e w1 ⟨rfl, hb1⟩
        have h1 := hh.bel hb1
        have ob1 : Beside b w w1 := Beside.of_below hb1
        clear c0 c1 c2 c3 f0 f1 f2 f3 hh hb1
        obtain ⟨c0, f0⟩ := h1.one 0 rfl
        obtain ⟨c1, f1⟩ := h1.one 1 rfl
        obtain ⟨c2, f2⟩ := h1.one 2 rfl
        obtain ⟨c3, f3⟩ := h1.one 3 rfl
        go_wp2_with fail
        all_goals first | (exfalso; omega) | skip
        all_goals
          refine region_moves (fun u => u.cell? ⟨b, 1, none⟩ = some (.int .i64 st)) [(18, [(17, 18), (15, 18), (0, 18), (1, 18), (2, 18), (3, 18), (4, 18), (5, 18), (6, 18), (7, 18), (8, 18), (9, 18), (10, 18), (11, 18), (12, 18), (13, 18), (14, 18), (16, 17)])] [(.free, 0), (.free, 1), (.free, 2), (.free, 3), (.free, 4), (.free, 5), (.take, 6), (.free, 7), (.free, 8), (.free, 9), (.free, 10), (.free, 11), (.take, 12), (.free, 13), (.free, 14), (.step, 15), (.free, 16), (.free, 17), (.late, 18)] _ (by kernel_rfl) (by kernel_rfl) (by kernel_rfl) (by kernel_rfl) (by decide) rfl (fun _ _ _ _ _ h => h) ?_
          simp only [List.filterMap_cons, List.filterMap_nil, List.getElem?_toArray, List.getElem?_cons_zero, List.getElem?_cons_succ, Option.map_some]
          iterate 6
            first
              | (refine mv_free ?_ (Or.inl ⟨by rfl, ?_⟩) (c1) ?_
                 rotate_left 1
                 · intro u
                   go_simp
                   try simp only [d1]
                   try simp only [d2]
                   try simp only [d3]
                   try with_reducible rfl
                 simp only [Act.put, List.setIfInBounds_toArray, List.set_cons_zero, List.set_cons_succ])
              | (refine mv_free _ (Or.inr ⟨by rfl, rfl⟩) (c1) ?_
                 simp only [Act.put, List.setIfInBounds_toArray, List.set_cons_zero, List.set_cons_succ])
          iterate 1
            first
              | (refine mv_take ?_ (Or.inl ⟨by rfl, ?_⟩) (c1) ?_
                 rotate_left 1
                 · intro u hu
                   (try dsimp only at hu)
                   go_simp
                   try with_reducible rfl
                 simp only [Act.put, List.setIfInBounds_toArray, List.set_cons_zero, List.set_cons_succ])
              | (refine mv_take _ (Or.inr ⟨by rfl, rfl⟩) (c1) ?_
                 simp only [Act.put, List.setIfInBounds_toArray, List.set_cons_zero, List.set_cons_succ])
          iterate 5
            first
              | (refine mv_free ?_ (Or.inl ⟨by rfl, ?_⟩) (c1) ?_
                 rotate_left 1
                 · intro u
                   go_simp
                   try simp only [d1]
                   try simp only [d2]
                   try simp only [d3]
                   try with_reducible rfl
                 simp only [Act.put, List.setIfInBounds_toArray, List.set_cons_zero, List.set_cons_succ])
              | (refine mv_free _ (Or.inr ⟨by rfl, rfl⟩) (c1) ?_
                 simp only [Act.put, List.setIfInBounds_toArray, List.set_cons_zero, List.set_cons_succ])
          iterate 1
            first
              | (refine mv_take ?_ (Or.inl ⟨by rfl, ?_⟩) (c1) ?_
                 rotate_left 1
                 · intro u hu
                   (try dsimp only at hu)
                   go_simp
                   try with_reducible rfl
                 simp only [Act.put, List.setIfInBounds_toArray, List.set_cons_zero, List.set_cons_succ])
              | (refine mv_take _ (Or.inr ⟨by rfl, rfl⟩) (c1) ?_
                 simp only [Act.put, List.setIfInBounds_toArray, List.set_cons_zero, List.set_cons_succ])
          iterate 2
            first
              | (refine mv_free ?_ (Or.inl ⟨by rfl, ?_⟩) (c1) ?_
                 rotate_left 1
                 · intro u
                   go_simp
                   try simp only [d1]
                   try simp only [d2]
                   try simp only [d3]
                   try with_reducible rfl
                 simp only [Act.put, List.setIfInBounds_toArray, List.set_cons_zero, List.set_cons_succ])
              | (refine mv_free _ (Or.inr ⟨by rfl, rfl⟩) (c1) ?_
                 simp only [Act.put, List.setIfInBounds_toArray, List.set_cons_zero, List.set_cons_succ])
          refine mv_step (fun K hK => ?_)
          go_simp
          refine (hof_any _ _).mono ?_
          rintro e w2 ⟨rfl, hb2⟩
          have h2 := h1.drew.bel hb2
          have ob2 : Beside b w w2 := (ob1.trans (Beside.of_below (Below.refl _ _).drew)).trans (Beside.of_below hb2)
          clear c0 c1 c2 c3 f0 f1 f2 f3
          obtain ⟨c0, f0⟩ := h2.one 0 rfl
          obtain ⟨c1, f1⟩ := h2.one 1 rfl
          obtain ⟨c2, f2⟩ := h2.one 2 rfl
          obtain ⟨c3, f3⟩ := h2.one 3 rfl
          go_wp2_with fail
          refine hK.out _ _ _ (fun u hu => hu) (c1) ?_
          clear hK K
          iterate 2
            first
              | (refine mv_free ?_ (Or.inl ⟨by rfl, ?_⟩) (c1) ?_
                 rotate_left 1
                 · intro u
                   go_simp
                   try simp only [d1]
                   try simp only [d2]
                   try simp only [d3]
                   try with_reducible rfl
                 simp only [Act.put, List.setIfInBounds_toArray, List.set_cons_zero, List.set_cons_succ])
              | (refine mv_free _ (Or.inr ⟨by rfl, rfl⟩) (c1) ?_
                 simp only [Act.put, List.setIfInBounds_toArray, List.set_cons_zero, List.set_cons_succ])
          refine mv_late (fun K hK => ?_)
          go_simp
          refine hK.out (fun _ => True) _ _ ?_
          clear hK K
          refine mv_done ?_
          go_wp2
          go_ret
          exact ⟨rfl, (((HB.mk h2 ob2).set 2 (.int .i64 (off + (M - H - off))) (by simp [hyC])).set 3 (.bool true) (by simp [hyC])).fin rfl rfl rfl rfl⟩
end Go.Proofs.Ytlgiefdhjhijaaa
