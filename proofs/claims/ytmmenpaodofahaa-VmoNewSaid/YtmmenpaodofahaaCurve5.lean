/- Library functions over rows of int64: IsSorted, Min, Max, Clone; walked. -/
import Derived.Test.YtmmenpaodofahaaCurve0
import Derived.Deep.AppendLies
import Derived.Lib.Walk
import Derived.Lib.SliceRun
namespace Go.Proofs.Ytmmenpaodofahaa
open Go.ChangeShapes Go.WideShapes Go.ChangeAt Go.RowKit
set_option linter.unusedVariables false
set_option linter.unusedSimpArgs false

set_option maxHeartbeats 1000000 in
theorem cisnan_any (a : Int) (w : World) : Calls Try.prog 125 #[.int .i64 a] w fun e w' => e = .returned (.bool false) ∧ w = w' := by
  have h : (a != a) = false := by simp
  go_enter Try.func125, Try.ntmps125
  go_wp2
  go_ret
  exact ⟨rfl, rfl⟩
set_option maxHeartbeats 1000000 in
theorem cless_any (a b : Int) (w : World) : Calls Try.prog 103 #[.int .i64 a, .int .i64 b] w fun e w' => e = .returned (.bool (decide (a < b))) ∧ w = w' := by
  obtain ⟨d, hd⟩ : ∃ d, d = decide (a < b) := ⟨_, rfl⟩
  replace hd := Lib.hid hd
  go_enter Try.func103, Try.ntmps103
  go_wp2_with (first | (go_at_call 125; refine (cisnan_any _ _).mono ?_; rintro e w1 ⟨rfl, rfl⟩))
  all_goals
    go_ret
    refine ⟨ret_bool ?_, rfl⟩
    first | rfl | simp_all | (simp; omega)

set_option maxRecDepth 100000 in
set_option maxHeartbeats 4000000 in
theorem csorted_any (a : Option Addr) (cap : Nat) (l : List Int) (w : World) (hr : RowIs .i64 w a l) (hL : l.length ≤ 300) (h0 : 1 ≤ l.length) :
    Calls Try.prog 73 #[.slice a l.length cap] w fun e w' => e = .returned (.bool (ndB l)) ∧ Below w.heap.size w w' := by
  have HR := Lib.hid hr
  clear hr
  have hw0 : IntKind.i64.wrap ((l.length : Int) - 1) = (l.length : Int) - 1 := IntWalk.i64_in _ ⟨by omega, by omega⟩
  have CL := Lib.hid (fun x y u => cless_any x y u)
  have hL1 := Lib.hid h0
  go_enter Try.func73, Try.ntmps73
  go_wp2
  go_loopw [3] (fun i v => ∃ j : Nat, j + 1 ≤ l.length ∧ i = .int .i64 (j : Int) ∧ Below w.heap.size w v ∧ Hid (∀ i, j < i → i < l.length → l.getD (i - 1) 0 ≤ l.getD i 0)) (fun i _ => (intOf i).toNat)
  case atStart => exact ⟨l.length - 1, by omega, by go_num, Below.refl _ _, Lib.hid (fun i a b => by omega)⟩
  case round =>
    obtain ⟨j, hj, rfl, hb, hU⟩ := hrel
    by_cases hlt : 0 < j
    · obtain ⟨i, rfl⟩ : ∃ i, j = i + 1 := ⟨j - 1, by omega⟩
      obtain ⟨b, off, ea, hblk, h1⟩ := (HR.out.below hb).at (show i + 1 < l.length by omega)
      obtain ⟨b', off', ea', hblk', h2⟩ := (HR.out.below hb).at (show i < l.length by omega)
      rw [ea] at ea'
      injection ea' with ea'
      injection ea' with e1 e2
      subst e1 e2
      replace ea := Lib.hid ea
      have hlt1 : (i : Int) + 1 < (l.length : Int) := by omega
      have hlt2 : (i : Int) < (l.length : Int) := by omega
      have hlt0 : 0 ≤ (i : Int) + 1 := by omega
      have hlt3 : 0 < (i : Int) + 1 := by omega
      have et : ((i : Int) + 1).toNat = i + 1 := by omega
      have ec : ((i + 1 : Nat) : Int) = (i : Int) + 1 := by omega
      have hw1 : IntKind.i64.wrap (i : Int) = (i : Int) := IntWalk.i64_in _ ⟨by omega, by omega⟩
      have hw2 : 0 ≤ (i : Int) := by omega
      have HS := Lib.hid (fun (h : l.getD i 0 ≤ l.getD (i + 1) 0) t (a : i < t) (b : t < l.length) => show l.getD (t - 1) 0 ≤ l.getD t 0 from by
        by_cases e : t = i + 1
        · subst e; exact h
        · exact hU.out t (by omega) b)
      have HF := Lib.hid (fun (h : l.getD (i + 1) 0 < l.getD i 0) => show ndB l = false from decide_eq_false (fun hh => by
        have := hh (i + 1) (by omega) (by omega)
        rw [show i + 1 - 1 = i by omega] at this
        omega))
      generalize l.getD (i + 1) 0 = p at *
      generalize l.getD i 0 = q at *
      have EA := ea.out
      subst EA
      rw [ec]
      have CL1 := CL.out p q
      by_cases hpq : p < q
      · rw [decide_eq_true hpq] at CL1
        replace CL1 := Lib.hid CL1
        have hf := Lib.hid (HF.out hpq)
        go_wp2_with fail
        refine region_still [] [(.free, 0), (.free, 1), (.free, 2), (.take, 3), (.free, 4), (.free, 5), (.free, 6), (.free, 7), (.take, 8), (.step, 9)] _ (by kernel_rfl) (by kernel_rfl) (by kernel_rfl) (by kernel_rfl) (by decide) rfl (fun _ _ _ _ _ h => h) ?_
        simp only [List.filterMap_cons, List.filterMap_nil, List.getElem?_toArray, List.getElem?_cons_zero, List.getElem?_cons_succ, Option.map_some]
        iterate 3
          first
            | (refine mv_free ?_ (Or.inl ⟨by rfl, ?_⟩) (rfl) ?_
               rotate_left 1
               · intro u
                 go_simp
                 try with_reducible rfl
               simp only [Act.put, List.setIfInBounds_toArray, List.set_cons_zero, List.set_cons_succ])
            | (refine mv_free _ (Or.inr ⟨by rfl, rfl⟩) (rfl) ?_
               simp only [Act.put, List.setIfInBounds_toArray, List.set_cons_zero, List.set_cons_succ])
        iterate 1
          first
            | (refine mv_take ?_ (Or.inl ⟨by rfl, ?_⟩) (rfl) ?_
               rotate_left 1
               · intro u hu
                 (try dsimp only at hu)
                 go_simp
                 try with_reducible rfl
               simp only [Act.put, List.setIfInBounds_toArray, List.set_cons_zero, List.set_cons_succ])
            | (refine mv_take _ (Or.inr ⟨by rfl, rfl⟩) (rfl) ?_
               simp only [Act.put, List.setIfInBounds_toArray, List.set_cons_zero, List.set_cons_succ])
        iterate 4
          first
            | (refine mv_free ?_ (Or.inl ⟨by rfl, ?_⟩) (rfl) ?_
               rotate_left 1
               · intro u
                 go_simp
                 try with_reducible rfl
               simp only [Act.put, List.setIfInBounds_toArray, List.set_cons_zero, List.set_cons_succ])
            | (refine mv_free _ (Or.inr ⟨by rfl, rfl⟩) (rfl) ?_
               simp only [Act.put, List.setIfInBounds_toArray, List.set_cons_zero, List.set_cons_succ])
        iterate 1
          first
            | (refine mv_take ?_ (Or.inl ⟨by rfl, ?_⟩) (rfl) ?_
               rotate_left 1
               · intro u hu
                 (try dsimp only at hu)
                 go_simp
                 try with_reducible rfl
               simp only [Act.put, List.setIfInBounds_toArray, List.set_cons_zero, List.set_cons_succ])
            | (refine mv_take _ (Or.inr ⟨by rfl, rfl⟩) (rfl) ?_
               simp only [Act.put, List.setIfInBounds_toArray, List.set_cons_zero, List.set_cons_succ])
        refine mv_step (fun K hK => ?_)
        go_simp
        refine (CL1.out _).mono ?_
        rintro e w2 ⟨rfl, rfl⟩
        go_wp2_with fail
        refine hK.out _ _ _ (fun u hu => hu) (rfl) ?_
        clear hK K
        refine mv_done ?_
        go_wp2
        go_ret
        exact ⟨ret_bool hf.out.symm, by first | exact hb.drew | exact hb | exact hb.drew.drew⟩
      · rw [decide_eq_false hpq] at CL1
        replace CL1 := Lib.hid CL1
        have st := Lib.hid (HS.out (by omega))
        go_wp2_with fail
        refine region_still [] [(.free, 0), (.free, 1), (.free, 2), (.take, 3), (.free, 4), (.free, 5), (.free, 6), (.free, 7), (.take, 8), (.step, 9)] _ (by kernel_rfl) (by kernel_rfl) (by kernel_rfl) (by kernel_rfl) (by decide) rfl (fun _ _ _ _ _ h => h) ?_
        simp only [List.filterMap_cons, List.filterMap_nil, List.getElem?_toArray, List.getElem?_cons_zero, List.getElem?_cons_succ, Option.map_some]
        iterate 3
          first
            | (refine mv_free ?_ (Or.inl ⟨by rfl, ?_⟩) (rfl) ?_
               rotate_left 1
               · intro u
                 go_simp
                 try with_reducible rfl
               simp only [Act.put, List.setIfInBounds_toArray, List.set_cons_zero, List.set_cons_succ])
            | (refine mv_free _ (Or.inr ⟨by rfl, rfl⟩) (rfl) ?_
               simp only [Act.put, List.setIfInBounds_toArray, List.set_cons_zero, List.set_cons_succ])
        iterate 1
          first
            | (refine mv_take ?_ (Or.inl ⟨by rfl, ?_⟩) (rfl) ?_
               rotate_left 1
               · intro u hu
                 (try dsimp only at hu)
                 go_simp
                 try with_reducible rfl
               simp only [Act.put, List.setIfInBounds_toArray, List.set_cons_zero, List.set_cons_succ])
            | (refine mv_take _ (Or.inr ⟨by rfl, rfl⟩) (rfl) ?_
               simp only [Act.put, List.setIfInBounds_toArray, List.set_cons_zero, List.set_cons_succ])
        iterate 4
          first
            | (refine mv_free ?_ (Or.inl ⟨by rfl, ?_⟩) (rfl) ?_
               rotate_left 1
               · intro u
                 go_simp
                 try with_reducible rfl
               simp only [Act.put, List.setIfInBounds_toArray, List.set_cons_zero, List.set_cons_succ])
            | (refine mv_free _ (Or.inr ⟨by rfl, rfl⟩) (rfl) ?_
               simp only [Act.put, List.setIfInBounds_toArray, List.set_cons_zero, List.set_cons_succ])
        iterate 1
          first
            | (refine mv_take ?_ (Or.inl ⟨by rfl, ?_⟩) (rfl) ?_
               rotate_left 1
               · intro u hu
                 (try dsimp only at hu)
                 go_simp
                 try with_reducible rfl
               simp only [Act.put, List.setIfInBounds_toArray, List.set_cons_zero, List.set_cons_succ])
            | (refine mv_take _ (Or.inr ⟨by rfl, rfl⟩) (rfl) ?_
               simp only [Act.put, List.setIfInBounds_toArray, List.set_cons_zero, List.set_cons_succ])
        refine mv_step (fun K hK => ?_)
        go_simp
        refine (CL1.out _).mono ?_
        rintro e w2 ⟨rfl, rfl⟩
        go_wp2_with fail
        refine hK.out _ _ _ (fun u hu => hu) (rfl) ?_
        clear hK K
        refine mv_done ?_
        go_wp2
        go_roundw
        case rel => exact ⟨i, by omega, by go_num, by first | exact hb.drew | exact hb | exact hb.drew.drew, st⟩
        case measure => simp [intOf]
    · obtain rfl : j = 0 := by omega
      have hf := Lib.hid (show ndB l = true from decide_eq_true (fun i a b => hU.out i (by omega) a))
      go_wp2
      go_ret
      exact ⟨ret_bool hf.out.symm, hb⟩

set_option maxRecDepth 100000 in
set_option maxHeartbeats 4000000 in
theorem cmin_any (a : Option Addr) (cap : Nat) (l : List Int) (w : World) (hr : RowIs .i64 w a l) (hL : l.length ≤ 300) (h0 : 1 ≤ l.length) :
    Calls Try.prog 71 #[.slice a l.length cap] w fun e w' => e = .returned (.int .i64 (mnP l l.length)) ∧ Below w.heap.size w w' := by
  have HR := Lib.hid hr
  obtain ⟨b0, o0, rfl, hblk, h1⟩ := hr.at (show 0 < l.length by omega)
  have m1 : (1 : Int) ≤ (l.length : Int) := by omega
  have m0 : (0 : Int) < (l.length : Int) := by omega
  have hm1 : mnP l 1 = l.getD 0 0 := by show min (l.getD 0 0) (l.getD 0 0) = _; omega
  rw [Nat.add_zero] at h1
  have HM := Lib.hid hm1
  clear hr hm1
  have h0' := Lib.hid h0
  clear h0
  generalize l.getD 0 0 = p0 at *
  go_enter Try.func71, Try.ntmps71
  go_wp2
  go_loopw [3, 4] (fun m i v => ∃ j : Nat, j + 1 ≤ l.length ∧ m = .int .i64 (mnP l (j + 1)) ∧ i = .int .i64 ((j : Int) + 1) ∧ Below w.heap.size w v) (fun m i _ => l.length - (intOf i).toNat)
  case atStart => exact ⟨0, h0'.out, by rw [HM.out], rfl, Below.refl _ _⟩
  case round =>
    obtain ⟨j, hj, rfl, rfl, hb⟩ := hrel
    by_cases hlt : j + 1 < l.length
    · obtain ⟨b, off, ea, hblk', h2⟩ := (HR.out.below hb).at hlt
      injection ea with ea
      injection ea with e1 e2
      subst e1 e2
      have hlt1 : (j : Int) + 1 < (l.length : Int) := by omega
      have hlt0 : 0 ≤ (j : Int) + 1 := by omega
      have et : ((j : Int) + 1).toNat = j + 1 := by omega
      generalize hp : mnP l (j + 1) = p at *
      generalize hq : l.getD (j + 1) 0 = q at *
      replace hp := Lib.hid hp
      replace hq := Lib.hid hq
      go_wp2
      go_roundw
      case rel => exact ⟨j + 1, by omega, by show Value.int _ _ = Value.int _ (min (mnP l (j + 1)) (l.getD (j + 1) 0)); rw [hp.out, hq.out], by go_num, hb⟩
      case measure => simp [intOf]; omega
    · have hge : (l.length : Int) ≤ (j : Int) + 1 := by omega
      have e : j + 1 = l.length := by omega
      rw [e]
      replace e := 0
      go_wp2
      go_ret
      exact ⟨rfl, hb⟩
set_option maxRecDepth 100000 in
set_option maxHeartbeats 4000000 in
theorem cmax_any (a : Option Addr) (cap : Nat) (l : List Int) (w : World) (hr : RowIs .i64 w a l) (hL : l.length ≤ 300) (h0 : 1 ≤ l.length) :
    Calls Try.prog 72 #[.slice a l.length cap] w fun e w' => e = .returned (.int .i64 (mxP l l.length)) ∧ Below w.heap.size w w' := by
  have HR := Lib.hid hr
  obtain ⟨b0, o0, rfl, hblk, h1⟩ := hr.at (show 0 < l.length by omega)
  have m1 : (1 : Int) ≤ (l.length : Int) := by omega
  have m0 : (0 : Int) < (l.length : Int) := by omega
  have hm1 : mxP l 1 = l.getD 0 0 := by show max (l.getD 0 0) (l.getD 0 0) = _; omega
  rw [Nat.add_zero] at h1
  have HM := Lib.hid hm1
  clear hr hm1
  have h0' := Lib.hid h0
  clear h0
  generalize l.getD 0 0 = p0 at *
  go_enter Try.func72, Try.ntmps72
  go_wp2
  go_loopw [3, 4] (fun m i v => ∃ j : Nat, j + 1 ≤ l.length ∧ m = .int .i64 (mxP l (j + 1)) ∧ i = .int .i64 ((j : Int) + 1) ∧ Below w.heap.size w v) (fun m i _ => l.length - (intOf i).toNat)
  case atStart => exact ⟨0, h0'.out, by rw [HM.out], rfl, Below.refl _ _⟩
  case round =>
    obtain ⟨j, hj, rfl, rfl, hb⟩ := hrel
    by_cases hlt : j + 1 < l.length
    · obtain ⟨b, off, ea, hblk', h2⟩ := (HR.out.below hb).at hlt
      injection ea with ea
      injection ea with e1 e2
      subst e1 e2
      have hlt1 : (j : Int) + 1 < (l.length : Int) := by omega
      have hlt0 : 0 ≤ (j : Int) + 1 := by omega
      have et : ((j : Int) + 1).toNat = j + 1 := by omega
      generalize hp : mxP l (j + 1) = p at *
      generalize hq : l.getD (j + 1) 0 = q at *
      replace hp := Lib.hid hp
      replace hq := Lib.hid hq
      go_wp2
      go_roundw
      case rel => exact ⟨j + 1, by omega, by show Value.int _ _ = Value.int _ (max (mxP l (j + 1)) (l.getD (j + 1) 0)); rw [hp.out, hq.out], by go_num, hb⟩
      case measure => simp [intOf]; omega
    · have hge : (l.length : Int) ≤ (j : Int) + 1 := by omega
      have e : j + 1 = l.length := by omega
      rw [e]
      replace e := 0
      go_wp2
      go_ret
      exact ⟨rfl, hb⟩

theorem cinfo_i64 : (Try.prog.info? 2).map (fun i => (i.zero, i.size, i.bytes)) = some (some (.int .i64 0), 1, 8) := by kernel_rfl
def cvals (l : List Int) : List Value := l.map (Value.int .i64)
theorem cown_row {w : World} {B n : Nat} {v : Value} {l : List Int} (hn : 0 < n) (hl : l.length = n) (h : w.ownsRow B 2 1 v n (cvals l)) : ∃ g cap, v = .slice (some ⟨g, 0, none⟩) n cap ∧ RowIs .i64 w (some ⟨g, 0, none⟩) l ∧ B ≤ g := by
  rcases h.2 with ⟨_, e⟩ | ⟨g, cap, cur, e, hb, hg, hle, hm, hs, ht⟩
  · omega
  · refine ⟨g, cap, e, .inr ⟨g, 0, rfl, (Array.getElem?_eq_some_iff.1 hg).1, fun i hi => ?_⟩, hb⟩
    have h1 := h.cells (g := g) (by rw [e]; rfl) i (.int .i64 (l.getD i 0)) (by simp [cvals, hi])
    rwa [show (⟨g, 0, none⟩ : Addr).add i = ⟨g, 0 + i, none⟩ by unfold Addr.add; split <;> simp_all] at h1

set_option maxRecDepth 100000 in
set_option maxHeartbeats 4000000 in
theorem cclone_any (a : Option Addr) (cap : Nat) (l : List Int) (w : World) (hr : RowIs .i64 w a l) (hL : l.length ≤ 300) (h0 : 1 ≤ l.length) :
    Calls Try.prog 70 #[.slice a l.length cap] w fun e w' => ∃ (g c : Nat), e = .returned (.slice (some ⟨g, 0, none⟩) l.length c) ∧ RowIs .i64 w' (some ⟨g, 0, none⟩) l ∧ w.heap.size ≤ g ∧ Below w.heap.size w w' := by
  obtain ⟨i0, hi, hz0, hz1, hz2⟩ := info_parts cinfo_i64
  obtain ⟨b, off, rfl, hblk, _⟩ := hr.at (show 0 < l.length by omega)
  have HC := Lib.hid (show ∀ i, i < l.length → w.cell? ⟨b, off + i, none⟩ = some (.int .i64 (l.getD i 0)) from fun i hi => by
    obtain ⟨b', off', ea, _, hc⟩ := hr.at hi
    injection ea with ea
    injection ea with e1 e2
    subst e1 e2
    exact hc)
  have q22 : ∀ (w : World) (a : Option Addr) (n c n' c' : Nat), (binOp .eql 22 (.slice a n c) (.slice none n' c')).run Try.prog w = .ok (.bool a.isNone) w := fun w a n c n' c' => Lib.run_eql_slice_nil w _ _ a n c n' c' Try.underlying22
  replace hi := Lib.hid hi
  replace hz0 := Lib.hid hz0
  replace hz1 := Lib.hid hz1
  replace hz2 := Lib.hid hz2
  replace h0 := Lib.hid h0
  have hM := Lib.hid hL
  clear hr hL
  go_enter Try.func70, Try.ntmps70
  go_wp2_with (at_builtin; refine wpList_append_own _ rfl _ _ 22 rfl w.heap.size 2 i0 (.int .i64 0) 1 8 Try.underlying22 hi.out hz0.out hz1.out hz2.out rfl (by decide) _ _ _ rfl (World.ownsRow_made w #[] 0 (Nat.le_refl _) (Nat.zero_le _) rfl) ⟨b, off, none⟩ l.length cap (cvals l) rfl ?qc1 ?qc2 ?qc3 ?qc4 ?qc5 ?qc6 ?_)
  case qc1 => simp [cvals]
  case qc2 =>
    intro j u hj
    have hjn : j < l.length := by
      have := (List.getElem?_eq_some_iff.1 hj).1
      simpa [cvals] using this
    rw [show (⟨b, off, none⟩ : Addr).add j = ⟨b, off + j, none⟩ by unfold Addr.add; split <;> simp_all]
    refine Lib.cell?_alloc_some _ ?_
    rw [HC.out j hjn]
    have e : (cvals l)[j]? = some (Value.int .i64 (l.getD j 0)) := by simp [cvals, List.getD, List.getElem?_eq_getElem hjn]
    rw [e] at hj
    exact hj
  case qc3 => intro u hu; obtain ⟨x, _, rfl⟩ := List.mem_map.1 hu; rfl
  case qc4 => have := hM.out; unfold maxLen; omega
  case qc5 => have := hM.out; omega
  case qc6 => simp
  intro v' w1 hown hgrow hnil
  obtain ⟨g, c, rfl, hrow, hnew⟩ := cown_row (l := l) h0.out rfl (by simpa using hown)
  replace hrow := Lib.hid hrow
  replace hown := 0
  have hbel := Lib.hid (((Below.refl _ w).alloc (Nat.le_refl _) _).grown hgrow (by simp) (by intro k hk; simp [Value.ownBlock] at hk; omega))
  clear hgrow hnil
  go_wp2
  go_ret
  exact ⟨g, c, by first | rfl | simp, hrow.out, hnew, hbel.out⟩
end Go.Proofs.Ytmmenpaodofahaa
