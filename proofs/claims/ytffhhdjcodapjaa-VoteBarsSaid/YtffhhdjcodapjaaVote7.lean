/- Package vote: Bar, Spread; walked. -/
import Derived.Test.YtffhhdjcodapjaaVote3
import Derived.Test.YtffhhdjcodapjaaReg
import Derived.Test.YtffhhdjcodapjaaHb
import Derived.Deep.Cut
import Derived.Deep.CutRange
namespace Go.Proofs.Ytffhhdjcodapjaa
open Go.ChangeShapes Go.WideShapes Go.ChangeAt Go.RowKit
set_option linter.unusedVariables false
set_option linter.unusedSimpArgs false
/-- Three readings. -/
def pr6 (X E : Nat → Int) : List Value := [.int .i64 (X 0), .int .i64 (E 0), .int .i64 (X 1), .int .i64 (E 1), .int .i64 (X 2), .int .i64 (E 2)]
def bX (B : Nat → Bool) (X : Nat → Int) (k : Nat) : Nat → Int := fun i => if i < k then (if B i then 0 else X i) else X i
def bE (B : Nat → Bool) (E : Nat → Int) (k : Nat) : Nat → Int := fun i => if i < k then (if B i then 10 else E i) else E i
theorem pr6_v {X E : Nat → Int} {k : Nat} (h : k < 3) : (pr6 X E)[k * 2]? = some (.int .i64 (X k)) := by
  rcases (show k = 0 ∨ k = 1 ∨ k = 2 by omega) with rfl | rfl | rfl <;> rfl
theorem pr6_e {X E : Nat → Int} {k : Nat} (h : k < 3) : (pr6 X E)[k * 2 + 1]? = some (.int .i64 (E k)) := by
  rcases (show k = 0 ∨ k = 1 ∨ k = 2 by omega) with rfl | rfl | rfl <;> rfl
theorem pr6_bar {B : Nat → Bool} {X E : Nat → Int} {k : Nat} (h : k < 3) (hb : B k = true) : ((pr6 (bX B X k) (bE B E k)).set (k * 2) (.int .i64 0)).set (k * 2 + 1) (.int .i64 10) = pr6 (bX B X (k + 1)) (bE B E (k + 1)) := by
  rcases (show k = 0 ∨ k = 1 ∨ k = 2 by omega) with rfl | rfl | rfl <;> simp [pr6, bX, bE, hb]
theorem pr6_not {B : Nat → Bool} {X E : Nat → Int} {k : Nat} (h : k < 3) (hb : B k = false) : pr6 (bX B X k) (bE B E k) = pr6 (bX B X (k + 1)) (bE B E (k + 1)) := by
  rcases (show k = 0 ∨ k = 1 ∨ k = 2 by omega) with rfl | rfl | rfl <;> simp [pr6, bX, bE, hb]
theorem pr6_start (B : Nat → Bool) (X E : Nat → Int) : pr6 X E = pr6 (bX B X 0) (bE B E 0) := by simp [pr6, bX, bE]
def b3C (B : Nat → Bool) : List Value := [.bool (B 0), .bool (B 1), .bool (B 2)]
theorem b3_at {B : Nat → Bool} {k : Nat} (h : k < 3) : (b3C B)[k]? = some (.bool (B k)) := by
  rcases (show k = 0 ∨ k = 1 ∨ k = 2 by omega) with rfl | rfl | rfl <;> rfl
structure BarK (B : Nat → Bool) (X E : Nat → Int) (k : Nat) (w u : World) : Prop where
  r : Held w.heap.size (pr6 (bX B X k) (bE B E k)) u
  b : Held (w.heap.size + 1) (b3C B) u
  o : Held (w.heap.size + 2) [.int .i64 0, .int .i64 0, .int .i64 0, .int .i64 0, .int .i64 0, .int .i64 0] u
  bel : Below w.heap.size w u
theorem bar_box (B : Nat → Bool) (X E : Nat → Int) (w : World) : ∃ V, V = ((w.alloc (.cells #[.int .i64 (X 0), .int .i64 (E 0), .int .i64 (X 1), .int .i64 (E 1), .int .i64 (X 2), .int .i64 (E 2)] 40)).alloc (.cells #[.bool (B 0), .bool (B 1), .bool (B 2)] 41)).alloc (.cells #[.int .i64 0, .int .i64 0, .int .i64 0, .int .i64 0, .int .i64 0, .int .i64 0] 40) ∧ BarK B X E 0 w V := by
  refine ⟨_, rfl, ?_, ?_, ?_, (by repeat (first | exact Below.refl _ _ | assumption | apply Below.drew | apply below_drewN | (refine Below.alloc ?_ (by first | exact Nat.le_refl _ | omega | (simp <;> omega)) _) | (refine Below.setCell ?_ (by first | exact Nat.le_refl _ | omega | (simp <;> omega)) _)))⟩
  · rw [← pr6_start]
    exact ((Held.new w (pr6 X E) 40).alloc _).alloc _
  · have := (Held.new (w.alloc (.cells #[.int .i64 (X 0), .int .i64 (E 0), .int .i64 (X 1), .int .i64 (E 1), .int .i64 (X 2), .int .i64 (E 2)] 40)) (b3C B) 41).alloc (.cells #[.int .i64 0, .int .i64 0, .int .i64 0, .int .i64 0, .int .i64 0, .int .i64 0] 40)
    simpa [b3C] using this
  · have := Held.new ((w.alloc (.cells #[.int .i64 (X 0), .int .i64 (E 0), .int .i64 (X 1), .int .i64 (E 1), .int .i64 (X 2), .int .i64 (E 2)] 40)).alloc (.cells #[.bool (B 0), .bool (B 1), .bool (B 2)] 41)) [.int .i64 0, .int .i64 0, .int .i64 0, .int .i64 0, .int .i64 0, .int .i64 0] 40
    simpa using this
set_option maxRecDepth 100000 in
set_option maxHeartbeats 8000000 in
theorem vbar (B : Nat → Bool) (X E : Nat → Int) (w : World) : Calls Try.prog 18 #[.agg #[.int .i64 (X 0), .int .i64 (E 0), .int .i64 (X 1), .int .i64 (E 1), .int .i64 (X 2), .int .i64 (E 2)], .agg #[.bool (B 0), .bool (B 1), .bool (B 2)]] w fun e w' => e = .returned (.agg (pr6 (bX B X 3) (bE B E 3)).toArray) ∧ Below w.heap.size w w' := by
  obtain ⟨V, eV, K0⟩ := bar_box B X E w
  replace eV := Lib.hid eV
  replace K0 := Lib.hid K0
  have HS := Lib.hid (fun k (h : k < 3) (hb : B k = true) => pr6_bar (X := X) (E := E) h hb)
  have HN := Lib.hid (fun k (h : k < 3) (hb : B k = false) => pr6_not (X := X) (E := E) h hb)
  go_enter Try.func18, Try.ntmps18
  go_upto_region 1 with (fail)
  rw [← eV.out]
  go_wp2
  go_loopw [6] (fun i u => ∃ k : Nat, k ≤ 3 ∧ i = .int .i64 (k : Int) ∧ Hid (BarK B X E k w u)) (fun i _ => 3 - (intOf i).toNat)
  case atStart => exact ⟨0, by omega, rfl, K0⟩
  case round =>
    clear K0
    obtain ⟨k, hk, rfl, K⟩ := hrel
    by_cases hlt : k < 3
    · have j1 : (k : Int) < 3 := by omega
      have j2 : IntKind.i64.wrap ((k : Int) + 1) = (k : Int) + 1 := by rw [IntKind.wrap_i64]; omega
      have c0 := (K.out.b.one k (b3_at hlt)).1
      have c1 := K.out.r.one (k * 2) (pr6_v hlt)
      have c2 := K.out.r.one (k * 2 + 1) (pr6_e hlt)
      obtain ⟨c1, f1⟩ := c1
      obtain ⟨c2, f2⟩ := c2
      cases hb : B k
      · have hn := HN.out k hlt hb
        rw [hb] at c0
        have K2 := Lib.hid (show BarK B X E (k + 1) w wr from ⟨hn ▸ K.out.r, K.out.b, K.out.o, K.out.bel⟩)
        clear hn hb HS HN K
        go_wp2
        go_roundw
        case rel => exact ⟨k + 1, by omega, by first | rfl | go_num, K2⟩
        case measure => simp [intOf] <;> omega
      · have hn := HS.out k hlt hb
        rw [hb] at c0
        have hr2 := (K.out.r.set (k * 2) (.int .i64 0) (by simp [pr6]; omega)).set (k * 2 + 1) (.int .i64 10) (by simp [pr6]; omega)
        rw [hn] at hr2
        have oo : Only w.heap.size wr _ := ((Only.refl w.heap.size wr).setCell (p := ⟨w.heap.size, k * 2, none⟩) (.int .i64 0)).setCell (p := ⟨w.heap.size, k * 2 + 1, none⟩) (.int .i64 10)
        have K2 := Lib.hid (show BarK B X E (k + 1) w _ from ⟨hr2, K.out.b.only oo (by omega), K.out.o.only oo (by omega), K.out.bel.trans (oo.below (by omega))⟩)
        clear hn hb HS HN K hr2 oo
        go_wp2
        go_roundw
        case rel => exact ⟨k + 1, by omega, by first | rfl | go_num, K2⟩
        case measure => simp [intOf] <;> omega
    · obtain rfl : k = 3 := by omega
      clear HS HN
      have hr := K.out.r
      have ho := K.out.o
      have hb := K.out.bel
      obtain ⟨X', eX⟩ : ∃ X', bX B X 3 = X' := ⟨_, rfl⟩
      obtain ⟨E', eE⟩ : ∃ E', bE B E 3 = E' := ⟨_, rfl⟩
      rw [eX, eE] at hr
      replace eX := Lib.hid eX
      replace eE := Lib.hid eE
      clear K
      have h6 := (((((ho.set 0 (.int .i64 (X' 0)) (by simp)).set 1 (.int .i64 (E' 0)) (by simp)).set 2 (.int .i64 (X' 1)) (by simp)).set 3 (.int .i64 (E' 1)) (by simp)).set 4 (.int .i64 (X' 2)) (by simp)).set 5 (.int .i64 (E' 2)) (by simp)
      have b6 := (((((hb.setCell (p := ⟨w.heap.size + 2, 0, none⟩) (by show _ ≤ w.heap.size + 2; omega) (.int .i64 (X' 0))).setCell (p := ⟨w.heap.size + 2, 1, none⟩) (by show _ ≤ w.heap.size + 2; omega) (.int .i64 (E' 0))).setCell (p := ⟨w.heap.size + 2, 2, none⟩) (by show _ ≤ w.heap.size + 2; omega) (.int .i64 (X' 1))).setCell (p := ⟨w.heap.size + 2, 3, none⟩) (by show _ ≤ w.heap.size + 2; omega) (.int .i64 (E' 1))).setCell (p := ⟨w.heap.size + 2, 4, none⟩) (by show _ ≤ w.heap.size + 2; omega) (.int .i64 (X' 2))).setCell (p := ⟨w.heap.size + 2, 5, none⟩) (by show _ ≤ w.heap.size + 2; omega) (.int .i64 (E' 2))
      obtain ⟨W6, eW⟩ : ∃ W6, (((((wr.setCell ⟨w.heap.size + 2, 0, none⟩ (.int .i64 (X' 0))).setCell ⟨w.heap.size + 2, 1, none⟩ (.int .i64 (E' 0))).setCell ⟨w.heap.size + 2, 2, none⟩ (.int .i64 (X' 1))).setCell ⟨w.heap.size + 2, 3, none⟩ (.int .i64 (E' 1))).setCell ⟨w.heap.size + 2, 4, none⟩ (.int .i64 (X' 2))).setCell ⟨w.heap.size + 2, 5, none⟩ (.int .i64 (E' 2)) = W6 := ⟨_, rfl⟩
      rw [eW] at h6 b6
      replace eW := Lib.hid eW
      replace h6 := Lib.hid h6
      replace b6 := Lib.hid b6
      clear hb
      simp only [pr6] at hr
      obtain ⟨c0, f0⟩ := hr.one 0 rfl
      obtain ⟨c1, f1⟩ := hr.one 1 rfl
      obtain ⟨c2, f2⟩ := hr.one 2 rfl
      obtain ⟨c3, f3⟩ := hr.one 3 rfl
      obtain ⟨c4, f4⟩ := hr.one 4 rfl
      obtain ⟨c5, f5⟩ := hr.one 5 rfl
      obtain ⟨d0, g0⟩ := ho.one 0 rfl
      obtain ⟨d1, g1⟩ := ho.one 1 rfl
      obtain ⟨d2, g2⟩ := ho.one 2 rfl
      obtain ⟨d3, g3⟩ := ho.one 3 rfl
      obtain ⟨d4, g4⟩ := ho.one 4 rfl
      obtain ⟨d5, g5⟩ := ho.one 5 rfl
      clear hr ho
      go_wp2
      rw [eW.out]
      have h7 := h6.out
      obtain ⟨y0, z0⟩ := h7.one 0 rfl
      obtain ⟨y1, z1⟩ := h7.one 1 rfl
      obtain ⟨y2, z2⟩ := h7.one 2 rfl
      obtain ⟨y3, z3⟩ := h7.one 3 rfl
      obtain ⟨y4, z4⟩ := h7.one 4 rfl
      obtain ⟨y5, z5⟩ := h7.one 5 rfl
      exact bodyPost_ret (v := .agg #[.int .i64 (X' 0), .int .i64 (E' 0), .int .i64 (X' 1), .int .i64 (E' 1), .int .i64 (X' 2), .int .i64 (E' 2)]) (by simp [results, Try.results18, go_sem, y0, y1, y2, y3, y4, y5]) rfl ⟨by rw [eX.out, eE.out]; rfl, b6.out⟩
/-- How far the readings that are there reach. -/
def spr (X E : Nat → Int) : Nat → Bool × Int × Int
  | 0 => (false, 0, 0)
  | k + 1 => if E k = 0 then (true, (if (spr X E k).1 then min (spr X E k).2.1 (X k) else X k), (if (spr X E k).1 then max (spr X E k).2.2 (X k) else X k)) else spr X E k
theorem spr_hit {X E : Nat → Int} {k : Nat} {lo hi : Int} {fd : Bool} (h : spr X E k = (fd, lo, hi)) (e : E k = 0) : spr X E (k + 1) = (true, (if fd then min lo (X k) else X k), (if fd then max hi (X k) else X k)) := by
  show (if E k = 0 then _ else _) = _
  rw [if_pos e, h]
theorem spr_miss {X E : Nat → Int} {k : Nat} (e : ¬ E k = 0) : spr X E (k + 1) = spr X E k := by
  show (if E k = 0 then _ else _) = _
  rw [if_neg e]
set_option maxRecDepth 100000 in
set_option maxHeartbeats 8000000 in
theorem vspread (X E : Nat → Int) (w : World) : Calls Try.prog 20 #[.agg #[.int .i64 (X 0), .int .i64 (E 0), .int .i64 (X 1), .int .i64 (E 1), .int .i64 (X 2), .int .i64 (E 2)]] w fun e w' => e = .returned (.tuple #[.int .i64 (apt (spr X E 3).2.2 (spr X E 3).2.1), .bool (spr X E 3).1]) ∧ Below w.heap.size w w' := by
  have AP := Lib.hid (fun a b u => apart_any a b u)
  obtain ⟨V, eV, hb0, hz, hcs⟩ : ∃ V, V = (w.alloc (.cells #[.int .i64 (X 0), .int .i64 (E 0), .int .i64 (X 1), .int .i64 (E 1), .int .i64 (X 2), .int .i64 (E 2)] 40)) ∧ Below w.heap.size w V ∧ V.heap.size = w.heap.size + 1 ∧ Held w.heap.size (pr6 X E) V := ⟨_, rfl, (by repeat (first | exact Below.refl _ _ | assumption | apply Below.drew | apply below_drewN | (refine Below.alloc ?_ (by first | exact Nat.le_refl _ | omega | (simp <;> omega)) _) | (refine Below.setCell ?_ (by first | exact Nat.le_refl _ | omega | (simp <;> omega)) _))), by simp, Held.new w (pr6 X E) _⟩
  have IX := Lib.hid (fun k (h : k < 3) u => show (Instr.index 40 (.agg #[.int .i64 (X 0), .int .i64 (E 0), .int .i64 (X 1), .int .i64 (E 1), .int .i64 (X 2), .int .i64 (E 2)]) (.int .i64 ((k : Nat) : Int))).run Try.prog u = .ok (.agg #[.int .i64 (X k), .int .i64 (E k)]) u from by
    rcases (show k = 0 ∨ k = 1 ∨ k = 2 by omega) with rfl | rfl | rfl <;> kernel_rfl)
  replace eV := Lib.hid eV
  replace hb0 := Lib.hid hb0
  simp only [pr6] at hcs
  obtain ⟨c0, f0⟩ := hcs.one 0 rfl
  obtain ⟨c1, f1⟩ := hcs.one 1 rfl
  obtain ⟨c2, f2⟩ := hcs.one 2 rfl
  obtain ⟨c3, f3⟩ := hcs.one 3 rfl
  obtain ⟨c4, f4⟩ := hcs.one 4 rfl
  obtain ⟨c5, f5⟩ := hcs.one 5 rfl
  clear hcs
  obtain ⟨R3, eR3⟩ : ∃ R3, spr X E 3 = R3 := ⟨_, rfl⟩
  obtain ⟨fd3, lo3, hi3⟩ := R3
  rw [eR3]
  replace eR3 := Lib.hid eR3
  go_enter Try.func20, Try.ntmps20
  go_upto_region 1 with (fail)
  rw [← eV.out]
  go_wp2_with fail
  clear c0 c1 c2 c3 c4 c5 f0 f1 f2 f3 f4 f5
  generalize hQ : (Value.agg #[.int .i64 (X 0), .int .i64 (E 0), .int .i64 (X 1), .int .i64 (E 1), .int .i64 (X 2), .int .i64 (E 2)]) = Q at *
  go_loopw [4, 5, 6, 10] (fun s4 s5 s6 i u => ∃ (k : Nat) (lo hi : Int) (fd : Bool), k ≤ 3 ∧ s4 = .int .i64 lo ∧ s5 = .int .i64 hi ∧ s6 = .bool fd ∧ i = .int .i64 (k : Int) ∧ Hid (spr X E k = (fd, lo, hi)) ∧ Hid (Below w.heap.size w u)) (fun s4 s5 s6 i _ => 3 - (intOf i).toNat)
  case atStart => exact ⟨0, 0, 0, false, by omega, rfl, rfl, rfl, rfl, Lib.hid rfl, hb0⟩
  case round =>
    clear hb0
    obtain ⟨k, lo, hi, fd, hk, rfl, rfl, rfl, rfl, hS, hb⟩ := hrel
    by_cases hlt : k < 3
    · have j1 : (k : Int) < 3 := by omega
      have j2 : IntKind.i64.wrap ((k : Int) + 1) = (k : Int) + 1 := by rw [IntKind.wrap_i64]; omega
      have ix := IX.out k hlt
      have SH := Lib.hid (fun e => spr_hit hS.out e)
      have SM := Lib.hid (fun e => (spr_miss e).trans hS.out)
      clear hS
      obtain ⟨V2, eV2, hm0, hh2⟩ : ∃ V2, V2 = wr.alloc (.cells #[.int .i64 (X k), .int .i64 (E k)] 39) ∧ Below w.heap.size w V2 ∧ Held wr.heap.size [.int .i64 (X k), .int .i64 (E k)] V2 := ⟨_, rfl, hb.out.alloc hb.out.size _, Held.new wr [.int .i64 (X k), .int .i64 (E k)] _⟩
      generalize X k = x at *
      generalize E k = e at *
      replace eV2 := Lib.hid eV2
      replace hm0 := Lib.hid hm0
      have hh3 := hh2
      obtain ⟨c0, f0⟩ := hh3.one 0 rfl
      obtain ⟨c1, f1⟩ := hh3.one 1 rfl
      clear hh3
      replace hh2 := Lib.hid hh2
      have hb0w := hb.out.size
      clear hb hQ IX AP
      go_upto_region 6 with (fail)
      rw [← eV2.out]
      by_cases he : e = 0
      · have sh := Lib.hid (SH.out he)
        clear SH SM
        subst he
        go_upto_region 7 with (fail)
        obtain ⟨l0, el0⟩ : ∃ l0, l0 = (if fd = true then lo else x) := ⟨_, rfl⟩
        obtain ⟨h0, eh0⟩ : ∃ h0, h0 = (if fd = true then hi else x) := ⟨_, rfl⟩
        replace el0 := Lib.hid el0
        replace eh0 := Lib.hid eh0
        go_cut [17] from 11 to 30 (fun s u => s = .bool (!fd) ∧ u = V2)
        case first =>
          go_wp2_with fail
          go_meet
          case rel => exact ⟨rfl, rfl⟩
        case rest =>
          obtain ⟨rfl, rfl⟩ := hcut
          go_upto_if 17 with (fail)
          go_cut [4, 5, 6] from 11 to 30 (fun s4 s5 s6 u => s4 = .int .i64 l0 ∧ s5 = .int .i64 h0 ∧ s6 = .bool true ∧ Hid (HB wr.heap.size [.int .i64 x, .int .i64 0] wc u))
          case first =>
            have e1 := el0.out
            have e2 := eh0.out
            cases fd
            · simp only [if_false, Bool.false_eq_true] at e1 e2
              clear el0 eh0
              subst l0 h0
              go_wp2_with fail
              refine region_moves (fun u => u.cell? ⟨wr.heap.size, 0, none⟩ = some (.int .i64 x)) [] [(.free, 0), (.take, 1), (.free, 2), (.take, 3), (.free, 4), (.free, 5), (.free, 6)] _ (by kernel_rfl) (by kernel_rfl) (by kernel_rfl) (by kernel_rfl) (by decide) rfl (fun _ _ _ _ _ h => h) ?_
              simp only [List.filterMap_cons, List.filterMap_nil, List.getElem?_toArray, List.getElem?_cons_zero, List.getElem?_cons_succ, Option.map_some]
              iterate 1
                first
                  | (refine mv_free ?_ (Or.inl ⟨by rfl, ?_⟩) (c0) ?_
                     rotate_left 1
                     · intro u
                       go_simp
                       try with_reducible rfl
                     simp only [Act.put, List.setIfInBounds_toArray, List.set_cons_zero, List.set_cons_succ])
                  | (refine mv_free _ (Or.inr ⟨by rfl, rfl⟩) (c0) ?_
                     simp only [Act.put, List.setIfInBounds_toArray, List.set_cons_zero, List.set_cons_succ])
              iterate 1
                first
                  | (refine mv_take ?_ (Or.inl ⟨by rfl, ?_⟩) (c0) ?_
                     rotate_left 1
                     · intro u hu
                       (try dsimp only at hu)
                       go_simp
                       try with_reducible rfl
                     simp only [Act.put, List.setIfInBounds_toArray, List.set_cons_zero, List.set_cons_succ])
                  | (refine mv_take _ (Or.inr ⟨by rfl, rfl⟩) (c0) ?_
                     simp only [Act.put, List.setIfInBounds_toArray, List.set_cons_zero, List.set_cons_succ])
              iterate 1
                first
                  | (refine mv_free ?_ (Or.inl ⟨by rfl, ?_⟩) (c0) ?_
                     rotate_left 1
                     · intro u
                       go_simp
                       try with_reducible rfl
                     simp only [Act.put, List.setIfInBounds_toArray, List.set_cons_zero, List.set_cons_succ])
                  | (refine mv_free _ (Or.inr ⟨by rfl, rfl⟩) (c0) ?_
                     simp only [Act.put, List.setIfInBounds_toArray, List.set_cons_zero, List.set_cons_succ])
              iterate 1
                first
                  | (refine mv_take ?_ (Or.inl ⟨by rfl, ?_⟩) (c0) ?_
                     rotate_left 1
                     · intro u hu
                       (try dsimp only at hu)
                       go_simp
                       try with_reducible rfl
                     simp only [Act.put, List.setIfInBounds_toArray, List.set_cons_zero, List.set_cons_succ])
                  | (refine mv_take _ (Or.inr ⟨by rfl, rfl⟩) (c0) ?_
                     simp only [Act.put, List.setIfInBounds_toArray, List.set_cons_zero, List.set_cons_succ])
              iterate 3
                first
                  | (refine mv_free ?_ (Or.inl ⟨by rfl, ?_⟩) (c0) ?_
                     rotate_left 1
                     · intro u
                       go_simp
                       try with_reducible rfl
                     simp only [Act.put, List.setIfInBounds_toArray, List.set_cons_zero, List.set_cons_succ])
                  | (refine mv_free _ (Or.inr ⟨by rfl, rfl⟩) (c0) ?_
                     simp only [Act.put, List.setIfInBounds_toArray, List.set_cons_zero, List.set_cons_succ])
              refine mv_done ?_
              go_wp2_with fail
              go_meet
              case rel => exact ⟨rfl, rfl, rfl, Lib.hid ((HB.start hh2.out).as rfl rfl rfl rfl)⟩
            · simp only [if_true] at e1 e2
              clear el0 eh0
              subst l0 h0
              go_wp2_with fail
              go_meet
              case rel => exact ⟨rfl, rfl, rfl, Lib.hid ((HB.start hh2.out).as rfl rfl rfl rfl)⟩
          case rest =>
            obtain ⟨rfl, rfl, rfl, H3⟩ := hcut
            have hh4 := H3.out.held
            clear c0 c1 f0 f1
            obtain ⟨c0, f0⟩ := hh4.one 0 rfl
            obtain ⟨c1, f1⟩ := hh4.one 1 rfl
            clear hh4
            have hb5 := Lib.hid (hm0.out.trans (H3.out.beside.below (by have := hb0w; omega) (by have := hm0.out.size; exact this)))
            obtain ⟨m4, q4⟩ : ∃ m, (if x < l0 then x else l0) = m := ⟨_, rfl⟩
            obtain ⟨m5, q5⟩ : ∃ m, (if h0 < x then x else h0) = m := ⟨_, rfl⟩
            have sh2 := Lib.hid (show spr X E (k + 1) = (true, m4, m5) by
              rw [sh.out, ← q4, ← q5, el0.out, eh0.out]
              cases fd
              · simp
              · simp only [if_true]
                have a1 : min lo x = (if x < lo then x else lo) := by omega
                have a2 : max hi x = (if hi < x then x else hi) := by omega
                rw [a1, a2])
            clear sh el0 eh0 hm0 H3
            go_upto_region 9 with (fail)
            refine region_moves (fun u => u.cell? ⟨wr.heap.size, 0, none⟩ = some (.int .i64 x)) [] [(.free, 0), (.free, 1), (.take, 2), (.free, 3), (.free, 4), (.free, 5), (.take, 6), (.free, 7), (.free, 8), (.free, 9)] _ (by kernel_rfl) (by kernel_rfl) (by kernel_rfl) (by kernel_rfl) (by decide) rfl (fun _ _ _ _ _ h => h) ?_
            simp only [List.filterMap_cons, List.filterMap_nil, List.getElem?_toArray, List.getElem?_cons_zero, List.getElem?_cons_succ, Option.map_some]
            iterate 2
              first
                | (refine mv_free ?_ (Or.inl ⟨by rfl, ?_⟩) (c0) ?_
                   rotate_left 1
                   · intro u
                     go_simp
                     try with_reducible rfl
                   simp only [Act.put, List.setIfInBounds_toArray, List.set_cons_zero, List.set_cons_succ])
                | (refine mv_free _ (Or.inr ⟨by rfl, rfl⟩) (c0) ?_
                   simp only [Act.put, List.setIfInBounds_toArray, List.set_cons_zero, List.set_cons_succ])
            iterate 1
              first
                | (refine mv_take ?_ (Or.inl ⟨by rfl, ?_⟩) (c0) ?_
                   rotate_left 1
                   · intro u hu
                     (try dsimp only at hu)
                     go_simp
                     try with_reducible rfl
                   simp only [Act.put, List.setIfInBounds_toArray, List.set_cons_zero, List.set_cons_succ])
                | (refine mv_take _ (Or.inr ⟨by rfl, rfl⟩) (c0) ?_
                   simp only [Act.put, List.setIfInBounds_toArray, List.set_cons_zero, List.set_cons_succ])
            iterate 3
              first
                | (refine mv_free ?_ (Or.inl ⟨by rfl, ?_⟩) (c0) ?_
                   rotate_left 1
                   · intro u
                     go_simp
                     try with_reducible rfl
                   simp only [Act.put, List.setIfInBounds_toArray, List.set_cons_zero, List.set_cons_succ])
                | (refine mv_free _ (Or.inr ⟨by rfl, rfl⟩) (c0) ?_
                   simp only [Act.put, List.setIfInBounds_toArray, List.set_cons_zero, List.set_cons_succ])
            iterate 1
              first
                | (refine mv_take ?_ (Or.inl ⟨by rfl, ?_⟩) (c0) ?_
                   rotate_left 1
                   · intro u hu
                     (try dsimp only at hu)
                     go_simp
                     try with_reducible rfl
                   simp only [Act.put, List.setIfInBounds_toArray, List.set_cons_zero, List.set_cons_succ])
                | (refine mv_take _ (Or.inr ⟨by rfl, rfl⟩) (c0) ?_
                   simp only [Act.put, List.setIfInBounds_toArray, List.set_cons_zero, List.set_cons_succ])
            iterate 3
              first
                | (refine mv_free ?_ (Or.inl ⟨by rfl, ?_⟩) (c0) ?_
                   rotate_left 1
                   · intro u
                     go_simp
                     try with_reducible rfl
                   simp only [Act.put, List.setIfInBounds_toArray, List.set_cons_zero, List.set_cons_succ])
                | (refine mv_free _ (Or.inr ⟨by rfl, rfl⟩) (c0) ?_
                   simp only [Act.put, List.setIfInBounds_toArray, List.set_cons_zero, List.set_cons_succ])
            refine mv_done ?_
            clear q4 q5
            go_wp2
            go_roundw
            case rel => exact ⟨k + 1, m4, m5, true, by omega, rfl, rfl, rfl, by first | rfl | go_num, sh2, Lib.hid hb5.out.drew⟩
            case measure => simp [intOf] <;> omega
      · have sm := Lib.hid (SM.out he)
        have he2 : (e != 0) = true := by simp [he]
        clear SH SM
        go_wp2
        go_roundw
        case rel => exact ⟨k + 1, lo, hi, fd, by omega, rfl, rfl, rfl, by first | rfl | go_num, sm, hm0⟩
        case measure => simp [intOf] <;> omega
    · obtain rfl : k = 3 := by omega
      have e := hS.out.symm.trans eR3.out
      injection e with e1 e
      injection e with e2 e3
      subst e1 e2 e3
      clear hS eR3
      have AP2 := Lib.hid (AP.out hi lo wr)
      obtain ⟨q, hq⟩ : ∃ q, apt hi lo = q := ⟨_, rfl⟩
      rw [hq] at AP2
      replace hq := Lib.hid hq
      clear AP
      go_wp2_with ((go_at_call 46; (with_reducible refine (AP2.out).mono ?_); rintro e w' ⟨rfl, rfl⟩))
      go_ret2
      exact ⟨by rw [hq.out]; rfl, hb.out⟩
end Go.Proofs.Ytffhhdjcodapjaa
