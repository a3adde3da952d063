/- Package bus: due's iterator; slices.AppendSeq and Collect over it; Due; walked. -/
import Derived.Test.YtcpmdgbogdikiaaBus2
import Derived.Test.YtcpmdgbogdikiaaOgb
import Derived.Test.YtcpmdgbogdikiaaOgi
import Derived.RangeFuncNested
import Derived.RangeFuncBound
import Derived.RangeFuncCalls
import Derived.RangeFuncLeaves
import Derived.Shelf.Abstract
import Derived.Shelf.RegionOpen
import Derived.WalkKit
import Derived.OwnWalkIn
import Derived.TacticsInMore
import Derived.LoopNIn
import Derived.LoopIn
import Derived.Sort.QuietIn
namespace Go.Proofs.Ytcpmdgbogdikiaa
open Go.ChangeShapes Go.WideShapes Go.ChangeAt Go.RowKit Go.Shelf
set_option linter.unusedVariables false
set_option linter.unusedSimpArgs false
attribute [local go_sem] Oper.semAt_some
def dtB (P F t : Int) : Bool := decide (F ≤ t ∧ (t - F) % P = 0)
/-- The places of the slots that are due in a tick, among the first n. -/
def duL (P F : Nat → Int) (t : Int) (n : Nat) : List Nat := (List.range n).filter fun i => dtB (P i) (F i) t
theorem duL_yes {P F : Nat → Int} {t : Int} {k : Nat} (h : dtB (P k) (F k) t = true) : duL P F t (k + 1) = duL P F t k ++ [k] := by
  unfold duL; rw [List.range_succ, List.filter_append]; simp [h]
theorem duL_no {P F : Nat → Int} {t : Int} {k : Nat} (h : dtB (P k) (F k) t = false) : duL P F t (k + 1) = duL P F t k := by
  unfold duL; rw [List.range_succ, List.filter_append]; simp [h]
theorem duL_len (P F : Nat → Int) (t : Int) (k : Nat) : (duL P F t k).length ≤ k := by
  have := List.length_filter_le (fun i => dtB (P i) (F i) t) (List.range k)
  simpa [duL] using this
set_option maxRecDepth 100000 in
set_option maxHeartbeats 4000000 in
theorem due1_in (n : Nat) (hn : 1 ≤ n) (l Bp Bt n0 : Nat) (a : Option Addr) (len cap : Nat) (N P F : Nat → Int) (t : Int) (hlen : len ≤ 32) (hp : Bp < n0) (ht : Bt < n0) (h0t : 0 ≤ t ∧ t ≤ 9223372036854775807) (hS : ∀ i, i < len → srB (N i) (P i) (F i) = true) (J Jx : List Nat → World → Prop)
    (W : World) (hn0 : n0 ≤ W.heap.size)
    (hA : ∀ pre u o, J pre u → J pre (u.alloc o))
    (hY : ∀ (pre : List Nat) (x : Nat) (u : World), J pre u → pre.length < len → YieldAt Fence.wide (n - 1) Try.prog l #[.int .i64 (x : Int)] u fun e u' =>
      (e = .returned (.bool true) ∧ J (pre ++ [x]) u' ∧ Below n0 u u') ∨ (e = .returned (.bool false) ∧ Jx (pre ++ [x]) u'))
    (hBp : W.cell? ⟨Bp, 0, none⟩ = some (.slice a len cap)) (hBt : W.cell? ⟨Bt, 0, none⟩ = some (.int .i64 t)) (hPl : ∀ u, Below n0 W u → Pl u a len N P F) (h0 : J [] W) :
    CallsIn Fence.wide n Try.prog 29 #[.func (.yield l) #[] #[], .pointer (some ⟨Bp, 0, none⟩), .pointer (some ⟨Bt, 0, none⟩)] W fun e W' => (∃ v, e = .returned v) ∧
      ((∃ ys, ys = duL P F t len ∧ J ys W') ∨ (∃ pre, True ∧ Jx pre W')) := by
  refine callsIn_of_wp Try.func29 rfl trivial ?_ rfl
  simp only [Try.ntmps29, List.size_toArray, List.length_cons, List.length_nil, Nat.reduceAdd, Nat.reduceSub, Array.replicate_succ, Array.replicate_zero, List.push_toArray, List.append_toArray, List.nil_append, List.cons_append]
  gi_wp2
  gi_loopw [8] (fun i u => ∃ k : Nat, k ≤ len ∧ i = .int .i64 (k : Int) ∧ J (duL P F t k) u ∧ Below n0 W u)
    (fun i _ => len - (intOf i).toNat)
  case atStart => exact ⟨0, Nat.zero_le _, rfl, h0, Below.refl _ _⟩
  case round =>
    obtain ⟨k, hk, rfl, hJs, hb⟩ := hrel
    by_cases hlt : k < len
    · have b1 : wr.cell? ⟨Bt, 0, none⟩ = some (.int .i64 t) := (hb.cell (p := ⟨Bt, 0, none⟩) ht).trans hBt
      obtain ⟨b, off, ea, hbb, k0, k1, k2⟩ := (hPl wr hb).at hlt
      subst ea
      have hs := of_decide_eq_true (hS k hlt)
      have j1 : (k : Int) < (len : Int) := by omega
      have j2 : IntKind.i64.wrap ((k : Int) + 1) = (k : Int) + 1 := by rw [IntKind.wrap_i64]; omega
      have j3 : 0 ≤ (k : Int) := by omega
      have hJA := hA (duL P F t k) wr (.cells #[.int .i64 (N k), .int .i64 (P k), .int .i64 (F k)] 30) hJs
      have hbV := (Below.refl wr.heap.size wr).alloc (Nat.le_refl _) (.cells #[.int .i64 (N k), .int .i64 (P k), .int .i64 (F k)] 30)
      have b2 : (wr.alloc (.cells #[.int .i64 (N k), .int .i64 (P k), .int .i64 (F k)] 30)).cell? ⟨Bt, 0, none⟩ = some (.int .i64 t) := (hbV.cell (p := ⟨Bt, 0, none⟩) (by show Bt < _; have := hb.size; omega)).trans b1
      have hbW := hb.trans (hbV.mono (by have := hb.size; omega))
      by_cases z : F k ≤ t
      · have y : decide (F k ≤ t) = true := decide_eq_true z
        have w1 : IntKind.i64.wrap (t - F k) = t - F k := by rw [IntKind.wrap_i64]; omega
        have p0 : ¬ P k = 0 := by omega
        have p1 : (P k == 0) = false := beq_eq_false_iff_ne.2 p0
        have tm : Int.tmod (t - F k) (P k) = (t - F k) % P k := Int.tmod_eq_emod_of_nonneg (by omega)
        have w2 : IntKind.i64.wrap ((t - F k) % P k) = (t - F k) % P k := by have := Int.emod_nonneg (t - F k) p0; have := Int.emod_lt_of_pos (t - F k) (show 0 < P k by omega); rw [IntKind.wrap_i64]; omega
        by_cases q : (t - F k) % P k = 0
        · have q1 : ((t - F k) % P k == 0) = true := beq_iff_eq.2 q
          have dy : dtB (P k) (F k) t = true := decide_eq_true ⟨z, q⟩
          obtain ⟨fn, tmps, assign, body, hy, hR⟩ := hY _ k _ hJA (Nat.lt_of_le_of_lt (duL_len P F t k) hlt)
          gi_wp2
          refine hR.mono ?_
          rintro e W3 (⟨rfl, hJ3, hk3⟩ | ⟨rfl, hJx3⟩)
          · gi_wp2
            go_roundw
            case rel => exact ⟨k + 1, by omega, by first | rfl | go_num, by rw [duL_yes dy]; exact hJ3, hbW.trans hk3⟩
            case measure => simp [intOf]; omega
          · gi_wp2
            refine bodyPost_ret (results_none rfl _ _ _) rfl ?_
            first | exact ⟨⟨_, rfl⟩, .inr ⟨_, hJx3⟩⟩ | exact ⟨⟨_, rfl⟩, .inr ⟨_, trivial, hJx3⟩⟩
        · have q1 : ((t - F k) % P k == 0) = false := beq_eq_false_iff_ne.2 q
          have dn : dtB (P k) (F k) t = false := decide_eq_false (fun h => q h.2)
          gi_wp2
          refine ⟨fun _ h => (by cases h), ?_⟩
          gi_wp2
          go_roundw
          case rel => exact ⟨k + 1, by omega, by first | rfl | go_num, by rw [duL_no dn]; exact hJA, hbW⟩
          case measure => simp [intOf]; omega
      · have y : decide (F k ≤ t) = false := decide_eq_false z
        have dn : dtB (P k) (F k) t = false := decide_eq_false (fun h => z h.1)
        gi_wp2
        refine ⟨fun _ h => (by cases h), ?_⟩
        gi_wp2
        go_roundw
        case rel => exact ⟨k + 1, by omega, by first | rfl | go_num, by rw [duL_no dn]; exact hJA, hbW⟩
        case measure => simp [intOf]; omega
    · obtain rfl : k = len := by omega
      have e1 : ¬ (k : Int) < (k : Int) := by omega
      gi_wp2
      go_end0
      first | exact ⟨⟨_, rfl⟩, .inl hJs⟩ | exact ⟨⟨_, rfl⟩, .inl ⟨_, rfl, hJs⟩⟩
/-- The iterator's word. -/
theorem due_stops (n : Nat) (hn : 1 ≤ n) (Bp Bt n0 : Nat) (a : Option Addr) (len cap : Nat) (N P F : Nat → Int) (t : Int) (hlen : len ≤ 32) (hp : Bp < n0) (ht : Bt < n0) (h0t : 0 ≤ t ∧ t ≤ 9223372036854775807) (hS : ∀ i, i < len → srB (N i) (P i) (F i) = true) (w : World) (hn0 : n0 ≤ w.heap.size) (hBp : w.cell? ⟨Bp, 0, none⟩ = some (.slice a len cap)) (hBt : w.cell? ⟨Bt, 0, none⟩ = some (.int .i64 t)) (hPl : ∀ u, Below n0 w u → Pl u a len N P F) :
    SeqStopsK Fence.wide n Try.prog 29 #[.pointer (some ⟨Bp, 0, none⟩), .pointer (some ⟨Bt, 0, none⟩)] (fun x : Nat => #[Value.int .i64 (x : Int)]) (Below n0) (fun ys => ys = duL P F t len) (fun _ => True) len w := fun l J Jx W hW hJ _ hY h0 => by
  refine (due1_in n hn l Bp Bt n0 a len cap N P F t hlen hp ht h0t hS J Jx W (Nat.le_trans hn0 hW.size) (fun pre u o h => hJ pre u _ none h (World.grownBy_alloc u o none) (fun r e => by cases e)) hY ((hW.cell (p := ⟨Bp, 0, none⟩) (by show Bp < _; omega)).trans hBp) ((hW.cell (p := ⟨Bt, 0, none⟩) (by show Bt < _; omega)).trans hBt) (fun u k => hPl u ((hW.mono hn0).trans k)) h0).mono ?_
  rintro e W' ⟨he, h | ⟨pre, -, h⟩⟩
  · exact ⟨he, .inl h⟩
  · exact ⟨he, .inr ⟨pre, trivial, h⟩⟩
set_option maxRecDepth 100000 in
set_option maxHeartbeats 4000000 in
theorem bdue (a : Option Addr) (len cap : Nat) (t : Int) (w : World) : Calls Try.prog 23 #[.slice a len cap, .int .i64 t] w fun e w' => e = .returned (.func (.func 29) #[] #[.pointer (some ⟨w.heap.size, 0, none⟩), .pointer (some ⟨w.heap.size + 1, 0, none⟩)]) ∧ w' = (w.alloc (.cells #[.slice a len cap] 22)).alloc (.cells #[.int .i64 t] 3) := by
  have hmf : ∀ (fn : Fn) (first cap : Array Value) (w : World), (Instr.makeFunc fn first cap).run Try.prog w = .ok (.func fn first cap) w := fun _ _ _ _ => rfl
  go_enter Try.func23, Try.ntmps23
  go_wp2
  go_ret
  exact ⟨rfl, rfl⟩
def lvals (L : List Nat) : List Value := L.map fun (i : Nat) => Value.int .i64 (i : Int)
theorem lvals_len (L : List Nat) : (lvals L).length = L.length := by simp [lvals]
theorem Og.at0 {e : TypeId} {B : Nat} {x : Value} {V : List Value} {w : World} (h : Og e B x V w) {g : Nat} (hg : ogB x = some g) : ∃ cur, w.heap[g]? = some (.cells cur e (0, 0)) := by
  rcases h with ⟨rfl, _⟩ | ⟨g', off, cap, cur, rfl, hB, hgg, _⟩
  · cases hg
  · injection hg with hg
    subst hg
    exact ⟨cur, hgg⟩
theorem Og.others {e : TypeId} {B : Nat} {x : Value} {V : List Value} {W W' : World} (h : Og e B x V W) (k : OgK x W W') : KeepsOthers W W' := ⟨k.size, fun i o hi ho => by
  have hl : i < W.heap.size := (Array.getElem?_eq_some_iff.1 hi).1
  refine (k.block i hl (fun e => ?_)).trans hi
  obtain ⟨cur, hc⟩ := h.at0 e
  rw [hc] at hi
  injection hi with hi
  subst hi
  cases ho⟩
theorem Og.grown {e : TypeId} {B : Nat} {x : Value} {V : List Value} {W W' : World} {row : Option Nat} (h : Og e B x V W) (hg : W.grownBy W' row) (hrow : ∀ r, row = some r → ∃ o : Obj, W.heap[r]? = some o ∧ o.isCells = false) : Og e B x V W' := h.kept fun g hgx _ => by
  obtain ⟨cur, hc⟩ := h.at0 hgx
  exact grownBy_keeps_cells hg hrow hc rfl
set_option maxRecDepth 100000 in
set_option maxHeartbeats 4000000 in
theorem bcollect (Bp Bt : Nat) (a : Option Addr) (len cap : Nat) (N P F : Nat → Int) (t : Int) (w : World) (hlen : len ≤ 32) (hp : Bp < w.heap.size) (ht : Bt < w.heap.size) (h0t : 0 ≤ t ∧ t ≤ 9223372036854775807) (hS : ∀ i, i < len → srB (N i) (P i) (F i) = true) (hBp : w.cell? ⟨Bp, 0, none⟩ = some (.slice a len cap)) (hBt : w.cell? ⟨Bt, 0, none⟩ = some (.int .i64 t)) (hPl : Pl w a len N P F) :
    Calls Try.prog 28 #[.slice none 0 0, .func (.func 29) #[] #[.pointer (some ⟨Bp, 0, none⟩), .pointer (some ⟨Bt, 0, none⟩)]] w fun e w' => ∃ x', e = .returned x' ∧ Og 3 w.heap.size x' (lvals (duL P F t len)) w' ∧ Below w.heap.size w w' := by
  refine (callsIn_wide (n := 6)).1 ?_
  refine callsIn_of_wp_marks Try.func28 rfl trivial ?_ rfl
  simp only [Try.ntmps28, List.size_toArray, List.length_cons, List.length_nil, Nat.reduceAdd, Nat.reduceSub, Array.replicate_succ, Array.replicate_zero, List.push_toArray, List.append_toArray, List.nil_append, List.cons_append]
  gi_wp2
  obtain ⟨B, eB⟩ : ∃ B, w.heap.size = B := ⟨_, rfl⟩
  have hA := (Below.refl w.heap.size w).alloc (Nat.le_refl _) (.cells #[.slice none 0 0] 24)
  obtain ⟨w0, ew0⟩ : ∃ w0, w0 = w.alloc (.cells #[.slice none 0 0] 24) := ⟨_, rfl⟩
  have F0 : w0.cell? ⟨B, 0, none⟩ = some (.slice none 0 0) ∧ w0.frozen? ⟨B, 0, none⟩ = false ∧ w0.heap.size = B + 1 := by
    rw [ew0, ← eB]
    exact ⟨by go_simp, by go_simp, by simp⟩
  rw [← ew0] at hA ⊢
  rw [eB] at hA hp ht ⊢
  clear ew0
  obtain ⟨c0, f0, hs0⟩ := F0
  refine wpIn_rangeFunc_ownF rfl (by decide) (gf := 29) (lb := #[.pointer (some ⟨Bp, 0, none⟩), .pointer (some ⟨Bt, 0, none⟩)]) rfl trivial (enters_of Try.func29 (by kernel_rfl) rfl)
    (due_stops 5 (by decide) Bp Bt B a len cap N P F t hlen hp ht h0t hS w0 (by omega) ((hA.cell (p := ⟨Bp, 0, none⟩) hp).trans hBp) ((hA.cell (p := ⟨Bt, 0, none⟩) ht).trans hBt) (fun u k => hPl.below (by rw [eB]; exact hA.trans k))) belowK_t (belowK_b (by omega)) (Below.refl _ _) (fun _ => rfl)
    (fun pre W => (B + 1 ≤ W.heap.size ∧ ∃ x', (W.cell? ⟨B, 0, none⟩ = some x' ∧ W.frozen? ⟨B, 0, none⟩ = false) ∧ Og 3 (B + 1) x' (lvals pre) W) ∧ Below B w W)
    (fun _ _ _ => False)
    (OwnFrom.and (Own.from (fun s X Y row hs hg hr => by
        obtain ⟨h0, x', ⟨h1, h2⟩, h3⟩ := hs
        exact ⟨Nat.le_trans h0 hg.size, x', ⟨cell_kept h1 hg hr, (frozen_kept h1 hg hr).trans h2⟩, h3.grown hg hr⟩) _)
      (ownFrom_below (by omega) (by omega)))
    (fun _ _ _ _ _ hs _ _ => hs)
    ⟨⟨by omega, _, ⟨c0, f0⟩, Og.nil _ _ _⟩, hA⟩
    (fun x => { tmps := #[.slice none 0 0, .func (.func 29) #[] #[.pointer (some ⟨Bp, 0, none⟩), .pointer (some ⟨Bt, 0, none⟩)], .pointer (some ⟨B, 0, none⟩), undef, .slice none 0 0, .int .i64 (x : Int), .func (.func 29) #[] #[.pointer (some ⟨Bp, 0, none⟩), .pointer (some ⟨Bt, 0, none⟩)], .int .i64 (x : Int), undef, undef, undef, undef, undef], defers := [] }) ?assign ?body ?done ?stop
  case assign =>
    intro l x W K hK
    gi_wp2
    exact hK
  case body =>
    rintro l pre x W ⟨⟨hs, x', ⟨k1, k2⟩, hO⟩, hB⟩ hlen2
    have hA1 := (Below.refl W.heap.size W).alloc (Nat.le_refl _) (.cells #[.int .i64 (x : Int)] 3)
    have hO3 := Lib.hid (hO.bel hA1)
    have hz3 := Lib.hid (show B + 1 ≤ (W.alloc (.cells #[.int .i64 (x : Int)] 3)).heap.size by simp; omega)
    have SR := Lib.hid (src_new 24 3 3 Try.underlying24 W [.int .i64 (x : Int)] (fun u hu => by simp at hu; subst hu; rfl))
    have GL := Lib.hid (show (lvals pre).length + 1 ≤ 100 by rw [lvals_len]; omega)
    obtain ⟨ax, cx, ex, -, -, -⟩ := hO.row
    obtain ⟨lp, elp⟩ : ∃ z, (lvals pre).length = z := ⟨_, rfl⟩
    rw [elp] at ex
    subst ex
    have k3 : (W.alloc (.cells #[.int .i64 (x : Int)] 3)).cell? ⟨B, 0, none⟩ = some (.slice ax lp cx) := (hA1.cell (p := ⟨B, 0, none⟩) (by show B < _; omega)).trans k1
    have k4 : (W.alloc (.cells #[.int .i64 (x : Int)] 3)).frozen? ⟨B, 0, none⟩ = false := (hA1.frozen (p := ⟨B, 0, none⟩) (by show B < _; omega)).trans k2
    gi_wp2_with (gi_at_builtin; refine wpListIn_append_og _ rfl (.tmp 8) (.tmp 10) 24 24 rfl 3 (.int .i64 0) 8 Try.underlying24 (by kernel_rfl) rfl (B + 1) _ _ rfl hO3.out hz3.out _ 1 _ rfl SR.out (by have := GL.out; unfold maxLen; omega) (by have := GL.out; omega) ?_; intro x2 w5 hO5 hK5 hN5; obtain ⟨a2, c2, ex2, -, -, -⟩ := hO5.row; obtain ⟨l2, el2⟩ : ∃ z, (lvals pre ++ [Value.int .i64 (x : Int)]).length = z := ⟨_, rfl⟩; rw [el2] at ex2; subst ex2; have e1 := hK5.block B (by simp; omega) (fun e => by have := (hO3.out.lt e).1; omega); have k5 : w5.cell? ⟨B, 0, none⟩ = some (.slice ax lp cx) := (World.cell?_of_block (a := ⟨B, 0, none⟩) e1).trans k3; have k6 : w5.frozen? ⟨B, 0, none⟩ = false := (World.frozen?_of_block (a := ⟨B, 0, none⟩) e1).trans k4)
    have o1 := (KeepsOthers.alloc W (.cells #[.int .i64 (x : Int)] 3)).trans (hO3.out.others hK5)
    have r2 : Below B W w5 := (hA1.mono (by omega)).trans ((hK5.below hO3.out hz3.out).mono (by omega))
    have q1 := o1.trans (KeepsOthers.setCell w5 ⟨B, 0, none⟩ (.slice a2 l2 c2))
    have q2 : Below B W (w5.setCell ⟨B, 0, none⟩ (.slice a2 l2 c2)) := r2.setCell (p := ⟨B, 0, none⟩) (Nat.le_refl B) _
    have q3 : Og 3 (B + 1) (.slice a2 l2 c2) (lvals (pre ++ [x])) (w5.setCell ⟨B, 0, none⟩ (.slice a2 l2 c2)) := by
      rw [show lvals (pre ++ [x]) = lvals pre ++ [Value.int .i64 (x : Int)] by simp [lvals]]
      exact hO5.kept fun g hg _ => Below.heap_setCell w5 ⟨B, 0, none⟩ _ g (by have := (hO5.lt hg).1; show g ≠ B; omega)
    have q4 : B + 1 ≤ (w5.setCell ⟨B, 0, none⟩ (.slice a2 l2 c2)).heap.size := by have := r2.size; simp; omega
    exact ⟨q1, q2, ⟨q4, _, ⟨World.cell?_setCell_same w5 ⟨B, 0, none⟩ (.slice a2 l2 c2) k5, by simp [k6]⟩, q3⟩, hB.trans q2⟩
  case done =>
    rintro D ys W hD rfl ⟨⟨hs, x', ⟨k1, k2⟩, hO⟩, hB⟩ hK
    obtain ⟨ao, co, ex, -, -, -⟩ := hO.row
    gi_wp2
    refine ⟨by simp, .inl ⟨_, _, rfl, run_takeDeferred hK, ?_⟩⟩
    have hW : Below B w (W.putObj D (.deferred none)) := hB.trans (belowK_b (w := w) (by omega) W D _ _ (by omega) hK rfl rfl)
    have hO2 : Og 3 (B + 1) x' (lvals (duL P F t len)) (W.putObj D (.deferred none)) := hO.grown (grownBy_putObj' W D (.deferred none)) (fun r e => by cases e; exact ⟨_, hK, rfl⟩)
    have hO2 := Lib.hid (hO2.mono (show B ≤ B + 1 by omega))
    have hW := Lib.hid hW
    simp [LeavesInM, LeavesIn, results, Try.results28, go_sem]
    rw [eB, ← ex]
    exact ⟨hO2.out, hW.out⟩
  case stop =>
    rintro D c pre W _ _ h _
    exact h.elim
end Go.Proofs.Ytcpmdgbogdikiaa
