/- Package tape: Write, which goes over parts of fifty rows; walked. -/
import Derived.Test.YtpcbnoefgknihaaTapeU
import Derived.Test.YtpcbnoefgknihaaTape7
namespace Go.Proofs.Ytpcbnoefgknihaa
open Go.ChangeShapes Go.WideShapes Go.ChangeAt Go.RowKit Go.Shelf
set_option linter.unusedVariables false
set_option linter.unusedSimpArgs false
attribute [local go_sem] Oper.semAt_some
theorem Og.at0 {e : TypeId} {B : Nat} {x : Value} {V : List Value} {w : World} (h : Og e B x V w) {g : Nat} (hg : ogB x = some g) : ∃ cur, w.heap[g]? = some (.cells cur e (0, 0)) := by
  rcases h with ⟨rfl, _⟩ | ⟨g', off, cap, cur, rfl, hB, hgg, _⟩
  · cases hg
  · injection hg with hg
    subst hg
    exact ⟨cur, hgg⟩
theorem Og.others {e : TypeId} {B : Nat} {x : Value} {V : List Value} {W W' : World} (h : Og e B x V W) (k : OgK x W W') : KeepsOthers W W' := ⟨k.size, fun i o hi ho => by
  have hl : i < W.heap.size := (Array.getElem?_eq_some_iff.1 hi).1
  refine (k.block i hl (fun e => ?_)).trans hi
  obtain ⟨cur, hc⟩ := h.at0 e
  rw [hc] at hi
  injection hi with hi
  subst hi
  cases ho⟩
theorem Og.grown {e : TypeId} {B : Nat} {x : Value} {V : List Value} {W W' : World} {row : Option Nat} (h : Og e B x V W) (hg : W.grownBy W' row) (hrow : ∀ r, row = some r → ∃ o : Obj, W.heap[r]? = some o ∧ o.isCells = false) : Og e B x V W' := h.kept fun g hgx _ => by
  obtain ⟨cur, hc⟩ := h.at0 hgx
  exact grownBy_keeps_cells hg hrow hc rfl
def ptZ (Z : List (List Int)) (k : Nat) : List (List Int) := (Z.drop (50 * k)).take 50
theorem ptZ_len (Z : List (List Int)) (k : Nat) : (ptZ Z k).length = min 50 (Z.length - 50 * k) := by unfold ptZ; rw [List.length_take, List.length_drop]
theorem ptZ_at (Z : List (List Int)) (k : Nat) {i : Nat} (h : i < (ptZ Z k).length) : (ptZ Z k).getD i [] = Z.getD (50 * k + i) [] := by
  rw [ptZ_len] at h
  simp [ptZ, List.getD, List.getElem?_take, List.getElem?_drop, show i < 50 by omega]
/-- The bytes of the first k parts. -/
def wtB (width : Nat) (Z : List (List Int)) : Nat → List Int
  | 0 => []
  | k + 1 => wtB width Z k ++ bkB width (ptZ Z k)
theorem grid_part {k : IntKind} {w : World} {a : Option Addr} {A : Nat → Option Addr} {C : Nat → Nat} {Z : List (List Int)} (h : GridIs k w a A C Z) (j : Nat) : GridIs k w (a.map (·.add (50 * j))) (fun i => A (50 * j + i)) (fun i => C (50 * j + i)) (ptZ Z j) := by
  refine ⟨?_, fun i hi => ?_⟩
  · rcases h.cells with rfl | ⟨b, off, rfl, hlt, hc⟩
    · exact .inl (by simp [ptZ])
    · refine .inr ⟨b, off + 50 * j, by simp [Addr.add_lit], hlt, fun i hi => ?_⟩
      rw [ptZ_at Z j hi, show off + 50 * j + i = off + (50 * j + i) by omega]
      exact hc _ (by rw [ptZ_len] at hi; omega)
  · rw [ptZ_at Z j hi]
    exact h.rows _ (by rw [ptZ_len] at hi; omega)
theorem fit_part {width : Int} {Z : List (List Int)} (h : fitB width Z = true) (j : Nat) : fitB width (ptZ Z j) = true := by
  unfold fitB at h ⊢
  have h := of_decide_eq_true h
  exact decide_eq_true fun i hi => by
    rw [ptZ_at Z j hi]
    exact h _ (by rw [ptZ_len] at hi; omega)
theorem bk_len {width : Nat} {Z : List (List Int)} (hw : width ≤ 16) (hf : fitB (width : Int) Z = true) (hn : Z.length ≤ 50) : (bkB width Z).length ≤ 8004 ∧ (1 ≤ Z.length → 2 ≤ (bkB width Z).length) := by
  have hb := blB_len (width := width) (m := 16) (Z := Z) (fun i hi => by have := fit_at hf hi; omega) Z.length (Nat.le_refl _)
  unfold bkB bdB
  simp only [List.length_append, hd_len, List.length_cons, List.length_nil]
  omega
theorem wt_len {width : Nat} {Z : List (List Int)} (hw : width ≤ 16) (hf : fitB (width : Int) Z = true) : ∀ k, (wtB width Z k).length ≤ 8004 * k
  | 0 => by simp [wtB]
  | k + 1 => by
    have := wt_len hw hf k
    have := (bk_len (Z := ptZ Z k) hw (fit_part hf k) (by rw [ptZ_len]; omega)).1
    simp only [wtB, List.length_append]
    omega
def wtL (width : Nat) (Z : List (List Int)) : List Nat → List Int
  | [] => []
  | x :: r => bkB width (ptZ Z x) ++ wtL width Z r
theorem wtL_snoc (width : Nat) (Z : List (List Int)) (x : Nat) : ∀ pre, wtL width Z (pre ++ [x]) = wtL width Z pre ++ bkB width (ptZ Z x)
  | [] => by simp [wtL]
  | y :: r => by simp [wtL, wtL_snoc width Z x r]
theorem wtL_range (width : Nat) (Z : List (List Int)) : ∀ k, wtL width Z (List.range k) = wtB width Z k
  | 0 => rfl
  | k + 1 => by rw [List.range_succ, wtL_snoc, wtL_range width Z k]; rfl
theorem wtL_len {width : Nat} {Z : List (List Int)} (hw : width ≤ 16) (hf : fitB (width : Int) Z = true) : ∀ pre, (wtL width Z pre).length ≤ 8004 * pre.length
  | [] => by simp [wtL]
  | x :: r => by
    have := wtL_len hw hf r
    have := (bk_len (Z := ptZ Z x) hw (fit_part hf x) (by rw [ptZ_len]; omega)).1
    simp only [wtL, List.length_append, List.length_cons]
    omega
set_option maxRecDepth 100000 in
set_option maxHeartbeats 4000000 in
theorem twrite_w (width : Int) (a : Option Addr) (n cap : Nat) (w : World) (h : ¬ (1 ≤ width ∧ width ≤ 16)) : Calls Try.prog 30 #[.int .i64 width, .slice a n cap] w fun e w' => e = .returned (.tuple #[.slice none 0 0, .int .i64 2]) ∧ Below w.heap.size w w' := by
  have W := fun u => tiswidth width u
  rw [decide_eq_false h] at W
  replace W := Lib.hid W
  refine (callsIn_wide (n := 6)).1 ?_
  refine callsIn_of_wp_marks Try.func30 rfl trivial ?_ rfl
  simp only [Try.ntmps30, List.size_toArray, List.length_cons, List.length_nil, Nat.reduceAdd, Nat.reduceSub, Array.replicate_succ, Array.replicate_zero, List.push_toArray, List.append_toArray, List.nil_append, List.cons_append]
  have hB0 := Lib.hid ((Below.refl w.heap.size w).alloc (Nat.le_refl _) (.cells #[.int .i64 width] 3))
  gi_wp2_with (refine ⟨trivial, ?_⟩; gi_at_call 48; refine (callsIn_wide.2 (W.out _)).mono ?_; rintro e w1 ⟨rfl, rfl⟩)
  simp [bodyPostM, LeavesInM, LeavesIn, results, Try.results30, go_sem]
  exact hB0.out
set_option maxRecDepth 100000 in
set_option maxHeartbeats 4000000 in
theorem twrite_l (width : Nat) (a : Option Addr) (A : Nat → Option Addr) (C : Nat → Nat) (Z : List (List Int)) (cap : Nat) (w : World) (hG : GridIs .i64 w a A C Z) (hw : 1 ≤ width ∧ width ≤ 16) (hZ : Z.length ≤ maxLen) (hR : ∀ i, i < Z.length → (Z.getD i []).length ≤ maxLen) (h : 1000 < Z.length ∨ fitB (width : Int) Z = false) : Calls Try.prog 30 #[.int .i64 (width : Int), .slice a Z.length cap] w fun e w' => e = .returned (.tuple #[.slice none 0 0, .int .i64 12]) ∧ Below w.heap.size w w' := by
  have W := fun u => tiswidth (width : Int) u
  rw [decide_eq_true (show 1 ≤ (width : Int) ∧ (width : Int) ≤ 16 by omega)] at W
  replace W := Lib.hid W
  have FI := Lib.hid (fun u (k : Below w.heap.size w u) => tfits (width : Int) a A C Z cap u (hG.below k) hZ hR)
  have hB0 := Lib.hid ((Below.refl w.heap.size w).alloc (Nat.le_refl _) (.cells #[.int .i64 (width : Int)] 3))
  have FI := Lib.hid (FI.out _ hB0.out)
  have hZ' : (Z.length : Int) ≤ 9223372036854775807 := by unfold maxLen at hZ; omega
  clear hR hZ hG
  by_cases q : 1000 < Z.length
  · have q1 : (1000 : Int) < (Z.length : Int) := by omega
    have q2 : decide ((1000 : Int) < (Z.length : Int)) = true := decide_eq_true q1
    refine (callsIn_wide (n := 6)).1 ?_
    refine callsIn_of_wp_marks Try.func30 rfl trivial ?_ rfl
    simp only [Try.ntmps30, List.size_toArray, List.length_cons, List.length_nil, Nat.reduceAdd, Nat.reduceSub, Array.replicate_succ, Array.replicate_zero, List.push_toArray, List.append_toArray, List.nil_append, List.cons_append]
    gi_wp2_with (refine ⟨trivial, ?_⟩; gi_at_call 48; refine (callsIn_wide.2 (W.out _)).mono ?_; rintro e w1 ⟨rfl, rfl⟩)
    refine ⟨trivial, ?_⟩
    gi_wp2
    simp [bodyPostM, LeavesInM, LeavesIn, results, Try.results30, go_sem]
    exact hB0.out
  · have hf : fitB (width : Int) Z = false := h.resolve_left q
    rw [hf] at FI
    have q1 : ¬ (1000 : Int) < (Z.length : Int) := by omega
    have q2 : decide ((1000 : Int) < (Z.length : Int)) = false := decide_eq_false q1
    generalize Z.length = n at *
    refine (callsIn_wide (n := 6)).1 ?_
    refine callsIn_of_wp_marks Try.func30 rfl trivial ?_ rfl
    simp only [Try.ntmps30, List.size_toArray, List.length_cons, List.length_nil, Nat.reduceAdd, Nat.reduceSub, Array.replicate_succ, Array.replicate_zero, List.push_toArray, List.append_toArray, List.nil_append, List.cons_append]
    gi_wp2_with (first | (refine ⟨trivial, ?_⟩; gi_at_call 48; refine (callsIn_wide.2 (W.out _)).mono ?_; rintro e w1 ⟨rfl, rfl⟩) | (refine ⟨trivial, ?_⟩; gi_at_call 49; refine (callsIn_wide.2 FI.out).mono ?_; rintro e w1 ⟨rfl, rfl⟩))
    simp [bodyPostM, LeavesInM, LeavesIn, results, Try.results30, go_sem]
    exact hB0.out
set_option maxRecDepth 100000 in
set_option maxHeartbeats 4000000 in
theorem twrite_ok (width : Nat) (a : Option Addr) (A : Nat → Option Addr) (C : Nat → Nat) (Z : List (List Int)) (cap : Nat) (w : World) (hG : GridIs .i64 w a A C Z) (hcap : Z.length ≤ cap) (hw : 1 ≤ width ∧ width ≤ 16) (hn : Z.length ≤ 1000) (hR : ∀ i, i < Z.length → (Z.getD i []).length ≤ maxLen) (hf : fitB (width : Int) Z = true) : Calls Try.prog 30 #[.int .i64 (width : Int), .slice a Z.length cap] w fun e w' => ∃ x', e = .returned (.tuple #[x', .int .i64 0]) ∧ Og 5 w.heap.size x' (nvals .u8 (wtB width Z (ckN Z.length))) w' ∧ Below w.heap.size w w' := by
  have W := fun u => tiswidth (width : Int) u
  rw [decide_eq_true (show 1 ≤ (width : Int) ∧ (width : Int) ≤ 16 by omega)] at W
  replace W := Lib.hid W
  have FI := fun u (k : Below w.heap.size w u) => tfits (width : Int) a A C Z cap u (hG.below k) (by unfold maxLen; omega) hR
  have hB0 := Lib.hid ((Below.refl w.heap.size w).alloc (Nat.le_refl _) (.cells #[.int .i64 (width : Int)] 3))
  have FI := FI _ hB0.out
  rw [hf] at FI
  replace FI := Lib.hid FI
  have hZ' : (Z.length : Int) ≤ 1000 := by omega
  have GP := Lib.hid (fun u (k : Below w.heap.size w u) j => grid_part (hG.below k) j)
  have HF := Lib.hid (fun j => fit_part hf j)
  have HC := Lib.hid hcap
  have HW := Lib.hid hw
  have WL := Lib.hid (wtL_len (Z := Z) hw.2 hf)
  have GI := Lib.hid hG
  clear hR hG hf hcap hw
  obtain ⟨n, en⟩ : ∃ n, Z.length = n := ⟨_, rfl⟩
  have EN := Lib.hid en
  rw [en] at hZ' FI hn ⊢
  clear en
  have q2 : decide ((1000 : Int) < (n : Int)) = false := decide_eq_false (by omega)
  have q1 : ¬ (1000 : Int) < (n : Int) := by omega
  refine (callsIn_wide (n := 6)).1 ?_
  refine callsIn_of_wp_marks Try.func30 rfl trivial ?_ rfl
  simp only [Try.ntmps30, List.size_toArray, List.length_cons, List.length_nil, Nat.reduceAdd, Nat.reduceSub, Array.replicate_succ, Array.replicate_zero, List.push_toArray, List.append_toArray, List.nil_append, List.cons_append]
  gi_wp2_with (first | (refine ⟨trivial, ?_⟩; gi_at_call 48; refine (callsIn_wide.2 (W.out _)).mono ?_; rintro e w1 ⟨rfl, rfl⟩) | (refine ⟨trivial, ?_⟩; gi_at_call 49; refine (callsIn_wide.2 FI.out).mono ?_; rintro e w1 ⟨rfl, rfl⟩) | (refine ⟨trivial, ?_⟩; gi_at_call 52; refine (callsIn_wide.2 (chunk_any _ _ _ _)).mono ?_; rintro e w1 ⟨rfl, rfl⟩))
  obtain ⟨B, eB⟩ : ∃ B, w.heap.size = B := ⟨_, rfl⟩
  have EB := Lib.hid eB
  obtain ⟨w0, ew0⟩ : ∃ w0, w0 = (((w.alloc (.cells #[.int .i64 (width : Int)] 3)).alloc (.cells #[.slice none 0 0] 22)).alloc (.cells #[.slice a n cap] 35)).alloc (.cells #[.int .i64 50] 3) := ⟨_, rfl⟩
  have F0 : w0.cell? ⟨B, 0, none⟩ = some (.int .i64 (width : Int)) ∧ w0.cell? ⟨B + 1, 0, none⟩ = some (.slice none 0 0) ∧ w0.cell? ⟨B + 2, 0, none⟩ = some (.slice a n cap) ∧ w0.cell? ⟨B + 3, 0, none⟩ = some (.int .i64 50) ∧ w0.frozen? ⟨B + 1, 0, none⟩ = false ∧ w0.heap.size = B + 4 ∧ Below B w w0 := by
    rw [ew0, ← eB]
    exact ⟨by go_simp, by go_simp, by go_simp, by go_simp, by go_simp, by simp, ((((Below.refl w.heap.size w).alloc (Nat.le_refl _) _).alloc (by simp) _).alloc (by simp; omega) _).alloc (by simp; omega) _⟩
  rw [← ew0]
  rw [eB]
  rw [show B + 1 + 1 + 1 = B + 3 from rfl, show B + 1 + 1 = B + 2 from rfl]
  clear ew0
  obtain ⟨c0, c1, c2, c3, f1, hs0, hb0⟩ := F0
  have hcn : n ≤ cap := by have := HC.out; have := EN.out; omega
  refine wpIn_rangeFunc_ownF rfl (by decide) (gf := 60) (lb := #[.pointer (some ⟨B + 2, 0, none⟩), .pointer (some ⟨B + 3, 0, none⟩)]) rfl trivial (enters_of Try.func60 (by kernel_rfl) rfl)
    (chunk_stops 5 (by decide) (B + 2) (B + 3) (B + 4) (B + 1) a n cap (by omega) hcn (by omega) (by omega) w0 (by omega) c2 c3) (fun h k => h.trans k)
    (fun W l o o' hl _ _ _ => ⟨by simp, fun k hk _ => World.putObj_heap_other (by omega)⟩) (Below.refl _ _) (fun _ => rfl)
    (fun pre W => (B + 4 ≤ W.heap.size ∧ ∃ x', (W.cell? ⟨B + 1, 0, none⟩ = some x' ∧ W.frozen? ⟨B + 1, 0, none⟩ = false) ∧ Og 5 (B + 4) x' (nvals .u8 (wtL width Z pre)) W) ∧ W.cell? ⟨B, 0, none⟩ = some (.int .i64 (width : Int)) ∧ Below B w W)
    (fun _ _ _ => False)
    (OwnFrom.and (Own.from (fun s X Y row hs hg hr => by
        obtain ⟨h0, x', ⟨h1, h2⟩, h3⟩ := hs
        exact ⟨Nat.le_trans h0 hg.size, x', ⟨cell_kept h1 hg hr, (frozen_kept h1 hg hr).trans h2⟩, h3.grown hg hr⟩) _)
      (OwnFrom.and (Own.from (fun s X Y row hs hg hr => cell_kept hs hg hr) _) (ownFrom_below (by omega) (by omega))))
    (fun _ _ _ _ _ hs _ _ => hs)
    ⟨⟨by omega, _, ⟨c1, f1⟩, Og.nil _ _ _⟩, c0, hb0⟩
    (fun x => { tmps := #[.int .i64 (width : Int), .slice a n cap, .pointer (some ⟨B, 0, none⟩), undef, .slice none 0 0, .int .i64 0, .pointer (some ⟨B + 1, 0, none⟩), ckE a n x, .bool false, .int .i64 (width : Int), .bool true, .bool false, .bool false, .slice a n cap, .int .i64 (n : Int), .bool false, .bool false, .int .i64 (width : Int), .slice a n cap, .bool true, .bool false, .bool false, .slice a n cap, .func (.func 60) #[] #[.pointer (some ⟨B + 2, 0, none⟩), .pointer (some ⟨B + 3, 0, none⟩)], ckE a n x, undef, undef, undef, undef, undef], defers := [] }) ?assign ?body ?done ?stop
  case assign =>
    intro l x W K hK
    gi_wp2
    exact hK
  case body =>
    rintro l pre x W ⟨⟨hs, x', ⟨k1, k2⟩, hO⟩, k0, hB⟩ hlen
    have T := tappblk (B + 4) x' (wtL width Z pre) width (a.map (·.add (50 * x))) (fun i => A (50 * x + i)) (fun i => C (50 * x + i)) (ptZ Z x) (min 50 (n - 50 * x)) w W (GP.out w (Below.refl _ _) x) (by rw [eB]; exact hB) (by omega) hO hs (by have := WL.out pre; unfold ckN at hlen; omega) HW.out.1 HW.out.2 (by rw [ptZ_len]; omega) (HF.out x)
    rw [ptZ_len, EN.out] at T
    have WS := Lib.hid (wtL_snoc width Z x pre)
    have k1 := k1
    replace T := Lib.hid T
    unfold ckE
    have hO := Lib.hid hO
    obtain ⟨ax, cx, ex, -, -, -, -⟩ := hO.out.rowIs
    subst ex
    gi_wp2_with fail
    refine ⟨trivial, ?_⟩
    refine (CallsIn.inRound l (callsIn_wide.2 T.out)).mono ?_
    rintro e w1 ⟨x3, rfl, hO3, hK3, hN3⟩
    obtain ⟨a3, c3', ex3, -, -, -, -⟩ := hO3.rowIs
    obtain ⟨l3, el3⟩ : ∃ z, (wtL width Z pre ++ bkB width (ptZ Z x)).length = z := ⟨_, rfl⟩
    rw [el3] at ex3
    subst ex3
    have o1 := hO.out.others hK3
    have e1 := hK3.block (B + 1) (by omega) (fun e => by have := (hO.out.lt e).1; omega)
    have e0 := hK3.block B (by omega) (fun e => by have := (hO.out.lt e).1; omega)
    have k3 : w1.cell? ⟨B + 1, 0, none⟩ = some _ := (World.cell?_of_block (a := ⟨B + 1, 0, none⟩) e1).trans k1
    have k4 : w1.frozen? ⟨B + 1, 0, none⟩ = false := (World.frozen?_of_block (a := ⟨B + 1, 0, none⟩) e1).trans k2
    have k5 : w1.cell? ⟨B, 0, none⟩ = some (.int .i64 (width : Int)) := (World.cell?_of_block (a := ⟨B, 0, none⟩) e0).trans k0
    have r1 := Lib.hid (o1.trans (KeepsOthers.setCell w1 ⟨B + 1, 0, none⟩ (.slice a3 l3 c3')))
    have r2 := Lib.hid (show KpC (B + 4) (B + 1) W (w1.setCell ⟨B + 1, 0, none⟩ (.slice a3 l3 c3')) from ⟨by simpa using hK3.size, fun k hk hb => (Below.heap_setCell w1 ⟨B + 1, 0, none⟩ _ k hb).trans (hK3.block k (by omega) (fun e => by have := (hO.out.lt e).1; omega))⟩)
    have r3 := Lib.hid (show Below B w (w1.setCell ⟨B + 1, 0, none⟩ (.slice a3 l3 c3')) from (hB.trans ((hK3.below hO.out hs).mono (by omega))).setCell (p := ⟨B + 1, 0, none⟩) (by show B ≤ B + 1; omega) _)
    have r4 := Lib.hid (show Og 5 (B + 4) (.slice a3 l3 c3') (nvals .u8 (wtL width Z (pre ++ [x]))) (w1.setCell ⟨B + 1, 0, none⟩ (.slice a3 l3 c3')) by
      rw [WS.out]
      exact hO3.kept fun g hg _ => Below.heap_setCell w1 ⟨B + 1, 0, none⟩ _ g (by have := (hO3.lt hg).1; show g ≠ B + 1; omega))
    have r5 := Lib.hid (show (w1.setCell ⟨B + 1, 0, none⟩ (.slice a3 l3 c3')).cell? ⟨B, 0, none⟩ = some (.int .i64 (width : Int)) from (World.cell?_of_block (a := ⟨B, 0, none⟩) (Below.heap_setCell w1 ⟨B + 1, 0, none⟩ _ B (by show B ≠ B + 1; omega))).trans k5)
    have r6 := Lib.hid (show B + 4 ≤ (w1.setCell ⟨B + 1, 0, none⟩ (.slice a3 l3 c3')).heap.size by have := hK3.size; simp; omega)
    have r7 := Lib.hid (World.cell?_setCell_same w1 ⟨B + 1, 0, none⟩ (.slice a3 l3 c3') k3)
    have r8 := Lib.hid (show (w1.setCell ⟨B + 1, 0, none⟩ (.slice a3 l3 c3')).frozen? ⟨B + 1, 0, none⟩ = false by simp [k4])
    clear hO3 hK3 hN3 o1 e1 e0 T
    gi_wp2
    exact ⟨r1.out, r2.out, ⟨r6.out, _, ⟨r7.out, r8.out⟩, r4.out⟩, r5.out, r3.out⟩
  case done =>
    rintro D ys W hD rfl ⟨⟨hs, x', ⟨k1, k2⟩, hO⟩, k0, hB⟩ hK
    obtain ⟨ax, cx, ex, -, -, -, -⟩ := hO.rowIs
    gi_wp2
    refine ⟨by simp, .inl ⟨_, _, rfl, run_takeDeferred hK, ?_⟩⟩
    have hW : Below B w (W.putObj D (.deferred none)) := hB.trans (belowK_b (w := w) (by omega) W D _ _ (by omega) hK rfl rfl)
    have hO2 : Og 5 (B + 4) x' (nvals .u8 (wtL width Z (List.range (ckN n)))) (W.putObj D (.deferred none)) := hO.grown (grownBy_putObj' W D (.deferred none)) (fun r e => by cases e; exact ⟨_, hK, rfl⟩)
    rw [wtL_range] at hO2
    have hO2 := Lib.hid (hO2.mono (show B ≤ B + 4 by omega))
    have hW := Lib.hid hW
    simp [LeavesInM, LeavesIn, results, Try.results30, go_sem]
    rw [eB, ← ex]
    exact ⟨hO2.out, hW.out⟩
  case stop =>
    rintro D c pre W _ _ h _
    exact h.elim
end Go.Proofs.Ytpcbnoefgknihaa
