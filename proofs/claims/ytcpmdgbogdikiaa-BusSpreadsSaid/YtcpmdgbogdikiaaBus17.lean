/- Package bus: Busiest; walked. -/
import Derived.Test.YtcpmdgbogdikiaaBus16
namespace Go.Proofs.Ytcpmdgbogdikiaa
open Go.ChangeShapes Go.WideShapes Go.ChangeAt Go.RowKit Go.Shelf
set_option linter.unusedVariables false
set_option linter.unusedSimpArgs false
attribute [local go_sem] Oper.semAt_some
/-- Of the blocks below n nothing but block b changes. -/
def KpC (n b : Nat) (W W' : World) : Prop := W.heap.size ≤ W'.heap.size ∧ ∀ k, k < n → k ≠ b → W'.heap[k]? = W.heap[k]?
theorem KpC.refl (n b : Nat) (W : World) : KpC n b W W := ⟨Nat.le_refl _, fun _ _ _ => rfl⟩
theorem KpC.trans {n b : Nat} {U V W : World} (h : KpC n b U V) (k : KpC n b V W) : KpC n b U W := ⟨Nat.le_trans h.1 k.1, fun i hi hb => (k.2 i hi hb).trans (h.2 i hi hb)⟩
theorem KpC.alloc {n b : Nat} {U V : World} (h : KpC n b U V) (hn : n ≤ V.heap.size) (o : Obj) : KpC n b U (V.alloc o) := h.trans ⟨by simp, fun k hk _ => ((Below.refl V.heap.size V).alloc (Nat.le_refl _) o).block k (by omega)⟩
theorem Pl.kpc {v w u : World} {a : Option Addr} {n n0 : Nat} {N P F : Nat → Int} (h : Pl v a n N P F) (hb : Below v.heap.size v w) (hn : v.heap.size ≤ n0) (k : KpC n0 v.heap.size w u) : Pl u a n N P F := by
  rcases h with h | ⟨b, off, e, hlt, hc⟩
  · exact .inl h
  · have q : ∀ (off : Nat) (x : Value), v.cell? ⟨b, off, none⟩ = some x → u.cell? ⟨b, off, none⟩ = some x := fun off x hx => (World.cell?_of_block (a := ⟨b, off, none⟩) (k.2 b (by omega) (by omega))).trans ((bc hb hlt).trans hx)
    exact .inr ⟨b, off, e, by have := k.1; have := hb.size; omega, fun i hi => ⟨q _ _ (hc i hi).1, q _ _ (hc i hi).2.1, q _ _ (hc i hi).2.2⟩⟩
set_option maxRecDepth 100000 in
set_option maxHeartbeats 4000000 in
theorem due2_in (n : Nat) (hn : 1 ≤ n) (l Bp Bt n0 Bb : Nat) (a : Option Addr) (len cap : Nat) (N P F : Nat → Int) (t : Int) (hlen : len ≤ 32) (hp : Bp < n0 ∧ Bp ≠ Bb) (ht : Bt < n0 ∧ Bt ≠ Bb) (h0t : 0 ≤ t ∧ t ≤ 9223372036854775807) (hS : ∀ i, i < len → srB (N i) (P i) (F i) = true) (J Jx : List Nat → World → Prop)
    (W : World) (hn0 : n0 ≤ W.heap.size)
    (hA : ∀ pre u o, J pre u → J pre (u.alloc o))
    (hY : ∀ (pre : List Nat) (x : Nat) (u : World), J pre u → pre.length < len → YieldAt Fence.wide (n - 1) Try.prog l #[.int .i64 (x : Int)] u fun e u' =>
      (e = .returned (.bool true) ∧ J (pre ++ [x]) u' ∧ KpC n0 Bb u u') ∨ (e = .returned (.bool false) ∧ Jx (pre ++ [x]) u'))
    (hBp : W.cell? ⟨Bp, 0, none⟩ = some (.slice a len cap)) (hBt : W.cell? ⟨Bt, 0, none⟩ = some (.int .i64 t)) (hPl : ∀ u, KpC n0 Bb W u → Pl u a len N P F) (h0 : J [] W) :
    CallsIn Fence.wide n Try.prog 29 #[.func (.yield l) #[] #[], .pointer (some ⟨Bp, 0, none⟩), .pointer (some ⟨Bt, 0, none⟩)] W fun e W' => (∃ v, e = .returned v) ∧
      ((∃ ys, ys = duL P F t len ∧ J ys W') ∨ (∃ pre, True ∧ Jx pre W')) := by
  refine callsIn_of_wp Try.func29 rfl trivial ?_ rfl
  simp only [Try.ntmps29, List.size_toArray, List.length_cons, List.length_nil, Nat.reduceAdd, Nat.reduceSub, Array.replicate_succ, Array.replicate_zero, List.push_toArray, List.append_toArray, List.nil_append, List.cons_append]
  gi_wp2
  gi_loopw [8] (fun i u => ∃ k : Nat, k ≤ len ∧ i = .int .i64 (k : Int) ∧ J (duL P F t k) u ∧ KpC n0 Bb W u)
    (fun i _ => len - (intOf i).toNat)
  case atStart => exact ⟨0, Nat.zero_le _, rfl, h0, KpC.refl _ _ _⟩
  case round =>
    obtain ⟨k, hk, rfl, hJs, hb⟩ := hrel
    by_cases hlt : k < len
    · have b1 : wr.cell? ⟨Bt, 0, none⟩ = some (.int .i64 t) := (World.cell?_of_block (a := ⟨Bt, 0, none⟩) (hb.2 Bt ht.1 ht.2)).trans hBt
      obtain ⟨b, off, ea, hbb, k0, k1, k2⟩ := (hPl wr hb).at hlt
      subst ea
      have hs := of_decide_eq_true (hS k hlt)
      have j1 : (k : Int) < (len : Int) := by omega
      have j2 : IntKind.i64.wrap ((k : Int) + 1) = (k : Int) + 1 := by rw [IntKind.wrap_i64]; omega
      have j3 : 0 ≤ (k : Int) := by omega
      have hJA := hA (duL P F t k) wr (.cells #[.int .i64 (N k), .int .i64 (P k), .int .i64 (F k)] 30) hJs
      have hbV := (Below.refl wr.heap.size wr).alloc (Nat.le_refl _) (.cells #[.int .i64 (N k), .int .i64 (P k), .int .i64 (F k)] 30)
      have b2 : (wr.alloc (.cells #[.int .i64 (N k), .int .i64 (P k), .int .i64 (F k)] 30)).cell? ⟨Bt, 0, none⟩ = some (.int .i64 t) := (hbV.cell (p := ⟨Bt, 0, none⟩) (by show Bt < _; have := hb.1; omega)).trans b1
      have hbW := hb.alloc (by have := hb.1; omega) (.cells #[.int .i64 (N k), .int .i64 (P k), .int .i64 (F k)] 30)
      by_cases z : F k ≤ t
      · have y : decide (F k ≤ t) = true := decide_eq_true z
        have w1 : IntKind.i64.wrap (t - F k) = t - F k := by rw [IntKind.wrap_i64]; omega
        have p0 : ¬ P k = 0 := by omega
        have p1 : (P k == 0) = false := beq_eq_false_iff_ne.2 p0
        have tm : Int.tmod (t - F k) (P k) = (t - F k) % P k := Int.tmod_eq_emod_of_nonneg (by omega)
        have w2 : IntKind.i64.wrap ((t - F k) % P k) = (t - F k) % P k := by have := Int.emod_nonneg (t - F k) p0; have := Int.emod_lt_of_pos (t - F k) (show 0 < P k by omega); rw [IntKind.wrap_i64]; omega
        by_cases q : (t - F k) % P k = 0
        · have q1 : ((t - F k) % P k == 0) = true := beq_iff_eq.2 q
          have dy : dtB (P k) (F k) t = true := decide_eq_true ⟨z, q⟩
          obtain ⟨fn, tmps, assign, body, hy, hR⟩ := hY _ k _ hJA (Nat.lt_of_le_of_lt (duL_len P F t k) hlt)
          gi_wp2
          refine hR.mono ?_
          rintro e W3 (⟨rfl, hJ3, hk3⟩ | ⟨rfl, hJx3⟩)
          · gi_wp2
            go_roundw
            case rel => exact ⟨k + 1, by omega, by first | rfl | go_num, by rw [duL_yes dy]; exact hJ3, hbW.trans hk3⟩
            case measure => simp [intOf]; omega
          · gi_wp2
            refine bodyPost_ret (results_none rfl _ _ _) rfl ?_
            first | exact ⟨⟨_, rfl⟩, .inr ⟨_, hJx3⟩⟩ | exact ⟨⟨_, rfl⟩, .inr ⟨_, trivial, hJx3⟩⟩
        · have q1 : ((t - F k) % P k == 0) = false := beq_eq_false_iff_ne.2 q
          have dn : dtB (P k) (F k) t = false := decide_eq_false (fun h => q h.2)
          gi_wp2
          refine ⟨fun _ h => (by cases h), ?_⟩
          gi_wp2
          go_roundw
          case rel => exact ⟨k + 1, by omega, by first | rfl | go_num, by rw [duL_no dn]; exact hJA, hbW⟩
          case measure => simp [intOf]; omega
      · have y : decide (F k ≤ t) = false := decide_eq_false z
        have dn : dtB (P k) (F k) t = false := decide_eq_false (fun h => z h.1)
        gi_wp2
        refine ⟨fun _ h => (by cases h), ?_⟩
        gi_wp2
        go_roundw
        case rel => exact ⟨k + 1, by omega, by first | rfl | go_num, by rw [duL_no dn]; exact hJA, hbW⟩
        case measure => simp [intOf]; omega
    · obtain rfl : k = len := by omega
      have e1 : ¬ (k : Int) < (k : Int) := by omega
      gi_wp2
      go_end0
      first | exact ⟨⟨_, rfl⟩, .inl hJs⟩ | exact ⟨⟨_, rfl⟩, .inl ⟨_, rfl, hJs⟩⟩
/-- The iterator's word. -/
theorem due2_stops (n : Nat) (hn : 1 ≤ n) (Bp Bt n0 Bb : Nat) (a : Option Addr) (len cap : Nat) (N P F : Nat → Int) (t : Int) (hlen : len ≤ 32) (hp : Bp < n0 ∧ Bp ≠ Bb) (ht : Bt < n0 ∧ Bt ≠ Bb) (h0t : 0 ≤ t ∧ t ≤ 9223372036854775807) (hS : ∀ i, i < len → srB (N i) (P i) (F i) = true) (w : World) (hn0 : n0 ≤ w.heap.size) (hBp : w.cell? ⟨Bp, 0, none⟩ = some (.slice a len cap)) (hBt : w.cell? ⟨Bt, 0, none⟩ = some (.int .i64 t)) (hPl : ∀ u, KpC n0 Bb w u → Pl u a len N P F) :
    SeqStopsK Fence.wide n Try.prog 29 #[.pointer (some ⟨Bp, 0, none⟩), .pointer (some ⟨Bt, 0, none⟩)] (fun x : Nat => #[Value.int .i64 (x : Int)]) (KpC n0 Bb) (fun ys => ys = duL P F t len) (fun _ => True) len w := fun l J Jx W hW hJ _ hY h0 => by
  refine (due2_in n hn l Bp Bt n0 Bb a len cap N P F t hlen hp ht h0t hS J Jx W (Nat.le_trans hn0 hW.size) (fun pre u o h => hJ pre u _ none h (World.grownBy_alloc u o none) (fun r e => by cases e)) hY ((hW.cell (p := ⟨Bp, 0, none⟩) (by show Bp < _; omega)).trans hBp) ((hW.cell (p := ⟨Bt, 0, none⟩) (by show Bt < _; omega)).trans hBt) (fun u k => hPl u (KpC.trans ⟨hW.size, fun i hi _ => hW.block i (by omega)⟩ k)) h0).mono ?_
  rintro e W' ⟨he, h | ⟨pre, -, h⟩⟩
  · exact ⟨he, .inl h⟩
  · exact ⟨he, .inr ⟨pre, trivial, h⟩⟩
/-- The marks that ranges over a function leave behind in a frame. -/
def mks (ds : List Nat) : List Deferred := ds.map fun d => { target := .collected d, args := #[] }
def Mk (B : Nat) (ds : List Nat) (u : World) : Prop := ds.Nodup ∧ ∀ d, d ∈ ds → B ≤ d ∧ u.heap[d]? = some (.deferred (some []))
theorem Mk.nil (B : Nat) (u : World) : Mk B [] u := ⟨List.nodup_nil, fun d h => by cases h⟩
theorem Mk.lt {B : Nat} {ds : List Nat} {u : World} (h : Mk B ds u) {d : Nat} (hd : d ∈ ds) : d < u.heap.size := (Array.getElem?_eq_some_iff.1 (h.2 d hd).2).1
theorem Mk.bel {B : Nat} {ds : List Nat} {u v : World} (h : Mk B ds u) (k : Below u.heap.size u v) : Mk B ds v := ⟨h.1, fun d hd => ⟨(h.2 d hd).1, (k.block d (h.lt hd)).trans (h.2 d hd).2⟩⟩
theorem Mk.keeps {B : Nat} {ds : List Nat} {u v : World} (h : Mk B ds u) (k : KeepsOthers u v) : Mk B ds v := ⟨h.1, fun d hd => ⟨(h.2 d hd).1, k.2 d _ (h.2 d hd).2 rfl⟩⟩
theorem Mk.cons {B : Nat} {ds : List Nat} {u : World} (h : Mk B ds u) {D : Nat} (hB : B ≤ D) (hlt : ∀ d, d ∈ ds → d < D) (hK : u.heap[D]? = some (.deferred (some []))) : Mk B (D :: ds) u :=
  ⟨List.nodup_cons.2 ⟨fun hm => by have := hlt D hm; omega, h.1⟩, fun d hd => by
    rcases List.mem_cons.1 hd with rfl | hd
    · exact ⟨hB, hK⟩
    · exact h.2 d hd⟩
theorem Mk.own {β : Type} {b B : Nat} {ds : List Nat} (hlt : ∀ d, d ∈ ds → d < B) : OwnFrom B (fun (_ : β) W => Mk b ds W) := fun s W W' row hs hg hr =>
  ⟨hs.1, fun d hd => ⟨(hs.2 d hd).1, (hg.block d (hs.lt hd) (fun e => by have := (hr d e.symm).1; have := hlt d hd; omega)).trans (hs.2 d hd).2⟩⟩
theorem leaves_mks {B n : Nat} {fn : Func} {tmps : Array Value} {R : Ending → World → Prop} : ∀ (ds : List Nat) (u : World), Mk B ds u → (∀ u', Below B u u' → LeavesIn Fence.wide n Try.prog fn tmps R [] .returning u') → LeavesInM Fence.wide n Try.prog fn tmps R (mks ds) .returning u
  | [], u, _, h => h u (Below.refl _ _)
  | d :: ds, u, hM, h => by
    obtain ⟨hB, hK⟩ := hM.2 d (List.mem_cons_self ..)
    have hn := List.nodup_cons.1 hM.1
    have hb : Below B u (u.putObj d (.deferred none)) := ⟨rfl, rfl, rfl, by simp, fun k hk => World.putObj_heap_other (by omega)⟩
    refine ⟨by simp, .inl ⟨d, _, rfl, run_takeDeferred hK, leaves_mks ds _ ⟨hn.2, fun e he => ?_⟩ (fun u' k => h u' (hb.trans k))⟩⟩
    obtain ⟨h1, h2⟩ := hM.2 e (List.mem_cons_of_mem _ he)
    exact ⟨h1, (World.putObj_heap_other (fun q => by subst q; exact hn.1 he)).trans h2⟩
set_option maxRecDepth 100000 in
set_option maxHeartbeats 4000000 in
theorem bbusy_no (a : Option Addr) (cap n : Nat) (N P F : Nat → Int) (ticks : Int) (w : World) (h : Pl w a n N P F) (hcap : n ≤ cap) (hn : n ≤ 1000) (hr : rtB n N P F = false) : Calls Try.prog 14 #[.slice a n cap, .int .i64 ticks] w fun e w' => e = .returned (.tuple #[.int .i64 0, .int .i64 0]) ∧ Below w.heap.size w w' := by
  have RT := bright a cap n N P F w h hcap (by unfold maxLen; omega)
  rw [hr] at RT
  replace RT := Lib.hid RT
  refine (callsIn_wide (n := 6)).1 ?_
  refine callsIn_of_wp_marks Try.func14 rfl trivial ?_ rfl
  simp only [Try.ntmps14, List.size_toArray, List.length_cons, List.length_nil, Nat.reduceAdd, Nat.reduceSub, Array.replicate_succ, Array.replicate_zero, List.push_toArray, List.append_toArray, List.nil_append, List.cons_append]
  gi_wp2_with (refine ⟨trivial, ?_⟩; gi_at_call 11; refine (callsIn_wide.2 (RT.out)).mono ?_; rintro e w1 ⟨rfl, hb1⟩)
  simp [bodyPostM, LeavesInM, LeavesIn, results, Try.results14, go_sem]
  exact hb1
/-- How many ticks Busiest looks at. -/
def tkN (ticks : Int) : Nat := (min ticks 2000).toNat
set_option maxRecDepth 100000 in
set_option maxHeartbeats 4000000 in
theorem bbusy_ok (a : Option Addr) (cap n : Nat) (N P F : Nat → Int) (ticks : Int) (w : World) (h : Pl w a n N P F) (hcap : n ≤ cap) (hr : rtB n N P F = true) (ht : -9223372036854775808 ≤ ticks ∧ ticks ≤ 9223372036854775807) : Calls Try.prog 14 #[.slice a n cap, .int .i64 ticks] w fun e w' => e = .returned (.tuple #[.int .i64 (buA P F n (tkN ticks) : Int), .int .i64 (buM P F n (tkN ticks) : Int)]) ∧ Below w.heap.size w w' := by
  have hR := of_decide_eq_true hr
  have RT := bright a cap n N P F w h hcap (by unfold maxLen; omega)
  rw [hr] at RT
  replace RT := Lib.hid RT
  have HH := Lib.hid (fun u (k : Below w.heap.size w u) => h.below k)
  have HS := Lib.hid (fun i (hi : i < n) => (hR.2.2 i hi).1)
  have hn2 : n ≤ 32 := by omega
  have AL := Lib.hid (buA_le P F n)
  have ML := Lib.hid (buM_le P F n)
  have CL := Lib.hid (cnN_le P F n)
  clear h hR hr hcap
  obtain ⟨m, em⟩ : ∃ m, tkN ticks = m := ⟨_, rfl⟩
  rw [em]
  refine (callsIn_wide (n := 6)).1 ?_
  refine callsIn_of_wp_marks Try.func14 rfl trivial ?_ rfl
  simp only [Try.ntmps14, List.size_toArray, List.length_cons, List.length_nil, Nat.reduceAdd, Nat.reduceSub, Array.replicate_succ, Array.replicate_zero, List.push_toArray, List.append_toArray, List.nil_append, List.cons_append]
  obtain ⟨B, eB⟩ : ∃ B, w.heap.size = B := ⟨_, rfl⟩
  by_cases z : ticks ≤ 2000
  · have hm : (m : Int) ≤ 2000 ∧ (((m : Int) = ticks ∧ 0 ≤ ticks) ∨ (m = 0 ∧ ticks < 0)) := by unfold tkN at em; omega
    gi_wp2_with (refine ⟨trivial, ?_⟩; gi_at_call 11; refine (callsIn_wide.2 (RT.out)).mono ?_; rintro e w1 ⟨rfl, hb1⟩; replace hb1 := Lib.hid hb1)
    obtain ⟨I, hI⟩ : ∃ I : Act → World → Prop, ∀ act u, I act u ↔ (∃ (k : Nat) (ds : List Nat) (x4 x5 x13 u6 u7 u14 u15 u16 u17 u18 u20 u21 u22 u23 u24 u25 u26 u27 : Value), k ≤ m ∧ x4 = .int .i64 (buA P F n k : Int) ∧ x5 = .int .i64 (buM P F n k : Int) ∧ x13 = .int .i64 (k : Int) ∧ Hid (Below w.heap.size w u) ∧ Hid (Mk B ds u) ∧ act = { tmps := #[Value.slice a n cap, Value.int IntKind.i64 ticks, undef, undef, x4, x5, u6, u7, Value.slice a n cap, Value.bool true, Value.bool false, Value.int IntKind.i64 ticks, Value.int IntKind.i64 ticks, x13, u14, u15, u16, u17, u18, undef, u20, u21, u22, u23, u24, u25, u26, u27, undef, undef], defers := mks ds }) := ⟨_, fun _ _ => Iff.rfl⟩
    replace hI := Lib.hid hI
    refine wpIn_loop I (fun act _ => m - (intOf (act.tmps.getD 13 undef)).toNat) ?_ ?_
    · exact (hI.out _ _).2 ⟨0, [], _, _, _, _, _, _, _, _, _, _, _, _, _, _, _, _, _, _, Nat.zero_le _, rfl, rfl, rfl, hb1, Lib.hid (Mk.nil _ _), rfl⟩
    · intro act v hIv
      obtain ⟨k, ds, x4, x5, x13, u6, u7, u14, u15, u16, u17, u18, u20, u21, u22, u23, u24, u25, u26, u27, hk, rfl, rfl, rfl, hb, hM, rfl⟩ := (hI.out _ _).1 hIv
      clear hIv
      have A1 := AL.out k
      have M1 := ML.out k
      have C1 := CL.out k
      by_cases hlt : k < m
      · have j1 : (k : Int) < ticks := by omega
        have j2 : IntKind.i64.wrap ((k : Int) + 1) = (k : Int) + 1 := by rw [IntKind.wrap_i64]; omega
        have j3 : 0 ≤ (k : Int) := by omega
        gi_wp2
        refine ⟨trivial, ?_⟩
        refine (callsIn_wide.2 (bdue a n cap (k : Int) _)).mono ?_
        rintro e w2 ⟨rfl, ew⟩
        obtain ⟨C, eC⟩ : ∃ C, v.heap.size = C := ⟨_, rfl⟩
        have F0 : w2.cell? ⟨C, 0, none⟩ = some (.int .i64 0) ∧ w2.cell? ⟨C + 1, 0, none⟩ = some (.slice a n cap) ∧ w2.cell? ⟨C + 2, 0, none⟩ = some (.int .i64 (k : Int)) ∧ w2.frozen? ⟨C, 0, none⟩ = false ∧ w2.heap.size = C + 3 ∧ Below C v w2 := by
          rw [ew, ← eC]
          exact ⟨by go_simp, by go_simp, by go_simp, by go_simp, by simp, (((Below.refl v.heap.size v).alloc (Nat.le_refl _) _).alloc (by simp) _).alloc (by simp; omega) _⟩
        clear ew
        obtain ⟨c0, c1, c2, f0, hs0, hb0⟩ := F0
        have hBC : B ≤ C := by have := hb.out.size; omega
        have hPl : ∀ u, KpC (C + 3) C w2 u → Pl u a n N P F := fun u q => by
          have h1 := (HH.out v hb.out)
          rw [← eC] at q hb0
          exact h1.kpc hb0 (by omega) q
        have hbw2 : Below B w w2 := by
          have := hb.out
          rw [eB] at this
          exact this.trans (hb0.mono hBC)
        have hlt2 : ∀ d, d ∈ ds → d < w2.heap.size := fun d hd => by have := hM.out.lt hd; omega
        have hM2 : Mk B ds w2 := hM.out.bel (by rw [eC]; exact hb0)
        have e1 : (v.alloc (Obj.cells #[Value.int .i64 0] 3)).heap.size = C + 1 := by simp [eC]
        rw [e1]
        try rw [eC]
        gi_wp2
        refine wpIn_rangeFunc_ownF rfl (by decide) (gf := 29) (lb := #[.pointer (some ⟨C + 1, 0, none⟩), .pointer (some ⟨C + 1 + 1, 0, none⟩)]) rfl trivial (enters_of Try.func29 (by kernel_rfl) rfl)
          (due2_stops 5 (by decide) (C + 1) (C + 1 + 1) (C + 3) C a n cap N P F (k : Int) hn2 (by omega) (by omega) (by omega) HS.out w2 (by omega) c1 c2 hPl) (fun h k => h.trans k)
          (fun W l o o' hl _ _ _ => ⟨by simp, fun k hk _ => World.putObj_heap_other (by omega)⟩) (Below.refl _ _) (fun _ => rfl)
          (fun pre W => (C + 3 ≤ W.heap.size ∧ W.cell? ⟨C, 0, none⟩ = some (.int .i64 (pre.length : Int)) ∧ W.frozen? ⟨C, 0, none⟩ = false) ∧ Mk B ds W ∧ Below B w W)
          (fun _ _ _ => False)
          (OwnFrom.and (Own.from (fun s X Y row hs hg hr => ⟨Nat.le_trans hs.1 hg.size, cell_kept hs.2.1 hg hr, (frozen_kept hs.2.1 hg hr).trans hs.2.2⟩) _)
            (OwnFrom.and (Mk.own hlt2) (ownFrom_below (by omega) (by omega))))
          (fun _ _ _ _ _ hs _ _ => hs)
          ⟨⟨by omega, c0, f0⟩, hM2, hbw2⟩
          (fun x => { tmps := #[Value.slice a n cap, Value.int IntKind.i64 ticks, undef, undef, Value.int IntKind.i64 (buA P F n k : Int),
              Value.int IntKind.i64 (buM P F n k : Int), Value.int IntKind.i64 (k : Int),
              Value.pointer (some { block := C, off := 0 }), Value.slice a n cap, Value.bool true,
              Value.bool false, Value.int IntKind.i64 ticks, Value.int IntKind.i64 ticks, Value.int IntKind.i64 (k : Int),
              Value.bool true, Value.int IntKind.i64 (k : Int), Value.slice a n cap, Value.int IntKind.i64 (k : Int), .func (.func 29) #[] #[.pointer (some ⟨C + 1, 0, none⟩), .pointer (some ⟨C + 1 + 1, 0, none⟩)], .int .i64 (x : Int), u20,
              u21, u22, u23, u24, u25, u26, u27, undef, undef], defers := [] }) ?assign ?body ?done ?stop
        case assign =>
          intro l x W K hK
          gi_wp2
          simpa using hK
        case body =>
          rintro l pre x W ⟨⟨hs, k1, k2⟩, hMW, hB⟩ hlen
          have i1 : IntKind.i64.wrap ((pre.length : Int) + 1) = (pre.length : Int) + 1 := by rw [IntKind.wrap_i64]; omega
          gi_wp2
          exact ⟨KeepsOthers.setCell W ⟨C, 0, none⟩ _, ⟨by simp, fun i hi hne => Below.heap_setCell W ⟨C, 0, none⟩ _ i hne⟩, ⟨by simpa using hs, (World.cell?_setCell_same W ⟨C, 0, none⟩ _ k1).trans (by simp), by simp [k2]⟩, hMW.keeps (KeepsOthers.setCell W ⟨C, 0, none⟩ _), hB.setCell (p := ⟨C, 0, none⟩) hBC _⟩
        case done =>
          rintro D ys W hD rfl ⟨⟨hs, k1, k2⟩, hMW, hB⟩ hK
          have hM3 := Lib.hid (hMW.cons (D := D) (by omega) (fun d hd => by have := hlt2 d hd; omega) hK)
          have hW := Lib.hid (show Below w.heap.size w W by rw [eB]; exact hB)
          obtain ⟨L, eL⟩ : ∃ L, (duL P F (k : Int) n).length = L := ⟨_, rfl⟩
          have EA := Lib.hid (show buA P F n (k + 1) = if buM P F n k < L then k else buA P F n k by rw [← eL]; rfl)
          have EM := Lib.hid (show buM P F n (k + 1) = if buM P F n k < L then L else buM P F n k by rw [← eL]; rfl)
          rw [eL] at k1
          clear eL C1
          obtain ⟨bm, ebm⟩ : ∃ z, buM P F n k = z := ⟨_, rfl⟩
          obtain ⟨ba, eba⟩ : ∃ z, buA P F n k = z := ⟨_, rfl⟩
          rw [ebm] at EA EM M1 ⊢
          rw [eba] at EA A1 ⊢
          clear ebm eba
          by_cases y : bm < L
          · rw [if_pos y] at EA EM
            have y1 : decide ((bm : Int) < (L : Int)) = true := decide_eq_true (by omega)
            have y2 : (bm : Int) < (L : Int) := by omega
            gi_wp2
            gi_quiet (fail)
            gi_wp2
            refine ⟨(hI.out _ _).2 ⟨k + 1, D :: ds, _, _, _, _, _, _, _, _, _, _, _, _, _, _, _, _, _, _, by omega, ?_, ?_, ?_, Lib.hid ⟨hW.out.os, hW.out.tape, hW.out.output, hW.out.size, hW.out.block⟩, Lib.hid hM3.out, rfl⟩, by simp [intOf]; omega⟩
            · rw [EA.out]
            · rw [EM.out]
            · first | rfl | go_num
          · rw [if_neg y] at EA EM
            have y1 : decide ((bm : Int) < (L : Int)) = false := decide_eq_false (by omega)
            have y2 : ¬ (bm : Int) < (L : Int) := by omega
            gi_wp2
            refine ⟨(hI.out _ _).2 ⟨k + 1, D :: ds, _, _, _, _, _, _, _, _, _, _, _, _, _, _, _, _, _, _, by omega, ?_, ?_, ?_, hW, hM3, rfl⟩, by simp [intOf]; omega⟩
            · rw [EA.out]
            · rw [EM.out]
            · first | rfl | go_num
        case stop =>
          rintro D c pre W _ _ h _
          exact h.elim
      · obtain rfl : k = m := by omega
        have j1 : ¬ (k : Int) < ticks := by omega
        gi_wp2
        refine leaves_mks ds v hM.out (fun u' q => ?_)
        have hf := hb.out
        rw [eB] at hf
        replace hf := Lib.hid (hf.trans q)
        simp [LeavesIn, results, Try.results14, go_sem]
        exact hf.out
  · have hm : (m : Int) ≤ 2000 ∧ (((m : Int) = 2000 ∧ 0 ≤ 2000) ∨ (m = 0 ∧ 2000 < 0)) := by unfold tkN at em; omega
    gi_wp2_with (refine ⟨trivial, ?_⟩; gi_at_call 11; refine (callsIn_wide.2 (RT.out)).mono ?_; rintro e w1 ⟨rfl, hb1⟩; replace hb1 := Lib.hid hb1)
    obtain ⟨I, hI⟩ : ∃ I : Act → World → Prop, ∀ act u, I act u ↔ (∃ (k : Nat) (ds : List Nat) (x4 x5 x13 u6 u7 u14 u15 u16 u17 u18 u20 u21 u22 u23 u24 u25 u26 u27 : Value), k ≤ m ∧ x4 = .int .i64 (buA P F n k : Int) ∧ x5 = .int .i64 (buM P F n k : Int) ∧ x13 = .int .i64 (k : Int) ∧ Hid (Below w.heap.size w u) ∧ Hid (Mk B ds u) ∧ act = { tmps := #[Value.slice a n cap, Value.int IntKind.i64 ticks, undef, undef, x4, x5, u6, u7, Value.slice a n cap, Value.bool true, Value.bool false, Value.int IntKind.i64 ticks, Value.int IntKind.i64 2000, x13, u14, u15, u16, u17, u18, undef, u20, u21, u22, u23, u24, u25, u26, u27, undef, undef], defers := mks ds }) := ⟨_, fun _ _ => Iff.rfl⟩
    replace hI := Lib.hid hI
    refine wpIn_loop I (fun act _ => m - (intOf (act.tmps.getD 13 undef)).toNat) ?_ ?_
    · exact (hI.out _ _).2 ⟨0, [], _, _, _, _, _, _, _, _, _, _, _, _, _, _, _, _, _, _, Nat.zero_le _, rfl, rfl, rfl, hb1, Lib.hid (Mk.nil _ _), rfl⟩
    · intro act v hIv
      obtain ⟨k, ds, x4, x5, x13, u6, u7, u14, u15, u16, u17, u18, u20, u21, u22, u23, u24, u25, u26, u27, hk, rfl, rfl, rfl, hb, hM, rfl⟩ := (hI.out _ _).1 hIv
      clear hIv
      have A1 := AL.out k
      have M1 := ML.out k
      have C1 := CL.out k
      by_cases hlt : k < m
      · have j1 : (k : Int) < 2000 := by omega
        have j2 : IntKind.i64.wrap ((k : Int) + 1) = (k : Int) + 1 := by rw [IntKind.wrap_i64]; omega
        have j3 : 0 ≤ (k : Int) := by omega
        gi_wp2
        refine ⟨trivial, ?_⟩
        refine (callsIn_wide.2 (bdue a n cap (k : Int) _)).mono ?_
        rintro e w2 ⟨rfl, ew⟩
        obtain ⟨C, eC⟩ : ∃ C, v.heap.size = C := ⟨_, rfl⟩
        have F0 : w2.cell? ⟨C, 0, none⟩ = some (.int .i64 0) ∧ w2.cell? ⟨C + 1, 0, none⟩ = some (.slice a n cap) ∧ w2.cell? ⟨C + 2, 0, none⟩ = some (.int .i64 (k : Int)) ∧ w2.frozen? ⟨C, 0, none⟩ = false ∧ w2.heap.size = C + 3 ∧ Below C v w2 := by
          rw [ew, ← eC]
          exact ⟨by go_simp, by go_simp, by go_simp, by go_simp, by simp, (((Below.refl v.heap.size v).alloc (Nat.le_refl _) _).alloc (by simp) _).alloc (by simp; omega) _⟩
        clear ew
        obtain ⟨c0, c1, c2, f0, hs0, hb0⟩ := F0
        have hBC : B ≤ C := by have := hb.out.size; omega
        have hPl : ∀ u, KpC (C + 3) C w2 u → Pl u a n N P F := fun u q => by
          have h1 := (HH.out v hb.out)
          rw [← eC] at q hb0
          exact h1.kpc hb0 (by omega) q
        have hbw2 : Below B w w2 := by
          have := hb.out
          rw [eB] at this
          exact this.trans (hb0.mono hBC)
        have hlt2 : ∀ d, d ∈ ds → d < w2.heap.size := fun d hd => by have := hM.out.lt hd; omega
        have hM2 : Mk B ds w2 := hM.out.bel (by rw [eC]; exact hb0)
        have e1 : (v.alloc (Obj.cells #[Value.int .i64 0] 3)).heap.size = C + 1 := by simp [eC]
        rw [e1]
        try rw [eC]
        gi_wp2
        refine wpIn_rangeFunc_ownF rfl (by decide) (gf := 29) (lb := #[.pointer (some ⟨C + 1, 0, none⟩), .pointer (some ⟨C + 1 + 1, 0, none⟩)]) rfl trivial (enters_of Try.func29 (by kernel_rfl) rfl)
          (due2_stops 5 (by decide) (C + 1) (C + 1 + 1) (C + 3) C a n cap N P F (k : Int) hn2 (by omega) (by omega) (by omega) HS.out w2 (by omega) c1 c2 hPl) (fun h k => h.trans k)
          (fun W l o o' hl _ _ _ => ⟨by simp, fun k hk _ => World.putObj_heap_other (by omega)⟩) (Below.refl _ _) (fun _ => rfl)
          (fun pre W => (C + 3 ≤ W.heap.size ∧ W.cell? ⟨C, 0, none⟩ = some (.int .i64 (pre.length : Int)) ∧ W.frozen? ⟨C, 0, none⟩ = false) ∧ Mk B ds W ∧ Below B w W)
          (fun _ _ _ => False)
          (OwnFrom.and (Own.from (fun s X Y row hs hg hr => ⟨Nat.le_trans hs.1 hg.size, cell_kept hs.2.1 hg hr, (frozen_kept hs.2.1 hg hr).trans hs.2.2⟩) _)
            (OwnFrom.and (Mk.own hlt2) (ownFrom_below (by omega) (by omega))))
          (fun _ _ _ _ _ hs _ _ => hs)
          ⟨⟨by omega, c0, f0⟩, hM2, hbw2⟩
          (fun x => { tmps := #[Value.slice a n cap, Value.int IntKind.i64 ticks, undef, undef, Value.int IntKind.i64 (buA P F n k : Int),
              Value.int IntKind.i64 (buM P F n k : Int), Value.int IntKind.i64 (k : Int),
              Value.pointer (some { block := C, off := 0 }), Value.slice a n cap, Value.bool true,
              Value.bool false, Value.int IntKind.i64 ticks, Value.int IntKind.i64 2000, Value.int IntKind.i64 (k : Int),
              Value.bool true, Value.int IntKind.i64 (k : Int), Value.slice a n cap, Value.int IntKind.i64 (k : Int), .func (.func 29) #[] #[.pointer (some ⟨C + 1, 0, none⟩), .pointer (some ⟨C + 1 + 1, 0, none⟩)], .int .i64 (x : Int), u20,
              u21, u22, u23, u24, u25, u26, u27, undef, undef], defers := [] }) ?assign ?body ?done ?stop
        case assign =>
          intro l x W K hK
          gi_wp2
          simpa using hK
        case body =>
          rintro l pre x W ⟨⟨hs, k1, k2⟩, hMW, hB⟩ hlen
          have i1 : IntKind.i64.wrap ((pre.length : Int) + 1) = (pre.length : Int) + 1 := by rw [IntKind.wrap_i64]; omega
          gi_wp2
          exact ⟨KeepsOthers.setCell W ⟨C, 0, none⟩ _, ⟨by simp, fun i hi hne => Below.heap_setCell W ⟨C, 0, none⟩ _ i hne⟩, ⟨by simpa using hs, (World.cell?_setCell_same W ⟨C, 0, none⟩ _ k1).trans (by simp), by simp [k2]⟩, hMW.keeps (KeepsOthers.setCell W ⟨C, 0, none⟩ _), hB.setCell (p := ⟨C, 0, none⟩) hBC _⟩
        case done =>
          rintro D ys W hD rfl ⟨⟨hs, k1, k2⟩, hMW, hB⟩ hK
          have hM3 := Lib.hid (hMW.cons (D := D) (by omega) (fun d hd => by have := hlt2 d hd; omega) hK)
          have hW := Lib.hid (show Below w.heap.size w W by rw [eB]; exact hB)
          obtain ⟨L, eL⟩ : ∃ L, (duL P F (k : Int) n).length = L := ⟨_, rfl⟩
          have EA := Lib.hid (show buA P F n (k + 1) = if buM P F n k < L then k else buA P F n k by rw [← eL]; rfl)
          have EM := Lib.hid (show buM P F n (k + 1) = if buM P F n k < L then L else buM P F n k by rw [← eL]; rfl)
          rw [eL] at k1
          clear eL C1
          obtain ⟨bm, ebm⟩ : ∃ z, buM P F n k = z := ⟨_, rfl⟩
          obtain ⟨ba, eba⟩ : ∃ z, buA P F n k = z := ⟨_, rfl⟩
          rw [ebm] at EA EM M1 ⊢
          rw [eba] at EA A1 ⊢
          clear ebm eba
          by_cases y : bm < L
          · rw [if_pos y] at EA EM
            have y1 : decide ((bm : Int) < (L : Int)) = true := decide_eq_true (by omega)
            have y2 : (bm : Int) < (L : Int) := by omega
            gi_wp2
            gi_quiet (fail)
            gi_wp2
            refine ⟨(hI.out _ _).2 ⟨k + 1, D :: ds, _, _, _, _, _, _, _, _, _, _, _, _, _, _, _, _, _, _, by omega, ?_, ?_, ?_, Lib.hid ⟨hW.out.os, hW.out.tape, hW.out.output, hW.out.size, hW.out.block⟩, Lib.hid hM3.out, rfl⟩, by simp [intOf]; omega⟩
            · rw [EA.out]
            · rw [EM.out]
            · first | rfl | go_num
          · rw [if_neg y] at EA EM
            have y1 : decide ((bm : Int) < (L : Int)) = false := decide_eq_false (by omega)
            have y2 : ¬ (bm : Int) < (L : Int) := by omega
            gi_wp2
            refine ⟨(hI.out _ _).2 ⟨k + 1, D :: ds, _, _, _, _, _, _, _, _, _, _, _, _, _, _, _, _, _, _, by omega, ?_, ?_, ?_, hW, hM3, rfl⟩, by simp [intOf]; omega⟩
            · rw [EA.out]
            · rw [EM.out]
            · first | rfl | go_num
        case stop =>
          rintro D c pre W _ _ h _
          exact h.elim
      · obtain rfl : k = m := by omega
        have j1 : ¬ (k : Int) < 2000 := by omega
        gi_wp2
        refine leaves_mks ds v hM.out (fun u' q => ?_)
        have hf := hb.out
        rw [eB] at hf
        replace hf := Lib.hid (hf.trans q)
        simp [LeavesIn, results, Try.results14, go_sem]
        exact hf.out
end Go.Proofs.Ytcpmdgbogdikiaa
