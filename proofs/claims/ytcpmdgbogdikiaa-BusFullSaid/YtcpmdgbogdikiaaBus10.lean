/- Package bus: a watcher's Step; walked. -/
import Derived.Test.YtcpmdgbogdikiaaBus9
import Derived.Test.YtcpmdgbogdikiaaOdd
namespace Go.Proofs.Ytcpmdgbogdikiaa
open Go.ChangeShapes Go.WideShapes Go.ChangeAt Go.RowKit
set_option linter.unusedVariables false
set_option linter.unusedSimpArgs false
theorem u32_low {x : Int} (h0 : 0 ≤ x) (h1 : x ≤ 4294967295) : bits .and .u32 x 255 = x % 256 := by
  obtain ⟨n, rfl⟩ : ∃ n : Nat, x = (n : Int) := ⟨x.toNat, by omega⟩
  show IntKind.u32.wrap ((BitVec.ofInt 32 (n : Int) &&& BitVec.ofInt 32 ((255 : Nat) : Int)).toNat : Int) = _
  rw [BitVec.ofInt_natCast, BitVec.ofInt_natCast, BitVec.toNat_and, BitVec.toNat_ofNat, BitVec.toNat_ofNat, Nat.mod_eq_of_lt (by omega), Nat.mod_eq_of_lt (by omega), show (255 : Nat) = 2 ^ 8 - 1 from rfl, Nat.and_two_pow_sub_one_eq_mod, IntKind.wrap_u32]
  omega
/-- What a watcher knows, and how many words were strange. -/
structure WS where
  W : Nat → Int
  K : Nat → Bool
  T : Nat → Int
  m : Nat
def fdJ (N : Nat → Int) (n : Nat) (y : Int) : Option Nat := (List.range n).find? fun j => N j == y
theorem fdJ_some {N : Nat → Int} {n j : Nat} {y : Int} (hj : j < n) (h : N j = y) (h2 : ∀ i, i < j → N i ≠ y) : fdJ N n y = some j := by
  unfold fdJ
  rw [List.find?_range_eq_some]
  exact ⟨by simp [h], List.mem_range.2 hj, fun i hi => by simp [h2 i hi]⟩
theorem fdJ_none {N : Nat → Int} {n : Nat} {y : Int} (h : ∀ j, j < n → N j ≠ y) : fdJ N n y = none := by
  unfold fdJ
  rw [List.find?_range_eq_none]
  exact fun i hi => by simp [h i hi]
def st1 (N : Nat → Int) (n : Nat) (c : Int) (s : WS) (x : Int) : WS := match fdJ N n (x % 256) with
  | some j => if odB x = true then ⟨fun i => if i = j then x else s.W i, fun i => if i = j then true else s.K i, fun i => if i = j then c else s.T i, s.m⟩ else ⟨s.W, s.K, s.T, s.m + 1⟩
  | none => ⟨s.W, s.K, s.T, s.m + 1⟩
/-- Of the old memory nothing but blocks p and q has changed. -/
structure Two (p q : Nat) (w w' : World) : Prop where
  os : w'.os = w.os
  tape : w'.tape = w.tape
  output : w'.output = w.output
  size : w.heap.size ≤ w'.heap.size
  block : ∀ k, k < w.heap.size → k ≠ p → k ≠ q → w'.heap[k]? = w.heap[k]?
theorem Two.refl (p q : Nat) (w : World) : Two p q w w := ⟨rfl, rfl, rfl, Nat.le_refl _, fun _ _ _ _ => rfl⟩
theorem Two.bel {p q : Nat} {w u v : World} (h : Two p q w u) (k : Below u.heap.size u v) : Two p q w v := ⟨k.os.trans h.os, k.tape.trans h.tape, k.output.trans h.output, Nat.le_trans h.size k.size, fun i hi h1 h2 => (k.block i (Nat.lt_of_lt_of_le hi h.size)).trans (h.block i hi h1 h2)⟩
theorem Two.only {p q b : Nat} {w u v : World} (h : Two p q w u) (k : Only b u v) (hb : b = p ∨ b = q) : Two p q w v := ⟨k.os.trans h.os, k.tape.trans h.tape, k.output.trans h.output, Nat.le_trans h.size (Nat.le_of_eq k.size.symm), fun i hi h1 h2 => (k.block i (by rcases hb with rfl | rfl <;> assumption)).trans (h.block i hi h1 h2)⟩
theorem Two.row {p q : Nat} {k : IntKind} {w w' : World} {a : Option Addr} {l : List Int} (h : RowIs k w a l) (t : Two p q w w') (ha : 1 ≤ l.length → ∀ b, a = some b → b.block ≠ p ∧ b.block ≠ q) : RowIs k w' a l := by
  rcases h with rfl | ⟨b, off, rfl, hlt, hc⟩
  · exact .inl rfl
  · by_cases z : 1 ≤ l.length
    · have hb : b ≠ p ∧ b ≠ q := ha z _ rfl
      exact .inr ⟨b, off, rfl, Nat.lt_of_lt_of_le hlt t.size, fun i hi => (World.cell?_of_block (a := ⟨b, off + i, none⟩) (t.block b hlt hb.1 hb.2)).trans (hc i hi)⟩
    · exact .inl (List.eq_nil_of_length_eq_zero (by omega))
theorem Pl.kept {w w' : World} {g n : Nat} {N P F : Nat → Int} (h : Pl w (some ⟨g, 0, none⟩) n N P F) (hs : w.heap.size ≤ w'.heap.size) (e : w'.heap[g]? = w.heap[g]?) : Pl w' (some ⟨g, 0, none⟩) n N P F := by
  rcases h with h | ⟨b, off, e1, hlt, hc⟩
  · exact .inl h
  · injection e1 with e1
    injection e1 with e2 e3
    subst e2 e3
    exact .inr ⟨g, 0, rfl, Nat.lt_of_lt_of_le hlt hs, fun i hi => ⟨(World.cell?_of_block (a := ⟨g, 0 + i * 3, none⟩) e).trans (hc i hi).1, (World.cell?_of_block (a := ⟨g, 0 + i * 3 + 1, none⟩) e).trans (hc i hi).2.1, (World.cell?_of_block (a := ⟨g, 0 + i * 3 + 2, none⟩) e).trans (hc i hi).2.2⟩⟩
/-- Its tick stored. -/
theorem Wt.tick {p q g tc n : Nat} {N P F : Nat → Int} {pa c : Int} {W : Nat → Int} {K : Nat → Bool} {T : Nat → Int} {u : World} (h : Wt p q g tc n N P F pa c W K T u) (d : Int) : Wt p q g tc n N P F pa d W K T (u.setCell ⟨p, 2, none⟩ (.int .i64 d)) := by
  have eq := Below.heap_setCell u ⟨p, 2, none⟩ (.int .i64 d) q (Ne.symm h.pq)
  have eg := Below.heap_setCell u ⟨p, 2, none⟩ (.int .i64 d) g (Ne.symm h.pg)
  exact ⟨by simpa using h.h.set 2 (.int .i64 d) (by simp), h.l.kept (by simp) eg, fun i hi => ⟨(World.cell?_of_block (a := ⟨q, i * 3, none⟩) eq).trans (h.r i hi).1, (World.cell?_of_block (a := ⟨q, i * 3 + 1, none⟩) eq).trans (h.r i hi).2.1, (World.cell?_of_block (a := ⟨q, i * 3 + 2, none⟩) eq).trans (h.r i hi).2.2⟩, fun j => by simpa using h.fz j, by simpa using h.qz, by simpa using h.gz, h.pq, h.pg, h.qg⟩
/-- A receipt stored. -/
theorem Wt.put {p q g tc n : Nat} {N P F : Nat → Int} {pa c : Int} {W : Nat → Int} {K : Nat → Bool} {T : Nat → Int} {u : World} (h : Wt p q g tc n N P F pa c W K T u) {j : Nat} (hj : j < n) (x d : Int) : Wt p q g tc n N P F pa c (fun i => if i = j then x else W i) (fun i => if i = j then true else K i) (fun i => if i = j then d else T i) (((u.setCell ⟨q, j * 3, none⟩ (.int .u32 x)).setCell ⟨q, j * 3 + 1, none⟩ (.bool true)).setCell ⟨q, j * 3 + 2, none⟩ (.int .i64 d)) := by
  obtain ⟨r0, r1, r2⟩ := h.r j hj
  have ep : ∀ b, b ≠ q → (((u.setCell ⟨q, j * 3, none⟩ (.int .u32 x)).setCell ⟨q, j * 3 + 1, none⟩ (.bool true)).setCell ⟨q, j * 3 + 2, none⟩ (.int .i64 d)).heap[b]? = u.heap[b]? := fun b hb => (Below.heap_setCell _ ⟨q, j * 3 + 2, none⟩ _ b hb).trans ((Below.heap_setCell _ ⟨q, j * 3 + 1, none⟩ _ b hb).trans (Below.heap_setCell _ ⟨q, j * 3, none⟩ _ b hb))
  refine ⟨⟨by simpa using h.h.lt, fun i v hv => (World.cell?_of_block (a := ⟨p, i, none⟩) (ep p h.pq)).trans (h.h.c i v hv), fun i hi => (World.frozen?_of_block (a := ⟨p, i, none⟩) (ep p h.pq)).trans (h.h.f i hi)⟩, h.l.kept (by simp) (ep g (Ne.symm h.qg)), fun i hi => ?_, fun i => by simpa using h.fz i, by simpa using h.qz, by simpa using h.gz, h.pq, h.pg, h.qg⟩
  obtain ⟨k0, k1, k2⟩ := h.r i hi
  by_cases z : i = j
  · subst z
    simp only [if_true]
    exact ⟨by simp [r0, r1, r2, go_sem], by simp [r0, r1, r2, go_sem], by simp [r0, r1, r2, go_sem]⟩
  · simp only [if_neg z]
    have a0 : i * 3 ≠ j * 3 ∧ i * 3 ≠ j * 3 + 1 ∧ i * 3 ≠ j * 3 + 2 := by omega
    have a1 : i * 3 + 1 ≠ j * 3 ∧ i * 3 + 1 ≠ j * 3 + 1 ∧ i * 3 + 1 ≠ j * 3 + 2 := by omega
    have a2 : i * 3 + 2 ≠ j * 3 ∧ i * 3 + 2 ≠ j * 3 + 1 ∧ i * 3 + 2 ≠ j * 3 + 2 := by omega
    exact ⟨by simp [k0, a0, go_sem], by simp [k1, a1, go_sem], by simp [k2, a2, go_sem]⟩
set_option maxRecDepth 100000 in
set_option maxHeartbeats 8000000 in
theorem wstep {p q g tc n : Nat} {N P F : Nat → Int} {pa c : Int} {W : Nat → Int} {K : Nat → Bool} {T : Nat → Int} (a : Option Addr) (cap : Nat) (L : List Int) (w : World) (h : Wt p q g tc n N P F pa c W K T w) (hn : n ≤ 32) (hc : 0 ≤ c ∧ c ≤ 1000000) (hr : RowIs .u32 w a L) (ha : 1 ≤ L.length → ∀ b, a = some b → b.block ≠ p ∧ b.block ≠ q) (hL : L.length ≤ 1000) (hB : ∀ x ∈ L, 0 ≤ x ∧ x ≤ 4294967295) : Calls Try.prog 18 #[.pointer (some ⟨p, 0, none⟩), .slice a L.length cap] w fun e w' => e = .returned (.int .i64 ((L.foldl (st1 N n (min (c + 1) 1000000)) ⟨W, K, T, 0⟩).m : Nat)) ∧ Wt p q g tc n N P F pa (min (c + 1) 1000000) (L.foldl (st1 N n (min (c + 1) 1000000)) ⟨W, K, T, 0⟩).W (L.foldl (st1 N n (min (c + 1) 1000000)) ⟨W, K, T, 0⟩).K (L.foldl (st1 N n (min (c + 1) 1000000)) ⟨W, K, T, 0⟩).T w' ∧ Two p q w w' := by
  have hh := h.h
  obtain ⟨c0, f0⟩ := hh.one 0 rfl
  obtain ⟨c1, f1⟩ := hh.one 1 rfl
  obtain ⟨c2, f2⟩ := hh.one 2 rfl
  obtain ⟨c3, f3⟩ := hh.one 3 rfl
  obtain ⟨d, ed⟩ : ∃ d, min (c + 1) 1000000 = d := ⟨_, rfl⟩
  rw [ed]
  have wc : IntKind.i64.wrap (c + 1) = c + 1 := by rw [IntKind.wrap_i64]; omega
  obtain ⟨FS, eFS⟩ : ∃ FS : Nat → WS, ∀ k, FS k = (L.take k).foldl (st1 N n d) ⟨W, K, T, 0⟩ := ⟨_, fun _ => rfl⟩
  have F0 := Lib.hid (show FS 0 = ⟨W, K, T, 0⟩ by rw [eFS]; rfl)
  have FE := Lib.hid (show FS L.length = L.foldl (st1 N n d) ⟨W, K, T, 0⟩ by rw [eFS, List.take_length])
  have FN := Lib.hid (fun k (hk : k < L.length) => show FS (k + 1) = st1 N n d (FS k) (L.getD k 0) by rw [eFS, eFS, take_snoc hk, List.foldl_append]; rfl)
  have FM := Lib.hid (show ∀ k, k ≤ L.length → (FS k).m ≤ k from fun k => by
    induction k with
    | zero => intro _; rw [F0.out]; exact Nat.le_refl _
    | succ k ih =>
      intro hk
      have i := ih (by omega)
      rw [FN.out k (by omega)]
      unfold st1
      split
      · split
        · show (FS k).m ≤ k + 1; omega
        · show (FS k).m + 1 ≤ k + 1; omega
      · show (FS k).m + 1 ≤ k + 1; omega)
  rw [← FE.out]
  have H2 := Lib.hid (h.tick d)
  have T2 := Lib.hid ((Two.refl p q w).only ((Only.refl p w).setCell (p := ⟨p, 2, none⟩) (.int .i64 d)) (.inl rfl))
  have HR := Lib.hid (fun u (k : Two p q w u) => Two.row hr k ha)
  have HB := Lib.hid hB
  clear h hh hr ha hB eFS FE
  obtain ⟨l, el⟩ : ∃ l, L.length = l := ⟨_, rfl⟩
  have EL := Lib.hid el
  rw [el] at hL FN FM ⊢
  clear el
  have eI : (if 1000000 < c + 1 then 1000000 else c + 1) = d := by rw [← ed]; split <;> omega
  have hd := Lib.hid (show 0 ≤ d ∧ d ≤ 1000000 by omega)
  clear ed
  go_enter Try.func18, Try.ntmps18
  go_upto_region 4 with (fail)
  clear c0 c1 c2 c3 f0 f1 f2 f3 eI wc
  generalize w.setCell ⟨p, 2, none⟩ (.int .i64 d) = w2 at *
  go_wp2_with fail
  go_loopw [4, 21] (fun s i v => ∃ k : Nat, k ≤ l ∧ s = .int .i64 ((FS k).m : Nat) ∧ i = .int .i64 (k : Int) ∧ Hid (Wt p q g tc n N P F pa d (FS k).W (FS k).K (FS k).T v) ∧ Hid (Two p q w v)) (fun _ i _ => l - (intOf i).toNat)
  case atStart => exact ⟨0, by omega, by rw [F0.out]; rfl, rfl, by rw [F0.out]; exact H2, T2⟩
  case round =>
    clear H2 T2
    obtain ⟨k, hk, rfl, rfl, hW, hT⟩ := hrel
    generalize wr = v at *
    have M1 := FM.out k hk
    by_cases hlt : k < l
    · have hkl : k < L.length := by rw [EL.out]; exact hlt
      obtain ⟨ga, go_, ea, -, x0⟩ := (HR.out v hT.out).at hkl
      subst ea
      have hx := HB.out (L.getD k 0) (by simp [List.getD, hkl])
      have FK := FN.out k hlt
      obtain ⟨x, ex⟩ : ∃ x, L.getD k 0 = x := ⟨_, rfl⟩
      rw [ex] at x0 hx FK
      replace FK := Lib.hid FK
      have xl := u32_low hx.1 hx.2
      have xw : IntKind.i64.wrap (x % 256) = x % 256 := by rw [IntKind.wrap_i64]; omega
      have j1 : (k : Int) < (l : Int) := by omega
      have j2 : IntKind.i64.wrap ((k : Int) + 1) = (k : Int) + 1 := by rw [IntKind.wrap_i64]; omega
      have j3 : 0 ≤ (k : Int) := by omega
      obtain ⟨s, es⟩ : ∃ s, FS k = s := ⟨_, rfl⟩
      rw [es] at hW FK M1 ⊢
      have sw : IntKind.i64.wrap ((s.m : Int) + 1) = ((s.m + 1 : Nat) : Int) := by rw [IntKind.wrap_i64]; omega
      have hh := hW.out.h
      obtain ⟨c0, f0⟩ := hh.one 0 rfl
      obtain ⟨c1, f1⟩ := hh.one 1 rfl
      obtain ⟨c2, f2⟩ := hh.one 2 rfl
      obtain ⟨c3, f3⟩ := hh.one 3 rfl
      have FD := Lib.hid (bfind (some ⟨g, 0, none⟩) tc n N P F (x % 256) v hW.out.l (by omega))
      clear hh ex es hkl
      go_wp2_with fail
      refine FD.out.mono ?_
      rintro e v1 ⟨r, rfl, hr, hb⟩
      have hW1 := Lib.hid (hW.out.bel hb)
      have hT1 := Lib.hid (hT.out.bel hb)
      clear c0 c1 c2 c3 f0 f1 f2 f3 hb hW hT FD x0
      rcases hr with ⟨j, hj, rfl, h1, h2⟩ | ⟨rfl, h2⟩
      · have j4 : ¬ (j : Int) < 0 := by omega
        have j5 : decide ((j : Int) < 0) = false := decide_eq_false j4
        have j6 : (0 : Int) ≤ (j : Int) := by omega
        have j7 : (j : Int) < (n : Int) := by omega
        have FJ := Lib.hid (fdJ_some hj h1 h2)
        clear h1 h2
        have OD := wodd x hx.1 hx.2 v1
        obtain ⟨o, eo⟩ : ∃ o, odB x = o := ⟨_, rfl⟩
        rw [eo] at OD
        replace OD := Lib.hid OD
        replace eo := Lib.hid eo
        cases o
        · have FK2 := Lib.hid (show FS (k + 1) = ⟨s.W, s.K, s.T, s.m + 1⟩ by rw [FK.out]; unfold st1; rw [FJ.out]; show (if odB x = true then _ else _) = _; rw [eo.out]; rfl)
          go_wp2_with fail
          refine OD.out.mono ?_
          rintro e v2 ⟨rfl, mm, ev⟩
          have hW2 := Lib.hid (show Wt p q g tc n N P F pa d (FS (k + 1)).W (FS (k + 1)).K (FS (k + 1)).T v2 by rw [ev, FK2.out]; exact hW1.out.bel ⟨rfl, rfl, rfl, Nat.le_refl _, fun _ _ => rfl⟩)
          have hT2 := Lib.hid (show Two p q w v2 by rw [ev]; exact hT1.out.bel ⟨rfl, rfl, rfl, Nat.le_refl _, fun _ _ => rfl⟩)
          clear ev hW1 hT1
          go_wp2
          go_roundw
          case rel => exact ⟨k + 1, by omega, by rw [FK2.out]; rfl, by first | rfl | go_num, hW2, hT2⟩
          case measure => simp [intOf]; omega
        · have FK2 := Lib.hid (show FS (k + 1) = ⟨fun i => if i = j then x else s.W i, fun i => if i = j then true else s.K i, fun i => if i = j then d else s.T i, s.m⟩ by rw [FK.out]; unfold st1; rw [FJ.out]; show (if odB x = true then _ else _) = _; rw [eo.out]; rfl)
          go_wp2_with fail
          refine OD.out.mono ?_
          rintro e v2 ⟨rfl, mm, ev⟩
          have hW2 := Lib.hid (show Wt p q g tc n N P F pa d s.W s.K s.T v2 by rw [ev]; exact hW1.out.bel ⟨rfl, rfl, rfl, Nat.le_refl _, fun _ _ => rfl⟩)
          have hT2 := Lib.hid (show Two p q w v2 by rw [ev]; exact hT1.out.bel ⟨rfl, rfl, rfl, Nat.le_refl _, fun _ _ => rfl⟩)
          clear ev hW1 hT1
          have hh := hW2.out.h
          obtain ⟨c0, f0⟩ := hh.one 0 rfl
          obtain ⟨c1, f1⟩ := hh.one 1 rfl
          obtain ⟨c2, f2⟩ := hh.one 2 rfl
          obtain ⟨c3, f3⟩ := hh.one 3 rfl
          obtain ⟨r0, r1, r2⟩ := hW2.out.r j hj
          have z0 := hW2.out.fz (j * 3)
          have z1 := hW2.out.fz (j * 3 + 1)
          have z2 := hW2.out.fz (j * 3 + 2)
          clear hh
          go_upto_region 10 with (fail)
          refine region_moves (fun u => u.cell? ⟨p, 3, none⟩ = some (.slice (some ⟨q, 0, none⟩) n n) ∧ u.cell? ⟨p, 2, none⟩ = some (.int .i64 d)) [(12, [(11, 12), (10, 12), (0, 12), (1, 12), (2, 12), (3, 12), (4, 12), (5, 12), (6, 12), (7, 12), (8, 12), (9, 12)])] [(.free, 0), (.free, 1), (.free, 2), (.take, 3), (.free, 4), (.free, 5), (.free, 6), (.free, 7), (.free, 8), (.take, 9), (.free, 10), (.free, 11), (.late, 12)] _ (by kernel_rfl) (by kernel_rfl) (by kernel_rfl) (by kernel_rfl) (by decide) rfl (fun _ _ _ _ _ h => h) ?_
          simp only [List.filterMap_cons, List.filterMap_nil, List.getElem?_toArray, List.getElem?_cons_zero, List.getElem?_cons_succ, Option.map_some]
          iterate 3
            first
              | (refine mv_free ?_ (Or.inl ⟨by rfl, ?_⟩) (⟨c3, c2⟩) ?_
                 rotate_left 1
                 · intro u
                   go_simp
                   try simp only [d1]
                   try simp only [d2]
                   try simp only [d3]
                   try simp only [d1]
                   try simp only [d2]
                   try simp only [d3]
                   try with_reducible rfl
                 simp only [Act.put, List.setIfInBounds_toArray, List.set_cons_zero, List.set_cons_succ])
              | (refine mv_free _ (Or.inr ⟨by rfl, rfl⟩) (⟨c3, c2⟩) ?_
                 simp only [Act.put, List.setIfInBounds_toArray, List.set_cons_zero, List.set_cons_succ])
          iterate 1
            first
              | (refine mv_take ?_ (Or.inl ⟨by rfl, ?_⟩) (⟨c3, c2⟩) ?_
                 rotate_left 1
                 · intro u hu
                   (try dsimp only at hu)
                   go_simp
                   try with_reducible rfl
                 simp only [Act.put, List.setIfInBounds_toArray, List.set_cons_zero, List.set_cons_succ])
              | (refine mv_take _ (Or.inr ⟨by rfl, rfl⟩) (⟨c3, c2⟩) ?_
                 simp only [Act.put, List.setIfInBounds_toArray, List.set_cons_zero, List.set_cons_succ])
          iterate 5
            first
              | (refine mv_free ?_ (Or.inl ⟨by rfl, ?_⟩) (⟨c3, c2⟩) ?_
                 rotate_left 1
                 · intro u
                   go_simp
                   try simp only [d1]
                   try simp only [d2]
                   try simp only [d3]
                   try simp only [d1]
                   try simp only [d2]
                   try simp only [d3]
                   try with_reducible rfl
                 simp only [Act.put, List.setIfInBounds_toArray, List.set_cons_zero, List.set_cons_succ])
              | (refine mv_free _ (Or.inr ⟨by rfl, rfl⟩) (⟨c3, c2⟩) ?_
                 simp only [Act.put, List.setIfInBounds_toArray, List.set_cons_zero, List.set_cons_succ])
          iterate 1
            first
              | (refine mv_take ?_ (Or.inl ⟨by rfl, ?_⟩) (⟨c3, c2⟩) ?_
                 rotate_left 1
                 · intro u hu
                   (try dsimp only at hu)
                   go_simp
                   try with_reducible rfl
                 simp only [Act.put, List.setIfInBounds_toArray, List.set_cons_zero, List.set_cons_succ])
              | (refine mv_take _ (Or.inr ⟨by rfl, rfl⟩) (⟨c3, c2⟩) ?_
                 simp only [Act.put, List.setIfInBounds_toArray, List.set_cons_zero, List.set_cons_succ])
          iterate 2
            first
              | (refine mv_free ?_ (Or.inl ⟨by rfl, ?_⟩) (⟨c3, c2⟩) ?_
                 rotate_left 1
                 · intro u
                   go_simp
                   try simp only [d1]
                   try simp only [d2]
                   try simp only [d3]
                   try simp only [d1]
                   try simp only [d2]
                   try simp only [d3]
                   try with_reducible rfl
                 simp only [Act.put, List.setIfInBounds_toArray, List.set_cons_zero, List.set_cons_succ])
              | (refine mv_free _ (Or.inr ⟨by rfl, rfl⟩) (⟨c3, c2⟩) ?_
                 simp only [Act.put, List.setIfInBounds_toArray, List.set_cons_zero, List.set_cons_succ])
          refine mv_late (fun K hK => ?_)
          go_simp
          refine hK.out (fun _ => True) _ _ ?_
          clear hK K
          refine mv_done ?_
          clear c0 c1 c2 c3 f0 f1 f2 f3 r0 r1 r2 z0 z1 z2
          have hW3 := Lib.hid (show Wt p q g tc n N P F pa d (FS (k + 1)).W (FS (k + 1)).K (FS (k + 1)).T ((((v2.setCell ⟨q, j * 3, none⟩ (.int .u32 x)).setCell ⟨q, j * 3 + 1, none⟩ (.bool true)).setCell ⟨q, j * 3 + 2, none⟩ (.int .i64 d)).drew) by rw [FK2.out]; exact (hW2.out.put hj x d).bel (Below.refl _ _).drew)
          have hT3 := Lib.hid (show Two p q w ((((v2.setCell ⟨q, j * 3, none⟩ (.int .u32 x)).setCell ⟨q, j * 3 + 1, none⟩ (.bool true)).setCell ⟨q, j * 3 + 2, none⟩ (.int .i64 d)).drew) from (((hT2.out.only ((Only.refl q v2).setCell (p := ⟨q, j * 3, none⟩) (.int .u32 x)) (.inr rfl)).only ((Only.refl q _).setCell (p := ⟨q, j * 3 + 1, none⟩) (.bool true)) (.inr rfl)).only ((Only.refl q _).setCell (p := ⟨q, j * 3 + 2, none⟩) (.int .i64 d)) (.inr rfl)).bel (Below.refl _ _).drew)
          clear hW2 hT2
          generalize (((v2.setCell ⟨q, j * 3, none⟩ (.int .u32 x)).setCell ⟨q, j * 3 + 1, none⟩ (.bool true)).setCell ⟨q, j * 3 + 2, none⟩ (.int .i64 d)).drew = X at *
          go_wp2
          go_roundw
          case rel => exact ⟨k + 1, by omega, by rw [FK2.out], by first | rfl | go_num, hW3, hT3⟩
          case measure => simp [intOf]; omega
      · have j4 : (-1 : Int) < 0 := by omega
        have j5 : decide ((-1 : Int) < 0) = true := by decide
        have FK2 := Lib.hid (show FS (k + 1) = ⟨s.W, s.K, s.T, s.m + 1⟩ by rw [FK.out]; unfold st1; rw [fdJ_none h2])
        have hW2 := Lib.hid (show Wt p q g tc n N P F pa d (FS (k + 1)).W (FS (k + 1)).K (FS (k + 1)).T v1 by rw [FK2.out]; exact hW1.out)
        clear h2 hW1
        go_wp2
        go_roundw
        case rel => exact ⟨k + 1, by omega, by rw [FK2.out]; rfl, by first | rfl | go_num, hW2, hT1⟩
        case measure => simp [intOf]; omega
    · obtain rfl : k = l := by omega
      have j1 : ¬ (k : Int) < (k : Int) := by omega
      go_wp2
      go_ret
      exact ⟨rfl, hW.out, hT.out⟩
end Go.Proofs.Ytcpmdgbogdikiaa
