/- The law TapeBack; walked. -/
import Derived.Test.YtpcbnoefgknihaaTapeP
import Derived.Test.YtpcbnoefgknihaaTapeH
import Derived.Test.YtpcbnoefgknihaaTapeS
namespace Go.Proofs.Ytpcbnoefgknihaa
open Go.ChangeShapes Go.WideShapes Go.ChangeAt Go.RowKit
set_option linter.unusedVariables false
set_option linter.unusedSimpArgs false
theorem tb_box (w : World) (x0 x1 : Int) : ∃ V, V = w.alloc (.cells #[.int .i64 x0, .int .i64 x1] 49) ∧ Below w.heap.size w V ∧ V.heap.size = w.heap.size + 1 ∧ ∀ u, Below (w.heap.size + 1) V u → u.cell? ⟨w.heap.size, 0, none⟩ = some (.int .i64 x0) ∧ u.cell? ⟨w.heap.size, 1, none⟩ = some (.int .i64 x1) :=
  ⟨_, rfl, (Below.refl _ _).alloc (Nat.le_refl _) _, by simp, fun u hu => ⟨(hu.cell (p := ⟨w.heap.size, 0, none⟩) (by show w.heap.size < _; omega)).trans (by go_simp), (hu.cell (p := ⟨w.heap.size, 1, none⟩) (by show w.heap.size < _; omega)).trans (by go_simp)⟩⟩
theorem row_lt3 {k : IntKind} {w : World} {a : Option Addr} {l : List Int} (h : RowIs k w a l) (h1 : 1 ≤ l.length) : ∀ c, a = some c → c.block < w.heap.size := fun c hc => by
  rcases h with rfl | ⟨b, off, rfl, hlt, -⟩
  · simp at h1
  · injection hc with hc
    subst hc
    exact hlt
theorem u8_flip {a : Int} (ha : 0 ≤ a ∧ a < 256) {d : Int} (hd : 0 < d ∧ d < 256) : ∃ c, bits .xor .u8 a d = c ∧ (0 ≤ c ∧ c < 256) ∧ c ≠ a := by
  obtain ⟨p, rfl⟩ : ∃ p : Nat, a = (p : Int) := ⟨a.toNat, by omega⟩
  obtain ⟨q, rfl⟩ : ∃ q : Nat, d = (q : Int) := ⟨d.toNat, by omega⟩
  have hp : p < 256 := by omega
  have hq : q < 256 := by omega
  have hx := Nat.xor_lt_two_pow (n := 8) hp hq
  refine ⟨((p ^^^ q : Nat) : Int), ?_, by omega, fun e => ?_⟩
  · show IntKind.u8.wrap ((BitVec.ofInt 8 (p : Int) ^^^ BitVec.ofInt 8 (q : Int)).toNat : Int) = _
    rw [BitVec.ofInt_natCast, BitVec.ofInt_natCast, BitVec.toNat_xor, BitVec.toNat_ofNat, BitVec.toNat_ofNat, Nat.mod_eq_of_lt hp, Nat.mod_eq_of_lt hq, IntKind.wrap_u8]
    omega
  · have e : p ^^^ q = p := by omega
    have e2 : p ^^^ (p ^^^ q) = q := by rw [← Nat.xor_assoc, Nat.xor_self, Nat.zero_xor]
    rw [e, Nat.xor_self] at e2
    omega
theorem og_put {e : TypeId} {B g off n cap : Nat} {V : List Value} {w : World} (h : Og e B (.slice (some ⟨g, off, none⟩) n cap) V w) {i : Nat} (hi : i < V.length) (y : Value) : Og e B (.slice (some ⟨g, off, none⟩) n cap) (V.set i y) (w.setCell ⟨g, off + i, none⟩ y) := by
  rcases h with ⟨h, -⟩ | ⟨g', off', cap', cur, e1, hB, hg, hc, hs, hx⟩
  · cases h
  · injection e1 with e1 e2 e3
    injection e1 with e1
    injection e1 with e4 e5 e6
    subst e4 e5 e2 e3
    refine .inr ⟨g, off, cap, cur.setIfInBounds (off + i) y, by simp, hB, heap_setCell_same w g (off + i) cur e y hg, by simpa using hc, by simpa using hs, fun k hk => ?_⟩
    have hk' : k < V.length := by simpa using hk
    by_cases q : k = i
    · subst q
      simp [show off + k < cur.size by omega, hk']
    · rw [Array.getElem?_setIfInBounds_ne (by omega), hx k hk', List.getElem?_set_ne (by omega)]
theorem og_frz {e : TypeId} {B g off n cap : Nat} {V : List Value} {w : World} (h : Og e B (.slice (some ⟨g, off, none⟩) n cap) V w) (i : Nat) : w.frozen? ⟨g, i, none⟩ = false := by
  rcases h with ⟨h, -⟩ | ⟨g', off', cap', cur, e1, hB, hg, hc, hs, hx⟩
  · cases h
  · injection e1 with e1 e2 e3
    injection e1 with e1
    injection e1 with e4 e5 e6
    subst e4
    exact frozen_of_row w g i cur _ hg
theorem nvals_put (k : IntKind) (l : List Int) (i : Nat) (c : Int) : (nvals k l).set i (.int k c) = nvals k (l.set i c) := by
  simp [nvals, List.map_set]
theorem bkB_byl (width : Nat) (Z : List (List Int)) : BYL (bkB width Z) := (bdB_byl width Z).app (fun b hb => by
  have := crI_lt (bdB width Z)
  simp only [List.mem_cons, List.not_mem_nil, or_false] at hb
  rcases hb with rfl | rfl <;> omega)
theorem wtB_byl (width : Nat) (Z : List (List Int)) : ∀ k, BYL (wtB width Z k)
  | 0 => fun b hb => by cases hb
  | k + 1 => (wtB_byl width Z k).app (bkB_byl _ _)
set_option maxRecDepth 100000 in
set_option maxHeartbeats 8000000 in
theorem law_TapeBack (width : Int) (a : Option Addr) (A : Nat → Option Addr) (C : Nat → Nat) (Z : List (List Int)) (cap : Nat) (x0 x1 : Int) (w : World) (hG : GridIs .i64 w a A C Z) (hcap : Z.length ≤ cap) (hZ : Z.length ≤ maxLen) (hv : ∀ i, i < Z.length → (Z.getD i []).length ≤ maxLen ∧ ∀ n ∈ Z.getD i [], (Lit.int .i64 n).wf = true) : Calls Try.prog 7 #[.int .i64 width, .slice a Z.length cap, .agg #[.int .i64 x0, .int .i64 x1]] w fun e w' => e = .returned (.bool true) ∧ Below w.heap.size w w' := by
  have LV := Lib.hid (fun u => lives45 u)
  have hR : ∀ i, i < Z.length → (Z.getD i []).length ≤ maxLen := fun i hi => (hv i hi).1
  obtain ⟨V, eV, hbV, hsV, hcV⟩ := tb_box w x0 x1
  have hbV := Lib.hid hbV
  have hsV := Lib.hid hsV
  have hcV := Lib.hid hcV
  replace eV := Lib.hid eV
  have hGV := hG.below hbV.out
  have GT := lgreat a A C Z cap V hGV hZ hR
  have hZ' : (Z.length : Int) ≤ 9223372036854775807 := by unfold maxLen at hZ; omega
  by_cases hg : grtB Z = true
  · rw [hg] at GT
    replace GT := Lib.hid GT
    clear hG hGV hv hR hg
    go_enter Try.func7, Try.ntmps7
    go_upto_region 1 with (fail)
    rw [← eV.out]
    go_wp2_with fail
    refine GT.out.mono ?_
    rintro e w1 ⟨rfl, rfl⟩
    go_wp2_with fail
    refine (LV.out _).mono ?_
    rintro e u9 ⟨rfl, hb9⟩
    have hb8 := Lib.hid (show Below w.heap.size w u9 from hbV.out.trans (hb9.mono hbV.out.size))
    clear hb9
    go_wp2
    go_ret
    skip
    exact ⟨rfl, hb8.out⟩
  rw [Bool.eq_false_iff.2 hg] at GT
  replace GT := Lib.hid GT
  by_cases hwd : 1 ≤ width ∧ width ≤ 16
  rotate_left
  · skip
    have BO := Lib.hid (twrite_w width a Z.length cap V hwd)
    clear hG hGV hv hR hg
    go_enter Try.func7, Try.ntmps7
    go_upto_region 1 with (fail)
    rw [← eV.out]
    go_wp2_with fail
    refine GT.out.mono ?_
    rintro e w1 ⟨rfl, rfl⟩
    go_wp2_with fail
    refine BO.out.mono ?_
    rintro e w2 ⟨rfl, hb⟩
    replace hb := Lib.hid (show Below w.heap.size w w2 from hbV.out.trans (hb.mono hbV.out.size))
    go_wp2_with fail
    refine (LV.out _).mono ?_
    rintro e u9 ⟨rfl, hb9⟩
    have hb8 := Lib.hid (show Below w.heap.size w u9 from hb.out.trans (hb9.mono hb.out.size))
    clear hb9
    go_wp2
    go_ret
    skip
    exact ⟨rfl, hb8.out⟩
  obtain ⟨wd, rfl⟩ := Int.eq_ofNat_of_zero_le (show 0 ≤ width by omega)
  have hwd : 1 ≤ wd ∧ wd ≤ 16 := by omega
  by_cases hn : 1000 < Z.length ∨ fitB (wd : Int) Z = false
  · skip
    have BO := Lib.hid (twrite_l wd a A C Z cap V hGV hwd hZ hR hn)
    clear hG hGV hv hR hg
    go_enter Try.func7, Try.ntmps7
    go_upto_region 1 with (fail)
    rw [← eV.out]
    go_wp2_with fail
    refine GT.out.mono ?_
    rintro e w1 ⟨rfl, rfl⟩
    go_wp2_with fail
    refine BO.out.mono ?_
    rintro e w2 ⟨rfl, hb⟩
    replace hb := Lib.hid (show Below w.heap.size w w2 from hbV.out.trans (hb.mono hbV.out.size))
    go_wp2_with fail
    refine (LV.out _).mono ?_
    rintro e u9 ⟨rfl, hb9⟩
    have hb8 := Lib.hid (show Below w.heap.size w u9 from hb.out.trans (hb9.mono hb.out.size))
    clear hb9
    go_wp2
    go_ret
    skip
    exact ⟨rfl, hb8.out⟩
  have hf : fitB (wd : Int) Z = true := by cases q : fitB (wd : Int) Z with | true => rfl | false => exact absurd (.inr q) hn
  have hn : Z.length ≤ 1000 := by rcases Nat.lt_or_ge 1000 Z.length with q | q; exact absurd (.inl q) hn; exact q
  have hI : ∀ R ∈ Z, I64 R := fun R hR m hm => by obtain ⟨i, hi, rfl⟩ := List.getElem_of_mem hR; exact i64_bd ((hv i hi).2 m (by simpa [List.getD, hi] using hm))
  have BO := Lib.hid (twrite_ok wd a A C Z cap V hGV hcap hwd hn hR hf)
  have RW := Lib.hid (rdA_write hf hI)
  have WL := Lib.hid (show (wtB wd Z (ckN Z.length)).length ≤ 170000 from Nat.le_trans (wt_len (Z := Z) hwd.2 hf (ckN Z.length)) (by unfold ckN; omega))
  have WBY := Lib.hid (wtB_byl wd Z (ckN Z.length))
  have HG := Lib.hid (fun u (k : Below V.heap.size V u) => hGV.below k)
  have HW := Lib.hid hwd
  have FA := Lib.hid (fit_all hf)
  have HZ := Lib.hid hZ
  have HN := Lib.hid hn
  have TBL := Lib.hid (fun u (k : Below V.heap.size V u) (h : ¬ (Z.length ≠ 0 ∧ Z.length ≤ 50)) => tblock_l (wd : Int) a Z.length cap u (by omega) (by omega) (by unfold maxLen; omega))
  have TBO := Lib.hid (fun u (k : Below V.heap.size V u) (h : Z.length ≠ 0 ∧ Z.length ≤ 50) => tblock_ok wd a A C Z cap u (hGV.below k) hwd h hR hf)
  have SP := Lib.hid (fun i c (h : i < (bkB wd Z).length) => rdK_spoilt (width := wd) (Z := Z) (i := i) (c := c) h)
  have BKL := Lib.hid (fun (h : Z.length ≤ 50) => (bk_len (Z := Z) hwd.2 hf h).1)
  have BKY := Lib.hid (bkB_byl wd Z)
  clear hG hGV hv hR hg hf hI hn hwd
  obtain ⟨W, eW⟩ : ∃ W, wtB wd Z (ckN Z.length) = W := ⟨_, rfl⟩
  rw [eW] at RW WL WBY BO
  clear eW
  obtain ⟨n, en⟩ : ∃ n, Z.length = n := ⟨_, rfl⟩
  have EN := Lib.hid en
  rw [en] at GT BO TBL TBO hZ' ⊢
  clear en
  go_enter Try.func7, Try.ntmps7
  go_upto_region 1 with (fail)
  rw [← eV.out]
  go_wp2_with fail
  refine GT.out.mono ?_
  rintro e w1 ⟨rfl, rfl⟩
  go_wp2_with fail
  refine BO.out.mono ?_
  rintro e w2 ⟨x1v, rfl, hO, hb⟩
  obtain ⟨a1, c1, ex1, hc1, r1, -, -⟩ := hO.rowIs
  subst ex1
  have h2 := Lib.hid hb
  have T1 := tall wd a1 c1 W w2 r1 hc1 (row_lt3 r1) (by have := WL.out; omega) WBY.out HW.out
  rw [RW.out] at T1
  replace T1 := Lib.hid T1
  generalize W.length = wl at *
  clear hO r1 hb BO GT hc1
  go_wp2_with fail
  refine T1.out.mono ?_
  rintro e w3 ⟨hb3, x2, G2, rfl, hG2, hZ2⟩
  replace hZ2 : grL G2 = Z := hZ2
  have h3 := Lib.hid (show Below V.heap.size V w3 from h2.out.trans (hb3.mono h2.out.size))
  obtain ⟨ax, cx, A1, C1, ex2, g1⟩ := hG2.grid
  subst ex2
  rw [hZ2] at g1 ⊢
  have SM := rsame45 ax a A1 A C1 C Z cx cap w3 g1 (HG.out w3 h3.out) HZ.out (fun i hi => by have := FA.out (Z.getD i []) (by simp [List.getD, hi]); have := HW.out; unfold maxLen; omega)
  rw [EN.out] at SM ⊢
  replace SM := Lib.hid SM
  clear T1 hb3 hG2 hZ2 g1 h2
  go_wp2_with fail
  refine SM.out.mono ?_
  rintro e w4 ⟨rfl, hb4⟩
  have h4 := Lib.hid (show Below V.heap.size V w4 from h3.out.trans (hb4.mono h3.out.size))
  clear hb4 h3 SM
  by_cases hn : n ≠ 0 ∧ n ≤ 50
  rotate_left
  · have T2 := Lib.hid (TBL.out w4 h4.out hn)
    have hw4 := Lib.hid (show Below w.heap.size w w4 from hbV.out.trans (h4.out.mono hbV.out.size))
    go_wp2_with fail
    refine T2.out.mono ?_
    rintro e w5 ⟨rfl, rfl⟩
    clear T2
    go_wp2_with fail
    refine (LV.out _).mono ?_
    rintro e u9 ⟨rfl, hb9⟩
    have hb8 := Lib.hid (show Below w.heap.size w u9 from hw4.out.trans (hb9.mono hw4.out.size))
    clear hb9
    go_wp2
    go_ret
    skip
    exact ⟨rfl, hb8.out⟩
  have T2 := Lib.hid (TBO.out w4 h4.out hn)
  have BKL2 := Lib.hid (BKL.out (by rw [EN.out]; exact hn.2))
  clear TBL TBO BKL
  go_wp2_with fail
  refine T2.out.mono ?_
  rintro e w5 ⟨xo, rfl, hO5, hb5⟩
  clear T2
  obtain ⟨ao, co, exo, hco, ro, -, -⟩ := hO5.rowIs
  subst exo
  have h5 := Lib.hid (show Below V.heap.size V w5 from h4.out.trans (hb5.mono h4.out.size))
  have hw5 := Lib.hid (show Below w.heap.size w w5 from hbV.out.trans (h5.out.mono hbV.out.size))
  have hO5 := Lib.hid hO5
  have hb5 := Lib.hid hb5
  obtain ⟨cB0, cB1⟩ := hcV.out w5 (by rw [← hsV.out]; exact h5.out)
  obtain ⟨K, eK⟩ : ∃ K, bkB wd Z = K := ⟨_, rfl⟩
  rw [eK] at SP BKL2 BKY hO5 ro hco ⊢
  clear eK
  obtain ⟨kl, ekl⟩ : ∃ z, K.length = z := ⟨_, rfl⟩
  have EKL := Lib.hid ekl
  rw [ekl] at BKL2 SP hco ⊢
  clear ekl
  have hco := Lib.hid hco
  have ro := Lib.hid ro
  by_cases y1 : x0 < 2
  · have y2 : decide (x0 < 2) = true := decide_eq_true y1
    go_wp2_with fail
    refine (LV.out _).mono ?_
    rintro e u9 ⟨rfl, hb9⟩
    have hb8 := Lib.hid (show Below w.heap.size w u9 from hw5.out.trans (hb9.mono hw5.out.size))
    clear hb9
    go_wp2
    go_ret
    skip
    exact ⟨rfl, hb8.out⟩
  have y2 : decide (x0 < 2) = false := decide_eq_false y1
  by_cases y3 : (kl : Int) ≤ x0
  · have y4 : decide ((kl : Int) ≤ x0) = true := decide_eq_true y3
    go_wp2_with fail
    refine (LV.out _).mono ?_
    rintro e u9 ⟨rfl, hb9⟩
    have hb8 := Lib.hid (show Below w.heap.size w u9 from hw5.out.trans (hb9.mono hw5.out.size))
    clear hb9
    go_wp2
    go_ret
    skip
    exact ⟨rfl, hb8.out⟩
  have y4 : decide ((kl : Int) ≤ x0) = false := decide_eq_false y3
  obtain ⟨dx, edx⟩ : ∃ z, IntKind.u8.wrap x1 = z := ⟨_, rfl⟩
  have dB : 0 ≤ dx ∧ dx < 256 := by rw [← edx, IntKind.wrap_u8]; omega
  by_cases y5 : dx = 0
  · have y6 : (dx == 0) = true := beq_iff_eq.2 y5
    go_wp2_with fail
    refine (LV.out _).mono ?_
    rintro e u9 ⟨rfl, hb9⟩
    have hb8 := Lib.hid (show Below w.heap.size w u9 from hw5.out.trans (hb9.mono hw5.out.size))
    clear hb9
    go_wp2
    go_ret
    skip
    exact ⟨rfl, hb8.out⟩
  have y6 : (dx == 0) = false := beq_eq_false_iff_ne.2 y5
  obtain ⟨i, ei⟩ : ∃ i : Nat, x0 = (i : Int) := ⟨x0.toNat, by omega⟩
  subst ei
  have ikl : (i : Int) < (kl : Int) := by omega
  have i0 : (0 : Int) ≤ (i : Int) := by omega
  have ikn : i < kl := by omega
  obtain ⟨g, off, e9, -, k9⟩ := ro.out.at (show i < K.length by rw [EKL.out]; exact ikn)
  subst e9
  have f9 := og_frz hO5.out (off + i)
  have bo := BKY.out (K.getD i 0) (getD_mem (by rw [EKL.out]; exact ikn))
  obtain ⟨c, ec, cb, cne⟩ := u8_flip bo (d := dx) (by omega)
  have SP1 := Lib.hid (SP.out i c ikn cb cne)
  have KO := Lib.hid (rdK_no (width := wd) (L := K.set i c))
  obtain ⟨old, eold⟩ : ∃ z, K.getD i 0 = z := ⟨_, rfl⟩
  rw [eold] at k9 ec bo
  clear eold cne
  have WO := Lib.hid (show Og 5 w4.heap.size (.slice (some ⟨g, off, none⟩) kl co) (nvals .u8 (K.set i c)) (w5.setCell ⟨g, off + i, none⟩ (.int .u8 c)) by have h := hO5.out; rw [EKL.out] at h; have := og_put h (i := i) (by rw [nvals_len, EKL.out]; exact ikn) (.int .u8 c); rw [nvals_put] at this; exact this)
  have hg4 := Lib.hid (show w4.heap.size ≤ g from (hO5.out.lt rfl).1)
  have h46 := Lib.hid (show Below w4.heap.size w4 (w5.setCell ⟨g, off + i, none⟩ (.int .u8 c)) from hb5.out.setCell (p := ⟨g, off + i, none⟩) hg4.out _)
  have hw4 := Lib.hid (show Below w.heap.size w w4 from hbV.out.trans (h4.out.mono hbV.out.size))
  have hw6 := Lib.hid (show Below w.heap.size w (w5.setCell ⟨g, off + i, none⟩ (.int .u8 c)).drew from (hw4.out.trans (h46.out.mono hw4.out.size)).drew)
  have WOd := Lib.hid (WO.out.bel (Below.refl (w5.setCell ⟨g, off + i, none⟩ (.int .u8 c)).heap.size _).drew)
  have KB := Lib.hid (show BYL (K.set i c) from fun z hz => by rcases List.mem_or_eq_of_mem_set hz with q | q; exact BKY.out z q; (subst q; exact cb))
  have KL9 := Lib.hid (show (K.set i c).length = kl by rw [List.length_set]; exact EKL.out)
  obtain ⟨a6, c6, e6, -, r6, -, -⟩ := WOd.out.rowIs
  injection e6 with e7 e8 e9
  subst e7 e9
  have T3 := tread wd (some ⟨g, off, none⟩) co (K.set i c) (w5.setCell ⟨g, off + i, none⟩ (.int .u8 c)).drew r6 (by rw [KL9.out]; exact hco.out) (row_lt3 r6) (by rw [KL9.out]; have := BKL2.out; omega) KB.out HW.out
  rw [KL9.out] at T3
  obtain ⟨M, eM⟩ : ∃ M, rdK wd (K.set i c) = M := ⟨_, rfl⟩
  rw [eM] at T3 SP1 KO
  obtain ⟨e0, Z0, R0⟩ := M
  replace T3 := Lib.hid T3
  replace SP1 := Lib.hid (show e0 ≠ 0 ∨ 0 < R0.length from SP1.out)
  replace KO := Lib.hid (show e0 ≠ 0 → Z0 = [] from fun q => congrArg Prod.fst (KO.out q).1)
  clear eM r6 e8 SP ro hO5
  go_upto_region 12 with (fail)
  refine region_moves (fun u => u.cell? ⟨w.heap.size, 0, none⟩ = some (.int .i64 (i : Int)) ∧ u.cell? ⟨w.heap.size, 1, none⟩ = some (.int .i64 x1) ∧ u.cell? ⟨g, off + i, none⟩ = some (.int .u8 old)) [(13, [(12, 13), (11, 13), (0, 13), (1, 13), (2, 13), (3, 13), (4, 13), (5, 13), (6, 13), (7, 13), (8, 13), (9, 13), (10, 13)])] [(.free, 0), (.free, 1), (.take, 2), (.free, 3), (.free, 4), (.take, 5), (.free, 6), (.take, 7), (.free, 8), (.take, 9), (.free, 10), (.free, 11), (.free, 12), (.late, 13)] _ (by kernel_rfl) (by kernel_rfl) (by kernel_rfl) (by kernel_rfl) (by decide) rfl (fun _ _ _ _ _ h => h) ?_
  simp only [List.filterMap_cons, List.filterMap_nil, List.getElem?_toArray, List.getElem?_cons_zero, List.getElem?_cons_succ, Option.map_some]
  iterate 2
    first
      | (refine mv_free ?_ (Or.inl ⟨by rfl, ?_⟩) (⟨cB0, cB1, k9⟩) ?_
         rotate_left 1
         · intro u
           go_simp
           try simp only [d1]
           try simp only [d2]
           try simp only [d3]
           try simp only [d1]
           try simp only [d2]
           try simp only [d3]
           try with_reducible rfl
         simp only [Act.put, List.setIfInBounds_toArray, List.set_cons_zero, List.set_cons_succ])
      | (refine mv_free _ (Or.inr ⟨by rfl, rfl⟩) (⟨cB0, cB1, k9⟩) ?_
         simp only [Act.put, List.setIfInBounds_toArray, List.set_cons_zero, List.set_cons_succ])
  iterate 1
    first
      | (refine mv_take ?_ (Or.inl ⟨by rfl, ?_⟩) (⟨cB0, cB1, k9⟩) ?_
         rotate_left 1
         · intro u hu
           (try dsimp only at hu)
           go_simp
           try with_reducible rfl
         simp only [Act.put, List.setIfInBounds_toArray, List.set_cons_zero, List.set_cons_succ])
      | (refine mv_take _ (Or.inr ⟨by rfl, rfl⟩) (⟨cB0, cB1, k9⟩) ?_
         simp only [Act.put, List.setIfInBounds_toArray, List.set_cons_zero, List.set_cons_succ])
  iterate 2
    first
      | (refine mv_free ?_ (Or.inl ⟨by rfl, ?_⟩) (⟨cB0, cB1, k9⟩) ?_
         rotate_left 1
         · intro u
           go_simp
           try simp only [d1]
           try simp only [d2]
           try simp only [d3]
           try simp only [d1]
           try simp only [d2]
           try simp only [d3]
           try with_reducible rfl
         simp only [Act.put, List.setIfInBounds_toArray, List.set_cons_zero, List.set_cons_succ])
      | (refine mv_free _ (Or.inr ⟨by rfl, rfl⟩) (⟨cB0, cB1, k9⟩) ?_
         simp only [Act.put, List.setIfInBounds_toArray, List.set_cons_zero, List.set_cons_succ])
  iterate 1
    first
      | (refine mv_take ?_ (Or.inl ⟨by rfl, ?_⟩) (⟨cB0, cB1, k9⟩) ?_
         rotate_left 1
         · intro u hu
           (try dsimp only at hu)
           go_simp
           try with_reducible rfl
         simp only [Act.put, List.setIfInBounds_toArray, List.set_cons_zero, List.set_cons_succ])
      | (refine mv_take _ (Or.inr ⟨by rfl, rfl⟩) (⟨cB0, cB1, k9⟩) ?_
         simp only [Act.put, List.setIfInBounds_toArray, List.set_cons_zero, List.set_cons_succ])
  iterate 1
    first
      | (refine mv_free ?_ (Or.inl ⟨by rfl, ?_⟩) (⟨cB0, cB1, k9⟩) ?_
         rotate_left 1
         · intro u
           go_simp
           try simp only [d1]
           try simp only [d2]
           try simp only [d3]
           try simp only [d1]
           try simp only [d2]
           try simp only [d3]
           try with_reducible rfl
         simp only [Act.put, List.setIfInBounds_toArray, List.set_cons_zero, List.set_cons_succ])
      | (refine mv_free _ (Or.inr ⟨by rfl, rfl⟩) (⟨cB0, cB1, k9⟩) ?_
         simp only [Act.put, List.setIfInBounds_toArray, List.set_cons_zero, List.set_cons_succ])
  iterate 1
    first
      | (refine mv_take ?_ (Or.inl ⟨by rfl, ?_⟩) (⟨cB0, cB1, k9⟩) ?_
         rotate_left 1
         · intro u hu
           (try dsimp only at hu)
           go_simp
           try with_reducible rfl
         simp only [Act.put, List.setIfInBounds_toArray, List.set_cons_zero, List.set_cons_succ])
      | (refine mv_take _ (Or.inr ⟨by rfl, rfl⟩) (⟨cB0, cB1, k9⟩) ?_
         simp only [Act.put, List.setIfInBounds_toArray, List.set_cons_zero, List.set_cons_succ])
  iterate 1
    first
      | (refine mv_free ?_ (Or.inl ⟨by rfl, ?_⟩) (⟨cB0, cB1, k9⟩) ?_
         rotate_left 1
         · intro u
           go_simp
           try simp only [d1]
           try simp only [d2]
           try simp only [d3]
           try simp only [d1]
           try simp only [d2]
           try simp only [d3]
           try with_reducible rfl
         simp only [Act.put, List.setIfInBounds_toArray, List.set_cons_zero, List.set_cons_succ])
      | (refine mv_free _ (Or.inr ⟨by rfl, rfl⟩) (⟨cB0, cB1, k9⟩) ?_
         simp only [Act.put, List.setIfInBounds_toArray, List.set_cons_zero, List.set_cons_succ])
  iterate 1
    first
      | (refine mv_take ?_ (Or.inl ⟨by rfl, ?_⟩) (⟨cB0, cB1, k9⟩) ?_
         rotate_left 1
         · intro u hu
           (try dsimp only at hu)
           go_simp
           try with_reducible rfl
         simp only [Act.put, List.setIfInBounds_toArray, List.set_cons_zero, List.set_cons_succ])
      | (refine mv_take _ (Or.inr ⟨by rfl, rfl⟩) (⟨cB0, cB1, k9⟩) ?_
         simp only [Act.put, List.setIfInBounds_toArray, List.set_cons_zero, List.set_cons_succ])
  iterate 3
    first
      | (refine mv_free ?_ (Or.inl ⟨by rfl, ?_⟩) (⟨cB0, cB1, k9⟩) ?_
         rotate_left 1
         · intro u
           go_simp
           try simp only [d1]
           try simp only [d2]
           try simp only [d3]
           try simp only [d1]
           try simp only [d2]
           try simp only [d3]
           try with_reducible rfl
         simp only [Act.put, List.setIfInBounds_toArray, List.set_cons_zero, List.set_cons_succ])
      | (refine mv_free _ (Or.inr ⟨by rfl, rfl⟩) (⟨cB0, cB1, k9⟩) ?_
         simp only [Act.put, List.setIfInBounds_toArray, List.set_cons_zero, List.set_cons_succ])
  refine mv_late (fun K hK => ?_)
  go_simp
  refine hK.out (fun _ => True) _ _ ?_
  clear hK K
  refine mv_done ?_
  clear cB0 cB1 k9 f9
  generalize (w5.setCell ⟨g, off + i, none⟩ (.int .u8 c)).drew = w6 at *
  go_wp2_with fail
  refine T3.out.mono ?_
  rintro e w7 ⟨hb7, x7, y7, G7, rfl, hG7, hZ7, hO7⟩
  replace hZ7 : grL G7 = Z0 := hZ7
  replace hO7 : Og 5 w6.heap.size y7 (nvals .u8 R0) w7 := hO7
  have hw7 := Lib.hid (show Below w.heap.size w w7 from hw6.out.trans (hb7.mono hw6.out.size))
  obtain ⟨ax7, cx7, A7, C7, ex7, -⟩ := hG7.grid
  subst ex7
  rw [hZ7]
  obtain ⟨ay7, cy7, ey7, -, -, -, -⟩ := hO7.rowIs
  subst ey7
  clear hb7 hG7 hZ7 hO7 T3
  by_cases q : e0 = 0
  · have hl : (0 : Int) < (R0.length : Int) := by have := SP1.out; omega
    subst q
    go_wp2_with fail
    refine (LV.out _).mono ?_
    rintro e u9 ⟨rfl, hb9⟩
    have hb8 := Lib.hid (show Below w.heap.size w u9 from hw7.out.trans (hb9.mono hw7.out.size))
    clear hb9
    go_wp2
    go_ret
    skip
    exact ⟨rfl, hb8.out⟩
  · have hz := KO.out q
    subst hz
    have q1 : (e0 == 0) = false := beq_eq_false_iff_ne.2 q
    have q2 : (e0 != 0) = true := by simp [q]
    go_wp2_with fail
    refine (LV.out _).mono ?_
    rintro e u9 ⟨rfl, hb9⟩
    have hb8 := Lib.hid (show Below w.heap.size w u9 from hw7.out.trans (hb9.mono hw7.out.size))
    clear hb9
    go_wp2
    go_ret
    skip
    exact ⟨rfl, hb8.out⟩
end Go.Proofs.Ytpcbnoefgknihaa
