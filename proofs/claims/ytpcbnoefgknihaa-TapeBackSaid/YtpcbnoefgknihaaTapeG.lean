/- Package tape: block, which recovers; walked. -/
import Derived.Test.YtpcbnoefgknihaaTapeF
namespace Go.Proofs.Ytpcbnoefgknihaa
open Go.ChangeShapes Go.WideShapes Go.ChangeAt Go.RowKit
set_option linter.unusedVariables false
set_option linter.unusedSimpArgs false
/-- The three results' cells of a block that is read. -/
def Bx (B : Nat) (x : Value) (v : World) : Prop := (v.cell? ⟨B, 0, none⟩ = some x ∧ v.cell? ⟨B + 1, 0, none⟩ = some (.slice none 0 0) ∧ v.cell? ⟨B + 2, 0, none⟩ = some (.int .i64 0)) ∧ (v.frozen? ⟨B, 0, none⟩ = false ∧ v.frozen? ⟨B + 1, 0, none⟩ = false ∧ v.frozen? ⟨B + 2, 0, none⟩ = false) ∧ B + 3 < v.heap.size
theorem Bx.bsd {B : Nat} {x : Value} {v v' : World} (h : Bx B x v) (k : Beside (B + 3) v v') : Bx B x v' := by
  obtain ⟨⟨c0, c1, c2⟩, ⟨f0, f1, f2⟩, hs⟩ := h
  have e0 := k.block B (by omega) (by omega)
  have e1 := k.block (B + 1) (by omega) (by omega)
  have e2 := k.block (B + 2) (by omega) (by omega)
  exact ⟨⟨(World.cell?_of_block (a := ⟨B, 0, none⟩) e0).trans c0, (World.cell?_of_block (a := ⟨B + 1, 0, none⟩) e1).trans c1, (World.cell?_of_block (a := ⟨B + 2, 0, none⟩) e2).trans c2⟩,
    ⟨(World.frozen?_of_block (a := ⟨B, 0, none⟩) e0).trans f0, (World.frozen?_of_block (a := ⟨B + 1, 0, none⟩) e1).trans f1, (World.frozen?_of_block (a := ⟨B + 2, 0, none⟩) e2).trans f2⟩, Nat.lt_of_lt_of_le hs k.size⟩
theorem Bx.set0 {B : Nat} {x : Value} {v : World} (h : Bx B x v) (y : Value) : Bx B y (v.setCell ⟨B, 0, none⟩ y) := by
  obtain ⟨⟨c0, c1, c2⟩, ⟨f0, f1, f2⟩, hs⟩ := h
  have e1 := Below.heap_setCell v ⟨B, 0, none⟩ y (B + 1) (by show B + 1 ≠ B; omega)
  have e2 := Below.heap_setCell v ⟨B, 0, none⟩ y (B + 2) (by show B + 2 ≠ B; omega)
  exact ⟨⟨World.cell?_setCell_same _ _ _ c0, (World.cell?_of_block (a := ⟨B + 1, 0, none⟩) e1).trans c1, (World.cell?_of_block (a := ⟨B + 2, 0, none⟩) e2).trans c2⟩,
    ⟨by simpa using f0, by simpa using f1, by simpa using f2⟩, by simpa using hs⟩
/-- The three stored one after the other. -/
theorem Bx.three {B : Nat} {x : Value} {v : World} (h : Bx B x v) (p q r : Value) : (((v.setCell ⟨B, 0, none⟩ p).setCell ⟨B + 1, 0, none⟩ q).setCell ⟨B + 2, 0, none⟩ r).cell? ⟨B, 0, none⟩ = some p ∧ (((v.setCell ⟨B, 0, none⟩ p).setCell ⟨B + 1, 0, none⟩ q).setCell ⟨B + 2, 0, none⟩ r).cell? ⟨B + 1, 0, none⟩ = some q ∧ (((v.setCell ⟨B, 0, none⟩ p).setCell ⟨B + 1, 0, none⟩ q).setCell ⟨B + 2, 0, none⟩ r).cell? ⟨B + 2, 0, none⟩ = some r := by
  obtain ⟨⟨k0, k1, k2⟩, -, -⟩ := h
  exact ⟨by simp [k0, k1, k2, go_sem], by simp [k0, k1, k2, go_sem], by simp [k0, k1, k2, go_sem]⟩
theorem three_below {B B' : Nat} {u v : World} (h : Below B' u v) (hb : B' ≤ B) (p q r : Value) : Below B' u (((v.setCell ⟨B, 0, none⟩ p).setCell ⟨B + 1, 0, none⟩ q).setCell ⟨B + 2, 0, none⟩ r) :=
  ((h.setCell (p := ⟨B, 0, none⟩) hb _).setCell (p := ⟨B + 1, 0, none⟩) (by show B' ≤ B + 1; omega) _).setCell (p := ⟨B + 2, 0, none⟩) (by show B' ≤ B + 2; omega) _
theorem three_heap {B g : Nat} (v : World) (p q r : Value) (hg : B + 3 ≤ g ∨ g < B) : (((v.setCell ⟨B, 0, none⟩ p).setCell ⟨B + 1, 0, none⟩ q).setCell ⟨B + 2, 0, none⟩ r).heap[g]? = v.heap[g]? :=
  (Below.heap_setCell _ ⟨B + 2, 0, none⟩ _ g (by show g ≠ B + 2; omega)).trans ((Below.heap_setCell _ ⟨B + 1, 0, none⟩ _ g (by show g ≠ B + 1; omega)).trans (Below.heap_setCell _ ⟨B, 0, none⟩ _ g (by show g ≠ B; omega)))
theorem Rd.row3 {X B b : Nat} {L : List Int} {v : World} (h : Rd X b L v) (hX : X ≤ B) : ∃ a c, v.cell? ⟨b, 0, none⟩ = some (.slice a L.length c) ∧ L.length ≤ c ∧ (∀ p q r, RowIs .u8 (((v.setCell ⟨B, 0, none⟩ p).setCell ⟨B + 1, 0, none⟩ q).setCell ⟨B + 2, 0, none⟩ r) a L) ∧ (1 ≤ L.length → ∀ p, a = some p → p.block < X) := by
  obtain ⟨a, c, h1, h2, h3, h4, h5, h6⟩ := h
  refine ⟨a, c, h1, h3, fun p q r => ?_, h6⟩
  rcases h4 with z | ⟨g, o, rfl, hg, hc⟩
  · exact .inl z
  · by_cases z : 1 ≤ L.length
    · refine .inr ⟨g, o, rfl, by simpa using hg, fun i hi => (World.cell?_of_block (a := ⟨g, o + i, none⟩) (three_heap v p q r (.inr ?_))).trans (hc i hi)⟩
      have : g < X := h6 z _ rfl
      show g < B
      omega
    · exact .inl (List.eq_nil_of_length_eq_zero (by omega))
theorem bk_catch {B : Nat} {x : Value} {w : World} (h : Bx B x w) (u : TypeId) (pv : Value) (older : List PanicEntry) :
    CallsD Try.prog 58 #[.pointer (some ⟨B, 0, none⟩), .pointer (some ⟨B + 1, 0, none⟩), .pointer (some ⟨B + 2, 0, none⟩)] (.panicking ({ v := .iface u pv, recovered := false } :: older)) w fun e u' w' =>
      e = .returned (.tuple #[]) ∧ u' = .panicking ({ v := .iface u pv, recovered := true } :: older) ∧ w' = ((w.setCell ⟨B, 0, none⟩ (.slice none 0 0)).setCell ⟨B + 1, 0, none⟩ (.slice none 0 0)).setCell ⟨B + 2, 0, none⟩ (.int .i64 3) := by
  obtain ⟨⟨h1, h2, h3⟩, ⟨f1, f2, f3⟩, -⟩ := h
  have h2' : (w.setCell ⟨B, 0, none⟩ (.slice none 0 0)).cell? ⟨B + 1, 0, none⟩ = some (.slice none 0 0) := (World.cell?_of_block (a := ⟨B + 1, 0, none⟩) (Below.heap_setCell w ⟨B, 0, none⟩ _ _ (by show B + 1 ≠ B; omega))).trans h2
  have f2' : (w.setCell ⟨B, 0, none⟩ (.slice none 0 0)).frozen? ⟨B + 1, 0, none⟩ = false := by simp [f2]
  have h3' : ((w.setCell ⟨B, 0, none⟩ (.slice none 0 0)).setCell ⟨B + 1, 0, none⟩ (.slice none 0 0)).cell? ⟨B + 2, 0, none⟩ = some (.int .i64 0) := (World.cell?_of_block (a := ⟨B + 2, 0, none⟩) (Below.heap_setCell _ ⟨B + 1, 0, none⟩ _ _ (by show B + 2 ≠ B + 1; omega))).trans ((World.cell?_of_block (a := ⟨B + 2, 0, none⟩) (Below.heap_setCell w ⟨B, 0, none⟩ _ _ (by show B + 2 ≠ B; omega))).trans h3)
  have f3' : ((w.setCell ⟨B, 0, none⟩ (.slice none 0 0)).setCell ⟨B + 1, 0, none⟩ (.slice none 0 0)).frozen? ⟨B + 2, 0, none⟩ = false := by simp [f3]
  refine callsD_of_wpS Try.func58 rfl fun c₀ cs hu => ?_
  apply wpS_seq
  apply wpS_region
  simp [wpOpsS, go_sem, recoverD, hu, Try.ntmps58, Exit.thenS]
  refine wpS_cond (t := true) (by simp [Act.eval, Array.replicate]) ?_
  simp only [if_true]
  apply wpS_region
  simp [wpOpsS, go_sem, h1, f1, h2', f2', h3', f3', bodyPostS, results, Try.results58]
theorem bk_idle (p q r : Addr) (w : World) :
    CallsD Try.prog 58 #[.pointer (some p), .pointer (some q), .pointer (some r)] .returning w fun e u' w' => e = .returned (.tuple #[]) ∧ u' = .returning ∧ w' = w := by
  refine callsD_of_wpS Try.func58 rfl fun c₀ cs hu => ?_
  apply wpS_seq
  apply wpS_region
  simp [wpOpsS, go_sem, recoverD, hu, Try.ntmps58, Exit.thenS]
  refine wpS_cond (t := false) (by simp [Act.eval, Array.replicate]) ?_
  simp only [Bool.false_eq_true, if_false]
  refine wpS_of_wp (wp_skip ?_)
  cases c₀
  simp_all [bodyPostS, results, Try.results58]
theorem bk_box (w : World) (a : Option Addr) (n c : Nat) : ∃ V, V = (((w.alloc (.cells #[.slice none 0 0] 35)).alloc (.cells #[.slice none 0 0] 22)).alloc (.cells #[.int .i64 0] 37)).alloc (.cells #[.slice a n c] 76) ∧ Below w.heap.size w V ∧ V.heap.size = w.heap.size + 4 ∧ Bx w.heap.size (.slice none 0 0) V ∧ V.cell? ⟨w.heap.size + 3, 0, none⟩ = some (.slice a n c) ∧ V.frozen? ⟨w.heap.size + 3, 0, none⟩ = false :=
  ⟨_, rfl, (((((Below.refl w.heap.size w).alloc (Nat.le_refl _) _).alloc (by simp) _).alloc (by simp; omega) _).alloc (by simp; omega) _), by simp, ⟨⟨by go_simp, by go_simp, by go_simp⟩, ⟨by go_simp, by go_simp, by go_simp⟩, by simp⟩, by go_simp, by go_simp⟩
theorem row_take {k : IntKind} {w : World} {a : Option Addr} {l : List Int} (h : RowIs k w a l) (n : Nat) : RowIs k w a (l.take n) := by
  rcases h with rfl | ⟨b, off, rfl, hlt, hc⟩
  · exact .inl (by simp)
  · refine .inr ⟨b, off, rfl, hlt, fun i hi => ?_⟩
    rw [List.length_take] at hi
    rw [hc i (by omega)]
    simp [List.getD, List.getElem?_take, show i < n by omega]
theorem or16 {h l : Int} (h0 : 0 ≤ h ∧ h < 256) (l0 : 0 ≤ l ∧ l < 256) : bits .or .u16 (IntKind.u16.wrap (h * 256)) l = h * 256 + l := by
  obtain ⟨p, rfl⟩ : ∃ p : Nat, h = (p : Int) := ⟨h.toNat, by omega⟩
  obtain ⟨q, rfl⟩ : ∃ q : Nat, l = (q : Int) := ⟨l.toNat, by omega⟩
  rw [show IntKind.u16.wrap ((p : Int) * 256) = ((p * 256 : Nat) : Int) by rw [IntKind.wrap_u16]; omega]
  have hor : (p * 256) ||| q = p * 256 + q := by
    have := Nat.two_pow_add_eq_or_of_lt (i := 8) (b := q) (by omega) p
    rw [Nat.mul_comm p 256, ← this]
  show IntKind.u16.wrap ((BitVec.ofInt 16 ((p * 256 : Nat) : Int) ||| BitVec.ofInt 16 (q : Int)).toNat : Int) = _
  rw [BitVec.toNat_or, BitVec.ofInt_natCast, BitVec.ofInt_natCast, BitVec.toNat_ofNat, BitVec.toNat_ofNat, Nat.mod_eq_of_lt (by omega), Nat.mod_eq_of_lt (by omega), hor, IntKind.wrap_u16]
  omega
set_option maxRecDepth 100000 in
set_option maxHeartbeats 8000000 in
theorem tblk (X width : Nat) (a : Option Addr) (cap : Nat) (L : List Int) (w : World) (hr : RowIs .u8 w a L) (hcap : L.length ≤ cap) (ha : 1 ≤ L.length → ∀ p, a = some p → p.block < X) (hX : X ≤ w.heap.size) (hL : L.length ≤ 1000000) (hB : BYL L) (hw : 1 ≤ width ∧ width ≤ 16) : Calls Try.prog 51 #[.int .i64 (width : Int), .slice a L.length cap] w fun e w' => Below w.heap.size w w' ∧ ∃ x a2 c2 G, e = .returned (.tuple #[x, .slice a2 (rdK width L).2.2.length c2, .int .i64 (rdK width L).1]) ∧ Gr w.heap.size x G w' ∧ grL G = (rdK width L).2.1 ∧ RowIs .u8 w' a2 (rdK width L).2.2 ∧ (rdK width L).2.2.length ≤ c2 ∧ (1 ≤ (rdK width L).2.2.length → ∀ p, a2 = some p → p.block < X) := by
  have hmf : ∀ (fn : Fn) (first cap : Array Value) (w : World), (Instr.makeFunc fn first cap).run Try.prog w = .ok (.func fn first cap) w := fun _ _ _ _ => rfl
  obtain ⟨V, eV, hbV, hsV, hBx, k3, f3⟩ := bk_box w a L.length cap
  have hR : Rd X (w.heap.size + 3) L V := ⟨a, cap, k3, f3, hcap, hr.below hbV, by omega, ha⟩
  have TR := Lib.hid (trows (w.heap.size + 3) width L V hR hw hB)
  obtain ⟨B, eB⟩ : ∃ B, w.heap.size = B := ⟨_, rfl⟩
  have EB := Lib.hid eB
  have HR := Lib.hid (fun u (k : Below B w u) => show RowIs .u8 u a L from hr.below (by rw [eB]; exact k))
  rw [eB] at hbV hsV hBx TR
  have hbV := Lib.hid hbV
  have hsV := Lib.hid hsV
  have hBx := Lib.hid hBx
  have HL := Lib.hid hL
  have BY := Lib.hid hB
  have HC := Lib.hid hcap
  replace eV := Lib.hid eV
  have HXB := Lib.hid (show X ≤ B by omega)
  replace TR := Lib.hid TR.out
  clear hR k3 f3 hr ha hcap hB hL hX
  obtain ⟨K, eK⟩ : ∃ K, rdK width L = K := ⟨_, rfl⟩
  have EK := Lib.hid eK
  rw [eK]
  clear eK
  obtain ⟨n, en⟩ : ∃ n, L.length = n := ⟨_, rfl⟩
  have EN := Lib.hid en
  rw [en] at eV HL HC ⊢
  clear en
  replace eV := Lib.hid eV.out
  have HL := Lib.hid HL.out
  have HC := Lib.hid HC.out
  go_enter_defers Try.func51, Try.ntmps51
  go_upto_region 3 with (fail)
  rw [show B + 1 + 1 + 1 = B + 3 from rfl, show B + 1 + 1 = B + 2 from rfl, ← eV.out]
  clear eB
  go_wp2_with fail
  refine TR.out.mono ?_
  rintro e v2 ⟨hO, ⟨hNo, rfl⟩ | ⟨Z, R, x, G, hS, rfl, hG, hZ, hR2⟩⟩
  · have hx2 := Lib.hid (hBx.out.bsd hO)
    have hb2 := Lib.hid (show Below B w v2 from hbV.out.trans (hO.below (by omega) (by rw [hsV.out]; omega)))
    have hk := Lib.hid (show K = (3, [], []) by rw [← EK.out]; unfold rdK; rw [hNo])
    refine leaves_cons (f := 58) (args := #[.pointer (some ⟨B, 0, none⟩), .pointer (some ⟨B + 1, 0, none⟩), .pointer (some ⟨B + 2, 0, none⟩)]) (by simp) (by simp [go_sem]) ?_
    refine (bk_catch hx2.out _ _ []).mono ?_
    rintro e u' w'' ⟨rfl, rfl, rfl⟩
    obtain ⟨c0, c1, c2⟩ := hx2.out.three (.slice none 0 0) (.slice none 0 0) (.int .i64 3)
    have hW := Lib.hid (three_below hb2.out (Nat.le_refl B) (.slice none 0 0) (.slice none 0 0) (.int .i64 3))
    generalize ((v2.setCell ⟨B, 0, none⟩ (.slice none 0 0)).setCell ⟨B + 1, 0, none⟩ (.slice none 0 0)).setCell ⟨B + 2, 0, none⟩ (.int .i64 3) = W at *
    simp [Leaves, settle, results, Try.results51, go_sem, c0, c1, c2]
    rw [EB.out, hk.out]
    exact ⟨hW.out, _, _, _, ⟨rfl, ⟨rfl, rfl, rfl⟩, rfl⟩, [], Gr.nil _ _, rfl, .inl rfl, by simp, by simp⟩
  · have hx2 := hBx.out.bsd hO
    obtain ⟨⟨k0, -, -⟩, ⟨f0, -, -⟩, hs2⟩ := hx2
    rw [hsV.out] at hG
    obtain ⟨a9, c9, e9, -, -, -⟩ := hG.og.row
    obtain ⟨gl, egl⟩ : ∃ z, (grV G).length = z := ⟨_, rfl⟩
    rw [egl] at e9
    clear egl
    subst e9
    obtain ⟨U, eU⟩ : ∃ U, U = v2.setCell ⟨B, 0, none⟩ (.slice a9 gl c9) := ⟨_, rfl⟩
    have hxU := Lib.hid (show Bx B (.slice a9 gl c9) U by rw [eU]; exact (hBx.out.bsd hO).set0 (.slice a9 gl c9))
    have hbU := Lib.hid (show Below B w U by rw [eU]; exact (hbV.out.trans (hO.below (by omega) (by rw [hsV.out]; omega))).setCell (p := ⟨B, 0, none⟩) (Nat.le_refl B) _)
    have hGU := Lib.hid (show Gr (B + 4) (.slice a9 gl c9) G U by rw [eU]; exact hG.kept fun g hg _ _ => Below.heap_setCell v2 ⟨B, 0, none⟩ (.slice a9 gl c9) g (by show g ≠ B; omega))
    have hRU := Lib.hid (show Rd X (B + 3) R U by rw [eU]; exact hR2.kept (by simp) fun g hg _ => Below.heap_setCell v2 ⟨B, 0, none⟩ (.slice a9 gl c9) g (by have := HXB.out; show g ≠ B; omega))
    obtain ⟨z1, z2, z3, k, z4, z5, z6⟩ := rdB_sub hS
    have hZ := Lib.hid hZ
    have hS := Lib.hid hS
    have DK := Lib.hid z6
    have BYR := Lib.hid (show BYL R from fun z hz => BY.out z (by rw [z6] at hz; exact List.mem_of_mem_drop hz))
    have RL2 := Lib.hid (show R.length ≤ n by rw [z6, List.length_drop, EN.out]; omega)
    clear hO hG hR2 z1 z2 z3 z4 z5 z6 TR
    obtain ⟨m, em⟩ : ∃ m, n - R.length = m := ⟨_, rfl⟩
    have EM := Lib.hid em
    clear em
    have TS := tsum a cap (L.take m) U (row_take (HR.out U hbU.out) m) (by rw [List.length_take]; have := HL.out; have := EN.out; unfold maxLen; omega) (BYL.by8 fun z hz => BY.out z (List.mem_of_mem_take hz))
    rw [show (L.take m).length = m by rw [List.length_take, EN.out]; have := EM.out; omega] at TS
    have TS := Lib.hid TS
    obtain ⟨S, eS⟩ : ∃ S, crI (L.take m) = S := ⟨_, rfl⟩
    rw [eS] at TS
    have ES := Lib.hid eS
    have SB := Lib.hid (show S < 65536 by rw [← eS]; exact crI_lt _)
    replace TS := Lib.hid TS.out
    have RU := hRU.out
    obtain ⟨a3, c3, r3, -, -, -, -, -⟩ := RU
    have s1 : IntKind.i64.wrap ((n : Int) - (R.length : Int)) = (m : Int) := by have := EM.out; have := RL2.out; have := HL.out; rw [IntKind.wrap_i64]; omega
    have m0 : (0 : Int) ≤ (m : Int) := by omega
    have mc : (m : Int) ≤ (cap : Int) := by have := EM.out; have := HC.out; omega
    generalize hrl : R.length = rl at *
    replace hrl := Lib.hid hrl
    clear eS
    go_upto_region 4 with (fail)
    rw [← eU]
    clear k0 f0 eU
    go_wp2_with fail
    refine TS.out.mono ?_
    rintro e u2 ⟨rfl, rfl⟩
    clear TS r3
    cases R with
    | nil =>
      have T1 := Lib.hid (tone_no (B + 3) U hRU.out)
      have hk := Lib.hid (show K = (3, [], []) by rw [← EK.out]; unfold rdK; rw [hS.out])
      go_wp2_with fail
      refine T1.out.mono ?_
      rintro e u2 ⟨rfl, rfl⟩
      refine leaves_cons (f := 58) (args := #[.pointer (some ⟨B, 0, none⟩), .pointer (some ⟨B + 1, 0, none⟩), .pointer (some ⟨B + 2, 0, none⟩)]) (by simp) (by simp [go_sem]) ?_
      refine (bk_catch hxU.out _ _ []).mono ?_
      rintro e u' w'' ⟨rfl, rfl, rfl⟩
      obtain ⟨c0, c1, c2⟩ := hxU.out.three (.slice none 0 0) (.slice none 0 0) (.int .i64 3)
      have hW := Lib.hid (three_below hbU.out (Nat.le_refl B) (.slice none 0 0) (.slice none 0 0) (.int .i64 3))
      generalize ((U.setCell ⟨B, 0, none⟩ (.slice none 0 0)).setCell ⟨B + 1, 0, none⟩ (.slice none 0 0)).setCell ⟨B + 2, 0, none⟩ (.int .i64 3) = W at *
      simp [Leaves, settle, results, Try.results51, go_sem, c0, c1, c2]
      rw [EB.out, hk.out]
      exact ⟨hW.out, _, _, _, ⟨rfl, ⟨rfl, rfl, rfl⟩, rfl⟩, [], Gr.nil _ _, rfl, .inl rfl, by simp, by simp⟩
    | cons h R1 =>
      have T1 := Lib.hid (tone_ok (B + 3) h R1 U hRU.out)
      go_wp2_with fail
      refine T1.out.mono ?_
      rintro e u3 ⟨rfl, hR3, hO3⟩
      have hx3 := Lib.hid (hxU.out.bsd (Beside.of_only hO3))
      have hb3 := Lib.hid (show Below B w u3 from hbU.out.trans (hO3.below (by omega)))
      cases R1 with
      | nil =>
        have T2 := Lib.hid (tone_no (B + 3) u3 hR3)
        have hk := Lib.hid (show K = (3, [], []) by rw [← EK.out]; unfold rdK; rw [hS.out])
        go_wp2_with fail
        refine T2.out.mono ?_
        rintro e u2 ⟨rfl, rfl⟩
        refine leaves_cons (f := 58) (args := #[.pointer (some ⟨B, 0, none⟩), .pointer (some ⟨B + 1, 0, none⟩), .pointer (some ⟨B + 2, 0, none⟩)]) (by simp) (by simp [go_sem]) ?_
        refine (bk_catch hx3.out _ _ []).mono ?_
        rintro e u' w'' ⟨rfl, rfl, rfl⟩
        obtain ⟨c0, c1, c2⟩ := hx3.out.three (.slice none 0 0) (.slice none 0 0) (.int .i64 3)
        have hW := Lib.hid (three_below hb3.out (Nat.le_refl B) (.slice none 0 0) (.slice none 0 0) (.int .i64 3))
        generalize ((u3.setCell ⟨B, 0, none⟩ (.slice none 0 0)).setCell ⟨B + 1, 0, none⟩ (.slice none 0 0)).setCell ⟨B + 2, 0, none⟩ (.int .i64 3) = W at *
        simp [Leaves, settle, results, Try.results51, go_sem, c0, c1, c2]
        rw [EB.out, hk.out]
        exact ⟨hW.out, _, _, _, ⟨rfl, ⟨rfl, rfl, rfl⟩, rfl⟩, [], Gr.nil _ _, rfl, .inl rfl, by simp, by simp⟩
      | cons l R2 =>
        have T2 := Lib.hid (tone_ok (B + 3) l R2 u3 hR3)
        go_wp2_with fail
        refine T2.out.mono ?_
        rintro e u4 ⟨rfl, hR4, hO4⟩
        have hx4 := Lib.hid (hx3.out.bsd (Beside.of_only hO4))
        have hb4 := Lib.hid (show Below B w u4 from hb3.out.trans (hO4.below (by omega)))
        have hG4 := Lib.hid (hGU.out.kept fun g hg _ _ => (hO4.block g (by omega)).trans (hO3.block g (by omega)))
        have bh := BYR.out h (by simp)
        have bl := BYR.out l (by simp)
        have o1 := or16 bh bl
        rw [show IntKind.u16.wrap (h * 256) = h * 256 by rw [IntKind.wrap_u16]; omega] at o1
        have w1 : IntKind.u16.wrap h = h := by rw [IntKind.wrap_u16]; omega
        have w2 : IntKind.u16.wrap l = l := by rw [IntKind.wrap_u16]; omega
        have hR4 := Lib.hid hR4
        clear hO3 hO4 hR3 T1 T2
        have RK := Lib.hid (show K = if h * 256 + l = (S : Int) then (0, Z, R2) else (4, [], []) by rw [← EK.out]; unfold rdK; rw [hS.out]; show (if h * 256 + l = (crI (L.take (L.length - (R2.length + 2))) : Int) then _ else _) = _; rw [show L.length - (R2.length + 2) = m by have := EM.out; have e := hrl.out; have := EN.out; simp at e; omega, ES.out])
        by_cases q : h * 256 + l = (S : Int)
        rotate_left
        · have hk := Lib.hid (show K = (4, [], []) by rw [RK.out, if_neg q])
          have q1 : (h * 256 + l == (S : Int)) = false := beq_eq_false_iff_ne.2 q
          have q2 : (h * 256 + l != (S : Int)) = true := by simp [q]
          obtain ⟨⟨k0, k1, k2⟩, ⟨f0, f1, f2⟩, -⟩ := hx4.out
          clear hR4 RK q
          go_wp2
          obtain ⟨c0, c1, c2⟩ := hx4.out.three (.slice none 0 0) (.slice none 0 0) (.int .i64 4)
          have hW := Lib.hid (three_below hb4.out (Nat.le_refl B) (.slice none 0 0) (.slice none 0 0) (.int .i64 4))
          generalize ((u4.setCell ⟨B, 0, none⟩ (.slice none 0 0)).setCell ⟨B + 1, 0, none⟩ (.slice none 0 0)).setCell ⟨B + 2, 0, none⟩ (.int .i64 4) = W at *
          refine leaves_cons (f := 58) (args := #[.pointer (some ⟨B, 0, none⟩), .pointer (some ⟨B + 1, 0, none⟩), .pointer (some ⟨B + 2, 0, none⟩)]) (by simp) (by simp [go_sem]) ?_
          refine (bk_idle ⟨B, 0, none⟩ ⟨B + 1, 0, none⟩ ⟨B + 2, 0, none⟩ W).mono ?_
          rintro e u' w'' ⟨rfl, rfl, rfl⟩
          simp [Leaves, settle, results, Try.results51, go_sem, c0, c1, c2]
          rw [EB.out, hk.out]
          exact ⟨hW.out, _, _, _, ⟨rfl, ⟨rfl, rfl, rfl⟩, rfl⟩, [], Gr.nil _ _, rfl, .inl rfl, by simp, by simp⟩
        · have hk := Lib.hid (show K = (0, Z, R2) by rw [RK.out, if_pos q])
          have q1 : (h * 256 + l == (S : Int)) = true := beq_iff_eq.2 q
          have q2 : (h * 256 + l != (S : Int)) = false := by simp [q]
          have DR := (Below.refl u4.heap.size u4).drew
          have hxD := Lib.hid (hx4.out.bsd (Beside.of_below DR))
          have hbD := Lib.hid (show Below B w u4.drew from hb4.out.drew)
          have hGD := Lib.hid (hG4.out.bel DR)
          have hRD := hR4.out
          obtain ⟨a5, c5, r5, r6, r7, r8⟩ := hRD.row3 HXB.out
          have r6 := Lib.hid r6
          have r7 := Lib.hid r7
          have r8 := Lib.hid r8
          obtain ⟨rl2, erl2⟩ : ∃ z, R2.length = z := ⟨_, rfl⟩
          rw [erl2] at r5 r6 r8
          have ERL := Lib.hid erl2
          obtain ⟨⟨j0, j1, j2⟩, ⟨g0, g1, g2⟩, -⟩ := hx4.out
          obtain ⟨⟨k0, k1, k2⟩, ⟨f0, f1, f2⟩, -⟩ := hxD.out
          clear hR4 RK q hRD erl2 DR
          have HS1 := Lib.hid (show (u4.setCell ⟨B, 0, none⟩ (.slice a9 gl c9)).cell? ⟨B, 0, none⟩ = some (.slice a9 gl c9) from World.cell?_setCell_same _ _ _ j0)
          have HS2 := Lib.hid (show (u4.setCell ⟨B, 0, none⟩ (.slice a9 gl c9)).cell? ⟨B + 3, 0, none⟩ = some (.slice a5 rl2 c5) from (World.cell?_of_block (a := ⟨B + 3, 0, none⟩) (Below.heap_setCell u4 ⟨B, 0, none⟩ _ (B + 3) (by show B + 3 ≠ B; omega))).trans r5)
          go_upto_region 8 with (fail)
          refine wp_region_noPanic ?_
          refine region_moves (fun u => u.cell? ⟨B, 0, none⟩ = some (.slice a9 gl c9) ∧ u.cell? ⟨B + 3, 0, none⟩ = some (.slice a5 rl2 c5)) [(4, [(2, 4), (3, 4), (0, 4), (1, 4)]), (5, [(4, 5), (0, 5), (1, 5), (2, 5), (3, 5)])] [(.take, 0), (.free, 1), (.take, 2), (.step, 3), (.late, 4), (.late, 5)] _ (by kernel_rfl) (by kernel_rfl) (by kernel_rfl) (by kernel_rfl) (by decide) rfl (fun _ _ _ _ _ h => h) ?_
          simp only [List.filterMap_cons, List.filterMap_nil, List.getElem?_toArray, List.getElem?_cons_zero, List.getElem?_cons_succ, Option.map_some]
          iterate 1
            first
              | (refine mv_take ?_ (Or.inl ⟨by rfl, ?_⟩) (⟨k0, r5⟩) ?_
                 rotate_left 1
                 · intro u hu
                   (try dsimp only at hu)
                   go_simp
                   try with_reducible rfl
                 simp only [Act.put, List.setIfInBounds_toArray, List.set_cons_zero, List.set_cons_succ])
              | (refine mv_take _ (Or.inr ⟨by rfl, rfl⟩) (⟨k0, r5⟩) ?_
                 simp only [Act.put, List.setIfInBounds_toArray, List.set_cons_zero, List.set_cons_succ])
          iterate 1
            first
              | (refine mv_free ?_ (Or.inl ⟨by rfl, ?_⟩) (⟨k0, r5⟩) ?_
                 rotate_left 1
                 · intro u
                   go_simp
                   try simp only [d1]
                   try simp only [d2]
                   try simp only [d3]
                   try simp only [d1]
                   try simp only [d2]
                   try simp only [d3]
                   try with_reducible rfl
                 simp only [Act.put, List.setIfInBounds_toArray, List.set_cons_zero, List.set_cons_succ])
              | (refine mv_free _ (Or.inr ⟨by rfl, rfl⟩) (⟨k0, r5⟩) ?_
                 simp only [Act.put, List.setIfInBounds_toArray, List.set_cons_zero, List.set_cons_succ])
          iterate 1
            first
              | (refine mv_take ?_ (Or.inl ⟨by rfl, ?_⟩) (⟨k0, r5⟩) ?_
                 rotate_left 1
                 · intro u hu
                   (try dsimp only at hu)
                   go_simp
                   try with_reducible rfl
                 simp only [Act.put, List.setIfInBounds_toArray, List.set_cons_zero, List.set_cons_succ])
              | (refine mv_take _ (Or.inr ⟨by rfl, rfl⟩) (⟨k0, r5⟩) ?_
                 simp only [Act.put, List.setIfInBounds_toArray, List.set_cons_zero, List.set_cons_succ])
          refine mv_step (fun K hK => ?_)
          go_simp
          refine hK.out _ _ _ (fun u hu => hu) (⟨HS1.out, HS2.out⟩) ?_
          clear hK K
          refine mv_late (fun K hK => ?_)
          go_simp
          refine hK.out (fun u => True) _ _ ?_
          clear hK K
          refine mv_late (fun K hK => ?_)
          go_simp
          refine hK.out (fun _ => True) _ _ ?_
          clear hK K
          refine mv_done ?_
          refine NoPanic.normal ?_
          obtain ⟨c0, c1, c2⟩ := (show (((u4.setCell ⟨B, 0, none⟩ (.slice a9 gl c9)).setCell ⟨B + 1, 0, none⟩ (.slice a5 rl2 c5)).setCell ⟨B + 2, 0, none⟩ (.int .i64 0)).drew.cell? ⟨B, 0, none⟩ = some (.slice a9 gl c9) ∧ (((u4.setCell ⟨B, 0, none⟩ (.slice a9 gl c9)).setCell ⟨B + 1, 0, none⟩ (.slice a5 rl2 c5)).setCell ⟨B + 2, 0, none⟩ (.int .i64 0)).drew.cell? ⟨B + 1, 0, none⟩ = some (.slice a5 rl2 c5) ∧ (((u4.setCell ⟨B, 0, none⟩ (.slice a9 gl c9)).setCell ⟨B + 1, 0, none⟩ (.slice a5 rl2 c5)).setCell ⟨B + 2, 0, none⟩ (.int .i64 0)).drew.cell? ⟨B + 2, 0, none⟩ = some (.int .i64 0) from hx4.out.three (.slice a9 gl c9) (.slice a5 rl2 c5) (.int .i64 0))
          have hW := Lib.hid (three_below hb4.out (Nat.le_refl B) (.slice a9 gl c9) (.slice a5 rl2 c5) (.int .i64 0)).drew
          have hGW := Lib.hid ((hG4.out.kept (v' := (((u4.setCell ⟨B, 0, none⟩ (.slice a9 gl c9)).setCell ⟨B + 1, 0, none⟩ (.slice a5 rl2 c5)).setCell ⟨B + 2, 0, none⟩ (.int .i64 0)).drew) fun g hg _ _ => three_heap u4 _ _ _ (.inl (by omega))).mono (show B ≤ B + 4 by omega))
          have rW := Lib.hid ((r7.out (.slice a9 gl c9) (.slice a5 rl2 c5) (.int .i64 0)).below (Below.refl _ _).drew)
          generalize (((u4.setCell ⟨B, 0, none⟩ (.slice a9 gl c9)).setCell ⟨B + 1, 0, none⟩ (.slice a5 rl2 c5)).setCell ⟨B + 2, 0, none⟩ (.int .i64 0)).drew = W at *
          clear k0 k1 k2 f0 f1 f2 j0 j1 j2 g0 g1 g2 r5
          go_wp2
          refine leaves_cons (f := 58) (args := #[.pointer (some ⟨B, 0, none⟩), .pointer (some ⟨B + 1, 0, none⟩), .pointer (some ⟨B + 2, 0, none⟩)]) (by simp) (by simp [go_sem]) ?_
          refine (bk_idle ⟨B, 0, none⟩ ⟨B + 1, 0, none⟩ ⟨B + 2, 0, none⟩ W).mono ?_
          rintro e u' w'' ⟨rfl, rfl, rfl⟩
          simp [Leaves, settle, results, Try.results51, go_sem, c0, c1, c2]
          rw [EB.out, hk.out]
          exact ⟨hW.out, _, _, _, ⟨rfl, ⟨rfl, ERL.out.symm, rfl⟩, rfl⟩, G, hGW.out, hZ.out, rW.out, (by rw [ERL.out]; exact r6.out), (by rw [ERL.out]; exact r8.out)⟩
end Go.Proofs.Ytpcbnoefgknihaa
