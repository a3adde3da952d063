/- Package stream: the feeder, its small methods; walked. -/
import Derived.Test.YtpcbnoefgknihaaStm3
import Derived.Test.YtpcbnoefgknihaaAtom
import Derived.Test.YtpcbnoefgknihaaNew
import Derived.Test.YtpcbnoefgknihaaReg
namespace Go.Proofs.Ytpcbnoefgknihaa
open Go.ChangeShapes Go.WideShapes Go.ChangeAt Go.RowKit
set_option linter.unusedVariables false
set_option linter.unusedSimpArgs false
noncomputable def stP (P : List Int) : Int := if P = [] then 0 else if P.length ≤ 140 then 1 else 2
def hdP (P : List Int) : List Int := if P.length ≤ 140 then P else []
/-- Nothing of the old has changed but block b and the row x. -/
structure FdK (b : Nat) (x : Value) (w w' : World) : Prop where
  os : w'.os = w.os
  tape : w'.tape = w.tape
  output : w'.output = w.output
  size : w.heap.size ≤ w'.heap.size
  block : ∀ k, k < w.heap.size → k ≠ b → ogB x ≠ some k → w'.heap[k]? = w.heap[k]?
theorem FdK.refl (b : Nat) (x : Value) (w : World) : FdK b x w w := ⟨rfl, rfl, rfl, Nat.le_refl _, fun _ _ _ _ => rfl⟩
theorem FdK.of_below {b : Nat} {x : Value} {w w' : World} (h : Below w.heap.size w w') : FdK b x w w' := ⟨h.os, h.tape, h.output, h.size, fun k hk _ _ => h.block k hk⟩
theorem FdK.of_ogk {b : Nat} {x : Value} {w w' : World} (h : OgK x w w') : FdK b x w w' := ⟨h.os, h.tape, h.output, h.size, fun k hk _ hx => h.block k hk hx⟩
/-- Where the next row lies: nowhere, there, or behind. -/
def FdN (x x' : Value) (w : World) : Prop := ogB x' = none ∨ OgN x x' w
theorem FdN.refl (x : Value) (w : World) : FdN x x w := .inr (OgN.refl x w)
theorem FdN.trans {x y z : Value} {w w' : World} (h : FdN x y w) (g : FdN y z w') (k : w.heap.size ≤ w'.heap.size) : FdN x z w := by
  rcases g with g | g
  · exact .inl g
  · rcases h with h | h
    · rcases g with g | ⟨b, g, hb⟩
      · exact .inl (g.trans h)
      · exact .inr (.inr ⟨b, g, Nat.le_trans k hb⟩)
    · exact .inr (h.trans g k)
theorem FdN.of {x x' : Value} {w : World} (h : FdN x x' w) {g : Nat} (hg : ogB x' = some g) : ogB x = some g ∨ w.heap.size ≤ g := by
  rcases h with h | h | ⟨b, h, hb⟩
  · rw [h] at hg; cases hg
  · exact .inl (by rw [← h, hg])
  · rw [h] at hg; injection hg with hg; subst hg; exact .inr hb
theorem FdK.trans {b : Nat} {x y : Value} {u v w : World} (h : FdK b x u v) (n : FdN x y u) (k : FdK b y v w) : FdK b x u w :=
  ⟨k.os.trans h.os, k.tape.trans h.tape, k.output.trans h.output, Nat.le_trans h.size k.size, fun j hj hb hne => (k.block j (Nat.lt_of_lt_of_le hj h.size) hb (fun e => by
    rcases n.of e with q | q
    · exact hne q
    · omega)).trans (h.block j hj hb hne)⟩
theorem FdK.set {b : Nat} {x : Value} {u v : World} (h : FdK b x u v) (i : Nat) (y : Value) : FdK b x u (v.setCell ⟨b, i, none⟩ y) :=
  ⟨h.os, h.tape, h.output, by simpa using h.size, fun k hk hb hx => (Below.heap_setCell v ⟨b, i, none⟩ y k hb).trans (h.block k hk hb hx)⟩
theorem FdK.bel {b B : Nat} {x : Value} {w w' : World} (k : FdK b x w w') (hb : B ≤ b) (hx : ∀ g, ogB x = some g → B ≤ g) (hB : B ≤ w.heap.size) : Below B w w' :=
  ⟨k.os, k.tape, k.output, k.size, fun j hj => k.block j (by omega) (by omega) (fun e => by have := hx _ e; omega)⟩
theorem RowIs.fdk {k : IntKind} {b : Nat} {w w' : World} {a : Option Addr} {l : List Int} {x : Value} (h : RowIs k w a l) (hk : FdK b x w w') (h1 : ∀ c, a = some c → c.block ≠ b) (h2 : ∀ c, a = some c → ogB x ≠ some c.block) : RowIs k w' a l := by
  rcases h with rfl | ⟨c, off, rfl, hlt, hc⟩
  · exact .inl rfl
  · exact .inr ⟨c, off, rfl, Nat.lt_of_lt_of_le hlt hk.size, fun i hi => (World.cell?_of_block (a := ⟨c, off + i, none⟩) (hk.block c hlt (h1 _ rfl) (h2 _ rfl))).trans (hc i hi)⟩
theorem Og.fdk {e : TypeId} {B b : Nat} {x y : Value} {V : List Value} {w w' : World} (h : Og e B y V w) (k : FdK b x w w') (hb : ∀ g, ogB y = some g → g ≠ b) (hne : ∀ g, ogB y = some g → ogB x ≠ some g) : Og e B y V w' := h.kept fun g hg hl => k.block g hl (hb g hg) (hne g hg)
/-- A feeder: P waits, f were found, r refused; x is its row. -/
structure Fd (B b : Nat) (P : List Int) (f r : Int) (x : Value) (v : World) : Prop where
  o : Held b [.int .i64 (stP P), x, .int .i64 f, .int .i64 r] v
  h : Og 5 B x (nvals .u8 (hdP P)) v
  lt : b < B
  by' : BYL P
theorem Fd.keep {B b : Nat} {P : List Int} {f r : Int} {x : Value} {v v' : World} (h : Fd B b P f r x v) (k : Below v.heap.size v v') : Fd B b P f r x v' := ⟨h.o.bel k, h.h.bel k, h.lt, h.by'⟩
theorem Fd.ogk {B b : Nat} {P : List Int} {f r : Int} {x y : Value} {v v' : World} (h : Fd B b P f r x v) (k : OgK y v v') (hb : ogB y ≠ some b) (hy : ∀ g, ogB x = some g → ogB y ≠ some g) : Fd B b P f r x v' :=
  ⟨⟨Nat.lt_of_lt_of_le h.o.lt k.size, fun i u hu => (World.cell?_of_block (a := ⟨b, i, none⟩) (k.block b h.o.lt hb)).trans (h.o.c i u hu), fun i hi => (World.frozen?_of_block (a := ⟨b, i, none⟩) (k.block b h.o.lt hb)).trans (h.o.f i hi)⟩, h.h.kept (fun g hg hl => k.block g hl (hy g hg)), h.lt, h.by'⟩
theorem stP_nil {P : List Int} (h : P = []) : stP P = 0 := if_pos h
theorem stP_mid {P : List Int} (h : P ≠ []) (g : P.length ≤ 140) : stP P = 1 := by unfold stP; rw [if_neg h, if_pos g]
theorem stP_big {P : List Int} (g : ¬ P.length ≤ 140) : stP P = 2 := by unfold stP; rw [if_neg (by intro h; subst h; simp at g), if_neg g]
set_option maxRecDepth 100000 in
set_option maxHeartbeats 4000000 in
theorem shold {B b : Nat} {P : List Int} {f r : Int} {x : Value} (c : Int) (w : World) (h : Fd B b P f r x w) (hB : B ≤ w.heap.size) (hc : 0 ≤ c ∧ c < 256) : Calls Try.prog 53 #[.pointer (some ⟨b, 0, none⟩), .int .u8 c] w fun e w' => e = .returned (.tuple #[]) ∧ ∃ x', Fd B b (P ++ [c]) f r x' w' ∧ FdK b x w w' ∧ FdN x x' w := by
  have hby : BYL (P ++ [c]) := h.by'.app (fun d hd => by simp at hd; omega)
  have hne : P ++ [c] ≠ [] := by simp
  have hlen : (P ++ [c]).length = P.length + 1 := by simp
  by_cases hbig : ¬ P.length ≤ 140
  · have e1 : stP (P ++ [c]) = 2 := stP_big (by omega)
    have e0 : stP P = 2 := stP_big hbig
    have eh : hdP (P ++ [c]) = hdP P := by unfold hdP; rw [if_neg hbig, if_neg (by omega)]
    have F := Lib.hid (show Fd B b (P ++ [c]) f r x w from ⟨by rw [e1, ← e0]; exact h.o, by rw [eh]; exact h.h, h.lt, hby⟩)
    have hh := h.o
    rw [e0] at hh
    obtain ⟨c0, f0⟩ := hh.one 0 rfl
    obtain ⟨c1, f1⟩ := hh.one 1 rfl
    obtain ⟨c2, f2⟩ := hh.one 2 rfl
    obtain ⟨c3, f3⟩ := hh.one 3 rfl
    clear hh h hby hne hlen hbig e1 e0 eh
    go_enter Try.func53, Try.ntmps53
    go_wp2
    go_end0
    exact ⟨rfl, x, F.out, FdK.refl _ _ _, FdN.refl _ _⟩
  · have hle : P.length ≤ 140 := by omega
    have hd : hdP P = P := if_pos hle
    have hO : Og 5 B x (nvals .u8 P) w := by have := h.h; rwa [hd] at this
    obtain ⟨ao, cp, ex, hc1, hr1, -, hs1⟩ := hO.rowIs
    obtain ⟨n, en⟩ : ∃ n, P.length = n := ⟨_, rfl⟩
    obtain ⟨s, es⟩ : ∃ s, stP P = s := ⟨_, rfl⟩
    have s2 : (s == 2) = false := by
      rw [← es]
      by_cases q : P = []
      · rw [stP_nil q]; rfl
      · rw [stP_mid q hle]; rfl
    have xb : ogB x ≠ some b := fun q => by have := (hO.lt q).1; have := h.lt; omega
    have hh := h.o
    rw [es] at hh
    have HH := Lib.hid hh
    have HBy := Lib.hid hby
    have HLt := Lib.hid h.lt
    have HB := Lib.hid hB
    have EN := Lib.hid en
    have HBv := HB
    rw [en] at ex hlen
    replace hO := Lib.hid hO
    have xb' := Lib.hid xb
    clear hs1 hr1 hc1
    by_cases hm : n = 140
    · have q1 : ((n : Int) == 140) = true := by simp [hm]
      have e1 : stP (P ++ [c]) = 2 := stP_big (by omega)
      have eh : hdP (P ++ [c]) = [] := by unfold hdP; rw [if_neg (by omega)]
      have F := Lib.hid (show Fd B b (P ++ [c]) f r (.slice none 0 0) ((w.setCell ⟨b, 0, none⟩ (.int .i64 2)).setCell ⟨b, 1, none⟩ (.slice none 0 0)) from ⟨by rw [e1]; exact (hh.set 0 (.int .i64 2) (by simp)).set 1 (.slice none 0 0) (by simp), by rw [eh]; exact Og.nil _ _ _, h.lt, hby⟩)
      have KK := Lib.hid (show FdK b x w ((w.setCell ⟨b, 0, none⟩ (.int .i64 2)).setCell ⟨b, 1, none⟩ (.slice none 0 0)) from ((FdK.refl b x w).set 0 _).set 1 _)
      subst ex
      obtain ⟨c0, f0⟩ := hh.one 0 rfl
      obtain ⟨c1, f1⟩ := hh.one 1 rfl
      obtain ⟨c2, f2⟩ := hh.one 2 rfl
      obtain ⟨c3, f3⟩ := hh.one 3 rfl
      have q2 : n = 140 := hm
      clear hh h hby hne hlen hbig e1 eh es hd en hle xb
      subst q2
      clear q1
      go_enter Try.func53, Try.ntmps53
      go_wp2
      go_end0
      exact ⟨rfl, .slice none 0 0, F.out, KK.out, .inl rfl⟩
    · have q1 : ((n : Int) == 140) = false := beq_eq_false_iff_ne.2 (by omega)
      have e1 : stP (P ++ [c]) = 1 := stP_mid hne (by omega)
      have eh : hdP (P ++ [c]) = P ++ [c] := by unfold hdP; rw [if_pos (by omega)]
      have LEN := Lib.hid (show (nvals .u8 P).length + 1 ≤ 1000000 by rw [nvals_len]; omega)
      have hA := Lib.hid ((Below.refl w.heap.size w).alloc (Nat.le_refl _) (.cells #[.int .u8 c] 5))
      have hO3 := Lib.hid (hO.out.bel hA.out)
      have hz3 := Lib.hid (show B ≤ (w.alloc (.cells #[.int .u8 c] 5)).heap.size from by have := HBv.out; simp; omega)
      have SR := Lib.hid (src_new 22 5 5 Try.underlying22 w [.int .u8 c] (fun u hu => by simp at hu; subst hu; rfl))
      replace e1 := Lib.hid e1
      replace eh := Lib.hid eh
      have n140 : n ≠ 140 := hm
      subst ex
      have hh3 := hh.bel hA.out
      obtain ⟨c0, f0⟩ := hh3.one 0 rfl
      obtain ⟨c1, f1⟩ := hh3.one 1 rfl
      obtain ⟨c2, f2⟩ := hh3.one 2 rfl
      obtain ⟨c3, f3⟩ := hh3.one 3 rfl
      have hh4 := hh
      obtain ⟨d0, g0⟩ := hh4.one 0 rfl
      obtain ⟨d1, g1⟩ := hh4.one 1 rfl
      obtain ⟨d2, g2⟩ := hh4.one 2 rfl
      obtain ⟨d3, g3⟩ := hh4.one 3 rfl
      clear hh4
      have H3 := Lib.hid hh3
      have HK5 := Lib.hid (fun w5 (k : OgK (.slice ao n cp) (w.alloc (.cells #[.int .u8 c] 5)) w5) => show Held b [.int .i64 s, .slice ao n cp, .int .i64 f, .int .i64 r] w5 from ⟨Nat.lt_of_lt_of_le H3.out.lt k.size, fun i u hu => (World.cell?_of_block (a := ⟨b, i, none⟩) (k.block b H3.out.lt xb'.out)).trans (H3.out.c i u hu), fun i hi => (World.frozen?_of_block (a := ⟨b, i, none⟩) (k.block b H3.out.lt xb'.out)).trans (H3.out.f i hi)⟩)
      clear hh3
      have hP2 : ¬ (n : Int) = 140 := by omega
      clear hh h hby hne hlen hbig hd en hle xb hm
      go_enter Try.func53, Try.ntmps53
      go_wp2_with (first | (at_builtin; refine wpList_append_og _ rfl (.tmp 9) (.tmp 11) 22 22 rfl 5 (.int .u8 0) 1 Try.underlying22 (by kernel_rfl) rfl B _ _ rfl hO3.out hz3.out _ 1 _ rfl SR.out (by have := LEN.out; unfold maxLen; omega) (by have := LEN.out; omega) ?_; intro x2 w5 hO5 hK5 hN5; have hO6 : Og 5 B x2 (nvals .u8 (P ++ [c])) w5 := (by rw [nvals_app]; exact hO5); obtain ⟨a9, c9, rfl, -, -, -, -⟩ := hO6.rowIs; have hH9 := HK5.out w5 hK5; have g50 := hH9.f 0 (by simp); have g51 := hH9.f 1 (by simp); have k50 := hH9.c 0 _ rfl; have k51 := hH9.c 1 _ rfl))
      have F := Lib.hid (show Fd B b (P ++ [c]) f r (.slice a9 (P ++ [c]).length c9) ((w5.setCell ⟨b, 0, none⟩ (.int .i64 1)).setCell ⟨b, 1, none⟩ (.slice a9 (P ++ [c]).length c9)) from ⟨by rw [e1.out]; exact (hH9.set 0 (.int .i64 1) (by simp)).set 1 _ (by simp), by rw [eh.out]; exact hO6.kept (fun g hg _ => (Below.heap_setCell _ ⟨b, 1, none⟩ _ g (by have := (hO6.lt hg).1; have := HLt.out; show g ≠ b; omega)).trans (Below.heap_setCell _ ⟨b, 0, none⟩ _ g (by have := (hO6.lt hg).1; have := HLt.out; show g ≠ b; omega))), HLt.out, HBy.out⟩)
      have KK := Lib.hid (show FdK b (.slice ao n cp) w ((w5.setCell ⟨b, 0, none⟩ (.int .i64 1)).setCell ⟨b, 1, none⟩ (.slice a9 (P ++ [c]).length c9)) from ((FdK.of_ogk (OgK.bl hA.out hK5)).set 0 _).set 1 _)
      have NN := Lib.hid (show FdN (.slice ao n cp) (.slice a9 (P ++ [c]).length c9) w from .inr (hN5.bl hA.out.size))
      clear hO5 hK5 hN5 hO6 hH9 hA hO3 hz3 SR g50 g51 k50 k51 hO
      go_end0
      have e9 : (P ++ [c]).length = P.length + 1 := by simp
      have F2 := F.out
      have K2 := KK.out
      have N2 := NN.out
      rw [e9] at F2 K2 N2
      exact ⟨rfl, _, F2, K2, N2⟩
set_option maxRecDepth 100000 in
set_option maxHeartbeats 4000000 in
theorem sreset {B b : Nat} {P : List Int} {f r : Int} {x : Value} (w : World) (h : Fd B b P f r x w) : Calls Try.prog 41 #[.pointer (some ⟨b, 0, none⟩)] w fun e w' => e = .returned (.tuple #[]) ∧ Fd B b [] f r (.slice none 0 0) w' ∧ FdK b x w w' := by
  have F := Lib.hid (show Fd B b [] f r (.slice none 0 0) ((w.setCell ⟨b, 0, none⟩ (.int .i64 0)).setCell ⟨b, 1, none⟩ (.slice none 0 0)) from ⟨by rw [stP_nil rfl]; exact (h.o.set 0 (.int .i64 0) (by simp)).set 1 (.slice none 0 0) (by simp), Og.nil _ _ _, h.lt, fun b hb => by cases hb⟩)
  have KK := Lib.hid (show FdK b x w ((w.setCell ⟨b, 0, none⟩ (.int .i64 0)).setCell ⟨b, 1, none⟩ (.slice none 0 0)) from ((FdK.refl b x w).set 0 _).set 1 _)
  have hh := h.o
  obtain ⟨c0, g0⟩ := hh.one 0 rfl
  obtain ⟨c1, g1⟩ := hh.one 1 rfl
  obtain ⟨c2, g2⟩ := hh.one 2 rfl
  obtain ⟨c3, g3⟩ := hh.one 3 rfl
  clear hh h
  go_enter Try.func41, Try.ntmps41
  go_wp2
  go_end0
  exact ⟨rfl, F.out, KK.out⟩
set_option maxRecDepth 100000 in
set_option maxHeartbeats 4000000 in
theorem sreset_nil (w : World) : Calls Try.prog 41 #[.pointer none] w fun e w' => e = .returned (.tuple #[]) ∧ w = w' := by
  go_enter Try.func41, Try.ntmps41
  go_wp2
  go_end0
  exact ⟨rfl, rfl⟩
set_option maxRecDepth 100000 in
set_option maxHeartbeats 4000000 in
theorem spend_nil (w : World) : Calls Try.prog 40 #[.pointer none] w fun e w' => e = .returned (.int .i64 0) ∧ w = w' := by
  go_enter Try.func40, Try.ntmps40
  go_wp2
  go_ret
  exact ⟨rfl, rfl⟩
def pdN (P : List Int) : Int := if P.length ≤ 141 then (P.length : Int) else 141
set_option maxRecDepth 100000 in
set_option maxHeartbeats 4000000 in
theorem spend {B b : Nat} {P : List Int} {f r : Int} {x : Value} (w : World) (h : Fd B b P f r x w) : Calls Try.prog 40 #[.pointer (some ⟨b, 0, none⟩)] w fun e w' => e = .returned (.int .i64 (pdN P)) ∧ w = w' := by
  obtain ⟨D, eD⟩ : ∃ D, pdN P = D := ⟨_, rfl⟩
  rw [eD]
  have ED := Lib.hid eD
  by_cases hbig : P.length ≤ 140
  · obtain ⟨s, es⟩ : ∃ s, stP P = s := ⟨_, rfl⟩
    have s2 : (s == 2) = false := by
      rw [← es]
      by_cases q : P = []
      · rw [stP_nil q]; rfl
      · rw [stP_mid q hbig]; rfl
    have hd : hdP P = P := if_pos hbig
    have hO := h.h
    rw [hd] at hO
    obtain ⟨ao, cp, ex, -, -, -, -⟩ := hO.rowIs
    obtain rfl : D = (P.length : Int) := by rw [← eD]; unfold pdN; rw [if_pos (by omega)]
    have hh := h.o
    rw [es] at hh
    generalize P.length = n at *
    have hn : (n : Int) ≤ 140 := by omega
    subst ex
    obtain ⟨c0, g0⟩ := hh.one 0 rfl
    obtain ⟨c1, g1⟩ := hh.one 1 rfl
    obtain ⟨c2, g2⟩ := hh.one 2 rfl
    obtain ⟨c3, g3⟩ := hh.one 3 rfl
    clear hh h hO hbig es hd ED eD
    go_enter Try.func40, Try.ntmps40
    go_wp2
    go_ret
    exact ⟨rfl, rfl⟩
  · obtain rfl : D = 141 := by rw [← eD]; unfold pdN; split <;> omega
    have hh := h.o
    rw [stP_big hbig] at hh
    obtain ⟨c0, g0⟩ := hh.one 0 rfl
    obtain ⟨c1, g1⟩ := hh.one 1 rfl
    obtain ⟨c2, g2⟩ := hh.one 2 rfl
    obtain ⟨c3, g3⟩ := hh.one 3 rfl
    clear hh h hbig ED eD
    go_enter Try.func40, Try.ntmps40
    go_wp2
    go_ret
    exact ⟨rfl, rfl⟩
set_option maxRecDepth 100000 in
set_option maxHeartbeats 4000000 in
theorem scount_nil (w : World) : Calls Try.prog 38 #[.pointer none] w fun e w' => e = .returned (.tuple #[.int .i64 0, .int .i64 0]) ∧ w = w' := by
  go_enter Try.func38, Try.ntmps38
  go_wp2
  go_ret2
  exact ⟨rfl, rfl⟩
set_option maxRecDepth 100000 in
set_option maxHeartbeats 4000000 in
theorem scount {B b : Nat} {P : List Int} {f r : Int} {x : Value} (w : World) (h : Fd B b P f r x w) : Calls Try.prog 38 #[.pointer (some ⟨b, 0, none⟩)] w fun e w' => e = .returned (.tuple #[.int .i64 f, .int .i64 r]) ∧ Below w.heap.size w w' := by
  have LA := Lib.hid (fun u (k : Below w.heap.size w u) => aload64 b 2 f u ((h.o.bel k).c 2 _ rfl))
  have LB := Lib.hid (fun u (k : Below w.heap.size w u) => aload64 b 3 r u ((h.o.bel k).c 3 _ rfl))
  clear h
  go_enter Try.func38, Try.ntmps38
  go_wp2_with fail
  go_quiet ((first | (go_at_call 56; (with_reducible exact quiet_as _ rfl (LA.out _ (below_drewN (Below.refl _ _) _)))) | (go_at_call 56; (with_reducible exact quiet_as _ rfl (LB.out _ (below_drewN (Below.refl _ _) _))))))
  go_wp2
  go_ret2
  exact ⟨rfl, below_drewN (Below.refl _ _) _⟩
/-- What finish hands back. -/
def FinE (B b : Nat) (R : Option (List Int)) (f r : Int) (x : Value) (e : Ending) (w w' : World) : Prop := match R with
  | some q => ∃ g o, e = .returned (.tuple #[.slice (some ⟨g, o, none⟩) q.length q.length, .bool true]) ∧ RowIs .u8 w' (some ⟨g, o, none⟩) q ∧ (w.heap.size ≤ g ∧ g < w'.heap.size) ∧ Fd B b [] (f + 1) r (.slice none 0 0) w' ∧ FdK b x w w'
  | none => e = .returned (.tuple #[.slice none 0 0, .bool false]) ∧ Fd B b [] f (r + 1) (.slice none 0 0) w' ∧ FdK b x w w'
set_option maxRecDepth 100000 in
set_option maxHeartbeats 4000000 in
theorem sfinish_no {B b : Nat} {f r : Int} {x : Value} (w : World) (h : Fd B b [] f r x w) : Calls Try.prog 54 #[.pointer (some ⟨b, 0, none⟩)] w fun e w' => e = .returned (.tuple #[.slice none 0 0, .bool false]) ∧ w = w' := by
  have hh := h.o
  rw [stP_nil rfl] at hh
  obtain ⟨c0, g0⟩ := hh.one 0 rfl
  obtain ⟨c1, g1⟩ := hh.one 1 rfl
  obtain ⟨c2, g2⟩ := hh.one 2 rfl
  obtain ⟨c3, g3⟩ := hh.one 3 rfl
  clear hh h
  go_enter Try.func54, Try.ntmps54
  go_wp2
  go_ret2
  exact ⟨rfl, rfl⟩
theorem pkt_un {P : List Int} (hne : P ≠ []) : pkt P = unP (hdP P) := by
  unfold pkt hdP
  by_cases h : P.length ≤ 140
  · rw [if_pos h, if_pos h]
  · rw [if_neg h, if_neg h]; rfl
theorem stP_ne {P : List Int} (hne : P ≠ []) : (stP P == 0) = false := by
  unfold stP
  rw [if_neg hne]
  split <;> rfl
set_option maxRecDepth 100000 in
set_option maxHeartbeats 8000000 in
theorem sfinish {B b : Nat} {P : List Int} {f r : Int} {x : Value} (w : World) (h : Fd B b P f r x w) (hB : B ≤ w.heap.size) (hne : P ≠ []) (f0 : 0 ≤ f ∧ f < 9223372036854775806) (r0 : 0 ≤ r ∧ r < 9223372036854775806) : Calls Try.prog 54 #[.pointer (some ⟨b, 0, none⟩)] w fun e w' => FinE B b (pkt P) f r x e w w' := by
  have hdl : (hdP P).length ≤ 140 := by unfold hdP; split; assumption; simp
  have hdb : BYL (hdP P) := by unfold hdP; split; exact h.by'; (intro b hb; cases hb)
  obtain ⟨ao, cp, ex, -, hr, -, -⟩ := h.h.rowIs
  have UN := sunpack ao cp (hdP P) w hr (by omega) hdb
  rw [← pkt_un hne] at UN
  have RS := Lib.hid (fun u (k : Below w.heap.size w u) => sreset (x := x) u (h.keep k))
  have s0 := stP_ne hne
  have hh := h.o
  generalize pkt P = R at *
  generalize stP P = st at hh s0
  generalize (hdP P).length = n at *
  subst ex
  have XX := Lib.hid (fun k (hk : ogB (.slice ao n cp) = some k) => (h.h.lt hk).2)
  have HH := Lib.hid hh
  have HS := Lib.hid (fun u (k : Below w.heap.size w u) => hh.bel k)
  obtain ⟨c0, g0⟩ := hh.one 0 rfl
  obtain ⟨c1, g1⟩ := hh.one 1 rfl
  obtain ⟨c2, g2⟩ := hh.one 2 rfl
  obtain ⟨c3, g3⟩ := hh.one 3 rfl
  replace UN := Lib.hid UN
  clear hh h hdl hdb hr hne HS
  go_enter Try.func54, Try.ntmps54
  go_wp2_with fail
  refine UN.out.mono ?_
  intro e w1 hU
  cases R with
  | none =>
    obtain ⟨x1, rfl, rfl, hb⟩ := hU
    have R1 := Lib.hid (RS.out w1 hb)
    replace hb := Lib.hid hb
    clear RS UN c0 c1 c2 c3 g0 g1 g2 g3
    go_wp2_with fail
    refine R1.out.mono ?_
    rintro e w2 ⟨rfl, hF, hK⟩
    have AD := Lib.hid (aadd64 b 3 r w2 (hF.o.c 3 _ rfl) (hF.o.f 3 (by simp)) r0.1 (by omega))
    have hF2 := Lib.hid (show Fd B b [] f (r + 1) (.slice none 0 0) (w2.setCell ⟨b, 3, none⟩ (.int .i64 (r + 1))) from ⟨hF.o.set 3 (.int .i64 (r + 1)) (by simp), Og.nil _ _ _, hF.lt, hF.by'⟩)
    have hK2 := Lib.hid (show FdK b (.slice ao n cp) w (w2.setCell ⟨b, 3, none⟩ (.int .i64 (r + 1))) from ((FdK.of_below hb.out).trans (FdN.refl _ _) hK).set 3 _)
    clear hF hK R1 hb
    go_wp2_with fail
    refine AD.out.mono ?_
    rintro e w3 ⟨rfl, rfl⟩
    go_wp2
    go_ret2
    exact ⟨rfl, hF2.out, hK2.out⟩
  | some q =>
    obtain ⟨g9, o9, rfl, hq, hg, hb⟩ := hU
    have R1 := Lib.hid (RS.out w1 hb)
    replace hb := Lib.hid hb
    replace hq := Lib.hid hq
    replace hg := Lib.hid hg
    have BS := HH.out.lt
    have BX := XX.out
    clear RS UN c0 c1 c2 c3 g0 g1 g2 g3
    go_wp2_with fail
    refine R1.out.mono ?_
    rintro e w2 ⟨rfl, hF, hK⟩
    have AD := Lib.hid (aadd64 b 2 f w2 (hF.o.c 2 _ rfl) (hF.o.f 2 (by simp)) f0.1 (by omega))
    have hF2 := Lib.hid (show Fd B b [] (f + 1) r (.slice none 0 0) (w2.setCell ⟨b, 2, none⟩ (.int .i64 (f + 1))) from ⟨hF.o.set 2 (.int .i64 (f + 1)) (by simp), Og.nil _ _ _, hF.lt, hF.by'⟩)
    have hK1 := hK.set 2 (.int .i64 (f + 1))
    have hq2 := Lib.hid (show RowIs .u8 (w2.setCell ⟨b, 2, none⟩ (.int .i64 (f + 1))) (some ⟨g9, o9, none⟩) q from hq.out.fdk hK1 (fun c hc => by injection hc with hc; subst hc; have := hg.out.1; show g9 ≠ b; omega) (fun c hc e => by injection hc with hc; subst hc; have h9 : g9 < w.heap.size := BX _ e; have := hg.out.1; omega))
    have hg2 := Lib.hid (show w.heap.size ≤ g9 ∧ g9 < (w2.setCell ⟨b, 2, none⟩ (.int .i64 (f + 1))).heap.size from ⟨hg.out.1, Nat.lt_of_lt_of_le hg.out.2 hK1.size⟩)
    have hK2 := Lib.hid (show FdK b (.slice ao n cp) w (w2.setCell ⟨b, 2, none⟩ (.int .i64 (f + 1))) from (FdK.of_below hb.out).trans (FdN.refl _ _) hK1)
    clear hF hK R1 hb hK1 hq hg
    go_wp2_with fail
    refine AD.out.mono ?_
    rintro e w3 ⟨rfl, rfl⟩
    go_wp2
    go_ret2
    exact ⟨g9, o9, rfl, hq2.out, hg2.out, hF2.out, hK2.out⟩
end Go.Proofs.Ytpcbnoefgknihaa
