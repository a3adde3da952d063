/- Package maint: the codes, Name, hasMode, reportable; walked. -/
import Derived.Test.YtfejdbmamaggpaaDoorBase
import Derived.Test.YtfejdbmamaggpaaDoorNew
import Derived.Test.YtfejdbmamaggpaaDoorObj
import Derived.Test.YtfejdbmamaggpaaDoorReg
import Derived.Deep.Cut
import Derived.Shelf.Abstract
namespace Go.Proofs.YtfejdbmamaggpaaDoor
open Go.ChangeShapes Go.WideShapes Go.ChangeAt Go.RowKit
set_option linter.unusedVariables false
set_option linter.unusedSimpArgs false
/-- The codes that have names, and their names. -/
def mC : Nat → Int
  | 0 => 1
  | 1 => 2
  | 2 => 3
  | 3 => 4
  | 4 => 9
  | 5 => 10
  | 6 => 11
  | _ => 0
def mN : Nat → ByteArray
  | 0 => ⟨#[112, 105, 116, 111, 116, 49, 45, 108, 97, 116, 99, 104, 101, 100]⟩
  | 1 => ⟨#[112, 105, 116, 111, 116, 50, 45, 108, 97, 116, 99, 104, 101, 100]⟩
  | 2 => ⟨#[115, 116, 97, 116, 105, 99, 49, 45, 108, 97, 116, 99, 104, 101, 100]⟩
  | 3 => ⟨#[115, 116, 97, 116, 105, 99, 50, 45, 108, 97, 116, 99, 104, 101, 100]⟩
  | 4 => ⟨#[114, 101, 115, 101, 116]⟩
  | 5 => ⟨#[109, 111, 100, 101, 45, 113]⟩
  | 6 => ⟨#[109, 111, 100, 101, 45, 112]⟩
  | _ => ⟨#[]⟩
def TbM (w : World) (g : Nat) : Prop := g < w.heap.size ∧ ∀ i, i < 7 → w.cell? ⟨g, i * 2, none⟩ = some (.int .i64 (mC i)) ∧ w.cell? ⟨g, i * 2 + 1, none⟩ = some (.string (mN i))
theorem TbM.bel {w u : World} {g : Nat} (h : TbM w g) (k : Below w.heap.size w u) : TbM u g := ⟨Nat.lt_of_lt_of_le h.1 k.size, fun i hi => ⟨(bc k h.1).trans (h.2 i hi).1, (bc k h.1).trans (h.2 i hi).2⟩⟩
theorem tm_new (w : World) : TbM (w.alloc (.cells #[.int .i64 1, .string ⟨#[112, 105, 116, 111, 116, 49, 45, 108, 97, 116, 99, 104, 101, 100]⟩, .int .i64 2, .string ⟨#[112, 105, 116, 111, 116, 50, 45, 108, 97, 116, 99, 104, 101, 100]⟩, .int .i64 3, .string ⟨#[115, 116, 97, 116, 105, 99, 49, 45, 108, 97, 116, 99, 104, 101, 100]⟩, .int .i64 4, .string ⟨#[115, 116, 97, 116, 105, 99, 50, 45, 108, 97, 116, 99, 104, 101, 100]⟩, .int .i64 9, .string ⟨#[114, 101, 115, 101, 116]⟩, .int .i64 10, .string ⟨#[109, 111, 100, 101, 45, 113]⟩, .int .i64 11, .string ⟨#[109, 111, 100, 101, 45, 112]⟩] 126)) w.heap.size := by
  refine ⟨by simp, fun i hi => ?_⟩
  have e : ∀ o (x : Value), (#[.int .i64 1, .string ⟨#[112, 105, 116, 111, 116, 49, 45, 108, 97, 116, 99, 104, 101, 100]⟩, .int .i64 2, .string ⟨#[112, 105, 116, 111, 116, 50, 45, 108, 97, 116, 99, 104, 101, 100]⟩, .int .i64 3, .string ⟨#[115, 116, 97, 116, 105, 99, 49, 45, 108, 97, 116, 99, 104, 101, 100]⟩, .int .i64 4, .string ⟨#[115, 116, 97, 116, 105, 99, 50, 45, 108, 97, 116, 99, 104, 101, 100]⟩, .int .i64 9, .string ⟨#[114, 101, 115, 101, 116]⟩, .int .i64 10, .string ⟨#[109, 111, 100, 101, 45, 113]⟩, .int .i64 11, .string ⟨#[109, 111, 100, 101, 45, 112]⟩] : Array Value)[o]? = some x → (w.alloc (.cells #[.int .i64 1, .string ⟨#[112, 105, 116, 111, 116, 49, 45, 108, 97, 116, 99, 104, 101, 100]⟩, .int .i64 2, .string ⟨#[112, 105, 116, 111, 116, 50, 45, 108, 97, 116, 99, 104, 101, 100]⟩, .int .i64 3, .string ⟨#[115, 116, 97, 116, 105, 99, 49, 45, 108, 97, 116, 99, 104, 101, 100]⟩, .int .i64 4, .string ⟨#[115, 116, 97, 116, 105, 99, 50, 45, 108, 97, 116, 99, 104, 101, 100]⟩, .int .i64 9, .string ⟨#[114, 101, 115, 101, 116]⟩, .int .i64 10, .string ⟨#[109, 111, 100, 101, 45, 113]⟩, .int .i64 11, .string ⟨#[109, 111, 100, 101, 45, 112]⟩] 126)).cell? ⟨w.heap.size, o, none⟩ = some x := fun o x h => by rw [cell_of_row _ w.heap.size _ _ _ _ (heap_alloc_new w _)]; exact h
  match i, hi with
  | 0, _ => exact ⟨e 0 _ rfl, e 1 _ rfl⟩
  | 1, _ => exact ⟨e 2 _ rfl, e 3 _ rfl⟩
  | 2, _ => exact ⟨e 4 _ rfl, e 5 _ rfl⟩
  | 3, _ => exact ⟨e 6 _ rfl, e 7 _ rfl⟩
  | 4, _ => exact ⟨e 8 _ rfl, e 9 _ rfl⟩
  | 5, _ => exact ⟨e 10 _ rfl, e 11 _ rfl⟩
  | 6, _ => exact ⟨e 12 _ rfl, e 13 _ rfl⟩
  | i + 7, h => omega
set_option maxRecDepth 100000 in
set_option maxHeartbeats 8000000 in
theorem mcodes (w : World) : Calls Tryd.prog 82 #[] w fun e w' => ∃ g, e = .returned (.slice (some ⟨g, 0, none⟩) 7 7) ∧ TbM w' g ∧ Below w.heap.size w w' := by
  have hT := Lib.hid (tm_new w)
  have hB := Lib.hid ((Below.refl w.heap.size w).alloc (Nat.le_refl _) (.cells #[.int .i64 1, .string ⟨#[112, 105, 116, 111, 116, 49, 45, 108, 97, 116, 99, 104, 101, 100]⟩, .int .i64 2, .string ⟨#[112, 105, 116, 111, 116, 50, 45, 108, 97, 116, 99, 104, 101, 100]⟩, .int .i64 3, .string ⟨#[115, 116, 97, 116, 105, 99, 49, 45, 108, 97, 116, 99, 104, 101, 100]⟩, .int .i64 4, .string ⟨#[115, 116, 97, 116, 105, 99, 50, 45, 108, 97, 116, 99, 104, 101, 100]⟩, .int .i64 9, .string ⟨#[114, 101, 115, 101, 116]⟩, .int .i64 10, .string ⟨#[109, 111, 100, 101, 45, 113]⟩, .int .i64 11, .string ⟨#[109, 111, 100, 101, 45, 112]⟩] 126))
  go_enter Tryd.func82, Tryd.ntmps82
  go_wp2
  go_ret
  exact ⟨_, rfl, hT.out, hB.out⟩
def cmV (x y : Int) : Int := if x < y then -1 else if y < x then 1 else 0
set_option maxRecDepth 100000 in
set_option maxHeartbeats 8000000 in
theorem icmp (x y : Int) (w : World) : Calls Tryd.prog 85 #[.int .i64 x, .int .i64 y] w fun e w' => e = .returned (.int .i64 (cmV x y)) ∧ w = w' := by
  have NA := Lib.hid (fun (z : Int) (u : World) => (show Calls Tryd.prog 128 #[.int .i64 z] u fun e w' => e = .returned (.bool false) ∧ u = w' by
    have e : (z != z) = false := by simp
    go_enter Tryd.func128, Tryd.ntmps128
    go_wp2
    go_ret
    exact ⟨rfl, rfl⟩))
  go_enter Tryd.func85, Tryd.ntmps85
  go_wp2_with fail
  refine (NA.out x w).mono ?_
  rintro e u1 ⟨rfl, rfl⟩
  go_wp2_with fail
  refine (NA.out y w).mono ?_
  rintro e u1 ⟨rfl, rfl⟩
  go_wp2
  all_goals
    go_ret
    exact ⟨ret_int (by unfold cmV; omega), rfl⟩
set_option maxRecDepth 100000 in
set_option maxHeartbeats 8000000 in
theorem mclos (c t : Int) (s : ByteArray) (w : World) : Calls Tryd.prog 84 #[.agg #[.int .i64 c, .string s], .int .i64 t] w fun e w' => e = .returned (.int .i64 (cmV c t)) ∧ Below w.heap.size w w' := by
  have CC := Lib.hid (fun u => icmp c t u)
  have hB := Lib.hid ((Below.refl w.heap.size w).alloc (Nat.le_refl _) (.cells #[.int .i64 c, .string s] 126))
  go_enter Tryd.func84, Tryd.ntmps84
  go_wp2_with fail
  refine (CC.out _).mono ?_
  rintro e u1 ⟨rfl, rfl⟩
  go_wp2
  go_ret
  exact ⟨rfl, hB.out⟩
theorem mC_mono {p q : Nat} (h : p ≤ q) (hq : q < 7) : mC p ≤ mC q := by
  have : ∀ q, q < 7 → ∀ p, p ≤ q → mC p ≤ mC q := by decide
  exact this q hq p h
set_option maxRecDepth 100000 in
set_option maxHeartbeats 8000000 in
theorem mbs (g : Nat) (t : Int) (w : World) (hT : TbM w g) : Calls Tryd.prog 83 #[.slice (some ⟨g, 0, none⟩) 7 7, .int .i64 t, .func (.func 84) #[] #[]] w fun e w' => ∃ i : Nat, i ≤ 7 ∧ (∀ p, p < i → mC p < t) ∧ (∀ p, i ≤ p → p < 7 → t ≤ mC p) ∧ e = .returned (.tuple #[.int .i64 (i : Int), .bool (decide (i < 7) && decide (mC i = t))]) ∧ Below w.heap.size w w' := by
  have HT := Lib.hid (fun u (k : Below w.heap.size w u) => hT.bel k)
  have hf := fun c s u => mclos c t s u
  replace hf := Lib.hid hf
  have MC := Lib.hid (fun p q (h : p ≤ q) (hq : q < 7) => mC_mono h hq)
  clear hT
  go_enter Tryd.func83, Tryd.ntmps83
  go_wp2
  go_loopw [9, 10] (fun a b v => ∃ (lo hi : Nat), lo ≤ hi ∧ hi ≤ 7 ∧ Hid (∀ p, p < lo → mC p < t) ∧ Hid (∀ p, hi ≤ p → p < 7 → t ≤ mC p) ∧ a = .int .i64 lo ∧ b = .int .i64 hi ∧ Hid (Below w.heap.size w v)) (fun a b _ => (intOf b - intOf a).toNat)
  case atStart => exact ⟨0, 7, by omega, by omega, Lib.hid (fun p h => by omega), Lib.hid (fun p h1 h2 => by omega), rfl, rfl, Lib.hid (Below.refl _ _)⟩
  case round =>
    obtain ⟨lo, hi, hlh, hh7, hL, hH, rfl, rfl, hb⟩ := hrel
    generalize wr = v at *
    have hTv := HT.out v hb.out
    by_cases hlt : lo < hi
    · obtain ⟨h, eh⟩ : ∃ h, (lo + hi) / 2 = h := ⟨_, rfl⟩
      have hI : ((lo : Int) + (hi : Int)) / 2 = (h : Int) := by omega
      have h1 : lo ≤ h ∧ h < hi := by omega
      obtain ⟨x0, x1⟩ := hTv.2 h (by omega)
      have hg := hTv.1
      have j1 : (h : Int) < 7 := by omega
      have j3 : 0 ≤ (h : Int) := by omega
      have j2 : IntKind.i64.wrap ((h : Int) + 1) = (h : Int) + 1 := by rw [IntKind.wrap_i64]; omega
      have MC1 := Lib.hid (fun p (q : p ≤ h) => MC.out p h q (by omega))
      have MC2 := Lib.hid (fun p (q : h ≤ p) (r : p < 7) => MC.out h p q r)
      clear hTv
      obtain ⟨c, ec⟩ : ∃ c, mC h = c := ⟨_, rfl⟩
      rw [ec] at x0 MC1 MC2
      generalize mN h = s at *
      have hc := hf.out c s v
      by_cases z : c < t
      · have y : cmV c t = -1 := if_pos z
        rw [y] at hc
        clear y ec
        go_wp2_with fail
        refine hc.mono ?_
        rintro e w' ⟨rfl, hb1⟩
        replace hb1 := Lib.hid hb1
        go_wp2
        go_roundw
        case rel => exact ⟨h + 1, hi, by omega, hh7, Lib.hid (fun p hp => by have := MC1.out p (by omega); omega), hH, by first | rfl | (rw [hI]; go_num) | go_num, rfl, Lib.hid (hb.out.trans (hb1.out.mono hb.out.size))⟩
        case measure => simp [intOf]; omega
      · have y : ¬ cmV c t < 0 := by unfold cmV; omega
        generalize cmV c t = r at *
        clear ec
        go_wp2_with fail
        refine hc.mono ?_
        rintro e w' ⟨rfl, hb1⟩
        replace hb1 := Lib.hid hb1
        go_wp2
        go_roundw
        case rel => exact ⟨lo, h, by omega, by omega, hL, Lib.hid (fun p h1 h2 => by have := MC2.out p h1 h2; omega), rfl, by first | rfl | rw [hI], Lib.hid (hb.out.trans (hb1.out.mono hb.out.size))⟩
        case measure => simp [intOf]; omega
    · obtain rfl : lo = hi := by omega
      by_cases z : lo < 7
      · obtain ⟨x0, x1⟩ := hTv.2 lo z
        have hg := hTv.1
        have j0 : decide ((lo : Int) < 7) = true := decide_eq_true (by omega)
        have j1 : (lo : Int) < 7 := by omega
        have j3 : 0 ≤ (lo : Int) := by omega
        have FIN := Lib.hid (And.intro hh7 (And.intro hL.out hH.out))
        clear hTv
        have hc := hf.out (mC lo) (mN lo) v
        have e1 : (cmV (mC lo) t == 0) = decide (mC lo = t) := by
          by_cases y : mC lo = t
          · rw [decide_eq_true y]; unfold cmV; rw [if_neg (by omega), if_neg (by omega)]; rfl
          · rw [decide_eq_false y]; unfold cmV; by_cases q : mC lo < t
            · rw [if_pos q]; rfl
            · rw [if_neg q, if_pos (by omega)]; rfl
        generalize mN lo = s at *
        generalize cmV (mC lo) t = r at *
        go_wp2_with fail
        refine hc.mono ?_
        rintro e w' ⟨rfl, hb1⟩
        replace hb1 := Lib.hid hb1
        go_wp2
        go_ret2
        exact ⟨lo, FIN.out.1, FIN.out.2.1, FIN.out.2.2, by rw [decide_eq_true z, Bool.true_and]; rfl, hb.out.trans (hb1.out.mono hb.out.size)⟩
      · have j0 : decide ((lo : Int) < 7) = false := decide_eq_false (by omega)
        have FIN := Lib.hid (And.intro hh7 (And.intro hL.out hH.out))
        clear hTv
        go_wp2
        go_ret2
        exact ⟨lo, FIN.out.1, FIN.out.2.1, FIN.out.2.2, by rw [decide_eq_false z, Bool.false_and]; rfl, hb.out⟩
def nmB (c : Int) : Bool := decide (c = 1 ∨ c = 2 ∨ c = 3 ∨ c = 4 ∨ c = 9 ∨ c = 10 ∨ c = 11)
theorem nmB_iff (c : Int) : nmB c = true ↔ ∃ k, k < 7 ∧ mC k = c := by
  unfold nmB
  rw [decide_eq_true_iff]
  constructor
  · rintro (h | h | h | h | h | h | h)
    · exact ⟨0, by omega, h.symm⟩
    · exact ⟨1, by omega, h.symm⟩
    · exact ⟨2, by omega, h.symm⟩
    · exact ⟨3, by omega, h.symm⟩
    · exact ⟨4, by omega, h.symm⟩
    · exact ⟨5, by omega, h.symm⟩
    · exact ⟨6, by omega, h.symm⟩
  · rintro ⟨k, hk, rfl⟩
    match k, hk with
    | 0, _ => simp [mC]
    | 1, _ => simp [mC]
    | 2, _ => simp [mC]
    | 3, _ => simp [mC]
    | 4, _ => simp [mC]
    | 5, _ => simp [mC]
    | 6, _ => simp [mC]
    | k + 7, h => omega
theorem nm_found {c : Int} {i : Nat} (h1 : ∀ p, p < i → mC p < c) (h2 : ∀ p, i ≤ p → p < 7 → c ≤ mC p) : (decide (i < 7) && decide (mC i = c)) = nmB c := by
  rw [Bool.eq_iff_iff, nmB_iff, Bool.and_eq_true, decide_eq_true_iff, decide_eq_true_iff]
  constructor
  · rintro ⟨a, b⟩; exact ⟨i, a, b⟩
  · rintro ⟨k, hk, e⟩
    have hik : i ≤ k := by
      rcases Nat.lt_or_ge k i with q | q
      · have := h1 k q; omega
      · exact q
    have a := h2 i (Nat.le_refl _) (by omega)
    have b := mC_mono hik hk
    exact ⟨by omega, by omega⟩
set_option maxRecDepth 100000 in
set_option maxHeartbeats 8000000 in
theorem mname (c : Int) (w : World) : Calls Tryd.prog 37 #[.int .i64 c] w fun e w' => (∃ s, e = .returned (.tuple #[.string s, .bool (nmB c)]) ∧ (nmB c = true → ∃ k, k < 7 ∧ mC k = c ∧ mN k = s)) ∧ Below w.heap.size w w' := by
  have CO := Lib.hid (mcodes w)
  go_enter Tryd.func37, Tryd.ntmps37
  go_wp2_with fail
  refine CO.out.mono ?_
  rintro e u1 ⟨g, rfl, hT, hb⟩
  have h1 := Lib.hid hb
  have BS := Lib.hid (mbs g c u1 hT)
  have HT := Lib.hid (fun u (k : Below u1.heap.size u1 u) => hT.bel k)
  clear hb hT CO
  go_wp2_with fail
  refine BS.out.mono ?_
  rintro e u2 ⟨i, hi, q1, q2, rfl, hb⟩
  have h2 := Lib.hid (show Below w.heap.size w u2 from h1.out.trans (hb.mono h1.out.size))
  have hf := nm_found q1 q2
  rw [hf]
  cases hN : nmB c with
  | false =>
    clear hf q1 q2 hb
    go_wp2
    go_ret2
    exact ⟨⟨_, by rw [hN]; rfl, fun h => by rw [hN] at h; cases h⟩, h2.out⟩
  | true =>
    rw [hN, Bool.and_eq_true, decide_eq_true_iff, decide_eq_true_iff] at hf
    obtain ⟨hi7, hc⟩ := hf
    have hTu := HT.out u2 hb
    obtain ⟨x0, x1⟩ := hTu.2 i hi7
    have hg := hTu.1
    have j1 : (i : Int) < 7 := by omega
    have j3 : 0 ≤ (i : Int) := by omega
    have FIN := Lib.hid (And.intro hi7 hc)
    clear hTu q1 q2 hb hc
    obtain ⟨s, es⟩ : ∃ s, mN i = s := ⟨_, rfl⟩
    have ES := Lib.hid es
    rw [es] at x1
    clear es
    go_wp2
    go_ret2
    exact ⟨⟨s, by rw [hN]; rfl, fun _ => ⟨i, FIN.out.1, FIN.out.2, ES.out⟩⟩, h2.out⟩
def hmB (c : Int) : Bool := c == 10 || c == 11
set_option maxRecDepth 100000 in
set_option maxHeartbeats 8000000 in
theorem mhas (c : Int) (w : World) : Calls Tryd.prog 79 #[.int .i64 c] w fun e w' => e = .returned (.bool (hmB c)) ∧ w = w' := by
  unfold hmB
  by_cases z : c = 10
  · have y : (c == 10) = true := beq_iff_eq.2 z
    rw [y]
    clear z
    go_enter Tryd.func79, Tryd.ntmps79
    go_wp2
    go_ret
    exact ⟨rfl, rfl⟩
  · have y : (c == 10) = false := beq_eq_false_iff_ne.2 z
    rw [y, Bool.false_or]
    clear z
    go_enter Tryd.func79, Tryd.ntmps79
    go_wp2
    go_ret
    exact ⟨rfl, rfl⟩
def rpB (T C A : Int) : Bool := nmB C && decide (0 ≤ T) && decide (T ≤ 1000000) && decide (0 ≤ A) && decide (A ≤ if hmB C = true then 5 else 0)
theorem ev_box (w : World) (T C A : Int) : ∃ V, V = w.alloc (.cells #[.int .i64 T, .int .i64 C, .int .i64 A] 54) ∧ Below w.heap.size w V ∧ ∀ v, Below V.heap.size V v → v.cell? ⟨w.heap.size, 0, none⟩ = some (.int .i64 T) ∧ v.cell? ⟨w.heap.size, 1, none⟩ = some (.int .i64 C) ∧ v.cell? ⟨w.heap.size, 2, none⟩ = some (.int .i64 A) :=
  ⟨_, rfl, (Below.refl _ _).alloc (Nat.le_refl _) _, fun v k => ⟨(bc k (show w.heap.size < _ by simp)).trans (by go_simp), (bc k (show w.heap.size < _ by simp)).trans (by go_simp), (bc k (show w.heap.size < _ by simp)).trans (by go_simp)⟩⟩
set_option maxRecDepth 100000 in
set_option maxHeartbeats 8000000 in
theorem mrep (T C A : Int) (w : World) : Calls Tryd.prog 77 #[.agg #[.int .i64 T, .int .i64 C, .int .i64 A]] w fun e w' => e = .returned (.bool (rpB T C A)) ∧ Below w.heap.size w w' := by
  obtain ⟨V, eV, hbV, HC⟩ := ev_box w T C A
  have HW := Lib.hid (fun x (k : Below V.heap.size V x) => (hbV.trans (k.mono hbV.size) : Below w.heap.size w x))
  obtain ⟨B, eB⟩ : ∃ B, w.heap.size = B := ⟨_, rfl⟩
  rw [eB] at HC hbV
  replace HC := Lib.hid HC
  replace eV := Lib.hid eV
  have h0 := Lib.hid (Below.refl V.heap.size V)
  have NM := fun x => mname C x
  have HM := fun x => mhas C x
  unfold rpB
  obtain ⟨n, en⟩ : ∃ n, nmB C = n := ⟨_, rfl⟩
  obtain ⟨m, em⟩ : ∃ m, hmB C = m := ⟨_, rfl⟩
  rw [en] at NM
  rw [em] at HM
  rw [en, em]
  replace NM := Lib.hid NM
  replace HM := Lib.hid HM
  clear en em hbV
  cases n
  · have a1 : true = true := rfl
    cases m
    · go_enter Tryd.func77, Tryd.ntmps77
      obtain ⟨c0, c1, c2⟩ := HC.out V h0.out
      go_upto_region 1 with (fail)
      try rw [eB]
      rw [← eV.out]
      go_wp2_with fail
      refine (NM.out V).mono ?_
      rintro e u1 ⟨⟨s, rfl, -⟩, hb⟩
      have k1 := Lib.hid (show Below V.heap.size V u1 from hb)
      clear hb c0 c1 c2
      obtain ⟨c0, c1, c2⟩ := HC.out u1 k1.out
      go_wp2_with fail
      refine (HM.out u1).mono ?_
      rintro e u2 ⟨rfl, rfl⟩
      go_wp2
      go_ret
      exact ⟨ret_bool (by first | rfl | simp [a1, a2, a3, a4] | simp [a1, a2, a3] | simp [a1, a2] | simp [a1] | simp), by first | exact HW.out _ k1.out | (rw [← eB]; exact HW.out _ k1.out)⟩
    · go_enter Tryd.func77, Tryd.ntmps77
      obtain ⟨c0, c1, c2⟩ := HC.out V h0.out
      go_upto_region 1 with (fail)
      try rw [eB]
      rw [← eV.out]
      go_wp2_with fail
      refine (NM.out V).mono ?_
      rintro e u1 ⟨⟨s, rfl, -⟩, hb⟩
      have k1 := Lib.hid (show Below V.heap.size V u1 from hb)
      clear hb c0 c1 c2
      obtain ⟨c0, c1, c2⟩ := HC.out u1 k1.out
      go_wp2_with fail
      refine (HM.out u1).mono ?_
      rintro e u2 ⟨rfl, rfl⟩
      go_wp2
      go_ret
      exact ⟨ret_bool (by first | rfl | simp [a1, a2, a3, a4] | simp [a1, a2, a3] | simp [a1, a2] | simp [a1] | simp), by first | exact HW.out _ k1.out | (rw [← eB]; exact HW.out _ k1.out)⟩
  · by_cases z1 : 0 ≤ T
    rotate_left
    · have a1 : decide (0 ≤ T) = false := decide_eq_false z1
      cases m
      · go_enter Tryd.func77, Tryd.ntmps77
        obtain ⟨c0, c1, c2⟩ := HC.out V h0.out
        go_upto_region 1 with (fail)
        try rw [eB]
        rw [← eV.out]
        go_wp2_with fail
        refine (NM.out V).mono ?_
        rintro e u1 ⟨⟨s, rfl, -⟩, hb⟩
        have k1 := Lib.hid (show Below V.heap.size V u1 from hb)
        clear hb c0 c1 c2
        obtain ⟨c0, c1, c2⟩ := HC.out u1 k1.out
        go_wp2_with fail
        refine (HM.out u1).mono ?_
        rintro e u2 ⟨rfl, rfl⟩
        go_wp2
        go_ret
        exact ⟨ret_bool (by first | rfl | simp [a1, a2, a3, a4] | simp [a1, a2, a3] | simp [a1, a2] | simp [a1] | simp), by first | exact HW.out _ k1.out | (rw [← eB]; exact HW.out _ k1.out)⟩
      · go_enter Tryd.func77, Tryd.ntmps77
        obtain ⟨c0, c1, c2⟩ := HC.out V h0.out
        go_upto_region 1 with (fail)
        try rw [eB]
        rw [← eV.out]
        go_wp2_with fail
        refine (NM.out V).mono ?_
        rintro e u1 ⟨⟨s, rfl, -⟩, hb⟩
        have k1 := Lib.hid (show Below V.heap.size V u1 from hb)
        clear hb c0 c1 c2
        obtain ⟨c0, c1, c2⟩ := HC.out u1 k1.out
        go_wp2_with fail
        refine (HM.out u1).mono ?_
        rintro e u2 ⟨rfl, rfl⟩
        go_wp2
        go_ret
        exact ⟨ret_bool (by first | rfl | simp [a1, a2, a3, a4] | simp [a1, a2, a3] | simp [a1, a2] | simp [a1] | simp), by first | exact HW.out _ k1.out | (rw [← eB]; exact HW.out _ k1.out)⟩
    have a1 : decide (0 ≤ T) = true := decide_eq_true z1
    by_cases z2 : T ≤ 1000000
    rotate_left
    · have a2 : decide (T ≤ 1000000) = false := decide_eq_false z2
      cases m
      · go_enter Tryd.func77, Tryd.ntmps77
        obtain ⟨c0, c1, c2⟩ := HC.out V h0.out
        go_upto_region 1 with (fail)
        try rw [eB]
        rw [← eV.out]
        go_wp2_with fail
        refine (NM.out V).mono ?_
        rintro e u1 ⟨⟨s, rfl, -⟩, hb⟩
        have k1 := Lib.hid (show Below V.heap.size V u1 from hb)
        clear hb c0 c1 c2
        obtain ⟨c0, c1, c2⟩ := HC.out u1 k1.out
        go_wp2_with fail
        refine (HM.out u1).mono ?_
        rintro e u2 ⟨rfl, rfl⟩
        go_wp2
        go_ret
        exact ⟨ret_bool (by first | rfl | simp [a1, a2, a3, a4] | simp [a1, a2, a3] | simp [a1, a2] | simp [a1] | simp), by first | exact HW.out _ k1.out | (rw [← eB]; exact HW.out _ k1.out)⟩
      · go_enter Tryd.func77, Tryd.ntmps77
        obtain ⟨c0, c1, c2⟩ := HC.out V h0.out
        go_upto_region 1 with (fail)
        try rw [eB]
        rw [← eV.out]
        go_wp2_with fail
        refine (NM.out V).mono ?_
        rintro e u1 ⟨⟨s, rfl, -⟩, hb⟩
        have k1 := Lib.hid (show Below V.heap.size V u1 from hb)
        clear hb c0 c1 c2
        obtain ⟨c0, c1, c2⟩ := HC.out u1 k1.out
        go_wp2_with fail
        refine (HM.out u1).mono ?_
        rintro e u2 ⟨rfl, rfl⟩
        go_wp2
        go_ret
        exact ⟨ret_bool (by first | rfl | simp [a1, a2, a3, a4] | simp [a1, a2, a3] | simp [a1, a2] | simp [a1] | simp), by first | exact HW.out _ k1.out | (rw [← eB]; exact HW.out _ k1.out)⟩
    have a2 : decide (T ≤ 1000000) = true := decide_eq_true z2
    by_cases z3 : 0 ≤ A
    rotate_left
    · have a3 : decide (0 ≤ A) = false := decide_eq_false z3
      cases m
      · go_enter Tryd.func77, Tryd.ntmps77
        obtain ⟨c0, c1, c2⟩ := HC.out V h0.out
        go_upto_region 1 with (fail)
        try rw [eB]
        rw [← eV.out]
        go_wp2_with fail
        refine (NM.out V).mono ?_
        rintro e u1 ⟨⟨s, rfl, -⟩, hb⟩
        have k1 := Lib.hid (show Below V.heap.size V u1 from hb)
        clear hb c0 c1 c2
        obtain ⟨c0, c1, c2⟩ := HC.out u1 k1.out
        go_wp2_with fail
        refine (HM.out u1).mono ?_
        rintro e u2 ⟨rfl, rfl⟩
        go_wp2
        go_ret
        exact ⟨ret_bool (by first | rfl | simp [a1, a2, a3, a4] | simp [a1, a2, a3] | simp [a1, a2] | simp [a1] | simp), by first | exact HW.out _ k1.out | (rw [← eB]; exact HW.out _ k1.out)⟩
      · go_enter Tryd.func77, Tryd.ntmps77
        obtain ⟨c0, c1, c2⟩ := HC.out V h0.out
        go_upto_region 1 with (fail)
        try rw [eB]
        rw [← eV.out]
        go_wp2_with fail
        refine (NM.out V).mono ?_
        rintro e u1 ⟨⟨s, rfl, -⟩, hb⟩
        have k1 := Lib.hid (show Below V.heap.size V u1 from hb)
        clear hb c0 c1 c2
        obtain ⟨c0, c1, c2⟩ := HC.out u1 k1.out
        go_wp2_with fail
        refine (HM.out u1).mono ?_
        rintro e u2 ⟨rfl, rfl⟩
        go_wp2
        go_ret
        exact ⟨ret_bool (by first | rfl | simp [a1, a2, a3, a4] | simp [a1, a2, a3] | simp [a1, a2] | simp [a1] | simp), by first | exact HW.out _ k1.out | (rw [← eB]; exact HW.out _ k1.out)⟩
    have a3 : decide (0 ≤ A) = true := decide_eq_true z3
    cases m
    · have a4 : (if false = true then (5 : Int) else 0) = 0 := rfl
      go_enter Tryd.func77, Tryd.ntmps77
      obtain ⟨c0, c1, c2⟩ := HC.out V h0.out
      go_upto_region 1 with (fail)
      try rw [eB]
      rw [← eV.out]
      go_wp2_with fail
      refine (NM.out V).mono ?_
      rintro e u1 ⟨⟨s, rfl, -⟩, hb⟩
      have k1 := Lib.hid (show Below V.heap.size V u1 from hb)
      clear hb c0 c1 c2
      obtain ⟨c0, c1, c2⟩ := HC.out u1 k1.out
      go_wp2_with fail
      refine (HM.out u1).mono ?_
      rintro e u2 ⟨rfl, rfl⟩
      go_wp2
      go_ret
      exact ⟨ret_bool (by first | rfl | simp [a1, a2, a3, a4] | simp [a1, a2, a3] | simp [a1, a2] | simp [a1] | simp), by first | exact HW.out _ k1.out | (rw [← eB]; exact HW.out _ k1.out)⟩
    · have a4 : (if true = true then (5 : Int) else 0) = 5 := rfl
      go_enter Tryd.func77, Tryd.ntmps77
      obtain ⟨c0, c1, c2⟩ := HC.out V h0.out
      go_upto_region 1 with (fail)
      try rw [eB]
      rw [← eV.out]
      go_wp2_with fail
      refine (NM.out V).mono ?_
      rintro e u1 ⟨⟨s, rfl, -⟩, hb⟩
      have k1 := Lib.hid (show Below V.heap.size V u1 from hb)
      clear hb c0 c1 c2
      obtain ⟨c0, c1, c2⟩ := HC.out u1 k1.out
      go_wp2_with fail
      refine (HM.out u1).mono ?_
      rintro e u2 ⟨rfl, rfl⟩
      go_wp2
      go_ret
      exact ⟨ret_bool (by first | rfl | simp [a1, a2, a3, a4] | simp [a1, a2, a3] | simp [a1, a2] | simp [a1] | simp), by first | exact HW.out _ k1.out | (rw [← eB]; exact HW.out _ k1.out)⟩
end Go.Proofs.YtfejdbmamaggpaaDoor
