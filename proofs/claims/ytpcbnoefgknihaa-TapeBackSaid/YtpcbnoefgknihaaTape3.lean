/- Numbers of the tape in the document; a row of bytes cloned; walked. -/
import Derived.Test.YtpcbnoefgknihaaTape2
import Derived.Test.YtpcbnoefgknihaaNew
import Derived.Deep.CutRange
import Derived.Lib.Walk
import Derived.Lib.SliceRun
namespace Go.Proofs.Ytpcbnoefgknihaa
open Go.ChangeShapes Go.WideShapes Go.ChangeAt Go.RowKit
set_option linter.unusedVariables false
set_option linter.unusedSimpArgs false
set_option maxRecDepth 100000 in
set_option maxHeartbeats 4000000 in
theorem rfolded (n : Int) (w : World) (g1 : -9223372036854775808 ≤ n) (g2 : n ≤ 9223372036854775807) :
    Calls Try.prog 44 #[.int .i64 n] w fun e w' => e = .returned (.int .u64 (fo n : Nat)) ∧ w = w' := by
  by_cases h : n < 0
  · have e0 : ((fo n : Nat) : Int) = 2 * (-1 - n) + 1 := by unfold fo; rw [if_pos h]; omega
    have j1 : IntKind.i64.wrap (-1 - n) = -1 - n := by rw [IntKind.wrap_i64]; omega
    have j2 : IntKind.u64.wrap (-1 - n) = -1 - n := by rw [IntKind.wrap_u64]; omega
    have j3 : IntKind.u64.wrap (2 * (-1 - n)) = 2 * (-1 - n) := by rw [IntKind.wrap_u64]; omega
    have j4 : IntKind.u64.wrap (2 * (-1 - n) + 1) = 2 * (-1 - n) + 1 := by rw [IntKind.wrap_u64]; omega
    rw [e0]
    go_enter Try.func44, Try.ntmps44
    go_wp2
    go_ret
    exact ⟨rfl, rfl⟩
  · have e0 : ((fo n : Nat) : Int) = 2 * n := by unfold fo; rw [if_neg h]; omega
    have j2 : IntKind.u64.wrap n = n := by rw [IntKind.wrap_u64]; omega
    have j3 : IntKind.u64.wrap (2 * n) = 2 * n := by rw [IntKind.wrap_u64]; omega
    rw [e0]
    go_enter Try.func44, Try.ntmps44
    go_wp2
    go_ret
    exact ⟨rfl, rfl⟩
set_option maxRecDepth 100000 in
set_option maxHeartbeats 4000000 in
theorem rnumber (n : Int) (w : World) (g1 : -9223372036854775808 ≤ n) (g2 : n ≤ 9223372036854775807) :
    Calls Try.prog 16 #[.int .i64 n] w fun e w' => ∃ x', e = .returned x' ∧ Og 5 w.heap.size x' (nvals .u8 (vn (fo n))) w' ∧ Below w.heap.size w w' := by
  have hlt := fo_lt g1 g2
  obtain ⟨c0, hc0⟩ : ∃ c, fo n = c := ⟨_, rfl⟩
  obtain ⟨VN, hVN⟩ : ∃ VN, vn c0 = VN := ⟨_, rfl⟩
  have hfin := Lib.hid (show vn (fo n) = VN by rw [hc0, hVN])
  have RF := fun u => rfolded n u g1 g2
  rw [hc0] at hlt RF
  replace hVN := Lib.hid hVN
  replace RF := Lib.hid RF
  have HL := Lib.hid hlt
  clear hc0 hlt g1 g2
  generalize hBW : w.heap.size = B at *
  replace hBW := Lib.hid hBW
  go_enter Try.func16, Try.ntmps16
  go_wp2_with fail
  refine (RF.out _).mono ?_
  rintro e w1 ⟨rfl, rfl⟩
  go_wp2_with fail
  go_loopw [3, 4] (fun c y v => ∃ (f k : Nat) (x' : Value) (pre : List Int), f ≤ 9 ∧ y = x' ∧ c = .int .u64 (k : Int) ∧ Hid (k < P128 f) ∧ Hid (k < 18446744073709551616) ∧ Hid (pre ++ vnF f k = VN ∧ pre.length + f = 9) ∧ Hid (Og 5 B x' (nvals .u8 pre) v) ∧ Hid (Below B w v)) (fun c _ _ => (intOf c).toNat)
  case atStart => exact ⟨9, c0, _, [], by omega, rfl, rfl, Lib.hid (by have := HL.out; unfold P128; omega), HL, Lib.hid ⟨hVN.out, rfl⟩, Lib.hid (Og.nil _ _ _), Lib.hid (Below.refl _ _)⟩
  case round =>
    obtain ⟨f, k, x', pre, hf, rfl, rfl, hk, hk6, hp, hO2, hK2⟩ := hrel
    clear HL
    generalize wr = v at *
    have HB2 := Lib.hid (show B ≤ v.heap.size from by have := hBW.out; have := hK2.out.size; omega)
    have LEN := Lib.hid (show (nvals .u8 pre).length + 1 ≤ 1000100 by have := hp.out.2; rw [nvals_len]; omega)
    by_cases hge : 128 ≤ k
    · obtain ⟨f', rfl⟩ : ∃ f', f = f' + 1 := by
        cases f with
        | zero => have := hk.out; unfold P128 at this; omega
        | succ f' => exact ⟨f', rfl⟩
      have j1 : (127 : Int) < (k : Int) := by omega
      obtain ⟨q, eq⟩ : ∃ q : Nat, q = k % 128 := ⟨_, rfl⟩
      obtain ⟨r, er⟩ : ∃ r : Nat, r = 128 + k % 128 := ⟨_, rfl⟩
      obtain ⟨k2, ek⟩ : ∃ k2 : Nat, k2 = k / 128 := ⟨_, rfl⟩
      have j2 : (k : Int).tmod 128 = (q : Int) := by rw [Int.tmod_eq_emod_of_nonneg (by omega)]; omega
      have j3 : IntKind.u64.wrap (128 + (q : Int)) = (r : Int) := by rw [IntKind.wrap_u64]; omega
      have j5 : IntKind.u8.wrap (r : Int) = (r : Int) := by rw [IntKind.wrap_u8]; omega
      have j4 : (k : Int).tdiv 128 = (k2 : Int) := by rw [Int.tdiv_eq_ediv_of_nonneg (by omega)]; omega
      have hk2 := Lib.hid (show k2 < P128 f' by rw [ek]; exact P128_div hk.out)
      have hk26 := Lib.hid (show k2 < 18446744073709551616 by have := hk6.out; omega)
      have j6 : IntKind.u64.wrap (k2 : Int) = (k2 : Int) := by have := hk26.out; rw [IntKind.wrap_u64]; omega
      have j7 : IntKind.u64.wrap (q : Int) = (q : Int) := by rw [IntKind.wrap_u64]; omega
      have hp2 := Lib.hid (show (pre ++ [(r : Int)]) ++ vnF f' k2 = VN ∧ (pre ++ [(r : Int)]).length + f' = 9 from ⟨by rw [← hp.out.1, vnF_big (by omega), er, ek]; simp, by have := hp.out.2; simp; omega⟩)
      have hlt2 := Lib.hid (show k2 < k by omega)
      clear eq er ek hge hk hp
      have hA := Lib.hid ((Below.refl v.heap.size v).alloc (Nat.le_refl _) (.cells #[.int .u8 (r : Int)] 5))
      have hO3 := Lib.hid (hO2.out.bel hA.out)
      have hz3 := Lib.hid (show B ≤ (v.alloc (.cells #[.int .u8 (r : Int)] 5)).heap.size from by have := HB2.out; simp; omega)
      have SR := Lib.hid (src_new 22 5 5 Try.underlying22 v [.int .u8 (r : Int)] (fun u hu => by simp at hu; subst hu; rfl))
      clear hO2
      go_upto_region 5 with (first | (at_builtin; refine wpList_append_og _ rfl (.tmp 9) (.tmp 14) 22 22 rfl 5 (.int .u8 0) 1 Try.underlying22 (by kernel_rfl) rfl B u4 _ rfl hO3.out hz3.out _ 1 _ rfl SR.out (by have := LEN.out; unfold maxLen; omega) (by have := LEN.out; omega) ?_; intro x2 w5 hO5 hK5 hN5))
      have hK6 := Lib.hid (hK2.out.trans ((hA.out.mono HB2.out).trans (hK5.below hO3.out hz3.out)))
      have hO6 := Lib.hid (show Og 5 B x2 (nvals .u8 (pre ++ [(r : Int)])) w5 by rw [nvals_app]; exact hO5)
      clear hO5 hK5 hN5 hA hO3 hz3 SR hK2 HB2 LEN
      go_wp2
      go_roundw
      case rel => exact ⟨f', k2, x2, _, by omega, rfl, by first | rfl | go_num, hk2, hk26, hp2, hO6, hK6⟩
      case measure => have := hlt2.out; simp [intOf]; omega
    · have j1 : ¬ (127 : Int) < (k : Int) := by omega
      have j2 : IntKind.u8.wrap (k : Int) = (k : Int) := by rw [IntKind.wrap_u8]; omega
      have ep : pre ++ [(k : Int)] = VN := by rw [← hp.out.1, vnF_small (by omega)]
      have hA := Lib.hid ((Below.refl v.heap.size v).alloc (Nat.le_refl _) (.cells #[.int .u8 (k : Int)] 5))
      have hO3 := Lib.hid (hO2.out.bel hA.out)
      have hz3 := Lib.hid (show B ≤ (v.alloc (.cells #[.int .u8 (k : Int)] 5)).heap.size from by have := HB2.out; simp; omega)
      have SR := Lib.hid (src_new 22 5 5 Try.underlying22 v [.int .u8 (k : Int)] (fun u hu => by simp at hu; subst hu; rfl))
      replace ep := Lib.hid ep
      clear hO2 hge
      go_wp2_with (first | (at_builtin; refine wpList_append_og _ rfl (.tmp 18) (.tmp 21) 22 22 rfl 5 (.int .u8 0) 1 Try.underlying22 (by kernel_rfl) rfl B u4 _ rfl hO3.out hz3.out _ 1 _ rfl SR.out (by have := LEN.out; unfold maxLen; omega) (by have := LEN.out; omega) ?_; intro x2 w5 hO5 hK5 hN5))
      have hK6 := Lib.hid (hK2.out.trans ((hA.out.mono HB2.out).trans (hK5.below hO3.out hz3.out)))
      have hO6 := Lib.hid (show Og 5 B x2 (nvals .u8 VN) w5 by rw [← ep.out, nvals_app]; exact hO5)
      clear hO5 hK5 hN5 hA hO3 hz3 SR hK2 HB2 LEN
      try go_wp2
      go_ret
      exact ⟨x2, rfl, by rw [hfin.out]; exact hO6.out, hK6.out⟩
set_option maxRecDepth 100000 in
set_option maxHeartbeats 4000000 in
theorem tclone (a : Option Addr) (cap : Nat) (L : List Int) (w : World) (h : RowIs .u8 w a L) (hL : L.length ≤ 1000000) :
    Calls Try.prog 43 #[.slice a L.length cap] w fun e w' => ∃ x', e = .returned x' ∧ Og 5 w.heap.size x' (nvals .u8 L) w' ∧ Below w.heap.size w w' ∧ (x' = .slice none 0 0 → a = none) := by
  have q22 : ∀ (w : World) (a : Option Addr) (n c n' c' : Nat), (binOp .eql 22 (.slice a n c) (.slice none n' c')).run Try.prog w = .ok (.bool a.isNone) w := fun w a n c n' c' => Lib.run_eql_slice_nil w _ _ a n c n' c' Try.underlying22
  cases a with
  | none =>
    obtain rfl : L = [] := by rcases h with h | ⟨b, off, h, _⟩; exact h; cases h
    go_enter Try.func43, Try.ntmps43
    go_wp2
    go_ret
    exact ⟨_, rfl, Og.nil _ _ _, Below.refl _ _, by simp⟩
  | some a =>
    have hA := Lib.hid ((Below.refl w.heap.size w).alloc (Nat.le_refl _) (.cells #[] 5))
    have hO := Lib.hid (Og.new 5 w [])
    have SR := Lib.hid ((h.below hA.out).src (t := 22) Try.underlying22 cap)
    have hz := Lib.hid (show w.heap.size ≤ (w.alloc (.cells #[] 5)).heap.size from by simp)
    clear h
    go_enter Try.func43, Try.ntmps43
    go_wp2_with (first | (at_builtin; refine wpList_append_og _ rfl (.tmp 5) (.tmp 6) 22 22 rfl 5 (.int .u8 0) 1 Try.underlying22 (by kernel_rfl) rfl w.heap.size _ _ rfl hO.out hz.out _ L.length _ rfl SR.out (by simp; unfold maxLen; omega) (by simp; omega) ?_; intro x2 w5 hO5 hK5 hN5))
    try go_wp2
    go_ret
    have hx : ∃ g, ogB x2 = some g := by rcases hN5 with e | ⟨g, e, _⟩; exact ⟨_, e⟩; exact ⟨g, e⟩
    refine ⟨x2, rfl, by simpa using hO5, hA.out.trans ((hK5.below hO.out hz.out)), fun e => ?_⟩
    obtain ⟨g, hg⟩ := hx
    rw [e] at hg
    cases hg
set_option maxRecDepth 100000 in
set_option maxHeartbeats 4000000 in
theorem tnumber (a : Option Addr) (cap : Nat) (L : List Int) (n : Int) (w : World) (h : RowIs .u8 w a L) (hL : L.length ≤ 1000000) (g1 : -9223372036854775808 ≤ n) (g2 : n ≤ 9223372036854775807) :
    Calls Try.prog 15 #[.slice a L.length cap, .int .i64 n] w fun e w' => ∃ x', e = .returned x' ∧ Og 5 w.heap.size x' (nvals .u8 (L ++ vn (fo n))) w' ∧ Below w.heap.size w w' := by
  have C := Lib.hid (tclone a cap L w h hL)
  have A := Lib.hid (fun x u (hO : Og 5 w.heap.size x (nvals .u8 L) u) (hB : w.heap.size ≤ u.heap.size) => tappn w.heap.size x (nvals .u8 L) n u hO hB (by rw [nvals_len]; exact hL) g1 g2)
  clear h
  go_enter Try.func15, Try.ntmps15
  go_wp2_with fail
  refine C.out.mono ?_
  rintro e w1 ⟨x1, rfl, hO, hb, -⟩
  have A1 := Lib.hid (A.out x1 w1 hO hb.size)
  replace hO := Lib.hid hO
  replace hb := Lib.hid hb
  clear A C
  go_wp2_with fail
  refine A1.out.mono ?_
  rintro e w2 ⟨x2, rfl, hO2, hK, hN⟩
  have hb2 := Lib.hid (hb.out.trans (hK.below hO.out hb.out.size))
  replace hO2 := Lib.hid hO2
  clear hK hN hO hb A1
  go_wp2
  go_ret
  exact ⟨x2, rfl, by rw [nvals_app]; exact hO2.out, hb2.out⟩
end Go.Proofs.Ytpcbnoefgknihaa
