/- Package stream: a packet of what came between two flags; walked. -/
import Derived.Test.YtpcbnoefgknihaaStm2
import Derived.Laws.BytesArg
import Derived.Lib.Strings
namespace Go.Proofs.Ytpcbnoefgknihaa
open Go.ChangeShapes Go.WideShapes Go.ChangeAt Go.RowKit
set_option linter.unusedVariables false
set_option linter.unusedSimpArgs false
theorem unF_byl : ∀ (l p : List Int), BYL l → unF l = some p → BYL p
  | [], p, _, h => by
    simp [unF] at h
    subst h
    intro b hb
    cases hb
  | [x], p, hb, h => by
    by_cases hx : x = 125
    · subst hx
      rw [unF_end] at h
      cases h
    · rw [unF_plain hx] at h
      obtain ⟨p', h', rfl⟩ := Option.map_eq_some_iff.1 h
      simp [unF] at h'
      subst h'
      exact hb
  | x :: y :: r, p, hb, h => by
    have hr : BYL r := fun b hb' => hb b (by simp [hb'])
    by_cases hx : x = 125
    · subst hx
      by_cases h1 : y = 94
      · subst h1
        rw [unF_94] at h
        obtain ⟨p', h', rfl⟩ := Option.map_eq_some_iff.1 h
        have := unF_byl r p' hr h'
        intro b hb'
        rcases List.mem_cons.1 hb' with q | q
        · omega
        · exact this b q
      · by_cases h2 : y = 93
        · subst h2
          rw [unF_93] at h
          obtain ⟨p', h', rfl⟩ := Option.map_eq_some_iff.1 h
          have := unF_byl r p' hr h'
          intro b hb'
          rcases List.mem_cons.1 hb' with q | q
          · omega
          · exact this b q
        · rw [unF_bad h1 h2] at h
          cases h
    · rw [unF_plain hx] at h
      obtain ⟨p', h', rfl⟩ := Option.map_eq_some_iff.1 h
      have := unF_byl (y :: r) p' (fun b hb' => hb b (List.mem_cons_of_mem _ hb')) h'
      intro b hb'
      rcases List.mem_cons.1 hb' with q | q
      · exact hb b (by simp [q])
      · exact this b q
  termination_by l => l.length
theorem unF_len : ∀ (l p : List Int), unF l = some p → p.length ≤ l.length
  | [], p, h => by simp [unF] at h; subst h; simp
  | [x], p, h => by
    by_cases hx : x = 125
    · subst hx; rw [unF_end] at h; cases h
    · rw [unF_plain hx] at h
      obtain ⟨p', h', rfl⟩ := Option.map_eq_some_iff.1 h
      simp [unF] at h'
      subst h'
      simp
  | x :: y :: r, p, h => by
    by_cases hx : x = 125
    · subst hx
      by_cases h1 : y = 94
      · subst h1
        rw [unF_94] at h
        obtain ⟨p', h', rfl⟩ := Option.map_eq_some_iff.1 h
        have := unF_len r p' h'
        simp only [List.length_cons]; omega
      · by_cases h2 : y = 93
        · subst h2
          rw [unF_93] at h
          obtain ⟨p', h', rfl⟩ := Option.map_eq_some_iff.1 h
          have := unF_len r p' h'
          simp only [List.length_cons]; omega
        · rw [unF_bad h1 h2] at h
          cases h
    · rw [unF_plain hx] at h
      obtain ⟨p', h', rfl⟩ := Option.map_eq_some_iff.1 h
      have := unF_len (y :: r) p' h'
      simp only [List.length_cons] at *; omega
  termination_by l => l.length
theorem bytes_inj {a b : ByteArray} (h : a.toList = b.toList) : a = b := by
  rw [Lib.toList_data, Lib.toList_data] at h
  rw [← Lib.mk_data a, ← Lib.mk_data b, h]
theorem nums_inj : ∀ {L M : List Int}, BYL L → BYL M → strOfNums L = strOfNums M → L = M := by
  intro L M hL hM h
  have h1 : (L.map fun n => UInt8.ofNat n.toNat) = M.map fun n => UInt8.ofNat n.toNat := by
    have := congrArg (fun s => s.data.toList) h
    simpa [strOfNums] using this
  have : ∀ (L M : List Int), BYL L → BYL M → (L.map fun n => UInt8.ofNat n.toNat) = (M.map fun n => UInt8.ofNat n.toNat) → L = M := by
    intro L
    induction L with
    | nil => intro M _ _ h; cases M with
      | nil => rfl
      | cons => simp at h
    | cons x r ih =>
      intro M hL hM h
      cases M with
      | nil => simp at h
      | cons y s =>
        simp only [List.map_cons, List.cons.injEq] at h
        have hx := hL x (by simp)
        have hy := hM y (by simp)
        have e : x.toNat % 256 = y.toNat % 256 := by
          have := congrArg UInt8.toNat h.1
          simpa using this
        rw [ih s (fun b hb => hL b (by simp [hb])) (fun b hb => hM b (by simp [hb])) h.2, show x = y by omega]
  exact this L M hL hM h1
theorem row_str {w : World} {a : Option Addr} {L : List Int} (h : RowIs .u8 w a L) (cap : Nat) : (convert 22 9 (.slice a L.length cap)).run Try.prog w = .ok (.string (strOfNums L)) w := by
  rcases h with rfl | ⟨b, off, rfl, hlt, hc⟩
  · cases a with
    | none => exact run_convert_bytes_nil w 22 5 Try.underlying22 Try.underlying5 _ _ 9 Try.underlying9
    | some a =>
      rw [run_convert_bytes_string w 22 9 5 (some a) _ cap Try.underlying22 Try.underlying5 Try.underlying9]
      rw [run_bytesToString w a _ cap [] (by simp [loadCells]; rfl)]
      rfl
  · exact run_convert_bytes_arg w 22 5 Try.underlying22 Try.underlying5 b off L.length cap L rfl hc 9 Try.underlying9
set_option maxRecDepth 100000 in
set_option maxHeartbeats 4000000 in
theorem bequal (a b : Option Addr) (ca cb : Nat) (L M : List Int) (w : World) (hr : RowIs .u8 w a L) (hs : RowIs .u8 w b M) (bL : BYL L) (bM : BYL M) : Calls Try.prog 65 #[.slice a L.length ca, .slice b M.length cb] w fun e w' => e = .returned (.bool (decide (L = M))) ∧ w = w' := by
  have c1 := row_str hr ca
  have c2 := row_str hs cb
  have e : (decide (L = M)) = ((strOfNums L).toList == (strOfNums M).toList) := by
    by_cases q : L = M
    · subst q; simp
    · rw [decide_eq_false q]; symm; exact beq_eq_false_iff_ne.2 (fun h => q (nums_inj bL bM (bytes_inj h)))
  rw [e]
  clear e
  generalize strOfNums L = s1 at *
  generalize strOfNums M = s2 at *
  go_enter Try.func65, Try.ntmps65
  go_wp2
  go_ret
  exact ⟨by first | rfl | simp, rfl⟩
theorem okP_no {p : List Int} (h : ¬ (3 ≤ p.length ∧ p.length ≤ 66)) : okP p = false := by
  unfold okP
  by_cases h1 : 3 ≤ p.length
  · rw [decide_eq_false (show ¬ p.length ≤ 66 by omega)]; simp
  · rw [decide_eq_false h1]; simp
theorem okP_at {p : List Int} {m : Nat} (hp : BYL p) (hm : p.length = m + 2) (h1 : 1 ≤ m) (h2 : m ≤ 64) : okP p = decide (p.drop m = [((crI (p.take m) / 256 : Nat) : Int), ((crI (p.take m) % 256 : Nat) : Int)]) := by
  have hd : p.drop m = [p.getD m 0, p.getD (m + 1) 0] := by
    rw [drop_at (show m < p.length by omega), drop_at (show m + 1 < p.length by omega), List.drop_eq_nil_of_le (by omega)]
  have b0 := hp.by8 m (by omega)
  have b1 := hp.by8 (m + 1) (by omega)
  have hS := crI_lt (p.take m)
  unfold okP
  rw [hm, show m + 2 - 2 = m by omega, show m + 2 - 1 = m + 1 by omega, decide_eq_true (show 3 ≤ m + 2 by omega), decide_eq_true (show m + 2 ≤ 66 by omega), hd, Bool.true_and, Bool.true_and]
  generalize crI (p.take m) = S at *
  generalize p.getD m 0 = x at *
  generalize p.getD (m + 1) 0 = y at *
  by_cases q : S = (x * 256 + y).toNat
  · rw [decide_eq_true q]
    symm
    refine decide_eq_true ?_
    rw [show x = ((S / 256 : Nat) : Int) by omega, show y = ((S % 256 : Nat) : Int) by omega]
  · rw [decide_eq_false q]
    symm
    refine decide_eq_false fun e => q ?_
    injection e with e1 e2
    injection e2 with e2 _
    omega
theorem rowIs_take {k : IntKind} {w : World} {g o : Nat} {p : List Int} (h : RowIs k w (some ⟨g, o, none⟩) p) (m : Nat) (hm : m ≤ p.length) : RowIs k w (some ⟨g, o, none⟩) (p.take m) := by
  rcases h with rfl | ⟨b, off, e, hlt, hc⟩
  · exact .inl (by simp)
  · exact .inr ⟨b, off, e, hlt, fun i hi => by
      rw [List.length_take] at hi
      rw [hc i (by omega)]
      simp [List.getD, List.getElem?_take, show i < m by omega]⟩
theorem rowIs_drop {k : IntKind} {w : World} {g o : Nat} {p : List Int} (h : RowIs k w (some ⟨g, o, none⟩) p) (m : Nat) (hm : m ≤ p.length) : RowIs k w (some ⟨g, o + m, none⟩) (p.drop m) := by
  rcases h with rfl | ⟨b, off, e, hlt, hc⟩
  · exact .inl (by simp)
  · injection e with e
    injection e with e1 e2
    subst e1 e2
    exact .inr ⟨g, o + m, rfl, hlt, fun i hi => by
      rw [List.length_drop] at hi
      rw [Nat.add_assoc, hc (m + i) (by omega)]
      simp [List.getD, List.getElem?_drop]⟩
/-- What unpack hands back. -/
def UnpE (B : Nat) (r : Option (List Int)) (e : Ending) (w w' : World) : Prop := match r with
  | none => ∃ x, e = .returned (.tuple #[x, .bool false]) ∧ x = .slice none 0 0 ∧ Below B w w'
  | some q => ∃ g o, e = .returned (.tuple #[.slice (some ⟨g, o, none⟩) q.length q.length, .bool true]) ∧ RowIs .u8 w' (some ⟨g, o, none⟩) q ∧ (B ≤ g ∧ g < w'.heap.size) ∧ Below B w w'
set_option maxRecDepth 100000 in
set_option maxHeartbeats 8000000 in
theorem sunpack (a : Option Addr) (cap : Nat) (l : List Int) (w : World) (hr : RowIs .u8 w a l) (hL : l.length ≤ 1000) (hB : BYL l) : Calls Try.prog 61 #[.slice a l.length cap] w fun e w' => UnpE w.heap.size (unP l) e w w' := by
  have U := Lib.hid (sunesc a cap l w hr hL)
  have BY := Lib.hid hB
  obtain ⟨UF, hUF⟩ : ∃ U, unF l = U := ⟨_, rfl⟩
  have HU := Lib.hid hUF
  rw [hUF] at U
  unfold unP
  rw [hUF]
  clear hr
  obtain ⟨B, eB⟩ : ∃ B, w.heap.size = B := ⟨_, rfl⟩
  rw [eB] at U ⊢
  have EB := Lib.hid eB
  clear eB
  cases UF with
  | none =>
    replace U := Lib.hid U
    go_enter Try.func61, Try.ntmps61
    go_wp2_with fail
    refine U.out.out.mono ?_
    rintro e w1 ⟨x', rfl, hO, hb⟩
    obtain ⟨a9, c9, e9, -, -, -, -⟩ := hO.rowIs
    have e9 : x' = .slice a9 0 c9 := e9
    subst e9
    replace hb := Lib.hid hb
    clear hO
    go_wp2
    go_ret2
    exact ⟨_, rfl, rfl, hb.out⟩
  | some p =>
    show Calls Try.prog 61 #[.slice a l.length cap] w fun e w' => UnpE B (if okP p = true then some (p.take (p.length - 2)) else none) e w w'
    have PL := unF_len l p hUF
    have PB := Lib.hid (unF_byl l p hB hUF)
    clear hUF
    obtain ⟨n, en⟩ : ∃ n, p.length = n := ⟨_, rfl⟩
    have EN := Lib.hid en
    have n0 : (n : Int) ≤ 1000 := by omega
    have s1 : IntKind.i64.wrap ((n : Int) - 2) = (n : Int) - 2 := by rw [IntKind.wrap_i64]; omega
    by_cases hr : 3 ≤ n ∧ n ≤ 66
    · obtain ⟨m, em⟩ : ∃ m, n = m + 2 := ⟨n - 2, by omega⟩
      have s2 : IntKind.i64.wrap ((n : Int) - 2) = (m : Int) := by rw [IntKind.wrap_i64]; omega
      clear s1
      have t1 : decide ((m : Int) < 1) = false := decide_eq_false (by omega)
      have t2 : decide ((64 : Int) < (m : Int)) = false := decide_eq_false (by omega)
      have t3 : (0 : Int) ≤ (m : Int) := by omega
      have t4 : (m : Int) ≤ (n : Int) := by omega
      have EM := Lib.hid em
      have M2 := Lib.hid (show 1 ≤ m ∧ m ≤ 64 by omega)
      have OK := Lib.hid (show okP p = decide (p.drop m = [((crI (p.take m) / 256 : Nat) : Int), ((crI (p.take m) % 256 : Nat) : Int)]) from okP_at PB.out (by rw [en, em]) (by omega) (by omega))
      rw [en, show n - 2 = m by omega]
      obtain ⟨R, eR⟩ : ∃ R, (if okP p = true then some (p.take m) else none) = R := ⟨_, rfl⟩
      rw [eR]
      replace eR := Lib.hid eR
      clear en em hr PL
      replace U := Lib.hid U
      go_enter Try.func61, Try.ntmps61
      go_wp2_with fail
      refine U.out.out.mono ?_
      rintro e w1 ⟨x', rfl, hO, hb⟩
      have hO : Og 5 B x' (nvals .u8 p) w1 := hO
      obtain ⟨a9, c9, e9, hc9, hr9, hn9, hs9⟩ := hO.rowIs
      cases a9 with
      | none => have := (hn9 rfl).1; subst this; have := EN.out; have := M2.out; have := EM.out; simp at *; omega
      | some a9 =>
        obtain ⟨g, o, sp⟩ := a9
        obtain ⟨h1, h2⟩ := hs9 _ rfl
        have h1 : sp = none := h1
        subst h1
        have h2 : B ≤ g := h2
        have hg := (hO.lt (g := g) (by rw [e9]; rfl)).2
        rw [EN.out] at e9 hc9
        have t5 : (m : Int) ≤ (c9 : Int) := by omega
        have t6 : (n : Int) ≤ (c9 : Int) := by omega
        have t7 : ¬ c9 = m := by have := EM.out; omega
        have t8 : c9 - m ≠ 0 := by have := EM.out; omega
        have t9 : n - m = 2 := by have := EM.out; omega
        have hT := rowIs_take hr9 m (by have := EN.out; have := EM.out; omega)
        have hD := rowIs_drop hr9 m (by have := EN.out; have := EM.out; omega)
        have LT : (p.take m).length = m := by rw [List.length_take, EN.out]; have := EM.out; omega
        have LD : (p.drop m).length = 2 := by rw [List.length_drop, EN.out]; have := EM.out; omega
        have TS := fun cp => tsum (some ⟨g, o, none⟩) cp (p.take m) w1 hT (by rw [LT]; have := M2.out; unfold maxLen; omega) (BYL.by8 (fun b hb => PB.out b (List.mem_of_mem_take hb)))
        rw [LT] at TS
        replace TS := Lib.hid TS
        have SLT := crI_lt (p.take m)
        generalize crI (p.take m) = S at *
        obtain ⟨y0, ey0⟩ : ∃ y : Nat, y = S / 256 := ⟨_, rfl⟩
        obtain ⟨y1, ey1⟩ : ∃ y : Nat, y = S % 256 := ⟨_, rfl⟩
        have j1 : (S : Int) / 256 = (y0 : Int) := by omega
        have j2 : IntKind.u8.wrap (y0 : Int) = (y0 : Int) := by rw [IntKind.wrap_u8]; omega
        have j3 : IntKind.u8.wrap (S : Int) = (y1 : Int) := by rw [IntKind.wrap_u8]; omega
        rw [← ey0, ← ey1] at OK
        have hA := (Below.refl w1.heap.size w1).alloc (Nat.le_refl _) (.cells #[.int .u8 (y0 : Int), .int .u8 (y1 : Int)] 5)
        obtain ⟨aN, cN, eN, -, hrN, -, -⟩ := (show Og 5 w1.heap.size (.slice (some ⟨w1.heap.size, 0, none⟩) 2 2) (nvals .u8 [(y0 : Int), (y1 : Int)]) (w1.alloc (.cells #[.int .u8 (y0 : Int), .int .u8 (y1 : Int)] 5)) from Og.new 5 w1 [.int .u8 (y0 : Int), .int .u8 (y1 : Int)]).rowIs
        injection eN with eN1 eN2 eN3
        subst eN1
        have EQ := fun ca => bequal (some ⟨g, o + m, none⟩) (some ⟨w1.heap.size, 0, none⟩) ca 2 (p.drop m) [(y0 : Int), (y1 : Int)] _ (hD.below hA) hrN (fun b hb => PB.out b (List.mem_of_mem_drop hb)) (fun b hb => by simp at hb; omega)
        rw [LD] at EQ
        rw [← OK.out] at EQ
        replace EQ := Lib.hid EQ
        have RT := Lib.hid (hT.below hA)
        have HB9 := Lib.hid (hb.trans (hA.mono (by have := hb.size; have := EB.out; omega)))
        have HG := Lib.hid (show B ≤ g ∧ g < (w1.alloc (.cells #[.int .u8 (y0 : Int), .int .u8 (y1 : Int)] 5)).heap.size from ⟨h2, by simp; omega⟩)
        clear hO hr9 hn9 hs9 hT hD SLT ey0 ey1 hA hrN hb h2 hg
        subst e9
        go_wp2_with fail
        refine (TS.out _).mono ?_
        rintro e w2 ⟨rfl, rfl⟩
        clear TS
        go_wp2_with fail
        refine (EQ.out _).mono ?_
        rintro e w3 ⟨rfl, rfl⟩
        clear EQ
        cases hk : okP p with
        | true =>
          clear OK
          obtain rfl : R = some (p.take m) := by rw [← eR.out, if_pos hk]
          clear eR hk
          go_wp2
          go_ret2
          exact ⟨g, o, (by show Ending.returned (.tuple #[.slice (some ⟨g, o, none⟩) m m, .bool true]) = Ending.returned (.tuple #[.slice (some ⟨g, o, none⟩) (p.take m).length (p.take m).length, .bool true]); rw [LT]), RT.out, HG.out, HB9.out⟩
        | false =>
          clear OK
          obtain rfl : R = none := by rw [← eR.out, if_neg (by rw [hk]; decide)]
          clear eR hk
          go_wp2
          go_ret2
          exact ⟨_, rfl, rfl, HB9.out⟩
    · have hk : okP p = false := okP_no (by omega)
      rw [hk]
      replace U := Lib.hid U
      have tt : ((n : Int) - 2 < 1) ∨ (¬ (n : Int) - 2 < 1 ∧ 64 < (n : Int) - 2) := by omega
      clear hk hr en PL
      rcases tt with t1 | ⟨t1, t2⟩
      · go_enter Try.func61, Try.ntmps61
        go_wp2_with fail
        refine U.out.out.mono ?_
        rintro e w1 ⟨x', rfl, hO, hb⟩
        have hO : Og 5 B x' (nvals .u8 p) w1 := hO
        obtain ⟨a9, c9, e9, hc9, -, -, -⟩ := hO.rowIs
        rw [EN.out] at e9
        replace hb := Lib.hid hb
        clear hO hc9
        subst e9
        go_wp2
        go_ret2
        exact ⟨_, rfl, rfl, hb.out⟩
      · go_enter Try.func61, Try.ntmps61
        go_wp2_with fail
        refine U.out.out.mono ?_
        rintro e w1 ⟨x', rfl, hO, hb⟩
        have hO : Og 5 B x' (nvals .u8 p) w1 := hO
        obtain ⟨a9, c9, e9, hc9, -, -, -⟩ := hO.rowIs
        rw [EN.out] at e9
        replace hb := Lib.hid hb
        clear hO hc9
        subst e9
        go_wp2
        go_ret2
        exact ⟨_, rfl, rfl, hb.out⟩
end Go.Proofs.Ytpcbnoefgknihaa
