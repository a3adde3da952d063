/- The law ClimbRates; walked. -/
import Derived.Test.YtflcagcekhgjcaaClimb5
import Derived.Test.YtflcagcekhgjcaaOw
import Derived.Deep.Cut
namespace Go.Proofs.Ytflcagcekhgjcaa
open Go.ChangeShapes Go.WideShapes Go.ChangeAt Go.RowKit
set_option linter.unusedVariables false
set_option linter.unusedSimpArgs false

/-- The meter's heights lie in block A or behind it. -/
def MtF (b : Nat) (sz : Int) (L : List Int) (A : Nat) (w : World) : Prop := ∃ ao : Option Addr, Held b [.int .i64 sz, .slice ao L.length L.length] w ∧ RowIs .i64 w ao L ∧ (ao = none → L = []) ∧ ∀ x, ao = some x → A ≤ x.block
set_option maxRecDepth 100000 in
set_option maxHeartbeats 8000000 in
theorem cmput2 {b : Nat} {sz : Int} {L : List Int} (h : Int) (w : World) (hM : Mt b sz L w) : Calls Try.prog 36 #[.pointer (some ⟨b, 0, none⟩), .int .i64 h] w fun e w' => e = .returned (.tuple #[]) ∧ Mt b sz (mtN sz L h) w' ∧ Beside b w w' ∧ MtF b sz (mtN sz L h) w.heap.size w' := by
  obtain ⟨i0, hi, hz0, hz1, hz2⟩ := info_partsH info_h
  replace hi := Lib.hid hi
  replace hz0 := Lib.hid hz0
  replace hz1 := Lib.hid hz1
  replace hz2 := Lib.hid hz2
  have hl := hM.len
  have s1 := hM.s1
  have s2 := hM.s2
  have hbd := hM.bd
  obtain ⟨ao, hh, hr, hn⟩ := hM.ex
  have hlt := hh.lt
  have HOLD : ∀ x, ao = some x → ∀ j u, (hvals L)[j]? = some u → (w.alloc (.cells #[.int .i64 (cmH h)] 2)).cell? (x.add j) = some u := by
    intro x hx j u hu
    rcases hr with rfl | ⟨g, off, e, hgl, hc⟩
    · simp [hvals] at hu
    · rw [e] at hx
      injection hx with hx
      subst hx
      have hj : j < L.length := by
        have := List.getElem?_eq_some_iff.1 hu
        obtain ⟨a, _⟩ := this
        simpa [hvals] using a
      rw [hvals_at hj] at hu
      injection hu with hu
      subst hu
      rw [addr_off]
      exact (((Below.refl w.heap.size w).alloc (Nat.le_refl _) _).cell (p := ⟨g, off + j, none⟩) hgl).trans (hc j hj)
  have HN : ao = none → L.length = 0 ∧ L.length = 0 := fun e => by rw [hn e]; exact ⟨rfl, rfl⟩
  have HL : (hvals L).length = L.length * 1 := by simp [hvals]
  have NL := Lib.hid (mtN_len h s1 hl)
  have NB : ∀ i, i < (mtN sz L h).length → -100000000 ≤ (mtN sz L h).getD i 0 ∧ (mtN sz L h).getD i 0 ≤ 100000000 := fun i hi => by
    rw [mtN_at h hi]
    split
    · exact hbd _ (by assumption)
    · exact cmH_bd h
  obtain ⟨n, en⟩ : ∃ n, n = L.length := ⟨_, rfl⟩
  have hc0 := hh.c 0 _ rfl
  have hc1 := hh.c 1 _ rfl
  have hf1 := hh.f 1 (by simp)
  have K := Lib.hid (fun w2 (q : (w.alloc (.cells #[.int .i64 (cmH h)] 2)).grownBy w2 none) => show Below w.heap.size w w2 from ((Below.refl w.heap.size w).alloc (Nat.le_refl _) _).trans ⟨q.os, q.tape, q.output, q.size, fun k hk => q.block k (by simp; omega) (by simp)⟩)
  replace HOLD := Lib.hid HOLD
  replace HN := Lib.hid HN
  replace HL := Lib.hid HL
  replace NB := Lib.hid NB
  replace hh := Lib.hid hh
  replace hlt := Lib.hid hlt
  clear hbd hr hn hM
  have n64 : L.length ≤ 65 := by omega
  have q1 : IntKind.i64.wrap (((L.length + 1 : Nat) : Int) - sz) = (L.length : Int) + 1 - sz := by rw [IntKind.wrap_i64]; omega
  have q1' : IntKind.i64.wrap ((L.length : Int) + 1 - sz) = (L.length : Int) + 1 - sz := by rw [IntKind.wrap_i64]; omega
  have q2 : IntKind.i64.wrap ((L.length : Int) + 1 - sz - 1) = (L.length : Int) - sz := by rw [IntKind.wrap_i64]; omega
  obtain ⟨m, em⟩ : ∃ m, m = (if h < -100000000 then (-100000000 : Int) else h) := ⟨_, rfl⟩
  obtain ⟨c, ec⟩ : ∃ c, c = cmH h := ⟨_, rfl⟩
  have w1 : (if h < -100000000 then (-100000000 : Int) else h) = m := em.symm
  have w2 : (if 100000000 < m then (100000000 : Int) else m) = c := by rw [ec]; unfold cmH; omega
  have hvs := hvals_snoc L c
  have MT := Lib.hid (show mtN sz L h = (L ++ [c]).drop (L.length + 1 - (sz.toNat + 1)) from by rw [ec]; rfl)
  rw [← ec] at HOLD K
  clear em ec
  rcases (show (L.length : Int) ≤ sz ∨ (L.length : Int) = sz + 1 by omega) with hc | hc
  · have q3 : (if (L.length : Int) - sz < 0 then (0 : Int) else (L.length : Int) - sz) = 0 := by omega
    go_enter Try.func36, Try.ntmps36
    go_upto_region 2 with (first | (at_builtin; refine wpList_append_grows _ rfl (.tmp 12) (.tmp 16) _ rfl 2 i0 (.int .i64 0) 1 8 Try.underlying63 hi.out hz0.out hz1.out hz2.out rfl (by decide) ao L.length L.length (hvals L) rfl HN.out HL.out HOLD.out ⟨_, 0, none⟩ 1 1 [.int .i64 c] rfl rfl (new_oneH _ _ _) (one_intH _ _) (by omega) (by unfold maxLen; omega) (by omega) ?_; intro v' w9 ho hg; obtain ⟨g, cap, rfl, hge, hglt⟩ := ho.form (by omega); rw [hvs] at ho; have hb9 := K.out _ hg; replace ho := Lib.hid ho; clear hg))
    have hH9 := hh.out.bel hb9
    have hcp : L.length + 1 ≤ cap := by
      rcases ho.out.2 with ⟨e, _⟩ | ⟨g', cap', cur, e, _, _, hle, _⟩
      · cases e
      · injection e with e1 e2 e3
        omega
    have hgb : w.heap.size ≤ g := by simp at hge; omega
    have hgne : b ≠ g := by have := hlt.out; omega
    obtain ⟨u0, f0⟩ := hH9.one 0 rfl
    obtain ⟨u1, f1⟩ := hH9.one 1 rfl
    have hcpI : (L.length : Int) + 1 ≤ (cap : Int) := by omega
    have hH10 := Lib.hid (hH9.set 1 (.slice (some ⟨g, 0, none⟩) (mtN sz L h).length (mtN sz L h).length) (by simp))
    have bs10 := Lib.hid ((Beside.of_below (b := b) hb9).setCell (p := ⟨b, 1, none⟩) (.slice (some ⟨g, 0, none⟩) (mtN sz L h).length (mtN sz L h).length))
    have hrow : RowIs .i64 w9 (some ⟨g, 0, none⟩) (mtN sz L h) := .inr ⟨g, 0, rfl, hglt, fun i hi => by
      have hln := NL.out
      rw [hln] at hi
      have hi2 : i + 0 < L.length + 1 := by split at hi <;> omega
      have q := ho.out.cellAt (0 + i) (by omega)
      rw [q, hvals_at (by rw [List.length_append]; show 0 + i < L.length + 1; omega), MT.out]
      simp only [List.getD, List.getElem?_drop]
      rw [show L.length + 1 - (sz.toNat + 1) = 0 by omega]⟩
    have hlen2 : (mtN sz L h).length = L.length + 1 := by rw [NL.out]; split <;> omega
    have hrow2 := Lib.hid (hrow.onlyH ((Only.refl b w9).setCell (p := ⟨b, 1, none⟩) (.slice (some ⟨g, 0, none⟩) (mtN sz L h).length (mtN sz L h).length)) (fun x hx => by injection hx with hx; subst hx; exact fun e => hgne e.symm))
    have hle := Lib.hid (show ((mtN sz L h).length : Int) ≤ sz + 1 from by rw [hlen2]; omega)
    rw [hlen2] at hH10 bs10 hrow2
    replace hlen2 := Lib.hid hlen2
    replace hgb := Lib.hid hgb
    clear hrow hH9 hb9 hge
    go_wp2
    go_end0
    refine ⟨rfl, ⟨⟨some ⟨g, 0, none⟩, ?_, ?_, fun e => by cases e⟩, hle.out, s1, s2, NB.out⟩, ?_, some ⟨g, 0, none⟩, ?_, ?_, (fun e => by cases e), fun x hx => by injection hx with hx; subst hx; exact hgb.out⟩
    · rw [hlen2.out]; exact hH10.out
    · exact hrow2.out
    · exact bs10.out
    · rw [hlen2.out]; exact hH10.out
    · exact hrow2.out
  · have q2' : (L.length : Int) - sz = 1 := by omega
    have q3 : (if (1 : Int) < 0 then (0 : Int) else 1) = 1 := by decide
    have hc' : sz + 1 ≤ (L.length : Int) := by omega
    have hz1' : 0 < L.length := by omega
    have hz2' : L ≠ [] := List.ne_nil_of_length_pos hz1'
    have hz3' : L.length ≠ 0 := by omega
    clear hc
    go_enter Try.func36, Try.ntmps36
    go_upto_region 2 with (first | (at_builtin; refine wpList_append_grows _ rfl (.tmp 12) (.tmp 16) _ rfl 2 i0 (.int .i64 0) 1 8 Try.underlying63 hi.out hz0.out hz1.out hz2.out rfl (by decide) ao L.length L.length (hvals L) rfl HN.out HL.out HOLD.out ⟨_, 0, none⟩ 1 1 [.int .i64 c] rfl rfl (new_oneH _ _ _) (one_intH _ _) (by omega) (by unfold maxLen; omega) (by omega) ?_; intro v' w9 ho hg; obtain ⟨g, cap, rfl, hge, hglt⟩ := ho.form (by omega); rw [hvs] at ho; have hb9 := K.out _ hg; replace ho := Lib.hid ho; clear hg))
    have hH9 := hh.out.bel hb9
    have hcp : L.length + 1 ≤ cap := by
      rcases ho.out.2 with ⟨e, _⟩ | ⟨g', cap', cur, e, _, _, hle, _⟩
      · cases e
      · injection e with e1 e2 e3
        omega
    have hgb : w.heap.size ≤ g := by simp at hge; omega
    have hgne : b ≠ g := by have := hlt.out; omega
    obtain ⟨u0, f0⟩ := hH9.one 0 rfl
    obtain ⟨u1, f1⟩ := hH9.one 1 rfl
    have hcpI : (L.length : Int) + 1 ≤ (cap : Int) := by omega
    have hH10 := Lib.hid (hH9.set 1 (.slice (some ⟨g, 1, none⟩) (mtN sz L h).length (mtN sz L h).length) (by simp))
    have bs10 := Lib.hid ((Beside.of_below (b := b) hb9).setCell (p := ⟨b, 1, none⟩) (.slice (some ⟨g, 1, none⟩) (mtN sz L h).length (mtN sz L h).length))
    have hrow : RowIs .i64 w9 (some ⟨g, 1, none⟩) (mtN sz L h) := .inr ⟨g, 1, rfl, hglt, fun i hi => by
      have hln := NL.out
      rw [hln] at hi
      have hi2 : i + 1 < L.length + 1 := by split at hi <;> omega
      have q := ho.out.cellAt (1 + i) (by omega)
      rw [q, hvals_at (by rw [List.length_append]; show 1 + i < L.length + 1; omega), MT.out]
      simp only [List.getD, List.getElem?_drop]
      rw [show L.length + 1 - (sz.toNat + 1) = 1 by omega]⟩
    have hlen2 : (mtN sz L h).length = L.length := by rw [NL.out]; split <;> omega
    have hrow2 := Lib.hid (hrow.onlyH ((Only.refl b w9).setCell (p := ⟨b, 1, none⟩) (.slice (some ⟨g, 1, none⟩) (mtN sz L h).length (mtN sz L h).length)) (fun x hx => by injection hx with hx; subst hx; exact fun e => hgne e.symm))
    have hle := Lib.hid (show ((mtN sz L h).length : Int) ≤ sz + 1 from by rw [hlen2]; omega)
    rw [hlen2] at hH10 bs10 hrow2
    replace hlen2 := Lib.hid hlen2
    replace hgb := Lib.hid hgb
    clear hrow hH9 hb9 hge
    go_wp2
    go_end0
    refine ⟨rfl, ⟨⟨some ⟨g, 1, none⟩, ?_, ?_, fun e => by cases e⟩, hle.out, s1, s2, NB.out⟩, ?_, some ⟨g, 1, none⟩, ?_, ?_, (fun e => by cases e), fun x hx => by injection hx with hx; subst hx; exact hgb.out⟩
    · rw [hlen2.out]; exact hH10.out
    · exact hrow2.out
    · exact bs10.out
    · rw [hlen2.out]; exact hH10.out
    · exact hrow2.out

/-- The local row appended to: the meter is as it was. -/
theorem Mt.aside {b A B : Nat} {sz : Int} {L : List Int} {x : Value} {w w' : World} (m : Mt b sz L w) (h : MtF b sz L A w) (k : OwK x w w') (hx : ∀ g, owB x = some g → B ≤ g ∧ g < A) (hb : b < B) : Mt b sz L w' := by
  obtain ⟨ao, hh, hr, hn, hA⟩ := h
  refine ⟨⟨ao, ?_, ?_, hn⟩, m.len, m.s1, m.s2, m.bd⟩
  · have e := k.block b hh.lt (fun e => by have := (hx _ e).1; omega)
    exact ⟨Nat.lt_of_lt_of_le hh.lt k.size, fun i v hv => (World.cell?_of_block (a := ⟨b, i, none⟩) e).trans (hh.c i v hv), fun i hi => (World.frozen?_of_block (a := ⟨b, i, none⟩) e).trans (hh.f i hi)⟩
  · rcases hr with rfl | ⟨g, off, rfl, hg, hc⟩
    · exact .inl rfl
    · have e := k.block g hg (fun e => by have := (hx _ e).2; have := hA _ rfl; simp at this; omega)
      exact .inr ⟨g, off, rfl, Nat.lt_of_lt_of_le hg k.size, fun i hi => (World.cell?_of_block (a := ⟨g, off + i, none⟩) e).trans (hc i hi)⟩
theorem c19 (h : Int) (w : World) : Calls Try.prog 43 #[.int .i64 h] w fun e w' => e = .returned (.int .i64 (cmH h)) ∧ w = w' := by
  have C := fun u => c09_any h (-100000000) 100000000 (by omega) u
  rw [show c09 h (-100000000) 100000000 = cmH h from by unfold c09 cmH; omega] at C
  replace C := Lib.hid C
  go_enter Try.func43, Try.ntmps43
  go_wp2_with fail
  refine (C.out _).mono ?_
  rintro e w1 ⟨rfl, rfl⟩
  go_wp2
  go_ret
  exact ⟨rfl, rfl⟩
theorem cabs (n : Int) (w : World) (h : -4611686018427387904 ≤ n) : Calls Try.prog 44 #[.int .i64 n] w fun e w' => e = .returned (.int .i64 (if n < 0 then -n else n)) ∧ w = w' := by
  have hw : n < 0 → IntKind.i64.wrap (-n) = -n := fun h1 => IntWalk.i64_in _ ⟨by omega, by omega⟩
  rcases (show n < 0 ∨ 0 ≤ n by omega) with h1 | h1
  · have hw := hw h1
    rw [if_pos h1]
    go_enter Try.func44, Try.ntmps44
    go_wp2
    go_ret
    exact ⟨rfl, rfl⟩
  · clear hw
    rw [if_neg (by omega)]
    go_enter Try.func44, Try.ntmps44
    go_wp2
    go_ret
    exact ⟨rfl, rfl⟩
theorem tdiv_floor {a b : Int} (hb : 0 < b) : a / b = if a.tmod b < 0 then a.tdiv b - 1 else a.tdiv b := by
  have e := Int.mul_tdiv_add_tmod a b
  have h1 := Int.tmod_lt_of_pos a hb
  have h2 : -b < a.tmod b := by
    have := Int.natAbs_tmod a b
    have h3 : (a.tmod b).natAbs < b.natAbs := by
      rw [this]
      exact Nat.mod_lt _ (by omega)
    omega
  split
  · rename_i h
    refine ediv_is hb (r := a.tmod b + b) ?_ (by omega) (by omega)
    rw [Int.mul_sub, Int.mul_one]
    omega
  · rename_i h
    exact ediv_is hb (r := a.tmod b) e (by omega) (by omega)
set_option maxRecDepth 100000 in
set_option maxHeartbeats 8000000 in
theorem fl01 (a b : Int) (w : World) (hb : 0 < b) (ha1 : -1000000000000000 ≤ a) (ha2 : a ≤ 1000000000000000) : Calls Try.prog 45 #[.int .i64 a, .int .i64 b] w fun e w' => e = .returned (.int .i64 (a / b)) ∧ w = w' := by
  have q := tdiv_floor (a := a) hb
  have q2 : -1000000000000000 ≤ a.tdiv b ∧ a.tdiv b ≤ 1000000000000000 := by
    have h1 : (a.tdiv b).natAbs ≤ a.natAbs := by
      rw [Int.natAbs_tdiv]
      exact Nat.div_le_self _ _
    omega
  generalize hd : a.tdiv b = d at *
  generalize hm : a.tmod b = m at *
  have n1 : wrap64 d = d := by unfold wrap64; omega
  have n1' : IntKind.i64.wrap d = d := by rw [IntKind.wrap_i64]; omega
  have n2 : IntKind.i64.wrap (d - 1) = d - 1 := by rw [IntKind.wrap_i64]; omega
  have nb : b ≠ 0 := by omega
  rcases (show m < 0 ∨ 0 ≤ m by omega) with h | h
  · rw [if_pos h] at q
    rw [q]
    clear q q2
    go_enter Try.func45, Try.ntmps45
    go_wp2
    go_ret
    exact ⟨rfl, rfl⟩
  · rw [if_neg (by omega)] at q
    rw [q]
    clear q q2
    go_enter Try.func45, Try.ntmps45
    go_wp2
    go_ret
    exact ⟨rfl, rfl⟩
set_option maxRecDepth 100000 in
set_option maxHeartbeats 8000000 in
theorem cmreset {b : Nat} {sz : Int} {L : List Int} (w : World) (h : Mt b sz L w) : Calls Try.prog 37 #[.pointer (some ⟨b, 0, none⟩)] w fun e w' => e = .returned (.tuple #[]) ∧ Mt b sz [] w' ∧ Beside b w w' := by
  obtain ⟨ao, hh, hr, hn⟩ := h.ex
  have s1 := h.s1
  have s2 := h.s2
  have hH := Lib.hid (hh.set 1 (.slice none 0 0) (by simp))
  have bs := Lib.hid ((Beside.of_only (Only.refl b w)).setCell (p := ⟨b, 1, none⟩) (.slice none 0 0))
  obtain ⟨c1, f1⟩ := hh.one 1 rfl
  clear hh hr hn h
  go_enter Try.func37, Try.ntmps37
  go_wp2
  go_end0
  exact ⟨rfl, ⟨⟨none, hH.out, .inl rfl, fun _ => rfl⟩, by show (0 : Int) ≤ sz + 1; omega, s1, s2, fun i hi => absurd hi (Nat.not_lt_zero _)⟩, bs.out⟩
end Go.Proofs.Ytflcagcekhgjcaa
