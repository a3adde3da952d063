/- A meter's Put; the chapter's example; walked. -/
import Derived.Test.YtflcagcekhgjcaaClimb2
import Derived.Deep.Cut
namespace Go.Proofs.Ytflcagcekhgjcaa
open Go.ChangeShapes Go.WideShapes Go.ChangeAt Go.RowKit
set_option linter.unusedVariables false
set_option linter.unusedSimpArgs false

/-- A height that may be. -/
def cmH (h : Int) : Int := min (max h (-100000000)) 100000000
theorem cmH_bd (h : Int) : -100000000 ≤ cmH h ∧ cmH h ≤ 100000000 := by unfold cmH; omega
/-- The heights behind another one. -/
def mtN (sz : Int) (L : List Int) (h : Int) : List Int := (L ++ [cmH h]).drop (L.length + 1 - (sz.toNat + 1))
theorem mtN_len {sz : Int} {L : List Int} (h : Int) (s1 : 1 ≤ sz) (hl : (L.length : Int) ≤ sz + 1) : (mtN sz L h).length = if (L.length : Int) ≤ sz then L.length + 1 else L.length := by
  unfold mtN
  rw [List.length_drop, List.length_append]
  show L.length + 1 - (L.length + 1 - (sz.toNat + 1)) = _
  split <;> omega
theorem mtN_at {sz : Int} {L : List Int} (h : Int) {i : Nat} (hi : i < (mtN sz L h).length) : (mtN sz L h).getD i 0 = if i + (L.length + 1 - (sz.toNat + 1)) < L.length then L.getD (i + (L.length + 1 - (sz.toNat + 1))) 0 else cmH h := by
  unfold mtN at hi ⊢
  generalize L.length + 1 - (sz.toNat + 1) = k at *
  rw [List.length_drop, List.length_append] at hi
  have hi' : i + k < L.length + 1 := by
    have : i < L.length + 1 - k := hi
    omega
  simp only [List.getD, List.getElem?_drop]
  rw [Nat.add_comm k i]
  split
  · rw [List.getElem?_append_left (by assumption)]
  · rw [show i + k = L.length by omega, List.getElem?_append_right (Nat.le_refl _)]
    simp
theorem RowIs.onlyH {k : IntKind} {w w' : World} {a : Option Addr} {l : List Int} {b : Nat} (h : RowIs k w a l) (q : Only b w w') (hne : ∀ x, a = some x → x.block ≠ b) : RowIs k w' a l := by
  rcases h with rfl | ⟨blk, off, rfl, hlt, hc⟩
  · exact .inl rfl
  · exact .inr ⟨blk, off, rfl, by rw [q.size]; exact hlt, fun i hi => (q.cell (p := ⟨blk, off + i, none⟩) (show blk ≠ b from hne ⟨blk, off, none⟩ rfl)).trans (hc i hi)⟩
theorem new_oneH (w : World) (v : Value) (t : TypeId) : ∀ j u, [v][j]? = some u → (w.alloc (.cells #[v] t)).cell? ((⟨w.heap.size, 0, none⟩ : Addr).add j) = some u := by
  intro j u hu
  rcases j with _ | j
  · simp at hu
    subst hu
    rw [show (⟨w.heap.size, 0, none⟩ : Addr).add 0 = ⟨w.heap.size, 0, none⟩ by simp [Addr.add]]
    go_simp
  · simp at hu
theorem one_intH (k : IntKind) (n : Int) : ∀ u ∈ [Value.int k n], u.oneCell' = true := fun u hu => by simp at hu; subst hu; rfl
theorem info_h : (Try.prog.info? 2).map (fun i => (i.zero, i.size, i.bytes)) = some (some (.int .i64 0), 1, 8) := by kernel_rfl
theorem info_partsH {t : TypeId} {z : Value} {n b : Nat} (h : (Try.prog.info? t).map (fun i => (i.zero, i.size, i.bytes)) = some (some z, n, b)) : ∃ i, Try.prog.info? t = some i ∧ i.zero = some z ∧ i.size = n ∧ i.bytes = b := by
  cases e : Try.prog.info? t with
  | none => rw [e] at h; cases h
  | some i =>
    rw [e] at h
    injection h with h
    injection h with h1 h
    injection h with h2 h3
    exact ⟨i, rfl, h1, h2, h3⟩
set_option maxRecDepth 100000 in
set_option maxHeartbeats 8000000 in
theorem cmput {b : Nat} {sz : Int} {L : List Int} (h : Int) (w : World) (hM : Mt b sz L w) : Calls Try.prog 36 #[.pointer (some ⟨b, 0, none⟩), .int .i64 h] w fun e w' => e = .returned (.tuple #[]) ∧ Mt b sz (mtN sz L h) w' ∧ Beside b w w' := by
  obtain ⟨i0, hi, hz0, hz1, hz2⟩ := info_partsH info_h
  replace hi := Lib.hid hi
  replace hz0 := Lib.hid hz0
  replace hz1 := Lib.hid hz1
  replace hz2 := Lib.hid hz2
  have hl := hM.len
  have s1 := hM.s1
  have s2 := hM.s2
  have hbd := hM.bd
  obtain ⟨ao, hh, hr, hn⟩ := hM.ex
  have hlt := hh.lt
  have HOLD : ∀ x, ao = some x → ∀ j u, (hvals L)[j]? = some u → (w.alloc (.cells #[.int .i64 (cmH h)] 2)).cell? (x.add j) = some u := by
    intro x hx j u hu
    rcases hr with rfl | ⟨g, off, e, hgl, hc⟩
    · simp [hvals] at hu
    · rw [e] at hx
      injection hx with hx
      subst hx
      have hj : j < L.length := by
        have := List.getElem?_eq_some_iff.1 hu
        obtain ⟨a, _⟩ := this
        simpa [hvals] using a
      rw [hvals_at hj] at hu
      injection hu with hu
      subst hu
      rw [addr_off]
      exact (((Below.refl w.heap.size w).alloc (Nat.le_refl _) _).cell (p := ⟨g, off + j, none⟩) hgl).trans (hc j hj)
  have HN : ao = none → L.length = 0 ∧ L.length = 0 := fun e => by rw [hn e]; exact ⟨rfl, rfl⟩
  have HL : (hvals L).length = L.length * 1 := by simp [hvals]
  have NL := Lib.hid (mtN_len h s1 hl)
  have NB : ∀ i, i < (mtN sz L h).length → -100000000 ≤ (mtN sz L h).getD i 0 ∧ (mtN sz L h).getD i 0 ≤ 100000000 := fun i hi => by
    rw [mtN_at h hi]
    split
    · exact hbd _ (by assumption)
    · exact cmH_bd h
  obtain ⟨n, en⟩ : ∃ n, n = L.length := ⟨_, rfl⟩
  have hc0 := hh.c 0 _ rfl
  have hc1 := hh.c 1 _ rfl
  have hf1 := hh.f 1 (by simp)
  have K := Lib.hid (fun w2 (q : (w.alloc (.cells #[.int .i64 (cmH h)] 2)).grownBy w2 none) => show Below w.heap.size w w2 from ((Below.refl w.heap.size w).alloc (Nat.le_refl _) _).trans ⟨q.os, q.tape, q.output, q.size, fun k hk => q.block k (by simp; omega) (by simp)⟩)
  replace HOLD := Lib.hid HOLD
  replace HN := Lib.hid HN
  replace HL := Lib.hid HL
  replace NB := Lib.hid NB
  replace hh := Lib.hid hh
  replace hlt := Lib.hid hlt
  clear hbd hr hn hM
  have n64 : L.length ≤ 65 := by omega
  have q1 : IntKind.i64.wrap (((L.length + 1 : Nat) : Int) - sz) = (L.length : Int) + 1 - sz := by rw [IntKind.wrap_i64]; omega
  have q1' : IntKind.i64.wrap ((L.length : Int) + 1 - sz) = (L.length : Int) + 1 - sz := by rw [IntKind.wrap_i64]; omega
  have q2 : IntKind.i64.wrap ((L.length : Int) + 1 - sz - 1) = (L.length : Int) - sz := by rw [IntKind.wrap_i64]; omega
  obtain ⟨m, em⟩ : ∃ m, m = (if h < -100000000 then (-100000000 : Int) else h) := ⟨_, rfl⟩
  obtain ⟨c, ec⟩ : ∃ c, c = cmH h := ⟨_, rfl⟩
  have w1 : (if h < -100000000 then (-100000000 : Int) else h) = m := em.symm
  have w2 : (if 100000000 < m then (100000000 : Int) else m) = c := by rw [ec]; unfold cmH; omega
  have hvs := hvals_snoc L c
  have MT := Lib.hid (show mtN sz L h = (L ++ [c]).drop (L.length + 1 - (sz.toNat + 1)) from by rw [ec]; rfl)
  rw [← ec] at HOLD K
  clear em ec
  rcases (show (L.length : Int) ≤ sz ∨ (L.length : Int) = sz + 1 by omega) with hc | hc
  · have q3 : (if (L.length : Int) - sz < 0 then (0 : Int) else (L.length : Int) - sz) = 0 := by omega
    go_enter Try.func36, Try.ntmps36
    go_upto_region 2 with (first | (at_builtin; refine wpList_append_grows _ rfl (.tmp 12) (.tmp 16) _ rfl 2 i0 (.int .i64 0) 1 8 Try.underlying63 hi.out hz0.out hz1.out hz2.out rfl (by decide) ao L.length L.length (hvals L) rfl HN.out HL.out HOLD.out ⟨_, 0, none⟩ 1 1 [.int .i64 c] rfl rfl (new_oneH _ _ _) (one_intH _ _) (by omega) (by unfold maxLen; omega) (by omega) ?_; intro v' w9 ho hg; obtain ⟨g, cap, rfl, hge, hglt⟩ := ho.form (by omega); rw [hvs] at ho; have hb9 := K.out _ hg; replace ho := Lib.hid ho; clear hg))
    have hH9 := hh.out.bel hb9
    have hcp : L.length + 1 ≤ cap := by
      rcases ho.out.2 with ⟨e, _⟩ | ⟨g', cap', cur, e, _, _, hle, _⟩
      · cases e
      · injection e with e1 e2 e3
        omega
    have hgb : w.heap.size ≤ g := by simp at hge; omega
    have hgne : b ≠ g := by have := hlt.out; omega
    obtain ⟨u0, f0⟩ := hH9.one 0 rfl
    obtain ⟨u1, f1⟩ := hH9.one 1 rfl
    have hcpI : (L.length : Int) + 1 ≤ (cap : Int) := by omega
    have hH10 := Lib.hid (hH9.set 1 (.slice (some ⟨g, 0, none⟩) (mtN sz L h).length (mtN sz L h).length) (by simp))
    have bs10 := Lib.hid ((Beside.of_below (b := b) hb9).setCell (p := ⟨b, 1, none⟩) (.slice (some ⟨g, 0, none⟩) (mtN sz L h).length (mtN sz L h).length))
    have hrow : RowIs .i64 w9 (some ⟨g, 0, none⟩) (mtN sz L h) := .inr ⟨g, 0, rfl, hglt, fun i hi => by
      have hln := NL.out
      rw [hln] at hi
      have hi2 : i + 0 < L.length + 1 := by split at hi <;> omega
      have q := ho.out.cellAt (0 + i) (by omega)
      rw [q, hvals_at (by rw [List.length_append]; show 0 + i < L.length + 1; omega), MT.out]
      simp only [List.getD, List.getElem?_drop]
      rw [show L.length + 1 - (sz.toNat + 1) = 0 by omega]⟩
    have hlen2 : (mtN sz L h).length = L.length + 1 := by rw [NL.out]; split <;> omega
    have hrow2 := Lib.hid (hrow.onlyH ((Only.refl b w9).setCell (p := ⟨b, 1, none⟩) (.slice (some ⟨g, 0, none⟩) (mtN sz L h).length (mtN sz L h).length)) (fun x hx => by injection hx with hx; subst hx; exact fun e => hgne e.symm))
    have hle := Lib.hid (show ((mtN sz L h).length : Int) ≤ sz + 1 from by rw [hlen2]; omega)
    rw [hlen2] at hH10 bs10 hrow2
    replace hlen2 := Lib.hid hlen2
    clear hrow hH9 hb9 hgb hge
    go_wp2
    go_end0
    refine ⟨rfl, ⟨⟨some ⟨g, 0, none⟩, ?_, ?_, fun e => by cases e⟩, hle.out, s1, s2, NB.out⟩, ?_⟩
    · rw [hlen2.out]; exact hH10.out
    · exact hrow2.out
    · exact bs10.out
  · have q2' : (L.length : Int) - sz = 1 := by omega
    have q3 : (if (1 : Int) < 0 then (0 : Int) else 1) = 1 := by decide
    have hc' : sz + 1 ≤ (L.length : Int) := by omega
    have hz1' : 0 < L.length := by omega
    have hz2' : L ≠ [] := List.ne_nil_of_length_pos hz1'
    have hz3' : L.length ≠ 0 := by omega
    clear hc
    go_enter Try.func36, Try.ntmps36
    go_upto_region 2 with (first | (at_builtin; refine wpList_append_grows _ rfl (.tmp 12) (.tmp 16) _ rfl 2 i0 (.int .i64 0) 1 8 Try.underlying63 hi.out hz0.out hz1.out hz2.out rfl (by decide) ao L.length L.length (hvals L) rfl HN.out HL.out HOLD.out ⟨_, 0, none⟩ 1 1 [.int .i64 c] rfl rfl (new_oneH _ _ _) (one_intH _ _) (by omega) (by unfold maxLen; omega) (by omega) ?_; intro v' w9 ho hg; obtain ⟨g, cap, rfl, hge, hglt⟩ := ho.form (by omega); rw [hvs] at ho; have hb9 := K.out _ hg; replace ho := Lib.hid ho; clear hg))
    have hH9 := hh.out.bel hb9
    have hcp : L.length + 1 ≤ cap := by
      rcases ho.out.2 with ⟨e, _⟩ | ⟨g', cap', cur, e, _, _, hle, _⟩
      · cases e
      · injection e with e1 e2 e3
        omega
    have hgb : w.heap.size ≤ g := by simp at hge; omega
    have hgne : b ≠ g := by have := hlt.out; omega
    obtain ⟨u0, f0⟩ := hH9.one 0 rfl
    obtain ⟨u1, f1⟩ := hH9.one 1 rfl
    have hcpI : (L.length : Int) + 1 ≤ (cap : Int) := by omega
    have hH10 := Lib.hid (hH9.set 1 (.slice (some ⟨g, 1, none⟩) (mtN sz L h).length (mtN sz L h).length) (by simp))
    have bs10 := Lib.hid ((Beside.of_below (b := b) hb9).setCell (p := ⟨b, 1, none⟩) (.slice (some ⟨g, 1, none⟩) (mtN sz L h).length (mtN sz L h).length))
    have hrow : RowIs .i64 w9 (some ⟨g, 1, none⟩) (mtN sz L h) := .inr ⟨g, 1, rfl, hglt, fun i hi => by
      have hln := NL.out
      rw [hln] at hi
      have hi2 : i + 1 < L.length + 1 := by split at hi <;> omega
      have q := ho.out.cellAt (1 + i) (by omega)
      rw [q, hvals_at (by rw [List.length_append]; show 1 + i < L.length + 1; omega), MT.out]
      simp only [List.getD, List.getElem?_drop]
      rw [show L.length + 1 - (sz.toNat + 1) = 1 by omega]⟩
    have hlen2 : (mtN sz L h).length = L.length := by rw [NL.out]; split <;> omega
    have hrow2 := Lib.hid (hrow.onlyH ((Only.refl b w9).setCell (p := ⟨b, 1, none⟩) (.slice (some ⟨g, 1, none⟩) (mtN sz L h).length (mtN sz L h).length)) (fun x hx => by injection hx with hx; subst hx; exact fun e => hgne e.symm))
    have hle := Lib.hid (show ((mtN sz L h).length : Int) ≤ sz + 1 from by rw [hlen2]; omega)
    rw [hlen2] at hH10 bs10 hrow2
    replace hlen2 := Lib.hid hlen2
    clear hrow hH9 hb9 hgb hge
    go_wp2
    go_end0
    refine ⟨rfl, ⟨⟨some ⟨g, 1, none⟩, ?_, ?_, fun e => by cases e⟩, hle.out, s1, s2, NB.out⟩, ?_⟩
    · rw [hlen2.out]; exact hH10.out
    · exact hrow2.out
    · exact bs10.out
end Go.Proofs.Ytflcagcekhgjcaa
