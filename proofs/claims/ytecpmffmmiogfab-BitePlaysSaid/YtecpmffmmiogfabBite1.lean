/- Package bite: names; walked. -/
import Derived.Test.YtecpmffmmiogfabFlats
import Derived.Test.YtecpmffmmiogfabNew
import Derived.Laws.RangeAny
import Derived.Deep.Cut
namespace Go.Proofs.Ytecpmffmmiogfab
open Go.ChangeShapes Go.WideShapes Go.ChangeAt Go.RowKit
set_option linter.unusedVariables false
set_option linter.unusedSimpArgs false
/-- Lower-case letters alone. -/
def lowB (s : ByteArray) : Bool := decide (∀ i, (h : i < s.size) → 97 ≤ (s[i]'h).toNat ∧ (s[i]'h).toNat ≤ 122)
def namB (s : ByteArray) : Bool := lowB s && decide (1 ≤ s.size) && decide (s.size ≤ 8)
theorem iter_bel (w : World) (s : ByteArray) (p : Nat) : Below w.heap.size w (w.iter s p) := (Below.refl _ _).alloc (Nat.le_refl _) _
set_option maxRecDepth 100000 in
set_option maxHeartbeats 8000000 in
theorem bisname (s : ByteArray) (hs : s.size ≤ maxLen) (w : World) : Calls Try.prog 33 #[.string s] w fun e w' => e = .returned (.bool (namB s)) ∧ Below w.heap.size w w' := by
  unfold maxLen at hs
  obtain ⟨R, hR⟩ : ∃ R, namB s = R := ⟨_, rfl⟩
  rw [hR]
  replace hR := Lib.hid hR
  go_enter Try.func33, Try.ntmps33
  go_wp2
  go_loopw [7] (fun x v => ∃ p : Nat, p ≤ s.size ∧ v = w.iter s p ∧ Hid (∀ i, (h : i < s.size) → i < p → 97 ≤ (s[i]'h).toNat ∧ (s[i]'h).toNat ≤ 122)) (fun _ v => s.size - World.iterPos v w.heap.size)
  case atStart => exact ⟨0, by omega, rfl, Lib.hid (fun i h hi => by omega)⟩
  case round =>
    obtain ⟨p, hp, rfl, hU⟩ := hrel
    by_cases hlt : p < s.size
    · by_cases ha : (s[p]'hlt).toNat < 128
      · have RN := fun ty => run_next_ascii (P := Try.prog) w s p ty hlt ha
        have UN := Lib.hid (fun (hh : 97 ≤ (s[p]'hlt).toNat ∧ (s[p]'hlt).toNat ≤ 122) i (h : i < s.size) (hi : i < p + 1) => show 97 ≤ (s[i]'h).toNat ∧ (s[i]'h).toNat ≤ 122 from by
          by_cases e : i = p
          · subst e; exact hh
          · exact hU.out i h (by omega))
        have UF := Lib.hid (fun (hh : ¬ (97 ≤ (s[p]'hlt).toNat ∧ (s[p]'hlt).toNat ≤ 122)) => show namB s = false from by
          have : lowB s = false := decide_eq_false (fun h => hh (h p hlt))
          unfold namB
          rw [this]
          rfl)
        generalize (s[p]'hlt).toNat = c at *
        by_cases hc : 97 ≤ c ∧ c ≤ 122
        · have un := Lib.hid (UN.out hc)
          have c1 : ¬ (c : Int) < 97 := by omega
          have c2 : ¬ (122 : Int) < (c : Int) := by omega
          clear UN UF hU hc
          go_wp2
          go_roundw
          case rel => exact ⟨p + 1, by omega, rfl, un⟩
          case measure => simp <;> omega
        · have uf := Lib.hid (UF.out hc)
          clear UN UF hU
          rcases (show c < 97 ∨ (97 ≤ c ∧ 122 < c) by omega) with c1 | ⟨c1, c2⟩
          · have d1 : (c : Int) < 97 := by omega
            clear hc
            go_wp2
            go_ret
            exact ⟨by rw [← hR.out, uf.out]; rfl, iter_bel _ _ _⟩
          · have d1 : ¬ (c : Int) < 97 := by omega
            have d2 : (122 : Int) < (c : Int) := by omega
            clear hc
            go_wp2
            go_ret
            exact ⟨by rw [← hR.out, uf.out]; rfl, iter_bel _ _ _⟩
      · have RN := fun ty => run_next_any (P := Try.prog) w s p ty hlt
        have hd := decode_high s p hlt (by omega)
        have uf := Lib.hid (show namB s = false from by
          have : lowB s = false := decide_eq_false (fun h => by have := h p hlt; omega)
          unfold namB
          rw [this]
          rfl)
        generalize (Utf8.decode s p).1 = c at *
        generalize (Utf8.decode s p).2 = k at *
        obtain ⟨d0, d3⟩ := hd
        have d1 : ¬ (c : Int) < 97 := by omega
        have d2 : (122 : Int) < (c : Int) := by omega
        go_wp2
        go_ret
        exact ⟨by rw [← hR.out, uf.out]; rfl, iter_bel _ _ _⟩
    · have RN := fun ty => run_next_end (P := Try.prog) w s p ty hlt
      obtain rfl : p = s.size := by omega
      have hl : lowB s = true := decide_eq_true (fun i h => hU.out i h h)
      have hr := hR.out
      unfold namB at hr
      rw [hl, Bool.true_and] at hr
      clear hU hl hR
      by_cases h1 : 1 ≤ s.size
      · by_cases h8 : s.size ≤ 8
        · rw [decide_eq_true h1, decide_eq_true h8] at hr
          have i1 : (1 : Int) ≤ (s.size : Int) := by omega
          have i2 : (s.size : Int) ≤ 8 := by omega
          go_wp2
          go_ret
          exact ⟨by rw [← hr]; rfl, iter_bel _ _ _⟩
        · rw [decide_eq_true h1, decide_eq_false h8] at hr
          have i1 : (1 : Int) ≤ (s.size : Int) := by omega
          have i2 : ¬ (s.size : Int) ≤ 8 := by omega
          go_wp2
          go_ret
          exact ⟨by rw [← hr]; rfl, iter_bel _ _ _⟩
      · rw [decide_eq_false h1] at hr
        have i1 : ¬ (1 : Int) ≤ (s.size : Int) := by omega
        go_wp2
        go_ret
        exact ⟨by rw [← hr]; rfl, iter_bel _ _ _⟩
set_option maxRecDepth 100000 in
set_option maxHeartbeats 8000000 in
theorem bnamed (s : ByteArray) (hs : s.size ≤ maxLen) (w : World) : Calls Try.prog 30 #[.string s] w fun e w' => e = .returned (.bool (namB s)) ∧ w' = w := by
  unfold maxLen at hs
  obtain ⟨R, hR⟩ : ∃ R, namB s = R := ⟨_, rfl⟩
  rw [hR]
  replace hR := Lib.hid hR
  go_enter Try.func30, Try.ntmps30
  go_wp2
  go_loopw [3] (fun i v => ∃ p : Nat, p ≤ s.size ∧ i = .int .i64 (p : Int) ∧ v = w ∧ Hid (∀ i, (h : i < s.size) → i < p → 97 ≤ (s[i]'h).toNat ∧ (s[i]'h).toNat ≤ 122)) (fun i v => s.size - (intOf i).toNat)
  case atStart => exact ⟨0, by omega, rfl, rfl, Lib.hid (fun i h hi => by omega)⟩
  case round =>
    obtain ⟨p, hp, rfl, rfl, hU⟩ := hrel
    by_cases hlt : p < s.size
    · have j1 : (p : Int) < (s.size : Int) := by omega
      have j2 : IntKind.i64.wrap ((p : Int) + 1) = (p : Int) + 1 := by rw [IntKind.wrap_i64]; omega
      have IX : ∀ ty u, Try.prog.underlying ty = some .string → (Instr.index ty (.string s) (.int .i64 (p : Int))).run Try.prog u = .ok (.int .u8 ((s[p]'hlt).toNat : Int)) u := fun ty u h => by
        rw [run_index_string u ty s _ _ h, dif_pos ⟨by omega, by omega⟩]
        rfl
      have UN := Lib.hid (fun (hh : 97 ≤ (s[p]'hlt).toNat ∧ (s[p]'hlt).toNat ≤ 122) i (h : i < s.size) (hi : i < p + 1) => show 97 ≤ (s[i]'h).toNat ∧ (s[i]'h).toNat ≤ 122 from by
        by_cases e : i = p
        · subst e; exact hh
        · exact hU.out i h (by omega))
      have UF := Lib.hid (fun (hh : ¬ (97 ≤ (s[p]'hlt).toNat ∧ (s[p]'hlt).toNat ≤ 122)) => show namB s = false from by
        have : lowB s = false := decide_eq_false (fun h => hh (h p hlt))
        unfold namB
        rw [this]
        rfl)
      have IX2 : ∀ u, (Instr.index 9 (.string s) (.int .i64 (p : Int))).run Try.prog u = .ok (.int .u8 ((s[p]'hlt).toNat : Int)) u := fun u => IX _ u Try.underlying9
      clear IX
      generalize (s[p]'hlt).toNat = c at *
      by_cases hc : 97 ≤ c ∧ c ≤ 122
      · have un := Lib.hid (UN.out hc)
        have c1 : ¬ (c : Int) < 97 := by omega
        have c2 : ¬ (122 : Int) < (c : Int) := by omega
        clear UN UF hU hc
        go_wp2
        go_roundw
        case rel => exact ⟨p + 1, by omega, by first | rfl | go_num, by first | rfl | trivial, un⟩
        case measure => simp [intOf] <;> omega
      · have uf := Lib.hid (UF.out hc)
        clear UN UF hU
        rcases (show c < 97 ∨ (97 ≤ c ∧ 122 < c) by omega) with c1 | ⟨c1, c2⟩
        · have d1 : (c : Int) < 97 := by omega
          clear hc
          go_wp2
          go_ret
          exact ⟨by rw [← hR.out, uf.out]; rfl, rfl⟩
        · have d1 : ¬ (c : Int) < 97 := by omega
          have d2 : (122 : Int) < (c : Int) := by omega
          clear hc
          go_wp2
          go_ret
          exact ⟨by rw [← hR.out, uf.out]; rfl, rfl⟩
    · obtain rfl : p = s.size := by omega
      have hl : lowB s = true := decide_eq_true (fun i h => hU.out i h h)
      have hr := hR.out
      unfold namB at hr
      rw [hl, Bool.true_and] at hr
      clear hU hl hR
      by_cases h1 : 1 ≤ s.size
      · by_cases h8 : s.size ≤ 8
        · rw [decide_eq_true h1, decide_eq_true h8] at hr
          have i1 : (0 : Int) < (s.size : Int) := by omega
          have i2 : (s.size : Int) < 9 := by omega
          go_wp2
          go_ret
          exact ⟨by rw [← hr]; rfl, rfl⟩
        · rw [decide_eq_true h1, decide_eq_false h8] at hr
          have i1 : (0 : Int) < (s.size : Int) := by omega
          have i2 : ¬ (s.size : Int) < 9 := by omega
          go_wp2
          go_ret
          exact ⟨by rw [← hr]; rfl, rfl⟩
      · rw [decide_eq_false h1] at hr
        have i1 : ¬ (0 : Int) < (s.size : Int) := by omega
        go_wp2
        go_ret
        exact ⟨by rw [← hr]; rfl, rfl⟩
end Go.Proofs.Ytecpmffmmiogfab
