/- Where a frame is among bytes; the law FrameFinds; walked. -/
import Derived.Test.YtflcagcekhgjcaaFrame5
import Derived.Deep.Cut
namespace Go.Proofs.Ytflcagcekhgjcaa
open Go.ChangeShapes Go.WideShapes Go.ChangeAt Go.RowKit
set_option linter.unusedVariables false
set_option linter.unusedSimpArgs false

/-- Eight bytes from a place on. -/
def sb (l : List Int) (t : Nat) : List Int := (l.drop t).take 8
theorem sb_len {l : List Int} {t : Nat} (h : t + 8 ≤ l.length) : (sb l t).length = 8 := by unfold sb; simp; omega
theorem sb_row {w : World} {b off : Nat} {l : List Int} (h : RowIs .u8 w (some ⟨b, off, none⟩) l) {t : Nat} (ht : t + 8 ≤ l.length) : RowIs .u8 w (some ⟨b, off + t, none⟩) (sb l t) := by
  rcases h with rfl | ⟨b1, o1, e, hlt, hc⟩
  · simp at ht
  · injection e with e
    injection e with e1 e2
    subst e1 e2
    refine .inr ⟨b, off + t, rfl, hlt, fun i hi => ?_⟩
    rw [sb_len ht] at hi
    rw [Nat.add_assoc, hc (t + i) (by omega)]
    unfold sb
    simp [List.getD, List.getElem?_take, hi, List.getElem?_drop]
/-- The first place where a frame is. -/
def FndP (l : List Int) (k : Int) (ok : Bool) : Prop := (ok = true ∧ 0 ≤ k ∧ k + 8 ≤ l.length ∧ tkE (sb l k.toNat) = 0 ∧ ∀ t, t < k.toNat → tkE (sb l t) ≠ 0) ∨ (ok = false ∧ k = 0 ∧ ∀ t, t + 8 ≤ l.length → tkE (sb l t) ≠ 0)
def FndE (l : List Int) (w : World) (e : Ending) (w' : World) : Prop := ∃ (k : Int) (ok : Bool), e = .returned (.tuple #[.int .i64 k, .bool ok]) ∧ FndP l k ok ∧ Below w.heap.size w w'
set_option maxRecDepth 100000 in
set_option maxHeartbeats 8000000 in
theorem ffind (a : Option Addr) (cap : Nat) (l : List Int) (w : World) (hr : RowIs .u8 w a l) (hL : l.length ≤ 3000) (hB : BYT l) (hc : l.length ≤ cap) :
    Calls Try.prog 23 #[.slice a l.length cap] w (FndE l w) := by
  have hL' : (l.length : Int) ≤ 3000 := by omega
  have FT := Lib.hid (fun (t : Nat) (ht : t + 8 ≤ l.length) u (h : Below w.heap.size w u) => show ∃ b off, a = some ⟨b, off, none⟩ ∧ Calls Try.prog 21 #[.slice (some ⟨b, off + t, none⟩) 8 (cap - t)] u fun e w' => e = .returned (.tuple #[.agg #[.int .i64 (tkI (sb l t)), .int .i64 (tkS (sb l t)), .int .i64 (tkV (sb l t)), .int .i64 (tkT (sb l t))], .int .i64 (tkE (sb l t))]) ∧ Below u.heap.size u w' from by
    obtain ⟨b, off, rfl, -, -⟩ := (hr.below h).at (i := 0) (by omega)
    have q := ftake (some ⟨b, off + t, none⟩) (cap - t) (sb l t) u (sb_row (hr.below h) ht) (by rw [sb_len ht]; decide) (hB.sub t 8)
    rw [sb_len ht] at q
    exact ⟨b, off, rfl, q⟩)
  have CP := Lib.hid hc
  clear hr hB hc hL
  go_enter Try.func23, Try.ntmps23
  go_wp2_with fail
  go_loopw [4] (fun i v => ∃ k : Nat, k ≤ l.length ∧ i = .int .i64 (k : Int) ∧ Below w.heap.size w v ∧ Hid (∀ t, t < k → tkE (sb l t) ≠ 0)) (fun i _ => l.length - (intOf i).toNat)
  case atStart => exact ⟨0, by omega, rfl, Below.refl _ _, Lib.hid (fun t h => by omega)⟩
  case round =>
    obtain ⟨k, hk, rfl, hb, hU⟩ := hrel
    have w1 : IntKind.i64.wrap ((k : Int) + 8) = (k : Int) + 8 := by rw [IntKind.wrap_i64]; omega
    by_cases hlt : k + 8 ≤ l.length
    · obtain ⟨b, off, rfl, C⟩ := FT.out k hlt _ hb
      have h1 : (k : Int) + 8 ≤ (l.length : Int) := by omega
      have h0 : 0 ≤ (k : Int) := by omega
      have hcp := CP.out
      have h2 : (k : Int) + 8 ≤ (cap : Int) := by omega
      have h3 : (k : Int) ≤ (k : Int) + 8 := by omega
      replace C := Lib.hid C
      have l3 : (l.length : Int) ≤ 3000 := by omega
      have hF := Lib.hid (fun (e : tkE (sb l k) = 0) => show FndP l (k : Int) true from .inl ⟨rfl, by omega, by omega, by simpa using e, fun t ht => hU.out t (by simpa using ht)⟩)
      have hU2 := Lib.hid (fun (e : tkE (sb l k) ≠ 0) t (ht : t < k + 1) => show tkE (sb l t) ≠ 0 from by
        by_cases h : t = k
        · subst h; exact e
        · exact hU.out t (by omega))
      generalize tkI (sb l k) = x0 at *
      generalize tkS (sb l k) = x1 at *
      generalize tkV (sb l k) = x2 at *
      generalize tkT (sb l k) = x3 at *
      generalize tkE (sb l k) = x4 at *
      clear hU
      go_wp2_with fail
      refine C.out.mono ?_
      rintro e w2 ⟨rfl, hb2⟩
      have hb3 := hb.trans (hb2.mono hb.size)
      have hs3 := hb3.size
      clear hb hb2
      by_cases hx : x4 = 0
      · subst hx
        have hF9 := Lib.hid (hF.out rfl)
        clear hF hU2
        go_wp2
        go_ret2
        exact ⟨(k : Int), true, rfl, hF9.out, (by repeat (first | exact Below.refl _ _ | assumption | apply Below.drew | apply below_drewN | (refine Below.alloc ?_ (by first | exact Nat.le_refl _ | omega | (simp <;> omega)) _) | (refine Below.setCell ?_ (by first | exact Nat.le_refl _ | omega | (simp <;> omega)) _)))⟩
      · have hU9 := Lib.hid (hU2.out hx)
        have d1 : (x4 == 0) = false := by simp [hx]
        clear hF hU2
        go_wp2
        go_roundw
        case rel => exact ⟨k + 1, by omega, by go_num, (by repeat (first | exact Below.refl _ _ | assumption | apply Below.drew | apply below_drewN | (refine Below.alloc ?_ (by first | exact Nat.le_refl _ | omega | (simp <;> omega)) _) | (refine Below.setCell ?_ (by first | exact Nat.le_refl _ | omega | (simp <;> omega)) _))), hU9⟩
        case measure => simp [intOf]; omega
    · have hge : ¬ (k : Int) + 8 ≤ (l.length : Int) := by omega
      have d1 : decide ((k : Int) + 8 ≤ (l.length : Int)) = false := by simp; omega
      have hF := Lib.hid (show FndP l 0 false from .inr ⟨rfl, rfl, fun t ht => hU.out t (by omega)⟩)
      clear hge
      go_wp2
      go_ret2
      exact ⟨0, false, rfl, hF.out, hb⟩
theorem fnd_one {l : List Int} {k j : Int} {a b : Bool} (h : FndP l k a) (g : FndP l j b) : b = a ∧ j = k := by
  rcases h with ⟨rfl, h1, h2, h3, h4⟩ | ⟨rfl, rfl, h⟩
  · rcases g with ⟨rfl, g1, g2, g3, g4⟩ | ⟨rfl, rfl, g⟩
    · refine ⟨rfl, ?_⟩
      have a1 : ¬ j.toNat < k.toNat := fun q => h4 _ q g3
      have a2 : ¬ k.toNat < j.toNat := fun q => g4 _ q h3
      omega
    · exact absurd h3 (g k.toNat (by omega))
  · rcases g with ⟨rfl, g1, g2, g3, g4⟩ | ⟨rfl, rfl, g⟩
    · exact absurd g3 (h j.toNat (by omega))
    · exact ⟨rfl, rfl⟩
set_option maxRecDepth 100000 in
set_option maxHeartbeats 8000000 in
theorem law_FrameFinds (a : Option Addr) (cap : Nat) (l : List Int) (w : World) (hr : RowIs .u8 w a l) (hL : l.length ≤ maxLen) (hB : BYT l) (hc : l.length ≤ cap) :
    Calls Try.prog 5 #[.slice a l.length cap] w fun e w' => e = .returned (.bool true) ∧ Below w.heap.size w w' := by
  have hL' : (l.length : Int) ≤ 9223372036854775807 := by unfold maxLen at hL; omega
  have LV := Lib.hid (fun u => lives12 u)
  by_cases h3 : 3000 < l.length
  · have h3' : (3000 : Int) < (l.length : Int) := by omega
    clear hr hB hc hL
    go_enter Try.func5, Try.ntmps5
    go_wp2_with fail
    refine (LV.out _).mono ?_
    rintro e w2 ⟨rfl, hb2⟩
    go_wp2
    go_ret
    exact ⟨rfl, hb2⟩
  have hL3 : l.length ≤ 3000 := by omega
  have FT := Lib.hid (fun (t : Nat) (ht : t + 8 ≤ l.length) u (h : Below w.heap.size w u) => show ∃ b off, a = some ⟨b, off, none⟩ ∧ Calls Try.prog 22 #[.slice (some ⟨b, off + t, none⟩) 8 (cap - t)] u fun e w' => e = .returned (.tuple #[.agg #[.int .i64 (tkI (sb l t)), .int .i64 (tkS (sb l t)), .int .i64 (tkV (sb l t)), .int .i64 (tkT (sb l t))], .int .i64 (tkE (sb l t))]) ∧ Below u.heap.size u w' from by
    obtain ⟨b, off, rfl, -, -⟩ := (hr.below h).at (i := 0) (by omega)
    have q := rtake (some ⟨b, off + t, none⟩) (cap - t) (sb l t) u (sb_row (hr.below h) ht) (by rw [sb_len ht]; decide) (hB.sub t 8)
    rw [sb_len ht] at q
    exact ⟨b, off, rfl, q⟩)
  have FN := Lib.hid (fun u (h : Below w.heap.size w u) => ffind a cap l u (hr.below h) hL3 hB hc)
  have SM := Lib.hid (fun u (h : Below w.heap.size w u) => fsum a cap l u (hr.below h) hL)
  have TT := Lib.hid (fun u (h : Below w.heap.size w u) => rtotal a cap l u (hr.below h) hL hB)
  have TB := tot_bd l
  have n1 : IntKind.i64.wrap (256 - tot l) = 256 - tot l := by rw [IntKind.wrap_i64]; omega
  have n2 : (256 - tot l).tmod 256 = (256 - tot l) % 256 := Int.tmod_eq_emod_of_nonneg (by omega)
  have n3 : IntKind.i64.wrap ((256 - tot l) % 256) = (256 - tot l) % 256 := by rw [IntKind.wrap_i64]; omega
  generalize ey : (256 - tot l) % 256 = y at *
  generalize tot l = tt at *
  replace ey := Lib.hid ey
  have n4 : (y == y) = true := by simp
  clear TB
  have CP := Lib.hid hc
  have l3 : (l.length : Int) ≤ 3000 := by omega
  clear hr hB hc hL hL' h3 hL3
  go_enter Try.func5, Try.ntmps5
  go_wp2_with fail
  go_loopw [3, 4] (fun at' i v => ∃ (p : Int) (k : Nat), (k ≤ l.length ∨ k = 0) ∧ at' = .int .i64 p ∧ i = .int .i64 (k : Int) ∧ Below w.heap.size w v ∧ -1 ≤ p ∧ Hid ((p = -1 ∧ ∀ t, t < k → tkE (sb l t) ≠ 0) ∨ (0 ≤ p ∧ FndP l p true))) (fun _ i _ => l.length - (intOf i).toNat)
  case atStart => exact ⟨-1, 0, by omega, rfl, rfl, Below.refl _ _, by omega, Lib.hid (.inl ⟨rfl, fun t h => by omega⟩)⟩
  case round =>
    obtain ⟨p, k, hk, rfl, rfl, hb, hp, hU⟩ := hrel
    have w1 : IntKind.i64.wrap ((l.length : Int) - 7) = (l.length : Int) - 7 := by rw [IntKind.wrap_i64]; omega
    have w2 : IntKind.i64.wrap ((k : Int) + 8) = (k : Int) + 8 := by rw [IntKind.wrap_i64]; omega
    have fin : ¬ ((k : Int) < (l.length : Int) - 7 ∧ p < 0) → (0 ≤ p ∧ FndP l p true) ∨ (p = -1 ∧ FndP l 0 false) := fun h => by
      rcases hU.out with ⟨e, f⟩ | f
      · exact .inr ⟨e, .inr ⟨rfl, rfl, fun t ht => f t (by omega)⟩⟩
      · exact .inl f
    by_cases hlt : (k : Int) < (l.length : Int) - 7
    · by_cases hp0 : p < 0
      · obtain rfl : p = -1 := by omega
        have hU1 : ∀ t, t < k → tkE (sb l t) ≠ 0 := by
          rcases hU.out with ⟨e, f⟩ | ⟨f, _⟩
          · exact f
          · omega
        have hk8 : k + 8 ≤ l.length := by omega
        obtain ⟨b, off, rfl, C⟩ := FT.out k hk8 _ hb
        have h1 : (k : Int) + 8 ≤ (l.length : Int) := by omega
        have h0 : 0 ≤ (k : Int) := by omega
        have hcp := CP.out
        have h2 : (k : Int) + 8 ≤ (cap : Int) := by omega
        have h3 : (k : Int) ≤ (k : Int) + 8 := by omega
        replace C := Lib.hid C
        have hF := Lib.hid (fun (e : tkE (sb l k) = 0) => show FndP l (k : Int) true from .inl ⟨rfl, by omega, by omega, by simpa using e, fun t ht => hU1 t (by simpa using ht)⟩)
        have hU2 := Lib.hid (fun (e : tkE (sb l k) ≠ 0) t (ht : t < k + 1) => show tkE (sb l t) ≠ 0 from by
          by_cases h : t = k
          · subst h; exact e
          · exact hU1 t (by omega))
        generalize tkI (sb l k) = x0 at *
        generalize tkS (sb l k) = x1 at *
        generalize tkV (sb l k) = x2 at *
        generalize tkT (sb l k) = x3 at *
        generalize tkE (sb l k) = x4 at *
        clear hU hU1 fin
        go_wp2_with fail
        refine C.out.mono ?_
        rintro e w2 ⟨rfl, hb2⟩
        have hb3 := hb.trans (hb2.mono hb.size)
        have hs3 := hb3.size
        clear hb hb2
        by_cases hx : x4 = 0
        · subst hx
          have hF9 := Lib.hid (hF.out rfl)
          clear hF hU2
          go_wp2
          go_roundw
          case rel => exact ⟨(k : Int), k + 1, by omega, rfl, by go_num, (by repeat (first | exact Below.refl _ _ | assumption | apply Below.drew | apply below_drewN | (refine Below.alloc ?_ (by first | exact Nat.le_refl _ | omega | (simp <;> omega)) _) | (refine Below.setCell ?_ (by first | exact Nat.le_refl _ | omega | (simp <;> omega)) _))), by omega, Lib.hid (.inr ⟨by omega, hF9.out⟩)⟩
          case measure => simp [intOf]; omega
        · have hU9 := Lib.hid (hU2.out hx)
          have d1 : (x4 == 0) = false := by simp [hx]
          clear hF hU2
          go_wp2
          go_roundw
          case rel => exact ⟨-1, k + 1, by omega, rfl, by go_num, (by repeat (first | exact Below.refl _ _ | assumption | apply Below.drew | apply below_drewN | (refine Below.alloc ?_ (by first | exact Nat.le_refl _ | omega | (simp <;> omega)) _) | (refine Below.setCell ?_ (by first | exact Nat.le_refl _ | omega | (simp <;> omega)) _))), by omega, Lib.hid (.inl ⟨rfl, hU9.out⟩)⟩
          case measure => simp [intOf]; omega
      · have hp1 : ¬ p < 0 := hp0
        have d2 : decide (p < 0) = false := by simp; omega
        have fin9 := Lib.hid (fin (by omega))
        clear fin hU FT
        have FN2 := FN.out _ hb
        clear FN
        rcases (show (0 ≤ p ∧ FndP l p true) ∨ (p = -1 ∧ FndP l 0 false) from fin9.out) with ⟨f0, f⟩ | ⟨e9, f⟩
        · replace f := Lib.hid f
          have d3 : decide (0 ≤ p) = true := by simp; omega
          go_wp2_with fail
          refine FN2.mono ?_
          rintro e w4 ⟨k4, ok4, rfl, f4, hb4⟩
          have hb5 := hb.trans (hb4.mono hb.size)
          clear hb hb4
          obtain ⟨rfl, rfl⟩ : ok4 = true ∧ k4 = p := fnd_one f.out f4
          clear f4
          go_wp2_with fail
          refine (SM.out _ hb5).mono ?_
          rintro e w5 ⟨rfl, rfl⟩
          go_wp2_with fail
          refine (TT.out _ hb5).mono ?_
          rintro e w5 ⟨rfl, rfl⟩
          go_wp2_with fail
          refine (LV.out _).mono ?_
          rintro e w20 ⟨rfl, hb20⟩
          have hb21 := Lib.hid (hb5.trans (hb20.mono hb5.size))
          clear hb5 hb20
          go_wp2
          go_ret
          exact ⟨rfl, hb21.out⟩
        · omega
    · have d2 : decide ((k : Int) < (l.length : Int) - 7) = false := by simp; omega
      have fin9 := Lib.hid (fin (by omega))
      clear fin hU FT
      have FN2 := FN.out _ hb
      clear FN
      rcases (show (0 ≤ p ∧ FndP l p true) ∨ (p = -1 ∧ FndP l 0 false) from fin9.out) with ⟨f0, f⟩ | ⟨rfl, f⟩
      · replace f := Lib.hid f
        have d3 : decide (0 ≤ p) = true := by simp; omega
        go_wp2_with fail
        refine FN2.mono ?_
        rintro e w4 ⟨k4, ok4, rfl, f4, hb4⟩
        have hb5 := hb.trans (hb4.mono hb.size)
        clear hb hb4
        obtain ⟨rfl, rfl⟩ : ok4 = true ∧ k4 = p := fnd_one f.out f4
        clear f4
        go_wp2_with fail
        refine (SM.out _ hb5).mono ?_
        rintro e w5 ⟨rfl, rfl⟩
        go_wp2_with fail
        refine (TT.out _ hb5).mono ?_
        rintro e w5 ⟨rfl, rfl⟩
        go_wp2_with fail
        refine (LV.out _).mono ?_
        rintro e w20 ⟨rfl, hb20⟩
        have hb21 := Lib.hid (hb5.trans (hb20.mono hb5.size))
        clear hb5 hb20
        go_wp2
        go_ret
        exact ⟨rfl, hb21.out⟩
      · replace f := Lib.hid f
        go_wp2_with fail
        refine FN2.mono ?_
        rintro e w4 ⟨k4, ok4, rfl, f4, hb4⟩
        have hb5 := hb.trans (hb4.mono hb.size)
        clear hb hb4
        obtain ⟨rfl, rfl⟩ : ok4 = false ∧ k4 = 0 := fnd_one f.out f4
        clear f4
        go_wp2_with fail
        refine (SM.out _ hb5).mono ?_
        rintro e w5 ⟨rfl, rfl⟩
        go_wp2_with fail
        refine (TT.out _ hb5).mono ?_
        rintro e w5 ⟨rfl, rfl⟩
        go_wp2_with fail
        refine (LV.out _).mono ?_
        rintro e w20 ⟨rfl, hb20⟩
        have hb21 := Lib.hid (hb5.trans (hb20.mono hb5.size))
        clear hb5 hb20
        go_wp2
        go_ret
        exact ⟨rfl, hb21.out⟩
end Go.Proofs.Ytflcagcekhgjcaa
