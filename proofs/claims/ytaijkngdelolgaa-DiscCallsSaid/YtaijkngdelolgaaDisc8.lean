/- The names of the marks that are so: disc.Names; walked. -/
import Derived.Test.YtaijkngdelolgaaDisc7
namespace Go.Proofs.Ytaijkngdelolgaa
open Go.ChangeShapes Go.WideShapes Go.ChangeAt Go.RowKit
set_option linter.unusedVariables false
set_option linter.unusedSimpArgs false
/-- The names of the first k that are so. -/
def seN (M : Nat → Bool) : Nat → List ByteArray
  | 0 => []
  | k + 1 => if M k then seN M k ++ [nmB k] else seN M k
theorem seN_len (M : Nat → Bool) : ∀ k, (seN M k).length ≤ k
  | 0 => Nat.le_refl _
  | k + 1 => by
    have := seN_len M k
    unfold seN
    split
    · simp; omega
    · omega
theorem seN_get (M : Nat → Bool) {k : Nat} (h : M k = true) : ∀ n, k < n → (seN M n)[(seN M k).length]? = some (nmB k) ∧ (seN M k).length < (seN M n).length
  | 0, hk => by omega
  | n + 1, hk => by
    by_cases e : k = n
    · subst e
      rw [show seN M (k + 1) = if M k then seN M k ++ [nmB k] else seN M k from rfl, if_pos h]
      exact ⟨by simp, by simp⟩
    · obtain ⟨i1, i2⟩ := seN_get M h n (by omega)
      rw [show seN M (n + 1) = if M n then seN M n ++ [nmB n] else seN M n from rfl]
      split
      · exact ⟨by rw [List.getElem?_append_left i2]; exact i1, by simp; omega⟩
      · exact ⟨i1, i2⟩
set_option maxRecDepth 100000 in
set_option maxHeartbeats 8000000 in
theorem dnamesof (M : Nat → Bool) (w : World) : Calls Try.prog 16 #[.agg #[.bool (M 0), .bool (M 1), .bool (M 2), .bool (M 3), .bool (M 4), .bool (M 5), .bool (M 6), .bool (M 7), .bool (M 8), .bool (M 9), .bool (M 10), .bool (M 11), .bool (M 12), .bool (M 13), .bool (M 14), .bool (M 15), .bool (M 16), .bool (M 17), .bool (M 18)]] w fun e w' => ∃ x, e = .returned x ∧ Osr w.heap.size x (seN M 19) w' ∧ Below w.heap.size w w' := by
  have ND := Lib.hid (fun k hk u => dname_at k hk u)
  have IX := fun k hk u => mk_index M k hk u
  have SL := Lib.hid (fun k => seN_len M k)
  obtain ⟨V, eV, hb0, hgV⟩ : ∃ V, V = w.alloc (.cells #[.bool (M 0), .bool (M 1), .bool (M 2), .bool (M 3), .bool (M 4), .bool (M 5), .bool (M 6), .bool (M 7), .bool (M 8), .bool (M 9), .bool (M 10), .bool (M 11), .bool (M 12), .bool (M 13), .bool (M 14), .bool (M 15), .bool (M 16), .bool (M 17), .bool (M 18)] 23) ∧ Below w.heap.size w V ∧ V.heap[w.heap.size]? = some (.cells #[.bool (M 0), .bool (M 1), .bool (M 2), .bool (M 3), .bool (M 4), .bool (M 5), .bool (M 6), .bool (M 7), .bool (M 8), .bool (M 9), .bool (M 10), .bool (M 11), .bool (M 12), .bool (M 13), .bool (M 14), .bool (M 15), .bool (M 16), .bool (M 17), .bool (M 18)] 23 (0, 0)) := ⟨_, rfl, (by repeat (first | exact Below.refl _ _ | assumption | apply Below.drew | apply below_drewN | (refine Below.alloc ?_ (by first | exact Nat.le_refl _ | omega | (simp <;> omega)) _) | (refine Below.setCell ?_ (by first | exact Nat.le_refl _ | omega | (simp <;> omega)) _))), alloc_get _ _⟩
  obtain ⟨B, eB⟩ : ∃ B, B = w.heap.size := ⟨_, rfl⟩
  rw [← eB]
  obtain ⟨F, eF⟩ : ∃ F, F = seN M := ⟨_, rfl⟩
  have FS := Lib.hid (show ∀ k, F (k + 1) = if M k then F k ++ [nmB k] else F k from by rw [eF]; intro k; rfl)
  have F0 := Lib.hid (show F 0 = [] from by rw [eF]; rfl)
  replace SL := Lib.hid (show ∀ k, (F k).length ≤ k from by rw [eF]; exact SL.out)
  rw [← eF]
  clear eF
  replace hb0 := Lib.hid hb0
  have eB2 := Lib.hid eB
  go_enter Try.func16, Try.ntmps16
  go_upto_region 1 with (fail)
  rw [← eV]
  clear eV
  rw [← eB] at hgV hb0 ⊢
  clear eB
  go_wp2_with (refine wpList_load_row rfl 23 _ rfl B rfl 23 _ (0, 0) _ hgV Try.underlying23 rfl (by kernel_rfl) ?_)
  clear hgV
  go_loopw [3, 7] (fun x i v => ∃ k : Nat, k ≤ 19 ∧ i = .int .i64 (k : Int) ∧ Hid (Osr B x (F k) v) ∧ Hid (Below B w v)) (fun _ i _ => 19 - (intOf i).toNat)
  case atStart => exact ⟨0, by omega, rfl, Lib.hid (by rw [F0.out]; exact Osr.nil _ _), hb0⟩
  case round =>
    clear hb0
    obtain ⟨k, hk, rfl, hO, hb⟩ := hrel
    by_cases hlt : k < 19
    · have i1 : (k : Int) < 19 := by omega
      have i2 : IntKind.i64.wrap ((k : Int) + 1) = (k : Int) + 1 := by rw [IntKind.wrap_i64]; omega
      have IXk := fun u => IX k hlt u
      have fs := FS.out k
      clear IX
      have hl := Lib.hid (SL.out k)
      cases hm : M k
      · rw [hm] at fs IXk
        have fs2 := Lib.hid (show F (k + 1) = F k from fs)
        clear fs hm
        go_wp2
        go_roundw
        case rel => exact ⟨k + 1, by omega, by first | rfl | go_num, Lib.hid (by rw [fs2.out]; exact hO.out), hb⟩
        case measure => simp [intOf] <;> omega
      · rw [hm] at fs IXk
        have fs2 := Lib.hid (show F (k + 1) = F k ++ [nmB k] from fs)
        clear fs hm
        have NK := Lib.hid (fun u => ND.out k hlt u)
        generalize nmB k = s at *
        go_wp2_with fail
        refine (NK.out _).mono ?_
        rintro e w5 ⟨rfl, hb5⟩
        have hO5 := Lib.hid (hO.out.bel hb5)
        have hbB := Lib.hid (show B ≤ wr.heap.size from by have := hb.out.size; have := eB2.out; omega)
        have hb6 := Lib.hid (hb.out.trans (hb5.mono hbB.out))
        have hA := Lib.hid ((Below.refl w5.heap.size w5).alloc (Nat.le_refl _) (.cells #[.string s] 9))
        have hO6 := Lib.hid (hO5.out.bel hA.out)
        have hB5 := Lib.hid (show B ≤ w5.heap.size from Nat.le_trans hbB.out hb5.size)
        have hz6 := Lib.hid (show B ≤ (w5.alloc (.cells #[.string s] 9)).heap.size from by have := hB5.out; simp; omega)
        clear hO hb hb5
        go_upto_region 7 with (first | (at_builtin; refine wpList_append_os _ rfl (.tmp 12) (.tmp 15) rfl B _ (F k) s rfl hO6.out hz6.out _ rfl (by go_simp) (by have := hl.out; omega) ?_; intro x2 w7 hO7 hk7 hx7))
        have hb7 := Lib.hid (hb6.out.trans ((hA.out.mono hB5.out).trans (hk7.below hO6.out hz6.out)))
        rw [← fs2.out] at hO7
        replace hO7 := Lib.hid hO7
        clear hk7 hx7 hO6 hz6 hA hO5 hb6
        go_wp2
        go_roundw
        case rel => exact ⟨k + 1, by omega, by first | rfl | go_num, hO7, hb7⟩
        case measure => simp [intOf] <;> omega
    · obtain rfl : k = 19 := by omega
      clear IX
      go_wp2
      go_ret
      exact ⟨_, rfl, hO.out, hb.out⟩
end Go.Proofs.Ytaijkngdelolgaa
