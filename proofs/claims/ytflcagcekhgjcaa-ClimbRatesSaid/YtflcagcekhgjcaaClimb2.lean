/- A meter's steepest step, and Put; walked. -/
import Derived.Test.YtflcagcekhgjcaaClimb1
import Derived.Deep.Cut
namespace Go.Proofs.Ytflcagcekhgjcaa
open Go.ChangeShapes Go.WideShapes Go.ChangeAt Go.RowKit
set_option linter.unusedVariables false
set_option linter.unusedSimpArgs false

def cmF (m z : Int) : Int := if -z > (if z > m then z else m) then -z else if z > m then z else m
theorem run_cmF (m z : Int) (w : World) : Sem.run Try.prog (Builtin.max_ #[2, 2, 2] 2 #[.int .i64 m, .int .i64 z, .int .i64 (-z)]) w = .ok (.int .i64 (cmF m z)) w := rfl
theorem cmF_max (m z : Int) : cmF m z = max m (max z (-z)) := by unfold cmF; omega
/-- The steepest of so many steps. -/
def stN (L : List Int) : Nat → Int
  | 0 => 0
  | k + 1 => if k = 0 then 0 else cmF (stN L k) (L.getD k 0 - L.getD (k - 1) 0)
def stp (L : List Int) : Int := stN L L.length
theorem stN_bd {L : List Int} (h : ∀ i, i < L.length → -100000000 ≤ L.getD i 0 ∧ L.getD i 0 ≤ 100000000) : ∀ k, k ≤ L.length → 0 ≤ stN L k ∧ stN L k ≤ 200000000
  | 0, _ => by show (0 : Int) ≤ 0 ∧ (0 : Int) ≤ 200000000; omega
  | k + 1, hk => by
    show 0 ≤ (if k = 0 then 0 else cmF (stN L k) (L.getD k 0 - L.getD (k - 1) 0)) ∧ (if k = 0 then 0 else cmF (stN L k) (L.getD k 0 - L.getD (k - 1) 0)) ≤ 200000000
    have ih := stN_bd h k (by omega)
    have a := h k (by omega)
    split
    · omega
    · have b := h (k - 1) (by omega)
      rw [cmF_max]
      omega
theorem stN_ge {L : List Int} {j : Nat} (hj : 1 ≤ j) : ∀ k, j < k → k ≤ L.length → L.getD j 0 - L.getD (j - 1) 0 ≤ stN L k ∧ L.getD (j - 1) 0 - L.getD j 0 ≤ stN L k
  | 0, h, _ => by omega
  | k + 1, h, hk => by
    have e : stN L (k + 1) = cmF (stN L k) (L.getD k 0 - L.getD (k - 1) 0) := by
      show (if k = 0 then 0 else cmF (stN L k) (L.getD k 0 - L.getD (k - 1) 0)) = _
      rw [if_neg (by omega)]
    rw [e, cmF_max]
    by_cases hjk : j = k
    · subst hjk
      omega
    · have := stN_ge (L := L) hj k (by omega) (by omega)
      omega
set_option maxRecDepth 100000 in
set_option maxHeartbeats 8000000 in
theorem cmsteep {b : Nat} {sz : Int} {L : List Int} (w : World) (h : Mt b sz L w) : Calls Try.prog 41 #[.pointer (some ⟨b, 0, none⟩)] w fun e w' => e = .returned (.int .i64 (stp L)) ∧ Below w.heap.size w w' := by
  have HB := Lib.hid (stN_bd h.bd)
  have BD := Lib.hid h.bd
  have hl := h.len
  have h64 := h.s2
  have MK := Lib.hid (fun u (k : Below w.heap.size w u) => h.bel k)
  have L65 := Lib.hid (show L.length ≤ 65 by omega)
  clear h hl h64
  unfold stp
  go_enter Try.func41, Try.ntmps41
  go_wp2_with fail
  go_loopw [3, 4] (fun s i v => ∃ k : Nat, 1 ≤ k ∧ (k ≤ L.length ∨ k = 1) ∧ s = .int .i64 (stN L k) ∧ i = .int .i64 (k : Int) ∧ Below w.heap.size w v) (fun _ i _ => L.length - (intOf i).toNat)
  case atStart => exact ⟨1, by omega, by omega, rfl, rfl, Below.refl _ _⟩
  case round =>
    obtain ⟨k, hk1, hk, rfl, rfl, hb⟩ := hrel
    have M := MK.out _ hb
    have LN := Lib.hid (cmlen _ M)
    have l65 := L65.out
    by_cases hlt : k < L.length
    · have hs := HB.out k (by omega)
      have b1 := BD.out k hlt
      have b2 := BD.out (k - 1) (by omega)
      have SN := Lib.hid (show stN L (k + 1) = cmF (stN L k) (L.getD k 0 - L.getD (k - 1) 0) from by
        show (if k = 0 then 0 else cmF (stN L k) (L.getD k 0 - L.getD (k - 1) 0)) = _
        rw [if_neg (by omega)])
      obtain ⟨ao, hh, hr, hn⟩ := M.ex
      have c1 := hh.c 1 _ rfl
      rcases hr with rfl | ⟨g, off, rfl, hgl, hc⟩
      · simp at hlt
      have r1 := hc k hlt
      have r2 := hc (k - 1) (by omega)
      obtain ⟨m, hm⟩ : ∃ m, m = k - 1 := ⟨_, rfl⟩
      rw [← hm] at r2 SN b2
      generalize L.getD m 0 = x at *
      generalize L.getD k 0 = y at *
      generalize stN L k = s at *
      have n1 : IntKind.i64.wrap ((k : Int) - 1) = (m : Int) := by rw [IntKind.wrap_i64]; omega
      obtain ⟨d, hd⟩ : ∃ d, d = y - x := ⟨_, rfl⟩
      have n2 : IntKind.i64.wrap (y - x) = d := by rw [IntKind.wrap_i64]; omega
      have n3 : IntKind.i64.wrap (-d) = -d := by rw [IntKind.wrap_i64]; omega
      rw [← hd] at SN
      have RM := fun w => run_cmF s d w
      have n4 : 0 ≤ (m : Int) := by omega
      have n5 : (m : Int) < (L.length : Int) := by omega
      have n6 : m < L.length := by omega
      have n7 : (k : Int) < (L.length : Int) := by omega
      have n8 : 0 ≤ (k : Int) := by omega
      replace hd := Lib.hid hd
      clear hs b1 b2 hh hn hc M hgl hm
      go_wp2_with fail
      refine LN.out.mono ?_
      rintro e w1 ⟨rfl, rfl⟩
      go_wp2_with fail
      refine region_moves (fun u => u.cell? ⟨b, 1, none⟩ = some (.slice (some ⟨g, off, none⟩) L.length L.length) ∧ u.cell? ⟨g, off + k, none⟩ = some (.int .i64 y) ∧ u.cell? ⟨g, off + m, none⟩ = some (.int .i64 x)) [] [(.free, 0), (.free, 1), (.free, 2), (.take, 3), (.free, 4), (.free, 5), (.take, 6), (.free, 7), (.free, 8), (.free, 9), (.take, 10), (.free, 11), (.free, 12), (.free, 13), (.take, 14), (.free, 15), (.free, 16)] _ (by kernel_rfl) (by kernel_rfl) (by kernel_rfl) (by kernel_rfl) (by decide) rfl (fun _ _ _ _ _ h => h) ?_
      simp only [List.filterMap_cons, List.filterMap_nil, List.getElem?_toArray, List.getElem?_cons_zero, List.getElem?_cons_succ, Option.map_some]
      iterate 3
        first
          | (refine mv_free ?_ (Or.inl ⟨by rfl, ?_⟩) (⟨c1, r1, r2⟩) ?_
             rotate_left 1
             · intro u
               go_simp
               try simp only [d1]
               try simp only [d2]
               try simp only [d3]
               try with_reducible rfl
             simp only [Act.put, List.setIfInBounds_toArray, List.set_cons_zero, List.set_cons_succ])
          | (refine mv_free _ (Or.inr ⟨by rfl, rfl⟩) (⟨c1, r1, r2⟩) ?_
             simp only [Act.put, List.setIfInBounds_toArray, List.set_cons_zero, List.set_cons_succ])
      iterate 1
        first
          | (refine mv_take ?_ (Or.inl ⟨by rfl, ?_⟩) (⟨c1, r1, r2⟩) ?_
             rotate_left 1
             · intro u hu
               (try dsimp only at hu)
               go_simp
               try with_reducible rfl
             simp only [Act.put, List.setIfInBounds_toArray, List.set_cons_zero, List.set_cons_succ])
          | (refine mv_take _ (Or.inr ⟨by rfl, rfl⟩) (⟨c1, r1, r2⟩) ?_
             simp only [Act.put, List.setIfInBounds_toArray, List.set_cons_zero, List.set_cons_succ])
      iterate 2
        first
          | (refine mv_free ?_ (Or.inl ⟨by rfl, ?_⟩) (⟨c1, r1, r2⟩) ?_
             rotate_left 1
             · intro u
               go_simp
               try simp only [d1]
               try simp only [d2]
               try simp only [d3]
               try with_reducible rfl
             simp only [Act.put, List.setIfInBounds_toArray, List.set_cons_zero, List.set_cons_succ])
          | (refine mv_free _ (Or.inr ⟨by rfl, rfl⟩) (⟨c1, r1, r2⟩) ?_
             simp only [Act.put, List.setIfInBounds_toArray, List.set_cons_zero, List.set_cons_succ])
      iterate 1
        first
          | (refine mv_take ?_ (Or.inl ⟨by rfl, ?_⟩) (⟨c1, r1, r2⟩) ?_
             rotate_left 1
             · intro u hu
               (try dsimp only at hu)
               go_simp
               try with_reducible rfl
             simp only [Act.put, List.setIfInBounds_toArray, List.set_cons_zero, List.set_cons_succ])
          | (refine mv_take _ (Or.inr ⟨by rfl, rfl⟩) (⟨c1, r1, r2⟩) ?_
             simp only [Act.put, List.setIfInBounds_toArray, List.set_cons_zero, List.set_cons_succ])
      iterate 3
        first
          | (refine mv_free ?_ (Or.inl ⟨by rfl, ?_⟩) (⟨c1, r1, r2⟩) ?_
             rotate_left 1
             · intro u
               go_simp
               try simp only [d1]
               try simp only [d2]
               try simp only [d3]
               try with_reducible rfl
             simp only [Act.put, List.setIfInBounds_toArray, List.set_cons_zero, List.set_cons_succ])
          | (refine mv_free _ (Or.inr ⟨by rfl, rfl⟩) (⟨c1, r1, r2⟩) ?_
             simp only [Act.put, List.setIfInBounds_toArray, List.set_cons_zero, List.set_cons_succ])
      iterate 1
        first
          | (refine mv_take ?_ (Or.inl ⟨by rfl, ?_⟩) (⟨c1, r1, r2⟩) ?_
             rotate_left 1
             · intro u hu
               (try dsimp only at hu)
               go_simp
               try with_reducible rfl
             simp only [Act.put, List.setIfInBounds_toArray, List.set_cons_zero, List.set_cons_succ])
          | (refine mv_take _ (Or.inr ⟨by rfl, rfl⟩) (⟨c1, r1, r2⟩) ?_
             simp only [Act.put, List.setIfInBounds_toArray, List.set_cons_zero, List.set_cons_succ])
      iterate 3
        first
          | (refine mv_free ?_ (Or.inl ⟨by rfl, ?_⟩) (⟨c1, r1, r2⟩) ?_
             rotate_left 1
             · intro u
               go_simp
               try simp only [d1]
               try simp only [d2]
               try simp only [d3]
               try with_reducible rfl
             simp only [Act.put, List.setIfInBounds_toArray, List.set_cons_zero, List.set_cons_succ])
          | (refine mv_free _ (Or.inr ⟨by rfl, rfl⟩) (⟨c1, r1, r2⟩) ?_
             simp only [Act.put, List.setIfInBounds_toArray, List.set_cons_zero, List.set_cons_succ])
      iterate 1
        first
          | (refine mv_take ?_ (Or.inl ⟨by rfl, ?_⟩) (⟨c1, r1, r2⟩) ?_
             rotate_left 1
             · intro u hu
               (try dsimp only at hu)
               go_simp
               try with_reducible rfl
             simp only [Act.put, List.setIfInBounds_toArray, List.set_cons_zero, List.set_cons_succ])
          | (refine mv_take _ (Or.inr ⟨by rfl, rfl⟩) (⟨c1, r1, r2⟩) ?_
             simp only [Act.put, List.setIfInBounds_toArray, List.set_cons_zero, List.set_cons_succ])
      iterate 2
        first
          | (refine mv_free ?_ (Or.inl ⟨by rfl, ?_⟩) (⟨c1, r1, r2⟩) ?_
             rotate_left 1
             · intro u
               go_simp
               try simp only [d1]
               try simp only [d2]
               try simp only [d3]
               try with_reducible rfl
             simp only [Act.put, List.setIfInBounds_toArray, List.set_cons_zero, List.set_cons_succ])
          | (refine mv_free _ (Or.inr ⟨by rfl, rfl⟩) (⟨c1, r1, r2⟩) ?_
             simp only [Act.put, List.setIfInBounds_toArray, List.set_cons_zero, List.set_cons_succ])
      refine mv_done ?_
      go_wp2
      go_roundw
      case rel => exact ⟨k + 1, by omega, by omega, by rw [SN.out], by go_num, hb.drew⟩
      case measure => simp [intOf]; omega
    · have hge : (L.length : Int) ≤ (k : Int) := by omega
      have e : stN L k = stN L L.length := by
        rcases (show k = L.length ∨ (L.length = 0 ∧ k = 1) by omega) with e | ⟨e, e2⟩
        · rw [e]
        · rw [e, e2]; rfl
      rw [e] at *
      replace e := Lib.hid e
      go_wp2_with fail
      refine LN.out.mono ?_
      rintro e w1 ⟨rfl, rfl⟩
      go_wp2
      go_ret
      exact ⟨rfl, hb⟩
end Go.Proofs.Ytflcagcekhgjcaa
