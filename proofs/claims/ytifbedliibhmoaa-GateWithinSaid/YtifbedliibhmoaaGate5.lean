/- The laws GateWithin and GateSteady, walked. -/
import Derived.Test.YtifbedliibhmoaaGate3
namespace Go.Proofs.Ytifbedliibhmoaa
open Go.ChangeShapes Go.WideShapes Go.ChangeAt Go.RowKit
set_option linter.unusedVariables false
set_option linter.unusedSimpArgs false

/-- Ahead of round k: nothing was let through, or one at 'at'. -/
def GwI (lo hi la tk at' : Int) (kn : Bool) (k : Nat) : Prop := (kn = false ∧ la = 0 ∧ at' = -1) ∨ (kn = true ∧ lo ≤ la ∧ la ≤ hi ∧ 0 ≤ at' ∧ tk = k - 1 - at')
theorem gw_step {lo hi ra la tk at' v : Int} {kn : Bool} {k : Nat} (ok : GaOk lo hi ra) (I : GwI lo hi la tk at' kn k) (t0 : 0 ≤ tk) (t1 : tk ≤ k) (hk : k ≤ 100) :
    (gaE lo hi ra la kn (gaT tk) v ≠ 0 → GwI lo hi la (gaT tk) at' kn (k + 1)) ∧
    (gaE lo hi ra la kn (gaT tk) v = 0 → lo ≤ v ∧ v ≤ hi ∧ GwI lo hi v 0 k true (k + 1) ∧ (kn = true → (if v - la < 0 then -(v - la) else v - la) ≤ ra * (k - at'))) := by
  obtain ⟨o1, o2, o3, o4, o5⟩ := ok
  have eT : gaT tk = tk + 1 := by unfold gaT; omega
  refine ⟨fun _ => ?_, fun h => ?_⟩
  · rcases I with ⟨a, b, c⟩ | ⟨a, b, c, d, e⟩
    · exact .inl ⟨a, b, c⟩
    · exact .inr ⟨a, b, c, d, by rw [eT]; push_cast; omega⟩
  · unfold gaE at h
    split at h
    · simp at h
    · split at h
      · simp at h
      · split at h
        · simp at h
        · rename_i h1 h2 h3
          refine ⟨by omega, by omega, .inr ⟨rfl, by omega, by omega, by omega, by push_cast; omega⟩, fun hkn => ?_⟩
          rcases I with ⟨a, b, c⟩ | ⟨a, b, c, d, e⟩
          · rw [a] at hkn; simp at hkn
          · have h4 : gaF ra la kn (gaT tk) v = false := by simpa using h3
            unfold gaF at h4
            rw [hkn] at h4
            simp at h4
            have e2 : (k : Int) - at' = gaT tk := by rw [eT]; omega
            rw [e2]
            unfold gaM at h4
            generalize ra * gaT tk = q at *
            split at h4 <;> split at h4 <;> split <;> omega

set_option maxRecDepth 100000 in
set_option maxHeartbeats 4000000 in
theorem law_GateWithin (lo hi ra : Int) (a : Option Addr) (cap : Nat) (l : List Int) (w : World) (hrow : RowIs .i64 w a l) (hl : l.length ≤ maxLen) :
    Calls Try.prog 5 #[.agg #[.int .i64 lo, .int .i64 hi, .int .i64 ra], .slice a l.length cap] w fun e w' => e = .returned (.bool true) ∧ Below w.heap.size w w' := by
  unfold maxLen at hl
  have hq0 := Held.new w [.int .i64 lo, .int .i64 hi, .int .i64 ra] 23
  have hb0 : Below w.heap.size w (w.alloc (.cells #[.int .i64 lo, .int .i64 hi, .int .i64 ra] 23)) := (Below.refl _ _).alloc (Nat.le_refl _) _
  have GR := Lib.hid (fun u => gright_any lo hi ra u)
  by_cases hbig : 100 < l.length
  · go_enter Try.func5, Try.ntmps5
    go_wp2_with (go_at_call 24; refine (lives15 _).mono ?_; rintro e w1 ⟨rfl, hb2⟩)
    go_ret
    exact ⟨rfl, hb0.trans (hb2.mono hb0.size)⟩
  · cases hR : gaR lo hi ra
    · rw [hR] at GR
      go_enter Try.func5, Try.ntmps5
      go_wp2_with fail
      refine (GR.out _).mono ?_
      rintro e w1 ⟨rfl, hb1⟩
      have hb1 := hb0.trans (hb1.mono hb0.size)
      go_wp2_with (go_at_call 24; refine (lives15 _).mono ?_; rintro e w1 ⟨rfl, hb2⟩)
      go_ret
      exact ⟨rfl, hb1.trans (hb2.mono hb1.size)⟩
    · have ok := gaR_ok hR
      obtain ⟨o1, o2, o3, o4, o5⟩ := gaR_ok hR
      rw [hR] at GR
      go_enter Try.func5, Try.ntmps5
      go_wp2_with fail
      refine (GR.out _).mono ?_
      rintro e w0 ⟨rfl, hb1⟩
      have hq0 := hq0.bel hb1
      have hb0 := hb0.trans (hb1.mono hb0.size)
      clear hb1 GR
      obtain ⟨q0, f0⟩ := hq0.one 0 rfl
      obtain ⟨q1, f1⟩ := hq0.one 1 rfl
      obtain ⟨q2, f2⟩ := hq0.one 2 rfl
      go_wp2_with fail
      refine (gnew_ok lo hi ra _ hR).mono ?_
      rintro e w1 ⟨b, hb, rfl, k1, hb1⟩
      have hq1 := hq0.bel hb1
      have hbel1 := hb0.trans (hb1.mono hb0.size)
      have hbw : w.heap.size < b := by have := hq0.lt; omega
      clear q0 q1 q2 f0 f1 f2 hq0 hb0 hb1 hb
      go_wp2_with fail
      go_loopw [7, 8] (fun s7 i v => ∃ (k : Nat) (la tk at' : Int) (kn : Bool), k ≤ l.length ∧ i = .int .i64 k ∧ s7 = .int .i64 at' ∧ -1 ≤ at' ∧ at' < k ∧ 0 ≤ tk ∧ tk ≤ k ∧ -549755813887 ≤ la ∧ la ≤ 549755813887 ∧ Hid (GwI lo hi la tk at' kn k) ∧ Held b (gaC lo hi ra la kn tk) v ∧ Held w.heap.size [.int .i64 lo, .int .i64 hi, .int .i64 ra] v ∧ Below w.heap.size w v) (fun _ i _ => l.length - (intOf i).toNat)
      case atStart => exact ⟨0, 0, 0, -1, false, Nat.zero_le _, rfl, rfl, by omega, by omega, by omega, by omega, by omega, by omega, Lib.hid (.inl ⟨rfl, rfl, rfl⟩), k1, hq1, hbel1⟩
      case round =>
        clear k1 hq1 hbel1
        obtain ⟨k, la, tk, at', kn, hk, rfl, rfl, a0, a1, t0, t1, l0, l1, HI, kk, hq, hbel⟩ := hrel
        have t2 : tk ≤ 1000 := by omega
        have tb := gaT_bd t0 t2
        have tl : gaT tk ≤ k + 1 := by unfold gaT; omega
        by_cases hlt : k < l.length
        · obtain ⟨tb', off, rfl, htb, hc0⟩ := hrow.at hlt
          generalize l.getD k 0 = v at *
          have hcell : ∀ u, Below w.heap.size w u → u.cell? ⟨tb', off + k, none⟩ = some (.int .i64 v) := fun u hu => (bc hu htb).trans hc0
          have hcell := Lib.hid hcell
          clear hc0 hrow
          have G := gw_step (v := v) ok HI.out t0 t1 (by omega)
          have GC := Lib.hid (fun u hu => gcheck_any (lo := lo) (hi := hi) (ra := ra) (la := la) (kn := kn) (tk := tk) b v u hu ok t0 t2 l0 l1)
          generalize gaT tk = T at *
          generalize gaE lo hi ra la kn T v = E at *
          have hx := hcell.out _ hbel
          go_wp2_with fail
          refine (glast_any b _ kk).mono ?_
          rintro e w2 ⟨rfl, rfl⟩
          have kk := kk.drew
          have hq := hq.drew
          have hbel := hbel.drew
          have hx := hcell.out _ hbel
          go_wp2_with fail
          refine (GC.out _ kk).mono ?_
          rintro e w3 ⟨rfl, k3, o3⟩
          have hq3 := Held.beside hq o3 (by omega)
          have hb3 := Below.beside (w := w) hbel o3 (by omega)
          clear kk hq hbel o3 hx GC
          go_wp2_with fail
          refine (glast_any b _ k3).mono ?_
          rintro e w4 ⟨rfl, rfl⟩
          have k3 := k3.drew
          have hq3 := hq3.drew
          have hb3 := hb3.drew
          have hx3 := hcell.out _ hb3
          obtain ⟨q0, f0⟩ := hq3.one 0 rfl
          obtain ⟨q1, f1⟩ := hq3.one 1 rfl
          obtain ⟨q2, f2⟩ := hq3.one 2 rfl
          by_cases hE : E = 0
          · subst hE
            obtain ⟨v1, v2, I2, hD⟩ := G.2 rfl
            have I2 := Lib.hid I2
            clear G
            rw [show gaA 0 v la = v from rfl, show gaB 0 kn = true from rfl, show gaN 0 T = 0 from rfl] at *
            cases kn
            · clear hD
              go_wp2_with fail
              refine region_still [] [(.free, 0), (.free, 1), (.free, 2), (.free, 3), (.free, 4), (.free, 6), (.take, 7), (.free, 8), (.free, 9), (.free, 10), (.free, 11), (.step, 5), (.free, 12), (.free, 13)] _ (by kernel_rfl) (by kernel_rfl) (by kernel_rfl) (by kernel_rfl) (by decide) rfl (fun _ _ _ _ _ h => h) ?_
              simp only [List.filterMap_cons, List.filterMap_nil, List.getElem?_toArray, List.getElem?_cons_zero, List.getElem?_cons_succ, Option.map_some]
              iterate 6
                first
                  | (refine mv_free ?_ (Or.inl ⟨by rfl, ?_⟩) (rfl) ?_
                     rotate_left 1
                     · intro u
                       go_simp
                       try with_reducible rfl
                     simp only [Act.put, List.setIfInBounds_toArray, List.set_cons_zero, List.set_cons_succ])
                  | (refine mv_free _ (Or.inr ⟨by rfl, rfl⟩) (rfl) ?_
                     simp only [Act.put, List.setIfInBounds_toArray, List.set_cons_zero, List.set_cons_succ])
              iterate 1
                first
                  | (refine mv_take ?_ (Or.inl ⟨by rfl, ?_⟩) (rfl) ?_
                     rotate_left 1
                     · intro u hu
                       (try dsimp only at hu)
                       go_simp
                       try with_reducible rfl
                     simp only [Act.put, List.setIfInBounds_toArray, List.set_cons_zero, List.set_cons_succ])
                  | (refine mv_take _ (Or.inr ⟨by rfl, rfl⟩) (rfl) ?_
                     simp only [Act.put, List.setIfInBounds_toArray, List.set_cons_zero, List.set_cons_succ])
              iterate 4
                first
                  | (refine mv_free ?_ (Or.inl ⟨by rfl, ?_⟩) (rfl) ?_
                     rotate_left 1
                     · intro u
                       go_simp
                       try with_reducible rfl
                     simp only [Act.put, List.setIfInBounds_toArray, List.set_cons_zero, List.set_cons_succ])
                  | (refine mv_free _ (Or.inr ⟨by rfl, rfl⟩) (rfl) ?_
                     simp only [Act.put, List.setIfInBounds_toArray, List.set_cons_zero, List.set_cons_succ])
              refine mv_step (fun K hK => ?_)
              go_simp
              refine hK.out _ _ _ (fun u hu => hu) (rfl) ?_
              clear hK K
              iterate 2
                first
                  | (refine mv_free ?_ (Or.inl ⟨by rfl, ?_⟩) (rfl) ?_
                     rotate_left 1
                     · intro u
                       go_simp
                       try with_reducible rfl
                     simp only [Act.put, List.setIfInBounds_toArray, List.set_cons_zero, List.set_cons_succ])
                  | (refine mv_free _ (Or.inr ⟨by rfl, rfl⟩) (rfl) ?_
                     simp only [Act.put, List.setIfInBounds_toArray, List.set_cons_zero, List.set_cons_succ])
              refine mv_done ?_
              go_wp2
              go_roundw
              case rel => exact ⟨k + 1, v, 0, k, true, by omega, by go_num, rfl, by omega, by push_cast; omega, by omega, by push_cast; omega, by omega, by omega, I2, k3.drew, hq3.drew, hb3.drew⟩
              case measure => simp [intOf]; omega
            · have hD := hD rfl
              have qb : 0 ≤ ra * (k - at') ∧ ra * (k - at') ≤ 549755813887000 := gaQ_bd o4 o5 (by omega) (by omega)
              have hw1 : IntKind.i64.wrap (v - la) = v - la := IntWalk.i64_in _ ⟨by omega, by omega⟩
              have hw2 : IntKind.i64.wrap (↑k - at') = ↑k - at' := IntWalk.i64_in _ ⟨by omega, by omega⟩
              have hw3 : IntKind.i64.wrap (ra * (↑k - at')) = ra * (↑k - at') := IntWalk.i64_in _ ⟨by omega, by omega⟩
              have AB := Lib.hid (fun u => rabs01_any (v - la) u (by omega))
              have hdd : decide (ra * (↑k - at') < (if v - la < 0 then -(v - la) else v - la)) = false := decide_eq_false (by omega)
              generalize (if v - la < 0 then -(v - la) else v - la) = D at *
              clear hD
              go_wp2_with fail
              refine region_still [] [(.free, 0), (.free, 1), (.free, 2), (.free, 3), (.free, 4), (.free, 6), (.take, 7), (.free, 8), (.free, 9), (.free, 10), (.free, 11), (.step, 5), (.free, 12), (.free, 13)] _ (by kernel_rfl) (by kernel_rfl) (by kernel_rfl) (by kernel_rfl) (by decide) rfl (fun _ _ _ _ _ h => h) ?_
              simp only [List.filterMap_cons, List.filterMap_nil, List.getElem?_toArray, List.getElem?_cons_zero, List.getElem?_cons_succ, Option.map_some]
              iterate 6
                first
                  | (refine mv_free ?_ (Or.inl ⟨by rfl, ?_⟩) (rfl) ?_
                     rotate_left 1
                     · intro u
                       go_simp
                       try with_reducible rfl
                     simp only [Act.put, List.setIfInBounds_toArray, List.set_cons_zero, List.set_cons_succ])
                  | (refine mv_free _ (Or.inr ⟨by rfl, rfl⟩) (rfl) ?_
                     simp only [Act.put, List.setIfInBounds_toArray, List.set_cons_zero, List.set_cons_succ])
              iterate 1
                first
                  | (refine mv_take ?_ (Or.inl ⟨by rfl, ?_⟩) (rfl) ?_
                     rotate_left 1
                     · intro u hu
                       (try dsimp only at hu)
                       go_simp
                       try with_reducible rfl
                     simp only [Act.put, List.setIfInBounds_toArray, List.set_cons_zero, List.set_cons_succ])
                  | (refine mv_take _ (Or.inr ⟨by rfl, rfl⟩) (rfl) ?_
                     simp only [Act.put, List.setIfInBounds_toArray, List.set_cons_zero, List.set_cons_succ])
              iterate 4
                first
                  | (refine mv_free ?_ (Or.inl ⟨by rfl, ?_⟩) (rfl) ?_
                     rotate_left 1
                     · intro u
                       go_simp
                       try with_reducible rfl
                     simp only [Act.put, List.setIfInBounds_toArray, List.set_cons_zero, List.set_cons_succ])
                  | (refine mv_free _ (Or.inr ⟨by rfl, rfl⟩) (rfl) ?_
                     simp only [Act.put, List.setIfInBounds_toArray, List.set_cons_zero, List.set_cons_succ])
              refine mv_step (fun K hK => ?_)
              go_simp
              refine (AB.out _).mono ?_
              rintro e w' ⟨rfl, rfl⟩
              go_wp2_with fail
              refine hK.out _ _ _ (fun u hu => hu) (rfl) ?_
              clear hK K
              iterate 2
                first
                  | (refine mv_free ?_ (Or.inl ⟨by rfl, ?_⟩) (rfl) ?_
                     rotate_left 1
                     · intro u
                       go_simp
                       try with_reducible rfl
                     simp only [Act.put, List.setIfInBounds_toArray, List.set_cons_zero, List.set_cons_succ])
                  | (refine mv_free _ (Or.inr ⟨by rfl, rfl⟩) (rfl) ?_
                     simp only [Act.put, List.setIfInBounds_toArray, List.set_cons_zero, List.set_cons_succ])
              refine mv_done ?_
              go_wp2
              go_roundw
              case rel => exact ⟨k + 1, v, 0, k, true, by omega, by go_num, rfl, by omega, by push_cast; omega, by omega, by push_cast; omega, by omega, by omega, I2, k3.drew, hq3.drew, hb3.drew⟩
              case measure => simp [intOf]; omega
          · have I1 := Lib.hid (G.1 hE)
            clear G
            rw [show gaA E v la = la by unfold gaA; rw [if_neg hE], show gaB E kn = kn by unfold gaB; simp [hE], show gaN E T = T by unfold gaN; rw [if_neg hE]] at *
            have hE' : (E == 0) = false := beq_eq_false_iff_ne.2 hE
            have hE2 : (E != 0) = true := by simpa using hE
            clear hE
            go_wp2
            all_goals
              go_roundw
              case rel => exact ⟨k + 1, la, T, at', kn, by omega, by go_num, rfl, by omega, by push_cast; omega, by omega, by push_cast; omega, by omega, by omega, I1, k3, hq3, hb3⟩
              case measure => simp [intOf]; omega
        · go_wp2_with (go_at_call 24; refine (lives15 _).mono ?_; rintro e w1 ⟨rfl, hb3⟩)
          go_ret
          exact ⟨rfl, hbel.trans (hb3.mono hbel.size)⟩
end Go.Proofs.Ytifbedliibhmoaa
