/- The law TallySure, walked. -/
import Derived.Test.YtmoamadpaepcfaaTally3
namespace Go.Proofs.Ytmoamadpaepcfaa
open Go.ChangeShapes Go.WideShapes Go.ChangeAt Go.RowKit
set_option linter.unusedVariables false

theorem sure_plain {u d s m : Int} (ok : TlOk u d s m) {n i : Int} (h0 : 0 ≤ n) (hm : n ≤ m) (h : i * u ≤ n ∨ s ≤ n) :
    (i + 1) * u ≤ tnx u d m n true ∨ s ≤ tnx u d m n true := by
  obtain ⟨u1, u2, d1, d2, s1, s2, m1, m2⟩ := ok
  have e : (i + 1) * u = i * u + u := by rw [Int.add_mul, Int.one_mul]
  rw [e]
  unfold tnx
  simp
  omega
theorem tks_u {u d s m : Int} (ok : TlOk u d s m) : s ≤ tks u s * u ∧ 0 ≤ tks u s := by
  obtain ⟨u1, u2, d1, d2, s1, s2, m1, m2⟩ := ok
  have h := Int.emod_add_mul_ediv (s + u - 1) u
  have h2 := Int.emod_lt_of_pos (s + u - 1) (show 0 < u by omega)
  have h3 : u * ((s + u - 1) / u) = (s + u - 1) / u * u := Int.mul_comm _ _
  unfold tks
  exact ⟨by omega, Int.ediv_nonneg (by omega) (by omega)⟩

set_option maxHeartbeats 4000000 in
theorem law_TallySure (u d s m : Int) (a : Option Addr) (cap : Nat) (rows : List (List Value)) (a' : Option Addr) (cap' : Nat) (rows' : List (List Value)) (w : World) (ht : Tab [none] w a rows) (hl : rows.length ≤ maxLen) (ht' : Tab [none] w a' rows') (hl' : rows'.length ≤ maxLen) :
    Calls Try.prog 5 #[.agg #[.int .i64 u, .int .i64 d, .int .i64 s, .int .i64 m], .slice a rows.length cap, .slice a' rows'.length cap'] w fun e w' => e = .returned (.bool true) ∧ Below w.heap.size w w' := by
  unfold maxLen at hl hl'
  cases hR : tlR u d s m
  · go_enter Try.func5, Try.ntmps5
    go_wp2_with fail
    refine (tnew_no u d s m _ hR).mono ?_
    rintro e w1 ⟨rfl, hb1⟩
    obtain ⟨hc1, hf1⟩ := bcell hb1
    have hz1 : w.heap.size < w1.heap.size := by have := hb1.size; simp at this; omega
    go_wp2_with fail
    refine (ticks_no u d s m _ hR).mono ?_
    rintro e w2 ⟨rfl, hb2⟩
    have hbel : Below w.heap.size w w2 := (Below.trans (by repeat (first | exact Below.refl _ _ | assumption | apply Below.drew | apply below_drewN | (refine Below.alloc ?_ (by first | exact Nat.le_refl _ | omega | (simp <;> omega)) _) | (refine Below.setCell ?_ (by first | exact Nat.le_refl _ | omega | (simp <;> omega)) _))) (hb1.mono (by simp))).trans (hb2.mono (by omega))
    go_wp2_with (go_at_call 23; refine (lives22 _).mono ?_; rintro e w1 ⟨rfl, hb3⟩)
    go_ret
    exact ⟨rfl, hbel.trans (hb3.mono hbel.size)⟩
  · have ok := tlR_ok hR
    go_enter Try.func5, Try.ntmps5
    go_wp2_with fail
    have hbq : Below w.heap.size w (w.alloc (.cells #[.int .i64 u, .int .i64 d, .int .i64 s, .int .i64 m] 23)) := (Below.refl _ _).alloc (Nat.le_refl _) _
    refine (tnew_ok u d s m _ hR).mono ?_
    rintro e w1 ⟨b, hb, rfl, h1, hb1⟩
    obtain ⟨hc1, hf1⟩ := bcell hb1
    have hz1 : w.heap.size < w1.heap.size := by have := hb1.size; simp at this; omega
    have hbel := hbq.trans (hb1.mono hbq.size)
    have hbw : w.heap.size < b := by simp at hb; omega
    go_wp2_with fail
    refine (ticks_ok u d s m _ hR).mono ?_
    rintro e w2 ⟨rfl, hb2⟩
    have h1 := h1.bel hb2
    have hbel := hbel.trans (hb2.mono hbel.size)
    have TU := tks_u ok
    have s1 := ok.s1
    have m1 := ok.m1
    clear hc1 hf1 hz1 hb1 hb hbq hb2
    obtain ⟨q, hq⟩ : ∃ q, tks u s = q := ⟨_, rfl⟩
    rw [hq] at TU ⊢
    obtain ⟨TU, q0⟩ := TU
    have TU := Lib.hid TU
    by_cases hbig : 100 < rows.length ∨ 100 < rows'.length ∨ 2000 < q
    · go_wp2_with (go_at_call 23; refine (lives22 _).mono ?_; rintro e w1 ⟨rfl, hb2⟩)
      all_goals
        go_ret
        exact ⟨rfl, hbel.trans (hb2.mono hbel.size)⟩
    · have g1 : rows.length ≤ 100 := by omega
      have g2 : rows'.length ≤ 100 := by omega
      have g3 : q ≤ 2000 := by omega
      clear hbig
      go_wp2_with fail
      go_loopw [10] (fun i v => ∃ (k : Nat) (n : Int) (l : Bool), k ≤ rows.length ∧ i = .int .i64 k ∧ 0 ≤ n ∧ n ≤ m ∧ (s ≤ n → l = true) ∧ Held b (tlC u d s m n l) v ∧ Below w.heap.size w v) (fun i _ => rows.length - (intOf i).toNat)
      case atStart => exact ⟨0, 0, false, Nat.zero_le _, rfl, by omega, by omega, by omega, h1, hbel⟩
      case round =>
        obtain ⟨k, n, l, hk, rfl, n0, nm, hls, hh, hbel⟩ := hrel
        clear h1
        by_cases hlt : k < rows.length
        · obtain ⟨tb, off, r, rfl, htb, hr, hfl, hcell⟩ := ht.at hlt
          obtain ⟨x, r', rfl, hr'⟩ := hfl
          have hc : wr.cell? ⟨tb, off + k, none⟩ = some (.bool x) := (hbel.cell (p := ⟨tb, off + k, none⟩) htb).trans (by simpa using hcell 0 _ rfl)
          have ST := Lib.hid (tstep_any b x wr hh ok n0 nm)
          have nb := tnx_bd ok n0 nm x
          go_wp2_with fail
          refine ST.out.mono ?_
          rintro e w3 ⟨rfl, h3, o3⟩
          go_wp2
          go_roundw
          case rel => exact ⟨k + 1, _, _, by omega, by go_num, nb.1, nb.2, by intro h; simp [h], h3, hbel.trans (o3.below (by omega))⟩
          case measure => simp [intOf]; omega
        · clear ht
          go_wp2_with fail
          go_loopw [11] (fun i v => ∃ (k : Nat) (n : Int) (l : Bool), (k : Int) ≤ q ∧ i = .int .i64 k ∧ 0 ≤ n ∧ n ≤ m ∧ (s ≤ n → l = true) ∧ Hid ((k : Int) * u ≤ n ∨ s ≤ n) ∧ Held b (tlC u d s m n l) v ∧ Below w.heap.size w v) (fun i _ => q.toNat - (intOf i).toNat)
          case atStart => exact ⟨0, n, l, by omega, rfl, n0, nm, hls, Lib.hid (by simp; omega), hh, hbel⟩
          case round =>
            clear hh hbel hls n0 nm
            obtain ⟨k, n, l, hk, rfl, n0, nm, hls, hu, hh, hbel⟩ := hrel
            by_cases hlt : (k : Int) < q
            · have ST := Lib.hid (tstep_any b true wr hh ok n0 nm)
              have nb := tnx_bd ok n0 nm true
              have SP := Lib.hid (sure_plain ok n0 nm hu.out)
              go_wp2_with fail
              refine ST.out.mono ?_
              rintro e w3 ⟨rfl, h3, o3⟩
              go_wp2
              go_roundw
              case rel => exact ⟨k + 1, _, _, by omega, by go_num, nb.1, nb.2, by intro h; simp [h], Lib.hid (by have := SP.out; push_cast; exact this), h3, hbel.trans (o3.below (by omega))⟩
              case measure => simp [intOf]; omega
            · have hkq : (k : Int) = q := by omega
              have hl1 : l = true := hls (by have h1 := TU.out; have h2 := hu.out; rw [hkq] at h2; omega)
              subst hl1
              clear hu hkq
              go_wp2_with (go_at_call 19; refine (tlat_any b _ hh).mono ?_; rintro e w1 ⟨rfl, rfl⟩)
              go_loopw [12] (fun i v => ∃ (k : Nat) (n : Int), k ≤ rows'.length ∧ i = .int .i64 k ∧ 0 ≤ n ∧ n ≤ m ∧ Held b (tlC u d s m n true) v ∧ Below w.heap.size w v) (fun i _ => rows'.length - (intOf i).toNat)
              case atStart => exact ⟨0, n, Nat.zero_le _, rfl, n0, nm, hh, hbel⟩
              case round =>
                clear hh hbel hls n0 nm
                obtain ⟨k, n, hk, rfl, n0, nm, hh, hbel⟩ := hrel
                by_cases hlt : k < rows'.length
                · obtain ⟨tb, off, r, rfl, htb, hr, hfl, hcell⟩ := ht'.at hlt
                  obtain ⟨x, r', rfl, hr'⟩ := hfl
                  have hc : wr.cell? ⟨tb, off + k, none⟩ = some (.bool x) := (hbel.cell (p := ⟨tb, off + k, none⟩) htb).trans (by simpa using hcell 0 _ rfl)
                  have ST := tstep_any b x wr hh ok n0 nm
                  rw [Bool.true_or] at ST
                  have ST := Lib.hid ST
                  have nb := tnx_bd ok n0 nm x
                  go_wp2_with fail
                  refine ST.out.mono ?_
                  rintro e w3 ⟨rfl, h3, o3⟩
                  go_wp2
                  go_roundw
                  case rel => exact ⟨k + 1, _, by omega, by go_num, nb.1, nb.2, h3, hbel.trans (o3.below (by omega))⟩
                  case measure => simp [intOf]; omega
                · go_wp2_with fail
                  refine (tclear_any b _ hh).mono ?_
                  rintro e w3 ⟨rfl, h3, o3⟩
                  have hb3 : Below w.heap.size w w3 := hbel.trans (o3.below (by omega))
                  go_wp2_with (go_at_call 19; refine (tlat_any b _ h3).mono ?_; rintro e w1 ⟨rfl, rfl⟩)
                  have ST := tstep_any b false w3 h3 ok (by omega) (by omega)
                  have hn : tnx u d m 0 false = 0 := by have := ok.d1; unfold tnx; simp; omega
                  rw [hn, show (false || decide (s ≤ 0)) = false by simp; omega] at ST
                  refine ST.mono ?_
                  rintro e w4 ⟨rfl, h4, o4⟩
                  have hb4 : Below w.heap.size w w4 := hb3.trans (o4.below (by omega))
                  go_wp2_with (go_at_call 23; refine (lives22 _).mono ?_; rintro e w1 ⟨rfl, hb5⟩)
                  go_ret
                  exact ⟨rfl, hb4.trans (hb5.mono hb4.size)⟩
end Go.Proofs.Ytmoamadpaepcfaa
