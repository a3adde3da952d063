/- The law TallyNew, walked. -/
import Derived.Test.YtmoamadpaepcfaaTally6
namespace Go.Proofs.Ytmoamadpaepcfaa
open Go.ChangeShapes Go.WideShapes Go.ChangeAt Go.RowKit
set_option linter.unusedVariables false

set_option maxHeartbeats 400000 in
theorem tstep_nil (x : Bool) (w : World) : Calls Try.prog 17 #[.pointer none, .bool x] w fun e w' => e = .returned (.bool false) ∧ w = w' := by
  go_enter Try.func17, Try.ntmps17
  go_wp2
  go_ret
  exact ⟨rfl, rfl⟩
set_option maxHeartbeats 400000 in
theorem tnum_nil (w : World) : Calls Try.prog 18 #[.pointer none] w fun e w' => e = .returned (.int .i64 0) ∧ w = w' := by
  go_enter Try.func18, Try.ntmps18
  go_wp2
  go_ret
  exact ⟨rfl, rfl⟩
set_option maxHeartbeats 400000 in
theorem tlat_nil (w : World) : Calls Try.prog 19 #[.pointer none] w fun e w' => e = .returned (.bool false) ∧ w = w' := by
  go_enter Try.func19, Try.ntmps19
  go_wp2
  go_ret
  exact ⟨rfl, rfl⟩
set_option maxHeartbeats 400000 in
theorem tclear_nil (w : World) : Calls Try.prog 16 #[.pointer none] w fun e w' => e = .returned (.tuple #[]) ∧ w = w' := by
  go_enter Try.func16, Try.ntmps16
  go_wp2
  go_end0
  exact ⟨rfl, rfl⟩

set_option maxHeartbeats 4000000 in
theorem law_TallyNew (u d s m : Int) (x : Bool) (w : World) :
    Calls Try.prog 3 #[.agg #[.int .i64 u, .int .i64 d, .int .i64 s, .int .i64 m], .bool x] w fun e w' => e = .returned (.bool true) ∧ Below w.heap.size w w' := by
  have hq0 := Held.new w [.int .i64 u, .int .i64 d, .int .i64 s, .int .i64 m] 23
  have hb0 : Below w.heap.size w (w.alloc (.cells #[.int .i64 u, .int .i64 d, .int .i64 s, .int .i64 m] 23)) := (Below.refl _ _).alloc (Nat.le_refl _) _
  have TR := Lib.hid (fun v => tright_any u d s m v)
  have RR := Lib.hid (fun v => rtright_any u d s m v)
  cases hR : tlR u d s m
  · rw [hR] at TR RR
    go_enter Try.func3, Try.ntmps3
    go_wp2_with fail
    refine (tnew_no u d s m _ hR).mono ?_
    rintro e w1 ⟨rfl, hb1⟩
    have hq := hq0.bel hb1
    have hbel := hb0.trans (hb1.mono hb0.size)
    clear hq0 hb0 hb1
    obtain ⟨q0, f0⟩ := hq.one 0 rfl
    obtain ⟨q1, f1⟩ := hq.one 1 rfl
    obtain ⟨q2, f2⟩ := hq.one 2 rfl
    obtain ⟨q3, f3⟩ := hq.one 3 rfl
    go_wp2_with (go_at_call 16; refine (tclear_nil _).mono ?_; rintro e w1 ⟨rfl, rfl⟩)
    go_region_held3 (fun w' => w'.cell? ⟨w.heap.size, 0, none⟩ = some (.int .i64 u) ∧ w'.cell? ⟨w.heap.size, 1, none⟩ = some (.int .i64 d) ∧ w'.cell? ⟨w.heap.size, 2, none⟩ = some (.int .i64 s) ∧ w'.cell? ⟨w.heap.size, 3, none⟩ = some (.int .i64 m) ∧ Held w.heap.size [.int .i64 u, .int .i64 d, .int .i64 s, .int .i64 m] w' ∧ Below w.heap.size w w')
      (first | exact ⟨q0, q1, q2, q3, hq, hbel⟩ | exact ⟨q0, q1, q2, q3, hq.drew, hbel.drew⟩ | exact ⟨hz1.c 0 _ rfl, hz1.c 1 _ rfl, hz1.c 2 _ rfl, hz1.c 3 _ rfl, hz1, hbel1⟩)
      (first
        | (go_at_call 17; refine (tstep_nil _ _).mono ?_; rintro e w' ⟨rfl, rfl⟩)
        | (go_at_call 18; refine (tnum_nil _).mono ?_; rintro e w' ⟨rfl, rfl⟩)
        | (go_at_call 19; refine (tlat_nil _).mono ?_; rintro e w' ⟨rfl, rfl⟩)
        | (go_at_call 20; refine (TR.out _).mono ?_; rintro e w1 ⟨rfl, ob1⟩; have hz1 := Held.bel (b := w.heap.size) (by first | assumption | exact hq.drew) ob1; have hbel1 := Below.trans (a := w) (B := w.heap.size) (by first | assumption | exact hbel.drew) (ob1.mono (Below.size (by first | assumption | exact hbel.drew))))
        | (go_at_call 21; refine (RR.out _).mono ?_; rintro e w1 ⟨rfl, ob1⟩; have hz1 := Held.bel (b := w.heap.size) (by first | assumption | exact hq.drew) ob1; have hbel1 := Below.trans (a := w) (B := w.heap.size) (by first | assumption | exact hbel.drew) (ob1.mono (Below.size (by first | assumption | exact hbel.drew)))))
    clear q0 q1 q2 q3 f0 f1 f2 f3
    obtain ⟨q0, f0⟩ := hz1.one 0 rfl
    obtain ⟨q1, f1⟩ := hz1.one 1 rfl
    obtain ⟨q2, f2⟩ := hz1.one 2 rfl
    obtain ⟨q3, f3⟩ := hz1.one 3 rfl
    go_wp2_with fail
    refine (RR.out _).mono ?_
    rintro e w3 ⟨rfl, hb3⟩
    have hz3 := hz1.bel hb3
    have hb3 := hbel1.trans (hb3.mono hbel1.size)
    clear q0 q1 q2 q3 f0 f1 f2 f3
    obtain ⟨q0, f0⟩ := hz3.one 0 rfl
    obtain ⟨q1, f1⟩ := hz3.one 1 rfl
    obtain ⟨q2, f2⟩ := hz3.one 2 rfl
    obtain ⟨q3, f3⟩ := hz3.one 3 rfl
    go_wp2_with fail
    refine (ticks_no u d s m _ hR).mono ?_
    rintro e w4 ⟨rfl, hb4⟩
    have hb4 := hb3.trans (hb4.mono hb3.size)
    go_wp2_with (go_at_call 23; refine (lives22 _).mono ?_; rintro e w1 ⟨rfl, hb5⟩)
    go_ret
    exact ⟨rfl, hb4.trans (hb5.mono hb4.size)⟩
  · rw [hR] at TR RR
    have TK := Lib.hid (fun v => ticks_ok u d s m v hR)
    have RK := Lib.hid (fun v => rticks_ok u d s m v hR)
    generalize tks u s = tk at *
    go_enter Try.func3, Try.ntmps3
    go_wp2_with fail
    refine (tnew_ok u d s m _ hR).mono ?_
    rintro e w1 ⟨b, hb, rfl, hh, hb1⟩
    have hq := hq0.bel hb1
    have hbel := hb0.trans (hb1.mono hb0.size)
    clear hq0 hb0 hb1
    obtain ⟨q0, f0⟩ := hq.one 0 rfl
    obtain ⟨q1, f1⟩ := hq.one 1 rfl
    obtain ⟨q2, f2⟩ := hq.one 2 rfl
    obtain ⟨q3, f3⟩ := hq.one 3 rfl
    go_wp2_with (go_at_call 16; refine (tclear_nil _).mono ?_; rintro e w1 ⟨rfl, rfl⟩)
    go_region_held3 (fun w' => w'.cell? ⟨w.heap.size, 0, none⟩ = some (.int .i64 u) ∧ w'.cell? ⟨w.heap.size, 1, none⟩ = some (.int .i64 d) ∧ w'.cell? ⟨w.heap.size, 2, none⟩ = some (.int .i64 s) ∧ w'.cell? ⟨w.heap.size, 3, none⟩ = some (.int .i64 m) ∧ Held w.heap.size [.int .i64 u, .int .i64 d, .int .i64 s, .int .i64 m] w' ∧ Held b (tlC u d s m 0 false) w' ∧ Below w.heap.size w w')
      (first | exact ⟨q0, q1, q2, q3, hq, hh, hbel⟩ | exact ⟨q0, q1, q2, q3, hq.drew, hh.drew, hbel.drew⟩ | exact ⟨hz1.c 0 _ rfl, hz1.c 1 _ rfl, hz1.c 2 _ rfl, hz1.c 3 _ rfl, hz1, hh1, hbel1⟩)
      (first
        | (go_at_call 17; refine (tstep_nil _ _).mono ?_; rintro e w' ⟨rfl, rfl⟩)
        | (go_at_call 18; refine (tnum_nil _).mono ?_; rintro e w' ⟨rfl, rfl⟩)
        | (go_at_call 19; refine (tlat_nil _).mono ?_; rintro e w' ⟨rfl, rfl⟩)
        | (go_at_call 20; refine (TR.out _).mono ?_; rintro e w1 ⟨rfl, ob1⟩; have hz1 := Held.bel (b := w.heap.size) (by first | assumption | exact hq.drew) ob1; have hh1 := Held.bel (b := b) (by first | assumption | exact hh.drew) ob1; have hbel1 := Below.trans (a := w) (B := w.heap.size) (by first | assumption | exact hbel.drew) (ob1.mono (Below.size (by first | assumption | exact hbel.drew))))
        | (go_at_call 21; refine (RR.out _).mono ?_; rintro e w1 ⟨rfl, ob1⟩; have hz1 := Held.bel (b := w.heap.size) (by first | assumption | exact hq.drew) ob1; have hh1 := Held.bel (b := b) (by first | assumption | exact hh.drew) ob1; have hbel1 := Below.trans (a := w) (B := w.heap.size) (by first | assumption | exact hbel.drew) (ob1.mono (Below.size (by first | assumption | exact hbel.drew)))))
    clear q0 q1 q2 q3 f0 f1 f2 f3
    obtain ⟨q0, f0⟩ := hz1.one 0 rfl
    obtain ⟨q1, f1⟩ := hz1.one 1 rfl
    obtain ⟨q2, f2⟩ := hz1.one 2 rfl
    obtain ⟨q3, f3⟩ := hz1.one 3 rfl
    go_wp2_with fail
    refine (RR.out _).mono ?_
    rintro e w3 ⟨rfl, hb3⟩
    have hz3 := hz1.bel hb3
    have hh3 := hh1.bel hb3
    have hb3 := hbel1.trans (hb3.mono hbel1.size)
    clear q0 q1 q2 q3 f0 f1 f2 f3
    obtain ⟨q0, f0⟩ := hz3.one 0 rfl
    obtain ⟨q1, f1⟩ := hz3.one 1 rfl
    obtain ⟨q2, f2⟩ := hz3.one 2 rfl
    obtain ⟨q3, f3⟩ := hz3.one 3 rfl
    go_wp2_with fail
    go_region_held3 (fun w' => w'.cell? ⟨w.heap.size, 0, none⟩ = some (.int .i64 u) ∧ w'.cell? ⟨w.heap.size, 1, none⟩ = some (.int .i64 d) ∧ w'.cell? ⟨w.heap.size, 2, none⟩ = some (.int .i64 s) ∧ w'.cell? ⟨w.heap.size, 3, none⟩ = some (.int .i64 m) ∧ Held w.heap.size [.int .i64 u, .int .i64 d, .int .i64 s, .int .i64 m] w' ∧ Held b (tlC u d s m 0 false) w' ∧ Below w.heap.size w w')
      (first | exact ⟨q0, q1, q2, q3, hz3, hh3, hb3⟩ | exact ⟨q0, q1, q2, q3, hz3.drew, hh3.drew, hb3.drew⟩ | exact ⟨hz4.c 0 _ rfl, hz4.c 1 _ rfl, hz4.c 2 _ rfl, hz4.c 3 _ rfl, hz4, hh4, hbel4⟩)
      (first
        | (go_at_call 18; refine (tnum_any b _ (by first | assumption | exact hh3.drew)).mono ?_; rintro e w' ⟨rfl, rfl⟩)
        | (go_at_call 19; refine (tlat_any b _ (by first | assumption | exact hh3.drew)).mono ?_; rintro e w' ⟨rfl, rfl⟩)
        | (go_at_call 22; refine (TK.out _).mono ?_; rintro e w4 ⟨rfl, ob4⟩; have hz4 := Held.bel (b := w.heap.size) (by first | assumption | exact hz3.drew) ob4; have hh4 := Held.bel (b := b) (by first | assumption | exact hh3.drew) ob4; have hbel4 := Below.trans (a := w) (B := w.heap.size) (by first | assumption | exact hb3.drew) (ob4.mono (Below.size (by first | assumption | exact hb3.drew))))
        | (go_at_call 24; refine (RK.out _).mono ?_; rintro e w4 ⟨rfl, ob4⟩; have hz4 := Held.bel (b := w.heap.size) (by first | assumption | exact hz3.drew) ob4; have hh4 := Held.bel (b := b) (by first | assumption | exact hh3.drew) ob4; have hbel4 := Below.trans (a := w) (B := w.heap.size) (by first | assumption | exact hb3.drew) (ob4.mono (Below.size (by first | assumption | exact hb3.drew))))
        | (go_at_call 23; refine (lives22 _).mono ?_; rintro e w4 ⟨rfl, ob4⟩; have hz4 := Held.bel (b := w.heap.size) (by first | assumption | exact hz3.drew) ob4; have hh4 := Held.bel (b := b) (by first | assumption | exact hh3.drew) ob4; have hbel4 := Below.trans (a := w) (B := w.heap.size) (by first | assumption | exact hb3.drew) (ob4.mono (Below.size (by first | assumption | exact hb3.drew)))))
    go_wp2
    go_ret
    exact ⟨rfl, hbel4⟩
end Go.Proofs.Ytmoamadpaepcfaa
