/- An atmosphere is prepared: once; walked. -/
import Derived.Test.YtecpmffmmiogfaaGreatAir3
import Derived.Deep.Cut
namespace Go.Proofs.YtecpmffmmiogfaaGreat
open Go.ChangeShapes Go.WideShapes Go.ChangeAt Go.RowKit
set_option linter.unusedVariables false
set_option linter.unusedSimpArgs false
set_option maxRecDepth 100000 in
set_option maxHeartbeats 8000000 in
theorem aslow (b : Nat) (pl : Addr) (g : Nat → Int) (w : World) (hpb : ¬ pl.block = b) (hp : w.cell? pl = some (.pointer (some ⟨b, 0, none⟩))) (hpl : pl.block < w.heap.size) (h : AirO b 0 0 g w) : Calls Tryz.prog 83 #[.pointer (some ⟨b, 0, none⟩), .func (.func 60) #[] #[.pointer (some pl)]] w fun e w' => e = .returned (.tuple #[]) ∧ AirO b 1 0 aS w' ∧ Beside b w w' := by
  have LK := Lib.hid (olock_free ⟨b, 1, none⟩ w h.c1 (h.fz 1 (by omega)))
  have h1 := h.set1 1
  have bs1 : Beside b w (w.setCell ⟨b, 1, none⟩ (.int .i32 1)) := (Beside.of_only (Only.refl b w)).setCell (p := ⟨b, 1, none⟩) _
  have hp1 := (World.cell?_of_block (a := pl) (bs1.block pl.block hpl hpb)).trans hp
  have hpl1 : pl.block < (w.setCell ⟨b, 1, none⟩ (.int .i32 1)).heap.size := by simpa using hpl
  obtain ⟨V, eV⟩ : ∃ V, V = w.setCell ⟨b, 1, none⟩ (.int .i32 1) := ⟨_, rfl⟩
  rw [← eV] at h1 bs1 hp1 hpl1
  have LD := Lib.hid (oload ⟨b, 0, none⟩ 0 V h1.c0)
  have PR := Lib.hid (aprep1 b pl g V hpb hp1 hpl1 h1)
  have ST := Lib.hid (fun u (m : AirO b 0 1 aS u) => ostore_deferred ⟨b, 0, none⟩ _ .returning u m.c0 (m.fz 0 (by omega)))
  have UL := Lib.hid (fun u (m : AirO b 1 1 aS u) => ounlock_deferred ⟨b, 1, none⟩ .returning u m.c1 (m.fz 1 (by omega)))
  have hnot : ∀ (x : Bool) (w : World), (Op.unary .not (.bool x)).run Tryz.prog w = .ok (.bool (!x)) w := fun _ _ => rfl
  replace h1 := Lib.hid h1
  replace bs1 := Lib.hid bs1
  replace eV := Lib.hid eV
  clear hp hpl hp1 hpl1 h hpb
  go_enter_defers Tryz.func83, Tryz.ntmps83
  go_wp2_with fail
  refine LK.out.mono ?_
  rintro e w1 ⟨rfl, rfl⟩
  rw [← eV.out]
  go_wp2_with fail
  refine LD.out.mono ?_
  rintro e w1 ⟨rfl, rfl⟩
  go_wp2_with fail
  refine PR.out.mono ?_
  rintro e w2 ⟨rfl, h2, bs2⟩
  replace bs2 := Lib.hid (bs1.out.trans bs2)
  replace h2 := Lib.hid h2
  go_wp2
  refine leaves_cons (f := 107) (args := #[.pointer (some ⟨b, 0, none⟩), .bool true]) (by simp) (by simp [go_sem]) ?_
  refine (ST.out _ h2.out).mono ?_
  rintro e u' w3 ⟨rfl, rfl, rfl⟩
  have h3 := Lib.hid (h2.out.drew.set0 1)
  have bs3 := Lib.hid (bs2.out.trans (((Beside.of_below (Below.refl w2.heap.size w2).drew)).trans ((Beside.of_only (Only.refl b w2.drew)).setCell (p := ⟨b, 0, none⟩) (.int .u32 1))))
  generalize w2.drew.setCell ⟨b, 0, none⟩ (.int .u32 1) = w3 at *
  refine leaves_cons (f := 106) (args := #[.pointer (some ⟨b, 1, none⟩)]) (by simp [settle]) (by simp [go_sem]) ?_
  refine (UL.out _ h3.out).mono ?_
  rintro e u' w4 ⟨rfl, rfl, rfl⟩
  have h4 := h3.out.set1 0
  have bs4 := bs3.out.trans ((Beside.of_only (Only.refl b w3)).setCell (p := ⟨b, 1, none⟩) (.int .i32 0))
  simp [Leaves, settle, results, Tryz.results83]
  exact ⟨h4, bs4⟩
set_option maxRecDepth 100000 in
set_option maxHeartbeats 8000000 in
theorem ado (b : Nat) (pl : Addr) (g : Nat → Int) (w : World) (hpb : ¬ pl.block = b) (hp : w.cell? pl = some (.pointer (some ⟨b, 0, none⟩))) (hpl : pl.block < w.heap.size) (h : AirO b 0 0 g w) : Calls Tryz.prog 59 #[.pointer (some ⟨b, 0, none⟩), .func (.func 60) #[] #[.pointer (some pl)]] w fun e w' => e = .returned (.tuple #[]) ∧ AirO b 1 0 aS w' ∧ Beside b w w' := by
  have LD := Lib.hid (oload ⟨b, 0, none⟩ 0 w h.c0)
  have SL := Lib.hid (aslow b pl g w hpb hp hpl h)
  have hnot : ∀ (x : Bool) (w : World), (Op.unary .not (.bool x)).run Tryz.prog w = .ok (.bool (!x)) w := fun _ _ => rfl
  clear h hp hpl hpb
  go_enter Tryz.func59, Tryz.ntmps59
  go_wp2_with fail
  refine LD.out.mono ?_
  rintro e w1 ⟨rfl, rfl⟩
  go_wp2_with fail
  refine SL.out.mono ?_
  rintro e w2 ⟨rfl, h2⟩
  go_wp2
  go_end0
  exact ⟨rfl, h2⟩
/-- An atmosphere that may be asked: new, or made ready. -/
def AirR (b : Nat) (w : World) : Prop := (∃ g, AirO b 0 0 g w) ∨ AirO b 1 0 aS w
theorem AirR.bel {b : Nat} {w w' : World} (h : AirR b w) (k : Below w.heap.size w w') : AirR b w' := by
  rcases h with ⟨g, h⟩ | h
  · exact .inl ⟨g, h.bel k⟩
  · exact .inr (h.bel k)
theorem AirR.lt {b : Nat} {w : World} (h : AirR b w) : b < w.heap.size := by
  rcases h with ⟨g, h⟩ | h
  · exact h.lt
  · exact h.lt
theorem AirR.drew {b : Nat} {w : World} (h : AirR b w) : AirR b w.drew := by
  rcases h with ⟨g, h⟩ | h
  · exact .inl ⟨g, h.drew⟩
  · exact .inr h.drew
set_option maxRecDepth 100000 in
set_option maxHeartbeats 8000000 in
theorem aprep (b : Nat) (w : World) (h : AirR b w) : Calls Tryz.prog 30 #[.pointer (some ⟨b, 0, none⟩)] w fun e w' => e = .returned (.tuple #[]) ∧ AirO b 1 0 aS w' ∧ Beside b w w' := by
  obtain ⟨V, eV, hb, hpl, hsz⟩ : ∃ V, V = w.alloc (.cells #[.pointer (some ⟨b, 0, none⟩)] 42) ∧ Below w.heap.size w V ∧ V.cell? ⟨w.heap.size, 0, none⟩ = some (.pointer (some ⟨b, 0, none⟩)) ∧ V.heap.size = w.heap.size + 1 := ⟨_, rfl, (by repeat (first | exact Below.refl _ _ | assumption | apply Below.drew | apply below_drewN | (refine Below.alloc ?_ (by first | exact Nat.le_refl _ | omega | (simp <;> omega)) _) | (refine Below.setCell ?_ (by first | exact Nat.le_refl _ | omega | (simp <;> omega)) _))), by simp, by simp⟩
  have hlt := h.lt
  have D : Hid (Calls Tryz.prog 59 #[.pointer (some ⟨b, 0, none⟩), .func (.func 60) #[] #[.pointer (some ⟨w.heap.size, 0, none⟩)]] V fun e w' => e = .returned (.tuple #[]) ∧ AirO b 1 0 aS w' ∧ Beside b V w') := by
    refine Lib.hid ?_
    rcases h with ⟨g, h⟩ | h
    · exact ado b ⟨w.heap.size, 0, none⟩ g V (by show ¬ w.heap.size = b; omega) hpl (by show w.heap.size < _; omega) (h.bel hb)
    · refine (odo_done ⟨b, 0, none⟩ _ V (h.bel hb).c0).mono ?_
      rintro e w1 ⟨rfl, rfl⟩
      exact ⟨rfl, h.bel hb, Beside.of_only (Only.refl b V)⟩
  replace eV := Lib.hid eV
  replace hb := Lib.hid hb
  clear h hsz
  go_enter Tryz.func30, Tryz.ntmps30
  go_upto_region 1 with (fail)
  rw [← eV.out]
  go_wp2_with fail
  refine D.out.mono ?_
  rintro e w2 ⟨rfl, h2, bs2⟩
  have bs2 := (Beside.of_below (b := b) hb.out).trans bs2
  go_wp2
  go_end0
  exact ⟨rfl, h2, bs2⟩
end Go.Proofs.YtecpmffmmiogfaaGreat
