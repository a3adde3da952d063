/- An estimator of the wind: New, Step, Wind, From, Airspeed, Forget; walked. -/
import Derived.Test.YtiibgblpbjdpaaaTurn11
import Derived.Test.YtiibgblpbjdpaaaLag2
import Derived.Test.YtiibgblpbjdpaaaRoot5
import Derived.Deep.Cut
namespace Go.Proofs.Ytiibgblpbjdpaaa
open Go.ChangeShapes Go.WideShapes Go.ChangeAt Go.RowKit
set_option linter.unusedVariables false
set_option linter.unusedSimpArgs false
/-- Nothing but the blocks l has changed of what there was. -/
structure Bl (l : List Nat) (w w' : World) : Prop where
  os : w'.os = w.os
  tape : w'.tape = w.tape
  output : w'.output = w.output
  size : w.heap.size ≤ w'.heap.size
  block : ∀ k, k < w.heap.size → k ∉ l → w'.heap[k]? = w.heap[k]?
theorem Bl.of_below {l : List Nat} {w w' : World} (h : Below w.heap.size w w') : Bl l w w' := ⟨h.os, h.tape, h.output, h.size, fun k hk _ => h.block k hk⟩
theorem Bl.of_beside {l : List Nat} {b : Nat} {w w' : World} (h : Beside b w w') (hb : b ∈ l) : Bl l w w' := ⟨h.os, h.tape, h.output, h.size, fun k hk hl => h.block k hk (fun e => hl (e ▸ hb))⟩
theorem Bl.trans {l : List Nat} {u v w : World} (h : Bl l u v) (k : Bl l v w) : Bl l u w :=
  ⟨k.os.trans h.os, k.tape.trans h.tape, k.output.trans h.output, Nat.le_trans h.size k.size, fun i hi hl => (k.block i (Nat.lt_of_lt_of_le hi h.size) hl).trans (h.block i hi hl)⟩
theorem Bl.below {l : List Nat} {B : Nat} {w w' : World} (h : Bl l w w') (hB : ∀ b ∈ l, B ≤ b) (hs : B ≤ w.heap.size) : Below B w w' :=
  ⟨h.os, h.tape, h.output, h.size, fun k hk => h.block k (by omega) (fun hl => by have := hB k hl; omega)⟩
theorem Held.bl {l : List Nat} {b : Nat} {cs : List Value} {w w' : World} (h : Held b cs w) (k : Bl l w w') (hb : b ∉ l) : Held b cs w' := by
  have e := k.block b h.lt hb
  exact ⟨Nat.lt_of_lt_of_le h.lt k.size, fun i v hv => (World.cell?_of_block (a := ⟨b, i, none⟩) e).trans (h.c i v hv), fun i hi => (World.frozen?_of_block (a := ⟨b, i, none⟩) e).trans (h.f i hi)⟩
theorem TurR.beside {b b' : Nat} {X : List Value} {w w' : World} (h : TurR b X w) (k : Beside b' w w') (hb : b ≠ b') : TurR b X w' := by
  rcases h with ⟨g, h⟩ | h
  · exact .inl ⟨g, h.beside k hb⟩
  · exact .inr (h.beside k hb)
theorem TurR.ex {b : Nat} {X : List Value} {w : World} (h : TurR b X w) (i : Nat) (v : Value) (hv : X[i]? = some v) : w.cell? ⟨b, 31 + i, none⟩ = some v := by
  rcases h with ⟨g, h⟩ | h
  · exact h.ex i v hv
  · exact h.ex i v hv
def wcl (n : Int) : Int := if n < -10000000 then -10000000 else if 10000000 < n then 10000000 else n
theorem wcl_bd (n : Int) : -10000000 ≤ wcl n ∧ wcl n ≤ 10000000 := by unfold wcl; omega
theorem wcl_clp (n : Int) : clp (wcl n) = wcl n := by
  have := wcl_bd n
  unfold clp
  omega
/-- The wind of a flow, north and east. -/
def wdN (a : Nat) (t n : Int) : Int := wcl n - tdO ((atP a).1 * wcl t)
def wdE (a : Nat) (t n : Int) : Int := wcl n - tdO ((atP a).2 * wcl t)
theorem wd_bd (a : Nat) (t n : Int) : (-20000000 ≤ wdN a t n ∧ wdN a t n ≤ 20000000) ∧ (-20000000 ≤ wdE a t n ∧ wdE a t n ≤ 20000000) := by
  have bd := (atP_le a).one
  have b1 := tdO_le (c := wcl t) bd.1
  have b2 := tdO_le (c := wcl t) bd.2
  have b3 := wcl_bd t
  have b4 := wcl_bd n
  unfold wdN wdE
  unfold absI at b1 b2
  generalize tdO ((atP a).1 * wcl t) = p at *
  generalize tdO ((atP a).2 * wcl t) = q at *
  omega
theorem wd_tr (a : Nat) (t : Int) : trV (atP a).1 (clp (wcl t)) 1073741824 = tdO ((atP a).1 * wcl t) ∧ trV (atP a).2 (clp (wcl t)) 1073741824 = tdO ((atP a).2 * wcl t) := by
  have bd := (atP_le a).one
  have b3 := wcl_bd t
  rw [wcl_clp]
  exact ⟨trV_tdO bd.1 ⟨by omega, by omega⟩, trV_tdO bd.2 ⟨by omega, by omega⟩⟩
set_option maxRecDepth 100000 in
set_option maxHeartbeats 8000000 in
theorem wclip_any (n : Int) (w : World) : Calls Try.prog 54 #[.int .i64 n] w fun e w' => e = .returned (.int .i64 (wcl n)) ∧ w = w' := by
  go_enter Try.func54, Try.ntmps54
  go_wp2
  all_goals
    go_ret
    exact ⟨ret_int (by unfold wcl; omega), rfl⟩
set_option maxRecDepth 100000 in
set_option maxHeartbeats 8000000 in
theorem wblow (b a : Nat) (t no ea : Int) (X : List Value) (w : World) (h : TurR b X w) (ha : a < 65536) : Calls Try.prog 50 #[.agg #[.int .i64 t, .int .u16 (a : Int), .int .i64 no, .int .i64 ea], .func (.func 20) #[.pointer (some ⟨b, 0, none⟩)] #[]] w fun e w' => e = .returned (.tuple #[.int .i64 (wdN a t no), .int .i64 (wdE a t ea)]) ∧ TurR b X w' ∧ Beside b w w' := by
  have CL := Lib.hid (fun n u => wclip_any n u)
  have PT := fun u (m : TurR b X u) => tpoint b a (wcl t) X u m ha
  rw [(wd_tr a t).1, (wd_tr a t).2] at PT
  have bN := (wd_bd a t no).1
  have bE := (wd_bd a t ea).2
  have eN := Lib.hid (show wdN a t no = wcl no - tdO ((atP a).1 * wcl t) from rfl)
  have eE := Lib.hid (show wdE a t ea = wcl ea - tdO ((atP a).2 * wcl t) from rfl)
  generalize tdO ((atP a).1 * wcl t) = x at *
  generalize tdO ((atP a).2 * wcl t) = y at *
  generalize wdN a t no = N at *
  generalize wdE a t ea = E at *
  have wN : IntKind.i64.wrap (wcl no - x) = N := by rw [← eN.out, IntKind.wrap_i64]; omega
  have wE : IntKind.i64.wrap (wcl ea - y) = E := by rw [← eE.out, IntKind.wrap_i64]; omega
  clear bN bE eN eE
  have CT := Lib.hid (fun u => CL.out t u)
  have CN := Lib.hid (fun u => CL.out no u)
  have CE := Lib.hid (fun u => CL.out ea u)
  clear CL
  generalize wcl no = c1 at *
  generalize wcl ea = c2 at *
  generalize wcl t = c3 at *
  replace PT := Lib.hid PT
  obtain ⟨V, eV, hbV, pV⟩ : ∃ V, V = w.alloc (.cells #[.int .i64 t, .int .u16 (a : Int), .int .i64 no, .int .i64 ea] 58) ∧ Below w.heap.size w V ∧ Held w.heap.size [.int .i64 t, .int .u16 (a : Int), .int .i64 no, .int .i64 ea] V := ⟨_, rfl, (by repeat (first | exact Below.refl _ _ | assumption | apply Below.drew | apply below_drewN | (refine Below.alloc ?_ (by first | exact Nat.le_refl _ | omega | (simp <;> omega)) _) | (refine Below.setCell ?_ (by first | exact Nat.le_refl _ | omega | (simp <;> omega)) _))), Held.new w [.int .i64 t, .int .u16 (a : Int), .int .i64 no, .int .i64 ea] _⟩
  have hR := Lib.hid (h.bel hbV)
  have hqb : w.heap.size ≠ b := by have := h.lt; omega
  have bV := Lib.hid (Beside.of_below (b := b) hbV)
  obtain ⟨k0, _⟩ := pV.one 0 rfl
  obtain ⟨k1, _⟩ := pV.one 1 rfl
  replace pV := Lib.hid pV
  clear h hbV
  go_enter Try.func50, Try.ntmps50
  go_upto_region 1 with (fail)
  rw [← eV]
  clear eV
  generalize hq : w.heap.size = q at *
  replace hq := Lib.hid hq
  replace hqb := Lib.hid hqb
  go_wp2_with fail
  refine region_moves (fun u => u.cell? ⟨q, 1, none⟩ = some (.int .u16 (a : Int)) ∧ u.cell? ⟨q, 0, none⟩ = some (.int .i64 t)) [] [(.free, 0), (.free, 1), (.take, 2), (.free, 3), (.take, 4), (.step, 5), (.step, 6), (.free, 7), (.free, 8), (.free, 9), (.free, 10), (.free, 11)] _ (by kernel_rfl) (by kernel_rfl) (by kernel_rfl) (by kernel_rfl) (by decide) rfl (fun _ _ _ _ _ h => h) ?_
  simp only [List.filterMap_cons, List.filterMap_nil, List.getElem?_toArray, List.getElem?_cons_zero, List.getElem?_cons_succ, Option.map_some]
  iterate 2
    first
      | (refine mv_free ?_ (Or.inl ⟨by rfl, ?_⟩) (⟨k1, k0⟩) ?_
         rotate_left 1
         · intro u
           go_simp
           try simp only [d1]
           try simp only [d2]
           try simp only [d3]
           try with_reducible rfl
         simp only [Act.put, List.setIfInBounds_toArray, List.set_cons_zero, List.set_cons_succ])
      | (refine mv_free _ (Or.inr ⟨by rfl, rfl⟩) (⟨k1, k0⟩) ?_
         simp only [Act.put, List.setIfInBounds_toArray, List.set_cons_zero, List.set_cons_succ])
  iterate 1
    first
      | (refine mv_take ?_ (Or.inl ⟨by rfl, ?_⟩) (⟨k1, k0⟩) ?_
         rotate_left 1
         · intro u hu
           (try dsimp only at hu)
           go_simp
           try with_reducible rfl
         simp only [Act.put, List.setIfInBounds_toArray, List.set_cons_zero, List.set_cons_succ])
      | (refine mv_take _ (Or.inr ⟨by rfl, rfl⟩) (⟨k1, k0⟩) ?_
         simp only [Act.put, List.setIfInBounds_toArray, List.set_cons_zero, List.set_cons_succ])
  iterate 1
    first
      | (refine mv_free ?_ (Or.inl ⟨by rfl, ?_⟩) (⟨k1, k0⟩) ?_
         rotate_left 1
         · intro u
           go_simp
           try simp only [d1]
           try simp only [d2]
           try simp only [d3]
           try with_reducible rfl
         simp only [Act.put, List.setIfInBounds_toArray, List.set_cons_zero, List.set_cons_succ])
      | (refine mv_free _ (Or.inr ⟨by rfl, rfl⟩) (⟨k1, k0⟩) ?_
         simp only [Act.put, List.setIfInBounds_toArray, List.set_cons_zero, List.set_cons_succ])
  iterate 1
    first
      | (refine mv_take ?_ (Or.inl ⟨by rfl, ?_⟩) (⟨k1, k0⟩) ?_
         rotate_left 1
         · intro u hu
           (try dsimp only at hu)
           go_simp
           try with_reducible rfl
         simp only [Act.put, List.setIfInBounds_toArray, List.set_cons_zero, List.set_cons_succ])
      | (refine mv_take _ (Or.inr ⟨by rfl, rfl⟩) (⟨k1, k0⟩) ?_
         simp only [Act.put, List.setIfInBounds_toArray, List.set_cons_zero, List.set_cons_succ])
  refine mv_step (fun K hK => ?_)
  go_simp
  refine (CT.out _).mono ?_
  rintro e w1 ⟨rfl, rfl⟩
  go_wp2_with fail
  refine hK.out _ _ _ (fun u hu => hu) (⟨k1, k0⟩) ?_
  clear hK K
  refine mv_step (fun K hK => ?_)
  go_simp
  refine (PT.out _ (by first | exact hR.out | exact hR.out.drew | exact hR.out.drew.drew)).mono ?_
  rintro e w2 ⟨rfl, h2, bs2⟩
  replace h2 := Lib.hid (show TurR b X w2 from .inr h2)
  replace pV := Lib.hid (show Held q [.int .i64 t, .int .u16 (a : Int), .int .i64 no, .int .i64 ea] w2 from by first | exact pV.out.beside bs2 hqb.out | exact pV.out.drew.beside bs2 hqb.out | exact pV.out.drew.drew.beside bs2 hqb.out)
  replace bV := Lib.hid (show Beside b w w2 from bV.out.trans (by first | exact bs2 | exact (Beside.of_below (Below.refl _ _).drew).trans bs2 | exact (Beside.of_below (Below.refl _ _).drew.drew).trans bs2))
  clear k0 k1 hR bs2
  obtain ⟨k0, _⟩ := pV.out.one 0 rfl
  obtain ⟨k1, _⟩ := pV.out.one 1 rfl
  obtain ⟨k2, _⟩ := pV.out.one 2 rfl
  obtain ⟨k3, _⟩ := pV.out.one 3 rfl
  go_wp2_with fail
  refine hK.out _ _ _ (fun u hu => hu) (⟨k1, k0⟩) ?_
  clear hK K
  iterate 5
    first
      | (refine mv_free ?_ (Or.inl ⟨by rfl, ?_⟩) (⟨k1, k0⟩) ?_
         rotate_left 1
         · intro u
           go_simp
           try simp only [d1]
           try simp only [d2]
           try simp only [d3]
           try with_reducible rfl
         simp only [Act.put, List.setIfInBounds_toArray, List.set_cons_zero, List.set_cons_succ])
      | (refine mv_free _ (Or.inr ⟨by rfl, rfl⟩) (⟨k1, k0⟩) ?_
         simp only [Act.put, List.setIfInBounds_toArray, List.set_cons_zero, List.set_cons_succ])
  refine mv_done ?_
  go_wp2_with fail
  refine region_moves (fun u => u.cell? ⟨q, 2, none⟩ = some (.int .i64 no) ∧ u.cell? ⟨q, 3, none⟩ = some (.int .i64 ea)) [] [(.free, 0), (.take, 1), (.free, 3), (.free, 5), (.take, 6), (.free, 8), (.step, 2), (.free, 4), (.step, 7), (.free, 9), (.free, 10), (.free, 11)] _ (by kernel_rfl) (by kernel_rfl) (by kernel_rfl) (by kernel_rfl) (by decide) rfl (fun _ _ _ _ _ h => h) ?_
  simp only [List.filterMap_cons, List.filterMap_nil, List.getElem?_toArray, List.getElem?_cons_zero, List.getElem?_cons_succ, Option.map_some]
  iterate 1
    first
      | (refine mv_free ?_ (Or.inl ⟨by rfl, ?_⟩) (⟨k2, k3⟩) ?_
         rotate_left 1
         · intro u
           go_simp
           try simp only [d1]
           try simp only [d2]
           try simp only [d3]
           try with_reducible rfl
         simp only [Act.put, List.setIfInBounds_toArray, List.set_cons_zero, List.set_cons_succ])
      | (refine mv_free _ (Or.inr ⟨by rfl, rfl⟩) (⟨k2, k3⟩) ?_
         simp only [Act.put, List.setIfInBounds_toArray, List.set_cons_zero, List.set_cons_succ])
  iterate 1
    first
      | (refine mv_take ?_ (Or.inl ⟨by rfl, ?_⟩) (⟨k2, k3⟩) ?_
         rotate_left 1
         · intro u hu
           (try dsimp only at hu)
           go_simp
           try with_reducible rfl
         simp only [Act.put, List.setIfInBounds_toArray, List.set_cons_zero, List.set_cons_succ])
      | (refine mv_take _ (Or.inr ⟨by rfl, rfl⟩) (⟨k2, k3⟩) ?_
         simp only [Act.put, List.setIfInBounds_toArray, List.set_cons_zero, List.set_cons_succ])
  iterate 2
    first
      | (refine mv_free ?_ (Or.inl ⟨by rfl, ?_⟩) (⟨k2, k3⟩) ?_
         rotate_left 1
         · intro u
           go_simp
           try simp only [d1]
           try simp only [d2]
           try simp only [d3]
           try with_reducible rfl
         simp only [Act.put, List.setIfInBounds_toArray, List.set_cons_zero, List.set_cons_succ])
      | (refine mv_free _ (Or.inr ⟨by rfl, rfl⟩) (⟨k2, k3⟩) ?_
         simp only [Act.put, List.setIfInBounds_toArray, List.set_cons_zero, List.set_cons_succ])
  iterate 1
    first
      | (refine mv_take ?_ (Or.inl ⟨by rfl, ?_⟩) (⟨k2, k3⟩) ?_
         rotate_left 1
         · intro u hu
           (try dsimp only at hu)
           go_simp
           try with_reducible rfl
         simp only [Act.put, List.setIfInBounds_toArray, List.set_cons_zero, List.set_cons_succ])
      | (refine mv_take _ (Or.inr ⟨by rfl, rfl⟩) (⟨k2, k3⟩) ?_
         simp only [Act.put, List.setIfInBounds_toArray, List.set_cons_zero, List.set_cons_succ])
  iterate 1
    first
      | (refine mv_free ?_ (Or.inl ⟨by rfl, ?_⟩) (⟨k2, k3⟩) ?_
         rotate_left 1
         · intro u
           go_simp
           try simp only [d1]
           try simp only [d2]
           try simp only [d3]
           try with_reducible rfl
         simp only [Act.put, List.setIfInBounds_toArray, List.set_cons_zero, List.set_cons_succ])
      | (refine mv_free _ (Or.inr ⟨by rfl, rfl⟩) (⟨k2, k3⟩) ?_
         simp only [Act.put, List.setIfInBounds_toArray, List.set_cons_zero, List.set_cons_succ])
  refine mv_step (fun K hK => ?_)
  go_simp
  refine (CN.out _).mono ?_
  rintro e w3 ⟨rfl, rfl⟩
  go_wp2_with fail
  refine hK.out _ _ _ (fun u hu => hu) (⟨k2, k3⟩) ?_
  clear hK K
  iterate 1
    first
      | (refine mv_free ?_ (Or.inl ⟨by rfl, ?_⟩) (⟨k2, k3⟩) ?_
         rotate_left 1
         · intro u
           go_simp
           try simp only [d1]
           try simp only [d2]
           try simp only [d3]
           try with_reducible rfl
         simp only [Act.put, List.setIfInBounds_toArray, List.set_cons_zero, List.set_cons_succ])
      | (refine mv_free _ (Or.inr ⟨by rfl, rfl⟩) (⟨k2, k3⟩) ?_
         simp only [Act.put, List.setIfInBounds_toArray, List.set_cons_zero, List.set_cons_succ])
  refine mv_step (fun K hK => ?_)
  go_simp
  refine (CE.out _).mono ?_
  rintro e w3 ⟨rfl, rfl⟩
  go_wp2_with fail
  refine hK.out _ _ _ (fun u hu => hu) (⟨k2, k3⟩) ?_
  clear hK K
  iterate 3
    first
      | (refine mv_free ?_ (Or.inl ⟨by rfl, ?_⟩) (⟨k2, k3⟩) ?_
         rotate_left 1
         · intro u
           go_simp
           try simp only [d1]
           try simp only [d2]
           try simp only [d3]
           try with_reducible rfl
         simp only [Act.put, List.setIfInBounds_toArray, List.set_cons_zero, List.set_cons_succ])
      | (refine mv_free _ (Or.inr ⟨by rfl, rfl⟩) (⟨k2, k3⟩) ?_
         simp only [Act.put, List.setIfInBounds_toArray, List.set_cons_zero, List.set_cons_succ])
  refine mv_done ?_
  go_wp2
  go_ret2
  exact ⟨rfl, by first | exact h2.out | exact h2.out.drew, by first | exact bV.out | exact bV.out.trans (Beside.of_below (Below.refl _ _).drew)⟩
/-- An estimator: its turner in block b, its filters in blocks n and e. -/
structure WdO (b n e : Nat) (sh yn ye : Int) (kn : Bool) (u : World) : Prop where
  r : TurR b [.pointer (some ⟨n, 0, none⟩), .pointer (some ⟨e, 0, none⟩)] u
  hn : Held n (lgC sh yn kn) u
  he : Held e (lgC sh ye kn) u
  bn : b ≠ n
  be : b ≠ e
  ne : n ≠ e
theorem WdO.bel {b n e : Nat} {sh yn ye : Int} {kn : Bool} {u u' : World} (h : WdO b n e sh yn ye kn u) (k : Below u.heap.size u u') : WdO b n e sh yn ye kn u' := ⟨h.r.bel k, h.hn.bel k, h.he.bel k, h.bn, h.be, h.ne⟩
theorem WdO.tur {b n e : Nat} {sh yn ye : Int} {kn : Bool} {u u' : World} (h : WdO b n e sh yn ye kn u) (r : TurR b [.pointer (some ⟨n, 0, none⟩), .pointer (some ⟨e, 0, none⟩)] u') (k : Beside b u u') : WdO b n e sh yn ye kn u' := ⟨r, h.hn.beside k (Ne.symm h.bn), h.he.beside k (Ne.symm h.be), h.bn, h.be, h.ne⟩
theorem WdO.c {b n e : Nat} {sh yn ye : Int} {kn : Bool} {u : World} (h : WdO b n e sh yn ye kn u) : u.cell? ⟨b, 31, none⟩ = some (.pointer (some ⟨n, 0, none⟩)) ∧ u.cell? ⟨b, 32, none⟩ = some (.pointer (some ⟨e, 0, none⟩)) := ⟨h.r.ex 0 _ rfl, h.r.ex 1 _ rfl⟩
set_option maxRecDepth 100000 in
set_option maxHeartbeats 8000000 in
theorem wwind_nil (w : World) : Calls Try.prog 27 #[.pointer none] w fun e w' => e = .returned (.tuple #[.int .i64 0, .int .i64 0, .bool false]) ∧ w = w' := by
  go_enter Try.func27, Try.ntmps27
  go_wp2
  go_ret3
  exact ⟨rfl, rfl⟩
set_option maxRecDepth 100000 in
set_option maxHeartbeats 8000000 in
theorem wwind {b n e : Nat} {sh yn ye : Int} {kn : Bool} (w : World) (h : WdO b n e sh yn ye kn w) : Calls Try.prog 27 #[.pointer (some ⟨b, 0, none⟩)] w fun e w' => e = .returned (.tuple #[.int .i64 yn, .int .i64 ye, .bool kn]) ∧ Below w.heap.size w w' := by
  have VN := Lib.hid (fun u (m : Held n (lgC sh yn kn) u) => lgval_any n u m)
  have VE := Lib.hid (fun u (m : Held e (lgC sh ye kn) u) => lgval_any e u m)
  obtain ⟨c1, c2⟩ := h.c
  replace h := Lib.hid h
  go_enter Try.func27, Try.ntmps27
  go_wp2_with fail
  refine (VN.out _ h.out.hn).mono ?_
  rintro e w1 ⟨rfl, rfl⟩
  go_wp2_with fail
  refine (VE.out _ h.out.he.drew).mono ?_
  rintro e w1 ⟨rfl, rfl⟩
  go_wp2
  go_ret3
  exact ⟨rfl, (by repeat (first | exact Below.refl _ _ | assumption | apply Below.drew | apply below_drewN | (refine Below.alloc ?_ (by first | exact Nat.le_refl _ | omega | (simp <;> omega)) _) | (refine Below.setCell ?_ (by first | exact Nat.le_refl _ | omega | (simp <;> omega)) _)))⟩
set_option maxRecDepth 100000 in
set_option maxHeartbeats 8000000 in
theorem wfrom_nil (w : World) : Calls Try.prog 28 #[.pointer none] w fun e w' => e = .returned (.tuple #[.int .u16 0, .int .i64 0]) ∧ w = w' := by
  have W0 := Lib.hid (fun u => wwind_nil u)
  go_enter Try.func28, Try.ntmps28
  go_wp2_with fail
  refine (W0.out _).mono ?_
  rintro e w1 ⟨rfl, rfl⟩
  go_wp2
  go_ret2
  exact ⟨rfl, rfl⟩
set_option maxRecDepth 100000 in
set_option maxHeartbeats 8000000 in
theorem wfrom_no {b n e : Nat} {sh yn ye : Int} (w : World) (h : WdO b n e sh yn ye false w) : Calls Try.prog 28 #[.pointer (some ⟨b, 0, none⟩)] w fun e w' => e = .returned (.tuple #[.int .u16 0, .int .i64 0]) ∧ Below w.heap.size w w' := by
  have W0 := Lib.hid (fun u m => wwind (b := b) (n := n) (e := e) (sh := sh) (yn := yn) (ye := ye) (kn := false) u m)
  go_enter Try.func28, Try.ntmps28
  go_wp2_with fail
  refine (W0.out _ h).mono ?_
  rintro e w1 ⟨rfl, hb⟩
  go_wp2
  go_ret2
  exact ⟨rfl, hb⟩
set_option maxRecDepth 100000 in
set_option maxHeartbeats 8000000 in
theorem wfrom {b n e : Nat} {sh yn ye : Int} (w : World) (h : WdO b n e sh yn ye true w) (hn : -20000000 ≤ yn ∧ yn ≤ 20000000) (he : -20000000 ≤ ye ∧ ye ≤ 20000000) : Calls Try.prog 28 #[.pointer (some ⟨b, 0, none⟩)] w fun q w' => q = .returned (.tuple #[.int .u16 (anV (-yn) (-ye) : Int), .int .i64 (rt (sqc yn + sqc ye))]) ∧ WdO b n e sh yn ye true w' ∧ Beside b w w' := by
  have W0 := Lib.hid (fun u m => wwind (b := b) (n := n) (e := e) (sh := sh) (yn := yn) (ye := ye) (kn := true) u m)
  have TA := Lib.hid (fun u m => tang b (-yn) (-ye) [.pointer (some ⟨n, 0, none⟩), .pointer (some ⟨e, 0, none⟩)] u m)
  have HY := Lib.hid (fun u => hypot_any yn ye u)
  have w1 : IntKind.i64.wrap (-yn) = -yn := by rw [IntKind.wrap_i64]; omega
  have w2 : IntKind.i64.wrap (-ye) = -ye := by rw [IntKind.wrap_i64]; omega
  replace h := Lib.hid h
  generalize anV (-yn) (-ye) = G at *
  generalize rt (sqc yn + sqc ye) = R at *
  go_enter Try.func28, Try.ntmps28
  go_wp2_with fail
  refine (W0.out _ h.out).mono ?_
  rintro q w1 ⟨rfl, hb⟩
  replace h := Lib.hid (h.out.bel hb)
  have bs := Lib.hid (Beside.of_below (b := b) hb)
  clear hb
  go_wp2_with fail
  refine (TA.out _ h.out.r).mono ?_
  rintro q w2 ⟨rfl, h2, bs2⟩
  replace h := Lib.hid (h.out.tur h2 bs2)
  replace bs := Lib.hid (bs.out.trans bs2)
  clear h2 bs2
  go_wp2_with fail
  refine (HY.out _).mono ?_
  rintro q w3 ⟨rfl, rfl⟩
  go_wp2
  go_ret2
  exact ⟨rfl, h.out, bs.out⟩
set_option maxRecDepth 100000 in
set_option maxHeartbeats 8000000 in
theorem wair_nil (x y : Int) (w : World) : Calls Try.prog 29 #[.pointer none, .int .i64 x, .int .i64 y] w fun e w' => e = .returned (.tuple #[.int .i64 0, .bool false]) ∧ w = w' := by
  have W0 := Lib.hid (fun u => wwind_nil u)
  go_enter Try.func29, Try.ntmps29
  go_wp2_with fail
  refine (W0.out _).mono ?_
  rintro e w1 ⟨rfl, rfl⟩
  go_wp2
  go_ret2
  exact ⟨rfl, rfl⟩
set_option maxRecDepth 100000 in
set_option maxHeartbeats 8000000 in
theorem wair_no {b n e : Nat} {sh yn ye : Int} (x y : Int) (w : World) (h : WdO b n e sh yn ye false w) : Calls Try.prog 29 #[.pointer (some ⟨b, 0, none⟩), .int .i64 x, .int .i64 y] w fun e w' => e = .returned (.tuple #[.int .i64 0, .bool false]) ∧ Below w.heap.size w w' := by
  have W0 := Lib.hid (fun u m => wwind (b := b) (n := n) (e := e) (sh := sh) (yn := yn) (ye := ye) (kn := false) u m)
  go_enter Try.func29, Try.ntmps29
  go_wp2_with fail
  refine (W0.out _ h).mono ?_
  rintro e w1 ⟨rfl, hb⟩
  go_wp2
  go_ret2
  exact ⟨rfl, hb⟩
set_option maxRecDepth 100000 in
set_option maxHeartbeats 8000000 in
theorem wair {b n e : Nat} {sh yn ye : Int} (x y : Int) (w : World) (h : WdO b n e sh yn ye true w) (hn : -20000000 ≤ yn ∧ yn ≤ 20000000) (he : -20000000 ≤ ye ∧ ye ≤ 20000000) : Calls Try.prog 29 #[.pointer (some ⟨b, 0, none⟩), .int .i64 x, .int .i64 y] w fun q w' => q = .returned (.tuple #[.int .i64 (rt (sqc (wcl x - yn) + sqc (wcl y - ye))), .bool true]) ∧ Below w.heap.size w w' := by
  have W0 := Lib.hid (fun u m => wwind (b := b) (n := n) (e := e) (sh := sh) (yn := yn) (ye := ye) (kn := true) u m)
  have HY := Lib.hid (fun u => hypot_any (wcl x - yn) (wcl y - ye) u)
  have CX := Lib.hid (fun u => wclip_any x u)
  have CY := Lib.hid (fun u => wclip_any y u)
  have bx := wcl_bd x
  have by1 := wcl_bd y
  have w1 : IntKind.i64.wrap (wcl x - yn) = wcl x - yn := by rw [IntKind.wrap_i64]; omega
  have w2 : IntKind.i64.wrap (wcl y - ye) = wcl y - ye := by rw [IntKind.wrap_i64]; omega
  replace h := Lib.hid h
  generalize rt (sqc (wcl x - yn) + sqc (wcl y - ye)) = R at *
  generalize wcl x = c1 at *
  generalize wcl y = c2 at *
  go_enter Try.func29, Try.ntmps29
  go_wp2_with fail
  refine (W0.out _ h.out).mono ?_
  rintro q w1 ⟨rfl, hb⟩
  go_wp2_with fail
  refine (CX.out _).mono ?_
  rintro q w2 ⟨rfl, rfl⟩
  go_wp2_with fail
  refine (CY.out _).mono ?_
  rintro q w2 ⟨rfl, rfl⟩
  go_wp2_with fail
  refine (HY.out _).mono ?_
  rintro q w3 ⟨rfl, rfl⟩
  go_wp2
  go_ret2
  exact ⟨rfl, hb⟩
set_option maxRecDepth 100000 in
set_option maxHeartbeats 8000000 in
theorem wforget_nil (w : World) : Calls Try.prog 26 #[.pointer none] w fun e w' => e = .returned (.tuple #[]) ∧ w = w' := by
  go_enter Try.func26, Try.ntmps26
  go_wp2
  go_end0
  exact ⟨rfl, rfl⟩
set_option maxRecDepth 100000 in
set_option maxHeartbeats 8000000 in
theorem wforget {b n e : Nat} {sh yn ye : Int} {kn : Bool} (w : World) (h : WdO b n e sh yn ye kn w) : Calls Try.prog 26 #[.pointer (some ⟨b, 0, none⟩)] w fun q w' => q = .returned (.tuple #[]) ∧ WdO b n e sh 0 0 false w' ∧ Bl [b, n, e] w w' := by
  have RN := Lib.hid (fun u (m : Held n (lgC sh yn kn) u) => lgreset_any n u m)
  have RE := Lib.hid (fun u (m : Held e (lgC sh ye kn) u) => lgreset_any e u m)
  obtain ⟨c1, c2⟩ := h.c
  replace h := Lib.hid h
  go_enter Try.func26, Try.ntmps26
  go_wp2_with fail
  refine (RN.out _ h.out.hn).mono ?_
  rintro q w1 ⟨rfl, h1, bs1⟩
  have r1 := Lib.hid (h.out.r.beside bs1 h.out.bn)
  have e1 := Lib.hid (h.out.he.beside bs1 (Ne.symm h.out.ne))
  have l1 := Lib.hid (Bl.of_beside (l := [b, n, e]) bs1 (by simp))
  have c2 := r1.out.ex 1 _ rfl
  replace h1 := Lib.hid h1
  clear bs1 c1
  go_wp2_with fail
  refine (RE.out _ e1.out).mono ?_
  rintro q w2 ⟨rfl, h2, bs2⟩
  have r2 := Lib.hid (r1.out.beside bs2 h.out.be)
  have n2 := Lib.hid (h1.out.beside bs2 h.out.ne)
  have l2 := Lib.hid (l1.out.trans (Bl.of_beside (l := [b, n, e]) bs2 (by simp)))
  replace h2 := Lib.hid h2
  clear bs2 c2 l1 r1 e1 h1
  go_wp2
  go_end0
  exact ⟨rfl, ⟨r2.out, n2.out, h2.out, h.out.bn, h.out.be, h.out.ne⟩, l2.out⟩
set_option maxRecDepth 100000 in
set_option maxHeartbeats 8000000 in
theorem wstep_nil (t a no ea : Int) (w : World) : Calls Try.prog 25 #[.pointer none, .agg #[.int .i64 t, .int .u16 a, .int .i64 no, .int .i64 ea]] w fun e w' => e = .returned (.tuple #[]) ∧ Below w.heap.size w w' := by
  go_enter Try.func25, Try.ntmps25
  go_wp2
  refine bodyPost_ret (results_none rfl _ _ _) rfl ?_
  exact ⟨rfl, (by repeat (first | exact Below.refl _ _ | assumption | apply Below.drew | apply below_drewN | (refine Below.alloc ?_ (by first | exact Nat.le_refl _ | omega | (simp <;> omega)) _) | (refine Below.setCell ?_ (by first | exact Nat.le_refl _ | omega | (simp <;> omega)) _)))⟩
set_option maxRecDepth 100000 in
set_option maxHeartbeats 8000000 in
theorem wstep {b n e : Nat} {sh yn ye : Int} {kn : Bool} (a : Nat) (t no ea : Int) (w : World) (h : WdO b n e sh yn ye kn w) (ha : a < 65536) (h0 : 0 ≤ sh) (h1 : sh ≤ 16) (hn : -20000000 ≤ yn ∧ yn ≤ 20000000) (he : -20000000 ≤ ye ∧ ye ≤ 20000000) : Calls Try.prog 25 #[.pointer (some ⟨b, 0, none⟩), .agg #[.int .i64 t, .int .u16 (a : Int), .int .i64 no, .int .i64 ea]] w fun q w' => q = .returned (.tuple #[]) ∧ WdO b n e sh (lgV sh (if kn then yn else wdN a t no) (wdN a t no)) (lgV sh (if kn then ye else wdE a t ea) (wdE a t ea)) true w' ∧ Bl [b, n, e] w w' := by
  have BL := Lib.hid (fun u m => wblow b a t no ea [.pointer (some ⟨n, 0, none⟩), .pointer (some ⟨e, 0, none⟩)] u m ha)
  have bN := (wd_bd a t no).1
  have bE := (wd_bd a t ea).2
  generalize wdN a t no = N at *
  generalize wdE a t ea = E at *
  have SN := fun u (m : Held n (lgC sh yn kn) u) => lgstep_any n N u m h0 h1 (by omega) (by omega)
  have SE := fun u (m : Held e (lgC sh ye kn) u) => lgstep_any e E u m h0 h1 (by omega) (by omega)
  rw [clq_id (n := N) (by omega) (by omega)] at SN
  rw [clq_id (n := E) (by omega) (by omega)] at SE
  generalize lgV sh (if kn = true then yn else N) N = RN at *
  generalize lgV sh (if kn = true then ye else E) E = RE at *
  replace SN := Lib.hid SN
  replace SE := Lib.hid SE
  obtain ⟨V, eV, hbV, pV⟩ : ∃ V, V = w.alloc (.cells #[.int .i64 t, .int .u16 (a : Int), .int .i64 no, .int .i64 ea] 58) ∧ Below w.heap.size w V ∧ Held w.heap.size [.int .i64 t, .int .u16 (a : Int), .int .i64 no, .int .i64 ea] V := ⟨_, rfl, (by repeat (first | exact Below.refl _ _ | assumption | apply Below.drew | apply below_drewN | (refine Below.alloc ?_ (by first | exact Nat.le_refl _ | omega | (simp <;> omega)) _) | (refine Below.setCell ?_ (by first | exact Nat.le_refl _ | omega | (simp <;> omega)) _))), Held.new w [.int .i64 t, .int .u16 (a : Int), .int .i64 no, .int .i64 ea] _⟩
  replace h := Lib.hid (h.bel hbV)
  have l0 := Lib.hid (Bl.of_below (l := [b, n, e]) hbV)
  obtain ⟨k0, _⟩ := pV.one 0 rfl
  obtain ⟨k1, _⟩ := pV.one 1 rfl
  obtain ⟨k2, _⟩ := pV.one 2 rfl
  obtain ⟨k3, _⟩ := pV.one 3 rfl
  clear hbV pV bN bE hn he h0 h1
  go_enter Try.func25, Try.ntmps25
  go_upto_region 1 with (fail)
  rw [← eV]
  clear eV
  generalize w.heap.size = q at *
  go_wp2_with fail
  refine (BL.out _ h.out.r).mono ?_
  rintro q w1 ⟨rfl, h1, bs1⟩
  replace h := Lib.hid (h.out.tur h1 bs1)
  replace l0 := Lib.hid (l0.out.trans (Bl.of_beside (l := [b, n, e]) bs1 (by simp)))
  clear h1 bs1 k0 k1 k2 k3
  obtain ⟨c1, c2⟩ := h.out.c
  go_wp2_with fail
  refine (SN.out _ h.out.hn).mono ?_
  rintro q w2 ⟨rfl, h2, bs2⟩
  have r1 := Lib.hid (h.out.r.beside bs2 h.out.bn)
  have e1 := Lib.hid (h.out.he.beside bs2 (Ne.symm h.out.ne))
  replace l0 := Lib.hid (l0.out.trans (Bl.of_beside (l := [b, n, e]) bs2 (by simp)))
  have c2 := r1.out.ex 1 _ rfl
  replace h2 := Lib.hid h2
  clear bs2 c1
  go_wp2_with fail
  refine (SE.out _ e1.out).mono ?_
  rintro q w3 ⟨rfl, h3, bs3⟩
  have r3 := Lib.hid (r1.out.beside bs3 h.out.be)
  have n3 := Lib.hid (h2.out.beside bs3 h.out.ne)
  replace l0 := Lib.hid (l0.out.trans (Bl.of_beside (l := [b, n, e]) bs3 (by simp)))
  replace h3 := Lib.hid h3
  clear bs3 c2 r1 e1 h2
  go_wp2
  go_end0
  exact ⟨rfl, ⟨r3.out, n3.out, h3.out, h.out.bn, h.out.be, h.out.ne⟩, l0.out⟩
theorem wnew_lt {sh : Int} (h : ¬ (0 ≤ sh ∧ sh ≤ 16)) : sh < 0 ∨ 16 < sh := by omega
def estL (x y : Value) : List Value := .int .u32 0 :: .int .i32 0 :: .int .u32 0 :: (List.replicate 28 (.int .i64 0) ++ [x, y])
theorem est_new (w : World) (x y : Value) (t : TypeId) : TurO w.heap.size 0 0 (fun _ => 0) [x, y] (w.alloc (.cells (estL x y).toArray t)) := by
  have H := Held.new w (estL x y) t
  have l : (estL x y).length = 33 := rfl
  refine ⟨H.lt, H.c 0 _ rfl, H.c 1 _ rfl, fun i hi => H.c (3 + i) _ ?_, fun i v hv => H.c (31 + i) _ ?_, fun o ho => H.f o (by rw [l]; simpa using ho)⟩
  · rw [show 3 + i = i + 1 + 1 + 1 by omega]
    show (List.replicate 28 (Value.int .i64 0) ++ [x, y])[i]? = _
    rw [List.getElem?_append_left (by simpa using hi), List.getElem?_replicate, if_pos hi]
  · rw [show 31 + i = (28 + i) + 1 + 1 + 1 by omega]
    show (List.replicate 28 (Value.int .i64 0) ++ [x, y])[28 + i]? = _
    rw [List.getElem?_append_right (by simp)]
    simpa using hv
set_option maxRecDepth 100000 in
set_option maxHeartbeats 8000000 in
theorem wnew_no (sh : Int) (w : World) (h : ¬ (0 ≤ sh ∧ sh ≤ 16)) : Calls Try.prog 24 #[.int .i64 sh] w fun e w' => e = .returned (.tuple #[.pointer none, .int .i64 2]) ∧ w = w' := by
  have LN := Lib.hid (fun u => lgnew_no sh u h)
  go_enter Try.func24, Try.ntmps24
  go_wp2_with fail
  refine (LN.out _).mono ?_
  rintro e w1 ⟨rfl, rfl⟩
  go_wp2
  go_ret2
  exact ⟨rfl, rfl⟩
set_option maxRecDepth 100000 in
set_option maxHeartbeats 8000000 in
theorem wnew_ok (sh : Int) (w : World) (h0 : 0 ≤ sh) (h1 : sh ≤ 16) : Calls Try.prog 24 #[.int .i64 sh] w fun q w' => ∃ b n e, q = .returned (.tuple #[.pointer (some ⟨b, 0, none⟩), .int .i64 0]) ∧ WdO b n e sh 0 0 false w' ∧ Below w.heap.size w w' ∧ w.heap.size ≤ b ∧ w.heap.size ≤ n ∧ w.heap.size ≤ e := by
  have LN := Lib.hid (fun u => lgnew_ok sh u h0 h1)
  go_enter Try.func24, Try.ntmps24
  go_wp2_with fail
  refine (LN.out _).mono ?_
  rintro q w1 ⟨n, hn, rfl, hH, hb1⟩
  replace hH := Lib.hid hH
  replace hb1 := Lib.hid hb1
  go_wp2_with fail
  refine (LN.out _).mono ?_
  rintro q w2 ⟨e, he, rfl, hE, hb2⟩
  have nlt := hH.out.lt
  have hs1 := hb1.out.size
  replace hH := Lib.hid (hH.out.bel hb2)
  replace hb1 := Lib.hid (hb1.out.trans (hb2.mono hb1.out.size))
  have elt := hE.lt
  have hs2 := hb1.out.size
  replace hE := Lib.hid hE
  have nl2 := hH.out.lt
  clear hb2
  go_wp2
  go_ret2
  exact ⟨w2.heap.size, n, e, rfl, ⟨.inl ⟨_, est_new w2 (.pointer (some ⟨n, 0, none⟩)) (.pointer (some ⟨e, 0, none⟩)) _⟩, hH.out.alloc _, hE.out.alloc _, by omega, by omega, by omega⟩, hb1.out.trans (by have := hb1.out.size; exact (by repeat (first | exact Below.refl _ _ | assumption | apply Below.drew | apply below_drewN | (refine Below.alloc ?_ (by first | exact Nat.le_refl _ | omega | (simp <;> omega)) _) | (refine Below.setCell ?_ (by first | exact Nat.le_refl _ | omega | (simp <;> omega)) _)))), by omega, by omega, by omega⟩
end Go.Proofs.Ytiibgblpbjdpaaa
