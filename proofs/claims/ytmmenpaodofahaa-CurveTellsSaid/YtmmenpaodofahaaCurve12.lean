/- What a function tells of each element of a row; curve.Map; walked. -/
import Derived.Test.YtmmenpaodofahaaCurve5
import Derived.Test.YtmmenpaodofahaaCurve3
import Derived.Deep.Cut
import Derived.Deep.OwnRows
namespace Go.Proofs.Ytmmenpaodofahaa
open Go.ChangeShapes Go.WideShapes Go.ChangeAt Go.RowKit
set_option linter.unusedVariables false
set_option linter.unusedSimpArgs false
set_option maxRecDepth 100000 in
set_option maxHeartbeats 8000000 in
theorem each_any (g : Nat) (cb : Array Value) (f : Int → Int) (al : Option Addr) (cl : Nat) (L : List Int) (w : World) (eg : ∀ args w, (callFunc g args).run Try.prog w = .ok (.enter g args) w) (hL : L.length ≤ 300) (hr : RowIs .i64 w al L)
    (hf : ∀ (u : World) (x : Int), Below w.heap.size w u → Calls Try.prog g (#[.int .i64 x] ++ cb) u fun e u' => e = .returned (.int .i64 (f x)) ∧ Below u.heap.size u u') :
    Calls Try.prog 65 #[.slice al L.length cl, .func (.func g) #[] cb] w fun e w' => ∃ b : Nat, e = .returned (.slice (some ⟨b, 0, none⟩) L.length L.length) ∧ RowIs .i64 w' (some ⟨b, 0, none⟩) (L.map f) ∧ w.heap.size ≤ b ∧ Below w.heap.size w w' := by
  have hmk := run_make_row' (P := Try.prog) 22 2 (.int .i64 0) 8 Try.underlying22 cinfo_i64 rfl .i64 .i64 L.length (by omega) (by omega)
  have HF := Lib.hid hf
  have HR := Lib.hid hr
  clear hf hr
  obtain ⟨U, eU, hU0, hUz, hrow0⟩ : ∃ U, U = w.alloc (.cells (madeCells #[Value.int .i64 0] L.length) 2) ∧ Below w.heap.size w U ∧ U.heap.size = w.heap.size + 1 ∧ U.rowIs w.heap.size 2 L.length (fun _ => .int .i64 0) :=
    ⟨_, rfl, (Below.refl w.heap.size w).alloc (Nat.le_refl _) _, by simp, World.rowIs_made _ _ _ _⟩
  replace eU := Lib.hid eU
  replace hUz := Lib.hid hUz
  replace hrow0 := Lib.hid hrow0
  replace hU0 := Lib.hid hU0
  go_enter Try.func65, Try.ntmps65
  go_wp2_with fail
  rw [← eU.out]
  go_wp2_with fail
  go_loopw [13] (fun i v => ∃ j : Nat, j ≤ L.length ∧ i = .int .i64 (j : Int) ∧ Below w.heap.size w v ∧ Hid (w.heap.size < v.heap.size ∧ v.rowIs w.heap.size 2 L.length (fun t => if t < j then .int .i64 (f (L.getD t 0)) else .int .i64 0))) (fun i _ => L.length - (intOf i).toNat)
  case atStart => exact ⟨0, by omega, rfl, hU0.out, Lib.hid ⟨by have := hUz.out; omega, hrow0.out.congr (fun i hi => by simp)⟩⟩
  case round =>
    clear hmk
    obtain ⟨j, hj, rfl, hb, hR⟩ := hrel
    by_cases hlt : j < L.length
    · obtain ⟨bl, ol, ea, -, h1⟩ := (HR.out.below hb).at hlt
      have hlt1 : (j : Int) < (L.length : Int) := by omega
      subst ea
      have HC := Lib.hid (HF.out wr (L.getD j 0) hb)
      obtain ⟨x, hx⟩ : ∃ x, x = L.getD j 0 := ⟨_, rfl⟩
      rw [← hx] at h1 HC
      obtain ⟨y, hy⟩ : ∃ y, y = f x := ⟨_, rfl⟩
      rw [← hy] at HC
      replace hx := Lib.hid hx
      replace hy := Lib.hid hy
      replace hb := Lib.hid hb
      go_wp2_with fail
      go_at_fn g
      refine HC.out.mono ?_
      rintro e w1 ⟨rfl, hb1⟩
      have R1 := hR.out.2.of_block (hb1.block _ hR.out.1)
      have ck := R1.cell hlt
      rw [if_neg (Nat.lt_irrefl j)] at ck
      have fk := R1.frozen j
      have st := Lib.hid (R1.set j (.int .i64 y))
      have hs1 := Lib.hid (Nat.lt_of_lt_of_le hR.out.1 hb1.size)
      have hbl := Lib.hid ((hb.out.trans (hb1.mono hb.out.size)).setCell (p := ⟨w.heap.size, j, none⟩) (Nat.le_refl _) (.int .i64 y))
      clear R1 hb1
      go_wp2
      go_roundw
      case rel =>
        refine ⟨j + 1, by omega, by go_num, hbl.out, Lib.hid ⟨by first | exact hs1.out | (simpa [World.setCell] using hs1.out), st.out.congr (fun t ht => ?_)⟩⟩
        rw [hy.out, hx.out]
        by_cases e : t = j
        · subst e; simp
        · by_cases e2 : t < j
          · rw [if_neg e, if_pos e2, if_pos (by omega)]
          · rw [if_neg e, if_neg e2, if_neg (by omega)]
      case measure => simp [intOf]; omega
    · have hge : (L.length : Int) ≤ (j : Int) := by omega
      have e : j = L.length := by omega
      have hfin := Lib.hid (show RowIs .i64 wr (some ⟨w.heap.size, 0, none⟩) (L.map f) from .inr ⟨_, _, rfl, hR.out.1, fun i hi => by
        have hi' : i < L.length := by simpa using hi
        have := hR.out.2.cell hi'
        rw [if_pos (by omega)] at this
        rw [Nat.zero_add, this]
        simp [List.getD, hi']⟩)
      go_wp2
      go_ret
      exact ⟨_, rfl, hfin.out, Nat.le_refl _, hb⟩
set_option maxRecDepth 100000 in
set_option maxHeartbeats 8000000 in
theorem cmap1_any (B : Nat) (ax ay : Option Addr) (cx cy : Nat) (X Y : List Int) (x : Int) (k : Nat) (u : World) (hx : RowIs .i64 u ax X) (hy : RowIs .i64 u ay Y) (hg : rgtB X Y = true) (hk : CrK X x k) (c0 : u.cell? ⟨B, 0, none⟩ = some (.slice ax X.length cx)) (c1 : u.cell? ⟨B, 1, none⟩ = some (.slice ay Y.length cy)) :
    Calls Try.prog 66 #[.int .i64 x, .pointer (some ⟨B, 0, none⟩)] u fun e w' => e = .returned (.int .i64 (crV X Y x k)) ∧ Below u.heap.size u w' := by
  have VA := Lib.hid (cvalue5_any ax ay cx cy X Y x k u hx hy hg hk)
  generalize crV X Y x k = y at *
  clear hx hy hg hk
  go_enter Try.func66, Try.ntmps66
  go_wp2_with fail
  refine VA.out.mono ?_
  rintro e w1 ⟨rfl, hb1⟩
  go_wp2
  go_ret
  exact ⟨rfl, hb1⟩
set_option maxRecDepth 100000 in
set_option maxHeartbeats 8000000 in
theorem cmap_no (ax ay : Option Addr) (cx cy : Nat) (X Y : List Int) (al : Option Addr) (cl : Nat) (L : List Int) (w : World) (hx : RowIs .i64 w ax X) (hy : RowIs .i64 w ay Y) (hX : X.length ≤ 300) (hY : Y.length ≤ 300) (hg : rgtB X Y = false) :
    Calls Try.prog 18 #[.agg #[.slice ax X.length cx, .slice ay Y.length cy], .slice al L.length cl] w fun e w' => e = .returned (.tuple #[.slice none 0 0, .bool false]) ∧ Below w.heap.size w w' := by
  obtain ⟨V, eV, hb0, hz, hcs⟩ := crv_box w ax ay cx cy X Y
  have RT := fun u (h : Below (w.heap.size + 1) V u) => cright_any ax ay cx cy X Y u (hx.below (hb0.trans (h.mono (by omega)))) (hy.below (hb0.trans (h.mono (by omega)))) hX hY
  rw [hg] at RT
  replace RT := Lib.hid RT
  clear hx hy hg hX hY
  replace hb0 := Lib.hid hb0
  replace hz := Lib.hid hz
  replace hcs := Lib.hid hcs
  replace eV := Lib.hid eV
  go_enter Try.func18, Try.ntmps18
  go_wp2_with fail
  rw [← eV.out]
  obtain ⟨k0, k1⟩ := hcs.out _ (Below.refl _ _)
  go_wp2_with fail
  refine (RT.out _ (Below.refl _ _)).mono ?_
  rintro e w1 ⟨rfl, hb1⟩
  have hb1 := (Below.refl (w.heap.size + 1) V).trans (hb1.mono (Nat.le_of_eq hz.out.symm))
  obtain ⟨k0, k1⟩ := hcs.out _ hb1
  go_wp2
  go_ret2
  exact ⟨rfl, hb0.out.trans (hb1.mono (by omega))⟩
set_option maxRecDepth 100000 in
set_option maxHeartbeats 8000000 in
theorem cmap_ok (ax ay : Option Addr) (cx cy : Nat) (X Y : List Int) (K : Int → Nat) (hK : ∀ x, CrK X x (K x)) (al : Option Addr) (cl : Nat) (L : List Int) (w : World) (hx : RowIs .i64 w ax X) (hy : RowIs .i64 w ay Y) (hl : RowIs .i64 w al L) (hX : X.length ≤ 300) (hY : Y.length ≤ 300) (hL : L.length ≤ 300) (hg : rgtB X Y = true) :
    Calls Try.prog 18 #[.agg #[.slice ax X.length cx, .slice ay Y.length cy], .slice al L.length cl] w fun e w' => ∃ b : Nat, e = .returned (.tuple #[.slice (some ⟨b, 0, none⟩) L.length L.length, .bool true]) ∧ RowIs .i64 w' (some ⟨b, 0, none⟩) (L.map (fun x => crV X Y x (K x))) ∧ w.heap.size ≤ b ∧ Below w.heap.size w w' := by
  obtain ⟨V, eV, hb0, hz, hcs⟩ := crv_box w ax ay cx cy X Y
  have W := fun u (h : Below (w.heap.size + 1) V u) => show Below w.heap.size w u from hb0.trans (h.mono (by omega))
  have RT := fun u (h : Below (w.heap.size + 1) V u) => cright_any ax ay cx cy X Y u (hx.below (W u h)) (hy.below (W u h)) hX hY
  have EA := Lib.hid (fun u (h : Below (w.heap.size + 1) V u) => each_any 66 #[.pointer (some ⟨w.heap.size, 0, none⟩)] (fun x => crV X Y x (K x)) al cl L u (enters_of Try.func66 (by kernel_rfl) rfl) hL (hl.below (W u h))
    (fun u' x hb => by
      have h2 := h.trans (hb.mono (by have := h.size; omega))
      exact cmap1_any w.heap.size ax ay cx cy X Y x (K x) u' (hx.below (W _ h2)) (hy.below (W _ h2)) hg (hK x) (hcs u' h2).1 (hcs u' h2).2))
  rw [hg] at RT
  replace RT := Lib.hid RT
  generalize (fun x => crV X Y x (K x)) = f at *
  clear hx hy hg hX hY hl hL W
  replace hb0 := Lib.hid hb0
  replace hz := Lib.hid hz
  replace hcs := Lib.hid hcs
  replace eV := Lib.hid eV
  go_enter Try.func18, Try.ntmps18
  go_wp2_with fail
  rw [← eV.out]
  obtain ⟨k0, k1⟩ := hcs.out _ (Below.refl _ _)
  go_wp2_with fail
  refine (RT.out _ (Below.refl _ _)).mono ?_
  rintro e w1 ⟨rfl, hb1⟩
  have hb1 := (Below.refl (w.heap.size + 1) V).trans (hb1.mono (Nat.le_of_eq hz.out.symm))
  obtain ⟨k0, k1⟩ := hcs.out _ hb1
  go_wp2_with fail
  refine (EA.out _ hb1).mono ?_
  rintro e w2 ⟨b, rfl, r1, hn, hb2⟩
  have hb2 := hb1.trans (hb2.mono (by have := hb1.size; have := hz.out; omega))
  replace r1 := Lib.hid r1
  replace hn := Lib.hid (show w.heap.size ≤ b by have := hb1.size; have := hz.out; omega)
  go_wp2
  go_ret2
  exact ⟨b, rfl, r1.out, hn.out, hb0.out.trans (hb2.mono (by omega))⟩
end Go.Proofs.Ytmmenpaodofahaa
