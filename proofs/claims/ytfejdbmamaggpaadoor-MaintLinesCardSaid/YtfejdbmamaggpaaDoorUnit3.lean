/- Package unit: Text of the chapter's example; walked. -/
import Derived.Test.YtfejdbmamaggpaaDoorUnit1
import Derived.Test.YtfejdbmamaggpaaDoorUnit2
import Derived.Test.YtfejdbmamaggpaaDoorSatClip
namespace Go.Proofs.YtfejdbmamaggpaaDoor
open Go.ChangeShapes Go.WideShapes Go.ChangeAt Go.RowKit
set_option linter.unusedVariables false
set_option linter.unusedSimpArgs false
theorem Pw10.bel {w u : World} (h : Pw10 w) (k : Below w.heap.size w u) : Pw10 u := by
  unfold Pw10 Lib.TabIs World.var? at *
  cases hg : Tryd.prog.globalNamed "internal/strconv.uint64pow10" with
  | none => rw [hg] at h; cases h
  | some g =>
    rw [hg] at h
    have hlt : g < w.heap.size := by
      rcases Nat.lt_or_ge g w.heap.size with q | q
      · exact q
      · simp [Array.getElem?_eq_none q] at h
    show (match u.heap[g]? with | some (.cells cs _ _) => some cs | _ => none) = _
    rw [k.block g hlt]
    exact h
theorem it1 : (⟨(Lib.itoa 1).toArray⟩ : ByteArray) = ⟨#[49]⟩ := by simp [Lib.itoa, Lib.decDigits]
theorem it1500 : (⟨(Lib.itoa 1500).toArray⟩ : ByteArray) = ⟨#[49, 53, 48, 48]⟩ := by simp [Lib.itoa, Lib.decDigits]
theorem tr500 : (⟨(Lib.trimRightB ((⟨#[49, 53, 48, 48]⟩ : ByteArray).extract 1 4).data.toList 48).toArray⟩ : ByteArray) = ⟨#[53]⟩ := by decide +kernel
set_option maxRecDepth 100000 in
set_option maxHeartbeats 8000000 in
theorem udec1500 (w : World) (ht : Pw10 w) : Calls Tryd.prog 71 #[.int .i64 1500] w fun e w' => e = .returned (.string ⟨#[49, 46, 53]⟩) ∧ Below w.heap.size w w' := by
  have F1 := Lib.hid (fun u (k : Below w.heap.size w u) => fmt_any 1 (by omega) (by omega) u (ht.bel k))
  have F2 := Lib.hid (fun u (k : Below w.heap.size w u) => fmt_any 1500 (by omega) (by omega) u (ht.bel k))
  have T0 := fun u => trimr ((⟨#[49, 53, 48, 48]⟩ : ByteArray).extract 1 4) 48 (by decide) u (by decide +kernel)
  rw [tr500] at T0
  have T0 := Lib.hid T0
  have h0 := Lib.hid (Below.refl w.heap.size w)
  have w1 : IntKind.i64.wrap 1 = 1 := by decide
  have w2 : IntKind.i64.wrap 500 = 500 := by decide
  have w3 : IntKind.i64.wrap 1500 = 1500 := by decide
  have q1 : Int.tdiv 1500 1000 = 1 := by decide
  have q2 : Int.tmod 1500 1000 = 500 := by decide
  have cc : (⟨#[]⟩ ++ ⟨#[49]⟩ ++ (⟨#[46]⟩ ++ ⟨#[53]⟩) : ByteArray) = ⟨#[49, 46, 53]⟩ := by decide +kernel
  rw [← cc]
  clear cc
  go_enter Tryd.func71, Tryd.ntmps71
  go_wp2_with fail
  refine (F1.out w h0.out).mono ?_
  rintro e u1 ⟨rfl, hb⟩
  rw [it1]
  have h1 := Lib.hid (show Below w.heap.size w u1 from hb)
  clear hb
  go_wp2_with fail
  refine (F2.out u1 h1.out).mono ?_
  rintro e u2 ⟨rfl, hb⟩
  rw [it1500]
  have h2 := Lib.hid (show Below w.heap.size w u2 from h1.out.trans (hb.mono h1.out.size))
  clear hb F1 F2
  go_wp2_with fail
  refine (T0.out u2).mono ?_
  rintro e u3 ⟨rfl, rfl⟩
  go_wp2
  go_ret
  exact ⟨rfl, h2.out⟩
theorem qt_box (w : World) (n u : Int) : ∃ V, V = w.alloc (.cells #[.int .i64 n, .int .i64 u] 33) ∧ Below w.heap.size w V ∧ ∀ v, Below V.heap.size V v → v.cell? ⟨w.heap.size, 0, none⟩ = some (.int .i64 n) ∧ v.cell? ⟨w.heap.size, 1, none⟩ = some (.int .i64 u) :=
  ⟨_, rfl, (Below.refl _ _).alloc (Nat.le_refl _) _, fun v k => ⟨(bc k (show w.heap.size < _ by simp)).trans (by go_simp), (bc k (show w.heap.size < _ by simp)).trans (by go_simp)⟩⟩
set_option maxRecDepth 100000 in
set_option maxHeartbeats 8000000 in
theorem utext1500 (w : World) (ht : Pw10 w) : Calls Tryd.prog 28 #[.agg #[.int .i64 1500, .int .i64 7]] w fun e w' => e = .returned (.tuple #[.string ⟨#[49, 46, 53, 32, 104, 112, 97]⟩, .bool true]) ∧ Below w.heap.size w w' := by
  obtain ⟨V, eV, hbV, HC⟩ := qt_box w 1500 7
  have NM := fun u => uname 7 u
  rw [show uNm 7 = ⟨#[104, 112, 97]⟩ from rfl] at NM
  have CL := fun u => clip_any 1500 u
  rw [show clp 1500 = 1500 from rfl, show beyB 1500 = false from rfl] at CL
  have DC := Lib.hid (fun u (k : Below V.heap.size V u) => udec1500 u (ht.bel (hbV.trans (k.mono hbV.size))))
  obtain ⟨B, eB⟩ : ∃ B, w.heap.size = B := ⟨_, rfl⟩
  rw [eB] at HC hbV
  replace NM := Lib.hid NM
  replace CL := Lib.hid CL
  replace HC := Lib.hid HC
  replace eV := Lib.hid eV
  replace hbV := Lib.hid hbV
  have hz := Lib.hid (show B ≤ V.heap.size by rw [← eB]; exact hbV.out.size)
  clear ht
  rw [eB]
  have cc : (⟨#[49, 46, 53]⟩ ++ ⟨#[32]⟩ ++ ⟨#[104, 112, 97]⟩ : ByteArray) = ⟨#[49, 46, 53, 32, 104, 112, 97]⟩ := by decide +kernel
  rw [← cc]
  clear cc
  go_enter Tryd.func28, Tryd.ntmps28
  go_upto_region 1 with (fail)
  try rw [eB]
  rw [← eV.out]
  obtain ⟨c0, c1⟩ := HC.out V (Below.refl _ _)
  go_wp2_with fail
  refine (NM.out V).mono ?_
  rintro e u1 ⟨rfl, hb⟩
  have k1 := Lib.hid (show Below V.heap.size V u1 from hb)
  clear hb c0 c1
  obtain ⟨c0, c1⟩ := HC.out u1 k1.out
  go_wp2_with fail
  refine (CL.out u1).mono ?_
  rintro e u2 ⟨rfl, rfl⟩
  go_wp2_with fail
  refine (DC.out u1 k1.out).mono ?_
  rintro e u3 ⟨rfl, hb⟩
  have k3 := Lib.hid (show Below B w u3 from hbV.out.trans ((k1.out.trans (hb.mono k1.out.size)).mono hz.out))
  clear hb
  go_wp2
  go_ret2
  exact ⟨rfl, k3.out⟩
set_option maxRecDepth 100000 in
set_option maxHeartbeats 8000000 in
theorem lives37 (w : World) (ht : Pw10 w) : Calls Tryd.prog 23 #[] w fun e w' => e = .returned (.bool true) ∧ Below w.heap.size w w' := by
  have TX := Lib.hid (utext1500 w ht)
  clear ht
  go_enter Tryd.func23, Tryd.ntmps23
  go_wp2_with fail
  refine TX.out.mono ?_
  rintro e u1 ⟨rfl, hb⟩
  replace hb := Lib.hid hb
  go_wp2
  go_ret
  exact ⟨rfl, hb.out⟩
end Go.Proofs.YtfejdbmamaggpaaDoor
