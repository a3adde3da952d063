/- Package maint: Line of the chapter's example; walked. -/
import Derived.Test.YtfejdbmamaggpaaDoorMaint1
import Derived.Shelf.Strconv.Itoa3
namespace Go.Proofs.YtfejdbmamaggpaaDoor
open Go.ChangeShapes Go.WideShapes Go.ChangeAt Go.RowKit Go.Shelf
set_option linter.unusedVariables false
set_option linter.unusedSimpArgs false
def rnI : Go.Shelf.Ren := ⟨fun | 171 => 78 | 243 => 127 | 246 => 149 | 283 => 178 | 284 => 179 | 285 => 180 | 286 => 181 | 129 => 173 | 317 => 201 | 318 => 202 | 319 => 203 | 320 => 204 | 337 => 215 | 338 => 216 | n => n, fun | 3 => 3 | 9 => 9 | 2 => 2 | 4 => 4 | 171 => 220 | 0 => 0 | 53 => 152 | 37 => 148 | 5 => 5 | 173 => 222 | 212 => 242 | 51 => 215 | 20 => 20 | 213 => 243 | 46 => 172 | 232 => 257 | 233 => 258 | n => n, fun | 17 => 5 | 18 => 6 | 19 => 7 | n => n⟩
theorem layI : Go.Proofs.Lays.n171 Tryd.prog rnI := {
  mixed := by kernel_rfl
  f129 := Tryd.func173.trans (congrArg some (by kernel_rfl))
  f171 := Tryd.func78.trans (congrArg some (by kernel_rfl))
  f243 := Tryd.func127.trans (congrArg some (by kernel_rfl))
  f246 := Tryd.func149.trans (congrArg some (by kernel_rfl))
  f283 := Tryd.func178.trans (congrArg some (by kernel_rfl))
  f284 := Tryd.func179.trans (congrArg some (by kernel_rfl))
  f285 := Tryd.func180.trans (congrArg some (by kernel_rfl))
  f286 := Tryd.func181.trans (congrArg some (by kernel_rfl))
  f317 := Tryd.func201.trans (congrArg some (by kernel_rfl))
  f318 := Tryd.func202.trans (congrArg some (by kernel_rfl))
  f319 := Tryd.func203.trans (congrArg some (by kernel_rfl))
  f320 := Tryd.func204.trans (congrArg some (by kernel_rfl))
  f337 := Tryd.func215.trans (congrArg some (by kernel_rfl))
  f338 := Tryd.func216.trans (congrArg some (by kernel_rfl))
  t0 := Tryd.underlying0
  a0 := Tryd.isAgg0
  z0 := Tryd.sizeOf0
  v0 := Tryd.zeroValue0
  t2 := Tryd.underlying2
  a2 := Tryd.isAgg2
  z2 := Tryd.sizeOf2
  v2 := Tryd.zeroValue2
  t3 := Tryd.underlying3
  a3 := Tryd.isAgg3
  z3 := Tryd.sizeOf3
  v3 := Tryd.zeroValue3
  t4 := Tryd.underlying4
  a4 := Tryd.isAgg4
  z4 := Tryd.sizeOf4
  v4 := Tryd.zeroValue4
  t5 := Tryd.underlying5
  a5 := Tryd.isAgg5
  z5 := Tryd.sizeOf5
  v5 := Tryd.zeroValue5
  t9 := Tryd.underlying9
  a9 := Tryd.isAgg9
  z9 := Tryd.sizeOf9
  v9 := Tryd.zeroValue9
  t20 := Tryd.underlying20
  a20 := Tryd.isAgg20
  z20 := Tryd.sizeOf20
  v20 := Tryd.zeroValue20
  t37 := Tryd.underlying148
  a37 := Tryd.isAgg148
  z37 := Tryd.sizeOf148
  v37 := Tryd.zeroValue148
  t46 := Tryd.underlying172
  a46 := Tryd.isAgg172
  z46 := Tryd.sizeOf172
  v46 := Tryd.zeroValue172
  t51 := Tryd.underlying215
  a51 := Tryd.isAgg215
  z51 := Tryd.sizeOf215
  v51 := Tryd.zeroValue215
  t53 := Tryd.underlying152
  a53 := Tryd.isAgg152
  z53 := Tryd.sizeOf152
  v53 := Tryd.zeroValue152
  t171 := Tryd.underlying220
  a171 := Tryd.isAgg220
  z171 := Tryd.sizeOf220
  v171 := Tryd.zeroValue220
  t173 := Tryd.underlying222
  a173 := Tryd.isAgg222
  z173 := Tryd.sizeOf222
  v173 := Tryd.zeroValue222
  t212 := Tryd.underlying242
  a212 := Tryd.isAgg242
  z212 := Tryd.sizeOf242
  v212 := Tryd.zeroValue242
  t213 := Tryd.underlying243
  a213 := Tryd.isAgg243
  z213 := Tryd.sizeOf243
  t232 := Tryd.underlying257
  a232 := Tryd.isAgg257
  z232 := Tryd.sizeOf257
  v232 := Tryd.zeroValue257
  t233 := Tryd.underlying258
  a233 := Tryd.isAgg258
  z233 := Tryd.sizeOf258
  v233 := Tryd.zeroValue258
  g17 := by kernel_rfl
  g18 := by kernel_rfl
  g19 := by kernel_rfl }
theorem itoa5 (w : World) : Calls Tryd.prog 78 #[.int .i64 5] w fun e w' => e = .returned (.string ⟨#[53]⟩) ∧ w' = w := by
  have h := Any.strconv_Itoa_small layI 5 (by omega) w
  rw [show (Lib.decDigits 5) = [53] by simp [Lib.decDigits]] at h
  exact h
set_option maxRecDepth 100000 in
set_option maxHeartbeats 8000000 in
theorem mmodes (w : World) : Calls Tryd.prog 80 #[] w fun e w' => e = .returned (.agg #[.string ⟨#[119, 97, 114, 109, 105, 110, 103]⟩, .string ⟨#[100, 117, 97, 108]⟩, .string ⟨#[111, 110, 108, 121, 49]⟩, .string ⟨#[111, 110, 108, 121, 50]⟩, .string ⟨#[115, 121, 110, 116, 104, 101, 116, 105, 99]⟩, .string ⟨#[108, 111, 115, 116]⟩]) ∧ Below w.heap.size w w' := by
  have hO := Held.new w [.string ⟨#[]⟩, .string ⟨#[]⟩, .string ⟨#[]⟩, .string ⟨#[]⟩, .string ⟨#[]⟩, .string ⟨#[]⟩] 120
  have hb := (Below.refl w.heap.size w).alloc (Nat.le_refl _) (.cells #[.string ⟨#[]⟩, .string ⟨#[]⟩, .string ⟨#[]⟩, .string ⟨#[]⟩, .string ⟨#[]⟩, .string ⟨#[]⟩] 120)
  obtain ⟨V, eV⟩ : ∃ V, V = w.alloc (.cells #[.string ⟨#[]⟩, .string ⟨#[]⟩, .string ⟨#[]⟩, .string ⟨#[]⟩, .string ⟨#[]⟩, .string ⟨#[]⟩] 120) := ⟨_, rfl⟩
  have hO : Held w.heap.size [.string ⟨#[]⟩, .string ⟨#[]⟩, .string ⟨#[]⟩, .string ⟨#[]⟩, .string ⟨#[]⟩, .string ⟨#[]⟩] V := by rw [eV]; exact hO
  rw [← eV] at hb
  obtain ⟨B, eB⟩ : ∃ B, w.heap.size = B := ⟨_, rfl⟩
  rw [eB] at hO hb
  replace eV := Lib.hid eV
  obtain ⟨c0, f0⟩ := hO.one 0 rfl
  obtain ⟨c1, f1⟩ := hO.one 1 rfl
  obtain ⟨c2, f2⟩ := hO.one 2 rfl
  obtain ⟨c3, f3⟩ := hO.one 3 rfl
  obtain ⟨c4, f4⟩ := hO.one 4 rfl
  obtain ⟨c5, f5⟩ := hO.one 5 rfl
  have hF := ((((((hO.set 0 (.string ⟨#[119, 97, 114, 109, 105, 110, 103]⟩) (by simp)).set 1 (.string ⟨#[100, 117, 97, 108]⟩) (by simp)).set 2 (.string ⟨#[111, 110, 108, 121, 49]⟩) (by simp)).set 3 (.string ⟨#[111, 110, 108, 121, 50]⟩) (by simp)).set 4 (.string ⟨#[115, 121, 110, 116, 104, 101, 116, 105, 99]⟩) (by simp)).set 5 (.string ⟨#[108, 111, 115, 116]⟩) (by simp))
  have hL := Lib.hid ((((((hb.setCell (p := ⟨B, 0, none⟩) (Nat.le_refl B) (.string ⟨#[119, 97, 114, 109, 105, 110, 103]⟩)).setCell (p := ⟨B, 1, none⟩) (Nat.le_refl B) (.string ⟨#[100, 117, 97, 108]⟩)).setCell (p := ⟨B, 2, none⟩) (Nat.le_refl B) (.string ⟨#[111, 110, 108, 121, 49]⟩)).setCell (p := ⟨B, 3, none⟩) (Nat.le_refl B) (.string ⟨#[111, 110, 108, 121, 50]⟩)).setCell (p := ⟨B, 4, none⟩) (Nat.le_refl B) (.string ⟨#[115, 121, 110, 116, 104, 101, 116, 105, 99]⟩)).setCell (p := ⟨B, 5, none⟩) (Nat.le_refl B) (.string ⟨#[108, 111, 115, 116]⟩))
  replace hO := Lib.hid hO
  rw [eB]
  go_enter Tryd.func80, Tryd.ntmps80
  go_upto_region 1 with (fail)
  try rw [eB]
  rw [← eV.out]
  go_wp2
  generalize ((((((V.setCell ⟨B, 0, none⟩ (.string ⟨#[119, 97, 114, 109, 105, 110, 103]⟩)).setCell ⟨B, 1, none⟩ (.string ⟨#[100, 117, 97, 108]⟩)).setCell ⟨B, 2, none⟩ (.string ⟨#[111, 110, 108, 121, 49]⟩)).setCell ⟨B, 3, none⟩ (.string ⟨#[111, 110, 108, 121, 50]⟩)).setCell ⟨B, 4, none⟩ (.string ⟨#[115, 121, 110, 116, 104, 101, 116, 105, 99]⟩)).setCell ⟨B, 5, none⟩ (.string ⟨#[108, 111, 115, 116]⟩)) = uF at *
  have d0 := (hF.one 0 rfl).1
  have d1 := (hF.one 1 rfl).1
  have d2 := (hF.one 2 rfl).1
  have d3 := (hF.one 3 rfl).1
  have d4 := (hF.one 4 rfl).1
  have d5 := (hF.one 5 rfl).1
  first
    | exact bodyPost_ret (v := .agg #[.string ⟨#[119, 97, 114, 109, 105, 110, 103]⟩, .string ⟨#[100, 117, 97, 108]⟩, .string ⟨#[111, 110, 108, 121, 49]⟩, .string ⟨#[111, 110, 108, 121, 50]⟩, .string ⟨#[115, 121, 110, 116, 104, 101, 116, 105, 99]⟩, .string ⟨#[108, 111, 115, 116]⟩]) (by simp [results, Tryd.results80, go_sem, d0, d1, d2, d3, d4, d5]) rfl ⟨rfl, hL.out⟩
    | exact bodyPost_end (v := .agg #[.string ⟨#[119, 97, 114, 109, 105, 110, 103]⟩, .string ⟨#[100, 117, 97, 108]⟩, .string ⟨#[111, 110, 108, 121, 49]⟩, .string ⟨#[111, 110, 108, 121, 50]⟩, .string ⟨#[115, 121, 110, 116, 104, 101, 116, 105, 99]⟩, .string ⟨#[108, 111, 115, 116]⟩]) (by simp [results, Tryd.results80, go_sem, d0, d1, d2, d3, d4, d5]) rfl ⟨rfl, hL.out⟩
theorem md_index (u : World) : (Instr.index 120 (.agg #[.string ⟨#[119, 97, 114, 109, 105, 110, 103]⟩, .string ⟨#[100, 117, 97, 108]⟩, .string ⟨#[111, 110, 108, 121, 49]⟩, .string ⟨#[111, 110, 108, 121, 50]⟩, .string ⟨#[115, 121, 110, 116, 104, 101, 116, 105, 99]⟩, .string ⟨#[108, 111, 115, 116]⟩]) (.int .i64 1)).run Tryd.prog u = .ok (.string ⟨#[100, 117, 97, 108]⟩) u := by kernel_rfl
theorem nm10 {s : ByteArray} (h : ∃ k, k < 7 ∧ mC k = 10 ∧ mN k = s) : s = ⟨#[109, 111, 100, 101, 45, 113]⟩ := by
  obtain ⟨k, hk, e, rfl⟩ := h
  match k, hk, e with
  | 5, _, _ => rfl
  | 0, _, e => simp [mC] at e
  | 1, _, e => simp [mC] at e
  | 2, _, e => simp [mC] at e
  | 3, _, e => simp [mC] at e
  | 4, _, e => simp [mC] at e
  | 6, _, e => simp [mC] at e
  | k + 7, h, _ => omega
set_option maxRecDepth 100000 in
set_option maxHeartbeats 8000000 in
theorem mline (w : World) : Calls Tryd.prog 35 #[.agg #[.int .i64 5, .int .i64 10, .int .i64 1]] w fun e w' => e = .returned (.tuple #[.string ⟨#[116, 53, 32, 109, 111, 100, 101, 45, 113, 32, 100, 117, 97, 108]⟩, .bool true]) ∧ Below w.heap.size w w' := by
  obtain ⟨V, eV, hbV, HC⟩ := ev_box w 5 10 1
  have HW := Lib.hid (fun x (k : Below V.heap.size V x) => (hbV.trans (k.mono hbV.size) : Below w.heap.size w x))
  obtain ⟨B, eB⟩ : ∃ B, w.heap.size = B := ⟨_, rfl⟩
  rw [eB] at HC hbV
  replace HC := Lib.hid HC
  replace eV := Lib.hid eV
  have RP := fun u => mrep 5 10 1 u
  rw [show rpB 5 10 1 = true by decide] at RP
  replace RP := Lib.hid RP
  have NM := fun u => mname 10 u
  rw [show nmB 10 = true by decide] at NM
  replace NM := Lib.hid NM
  have HM := fun u => mhas 10 u
  rw [show hmB 10 = true by decide] at HM
  replace HM := Lib.hid HM
  have IT := Lib.hid (fun u => itoa5 u)
  have MM := Lib.hid (fun u => mmodes u)
  have MI := fun u => md_index u
  obtain ⟨c0, c1, c2⟩ := HC.out V (Below.refl _ _)
  have cc : (⟨#[116]⟩ ++ ⟨#[53]⟩ ++ ⟨#[32]⟩ ++ ⟨#[109, 111, 100, 101, 45, 113]⟩ ++ (⟨#[32]⟩ ++ ⟨#[100, 117, 97, 108]⟩) : ByteArray) = ⟨#[116, 53, 32, 109, 111, 100, 101, 45, 113, 32, 100, 117, 97, 108]⟩ := by decide +kernel
  rw [← cc]
  clear cc hbV
  go_enter Tryd.func35, Tryd.ntmps35
  go_upto_region 1 with (fail)
  try rw [eB]
  rw [← eV.out]
  go_wp2_with fail
  refine (RP.out V).mono ?_
  rintro e u1 ⟨rfl, hb⟩
  have k1 := Lib.hid (show Below V.heap.size V u1 from hb)
  clear hb c0 c1 c2
  obtain ⟨c0, c1, c2⟩ := HC.out u1 k1.out
  go_wp2_with fail
  refine (NM.out u1).mono ?_
  rintro e u2 ⟨⟨s, rfl, hs⟩, hb⟩
  obtain rfl := nm10 (hs (by trivial))
  have k2 := Lib.hid (show Below V.heap.size V u2 from k1.out.trans (hb.mono k1.out.size))
  clear hb c0 c1 c2 hs
  obtain ⟨c0, c1, c2⟩ := HC.out u2 k2.out
  go_wp2_with fail
  refine (IT.out u2).mono ?_
  rintro e u3 ⟨rfl, rfl⟩
  go_wp2_with fail
  refine (HM.out _).mono ?_
  rintro e u4 ⟨rfl, rfl⟩
  go_upto_region 6 with (fail)
  refine region_moves (fun y => y.cell? ⟨B, 2, none⟩ = some (.int .i64 1)) [] [(.free, 0), (.free, 2), (.take, 3), (.step, 1), (.step, 4), (.free, 5), (.free, 6), (.free, 7)] _ (by kernel_rfl) (by kernel_rfl) (by kernel_rfl) (by kernel_rfl) (by decide) rfl (fun _ _ _ _ _ h => h) ?_
  simp only [List.filterMap_cons, List.filterMap_nil, List.getElem?_toArray, List.getElem?_cons_zero, List.getElem?_cons_succ, Option.map_some]
  iterate 2
    first
      | (refine mv_free ?_ (Or.inl ⟨by rfl, ?_⟩) (c2) ?_
         rotate_left 1
         · intro u
           go_simp
           try simp only [d1]
           try simp only [d2]
           try simp only [d3]
           try with_reducible rfl
         simp only [Act.put, List.setIfInBounds_toArray, List.set_cons_zero, List.set_cons_succ])
      | (refine mv_free _ (Or.inr ⟨by rfl, rfl⟩) (c2) ?_
         simp only [Act.put, List.setIfInBounds_toArray, List.set_cons_zero, List.set_cons_succ])
  iterate 1
    first
      | (refine mv_take ?_ (Or.inl ⟨by rfl, ?_⟩) (c2) ?_
         rotate_left 1
         · intro u hu
           (try dsimp only at hu)
           go_simp
           try with_reducible rfl
         simp only [Act.put, List.setIfInBounds_toArray, List.set_cons_zero, List.set_cons_succ])
      | (refine mv_take _ (Or.inr ⟨by rfl, rfl⟩) (c2) ?_
         simp only [Act.put, List.setIfInBounds_toArray, List.set_cons_zero, List.set_cons_succ])
  refine mv_step (fun K hK => ?_)
  go_simp
  refine (MM.out _).mono ?_
  rintro e u5 ⟨rfl, hb⟩
  have k5 := Lib.hid (show Below V.heap.size V u5 from k2.out.drew.trans (hb.mono k2.out.size))
  clear hb c0 c1 c2
  obtain ⟨c0, c1, c2⟩ := HC.out u5 k5.out
  go_wp2_with fail
  refine hK.out _ _ _ (fun y hy => hy) (c2) ?_
  clear hK K
  refine mv_step (fun K hK => ?_)
  go_simp
  refine hK.out _ _ _ (fun y hy => hy) (c2) ?_
  clear hK K
  iterate 3
    first
      | (refine mv_free ?_ (Or.inl ⟨by rfl, ?_⟩) (c2) ?_
         rotate_left 1
         · intro u
           go_simp
           try simp only [d1]
           try simp only [d2]
           try simp only [d3]
           try with_reducible rfl
         simp only [Act.put, List.setIfInBounds_toArray, List.set_cons_zero, List.set_cons_succ])
      | (refine mv_free _ (Or.inr ⟨by rfl, rfl⟩) (c2) ?_
         simp only [Act.put, List.setIfInBounds_toArray, List.set_cons_zero, List.set_cons_succ])
  refine mv_done ?_
  go_wp2
  go_ret2
  exact ⟨rfl, by first | exact HW.out _ k5.out | (rw [← eB]; exact HW.out _ k5.out)⟩
set_option maxRecDepth 100000 in
set_option maxHeartbeats 8000000 in
theorem lives49 (w : World) : Calls Tryd.prog 34 #[] w fun e w' => e = .returned (.bool true) ∧ Below w.heap.size w w' := by
  have LN := Lib.hid (mline w)
  go_enter Tryd.func34, Tryd.ntmps34
  go_wp2_with fail
  refine LN.out.mono ?_
  rintro e u1 ⟨rfl, hb⟩
  replace hb := Lib.hid hb
  go_wp2
  go_ret
  exact ⟨rfl, hb.out⟩
end Go.Proofs.YtfejdbmamaggpaaDoor
