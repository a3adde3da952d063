/- The document's Read, from a place on; walked. -/
import Derived.Test.YtpcbnoefgknihaaTapeG
import Derived.Test.YtpcbnoefgknihaaTapeD
namespace Go.Proofs.Ytpcbnoefgknihaa
open Go.ChangeShapes Go.WideShapes Go.ChangeAt Go.RowKit
set_option linter.unusedVariables false
set_option linter.unusedSimpArgs false
theorem Gr.at {B : Nat} {x : Value} {G : List (Nat × List Int)} {v : World} (h : Gr B x G v) {i : Nat} (hi : i < G.length) : ∃ b off cap, x = .slice (some ⟨b, off, none⟩) G.length cap ∧ v.cell? ⟨b, off + i, none⟩ = some (.slice (some ⟨(G[i]).1, 0, none⟩) (G[i]).2.length (G[i]).2.length) := by
  obtain ⟨ao, cap, rfl, -, hn, hs⟩ := h.og.row
  cases ao with
  | none =>
    have := (hn rfl).1
    have : G = [] := by simpa [grV] using this
    subst this
    simp at hi
  | some a =>
    obtain ⟨g, o, sp⟩ := a
    obtain ⟨h1, h2, h3, h4⟩ := hs _ rfl
    have h1 : sp = none := h1
    subst h1
    exact ⟨g, o, cap, by rw [grV_len], h4 i _ (by simp [grV, hi])⟩
theorem rdB_short {width : Nat} {L : List Int} (h : L.length < 2) : rdB width L = none := by
  match L, h with
  | [], _ => rfl
  | [_], _ => rfl
theorem row_at {k : IntKind} {w : World} {a : Option Addr} {l : List Int} (h : RowIs k w a l) (i : Nat) : RowIs k w (a.map (·.add i)) (l.drop i) := by
  rcases h with rfl | ⟨b, off, rfl, hlt, hc⟩
  · exact .inl (by simp)
  · by_cases hi : i < l.length
    · refine .inr ⟨b, off + i, by simp [Addr.add_lit], hlt, fun j hj => ?_⟩
      have hj' : i + j < l.length := by simp at hj; omega
      rw [show off + i + j = off + (i + j) by omega, hc (i + j) hj']
      simp [List.getD, List.getElem?_drop]
    · exact .inl (List.drop_eq_nil_of_le (by omega))
theorem rdK_form {width : Nat} {L : List Int} (h : rdB width L = none) : rdK width L = (3, [], []) := by
  unfold rdK; rw [h]
set_option maxRecDepth 100000 in
set_option maxHeartbeats 8000000 in
theorem rread (width : Nat) (a : Option Addr) (cap : Nat) (L : List Int) (s : Nat) (w : World) (hr : RowIs .u8 w a L) (hcap : L.length ≤ cap) (hs : s ≤ L.length) (hL : L.length ≤ 100000) (hB : BYL L) (hw : 1 ≤ width ∧ width ≤ 16) : Calls Try.prog 28 #[.int .i64 (width : Int), .slice a L.length cap, .int .i64 (s : Int)] w fun e w' => Below w.heap.size w w' ∧ ∃ x G nx, e = .returned (.tuple #[x, .int .i64 ((nx : Nat) : Int), .int .i64 (rdK width (L.drop s)).1]) ∧ Gr w.heap.size x G w' ∧ grL G = (rdK width (L.drop s)).2.1 ∧ ((rdK width (L.drop s)).1 = 0 → nx + (rdK width (L.drop s)).2.2.length = L.length) := by
  obtain ⟨B, eB⟩ : ∃ B, w.heap.size = B := ⟨_, rfl⟩
  have EB := Lib.hid eB
  rw [eB]
  have HR := Lib.hid (fun u (k : Below B w u) => show RowIs .u8 u a L from hr.below (by rw [eB]; exact k))
  have HC := Lib.hid hcap
  have HB := Lib.hid hB
  have HW := Lib.hid hw
  obtain ⟨K, eK⟩ : ∃ K, rdK width (L.drop s) = K := ⟨_, rfl⟩
  have EK := Lib.hid eK
  rw [eK]
  clear hr hcap hB hw eB eK
  obtain ⟨n, en⟩ : ∃ n, L.length = n := ⟨_, rfl⟩
  have EN := Lib.hid en
  rw [en] at hs hL ⊢
  clear en
  have m1 : (n : Int) ≤ 100000 := by omega
  have m0 : (s : Int) ≤ (n : Int) := by omega
  have ms : (0 : Int) ≤ (s : Int) := by omega
  have wns : IntKind.i64.wrap ((n : Int) - (s : Int)) = (n : Int) - (s : Int) := by rw [IntKind.wrap_i64]; omega
  by_cases h2 : n - s < 2
  · have q1 : (n : Int) - (s : Int) < 2 := by omega
    have hk := Lib.hid (show K = (3, [], []) by rw [← EK.out]; exact rdK_form (rdB_short (by rw [List.length_drop, EN.out]; exact h2)))
    have q2 : decide ((n : Int) - (s : Int) < 2) = true := decide_eq_true q1
    go_enter Try.func28, Try.ntmps28
    go_wp2_with fail
    go_ret3
    rw [hk.out]
    exact ⟨Below.refl _ _, _, [], 0, rfl, Gr.nil _ _, rfl, fun h => by cases h⟩
  · have q1 : ¬ (n : Int) - (s : Int) < 2 := by omega
    have q2 : decide ((n : Int) - (s : Int) < 2) = false := decide_eq_false q1
    have hsl : s < L.length := by rw [EN.out]; omega
    have hsl1 : s + 1 < L.length := by rw [EN.out]; omega
    have D1 := drop_at hsl
    have D2 := drop_at hsl1
    have bx := HB.out (L.getD s 0) (by simp [List.getD, hsl])
    have by2 := HB.out (L.getD (s + 1) 0) (by simp [List.getD, hsl1])
    obtain ⟨b0, o0, ea, -, c1⟩ := (HR.out w (Below.refl _ _)).at hsl
    have CE := Lib.hid (fun u (q : Below B w u) => show u.cell? ⟨b0, o0 + (s + 1), none⟩ = some (.int .u8 (L.getD (s + 1) 0)) from by obtain ⟨g, o, e, -, c⟩ := (HR.out u q).at hsl1; rw [ea] at e; injection e with e; injection e with e3 e4; subst e3 e4; exact c)
    obtain ⟨x, ex⟩ : ∃ x, L.getD s 0 = x := ⟨_, rfl⟩
    obtain ⟨y, ey⟩ : ∃ y, L.getD (s + 1) 0 = y := ⟨_, rfl⟩
    rw [ex] at bx c1 D1
    rw [ey] at by2 CE D2
    have c2 := CE.out w (Below.refl _ _)
    have DD := Lib.hid (show L.drop s = x :: y :: L.drop (s + 2) by rw [D1, D2])
    subst ea
    clear ex ey D1 D2 hsl hsl1
    have s1 : IntKind.i64.wrap ((s : Int) + 1) = (s : Int) + 1 := by rw [IntKind.wrap_i64]; omega
    have s1n : ((s : Int) + 1).toNat = s + 1 := by omega
    have s10 : (0 : Int) ≤ (s : Int) + 1 := by omega
    have s1b : (s : Int) + 1 < (n : Int) := by omega
    have s0b : (s : Int) < (n : Int) := by omega
    by_cases hx : x = 90
    rotate_left
    · have t1 : (x == 90) = false := beq_eq_false_iff_ne.2 hx
      have t2 : (x != 90) = true := by simp [hx]
      have hk := Lib.hid (show K = (3, [], []) by rw [← EK.out, DD.out]; exact rdK_form (by unfold rdB; exact if_neg (fun h => hx h.1)))
      go_enter Try.func28, Try.ntmps28
      go_wp2_with fail
      go_ret3
      rw [hk.out]
      exact ⟨Below.refl _ _, _, [], 0, rfl, Gr.nil _ _, rfl, fun h => by cases h⟩
    subst hx
    by_cases hy : 1 ≤ y ∧ y ≤ 50
    rotate_left
    · have hk := Lib.hid (show K = (3, [], []) by rw [← EK.out, DD.out]; exact rdK_form (by unfold rdB; exact if_neg (fun h => hy h.2)))
      by_cases y1 : y < 1
      · have q5 : decide (y < 1) = true := decide_eq_true y1
        go_enter Try.func28, Try.ntmps28
        go_wp2_with fail
        go_ret3
        rw [hk.out]
        exact ⟨Below.refl _ _, _, [], 0, rfl, Gr.nil _ _, rfl, fun h => by cases h⟩
      · have q5 : decide (y < 1) = false := decide_eq_false y1
        have q6 : decide (50 < y) = true := decide_eq_true (by omega)
        go_enter Try.func28, Try.ntmps28
        go_wp2_with fail
        go_ret3
        rw [hk.out]
        exact ⟨Below.refl _ _, _, [], 0, rfl, Gr.nil _ _, rfl, fun h => by cases h⟩
    have q5 : decide (y < 1) = false := decide_eq_false (by omega)
    have q6 : decide (50 < y) = false := decide_eq_false (by omega)
    obtain ⟨cn, ec⟩ : ∃ n : Nat, y = (n : Int) := ⟨y.toNat, by omega⟩
    subst ec
    have HN := Lib.hid (show cn ≤ 50 by omega)
    have RB := Lib.hid (show rdB width (L.drop s) = rdG cn (List.replicate width 0) (L.drop (s + 2)) by rw [DD.out]; unfold rdB; exact if_pos ⟨rfl, hy⟩)
    have HM := Lib.hid (fun u => mk_i64t width (by have := HW.out; omega) u)
    have wy : IntKind.i64.wrap (cn : Int) = (cn : Int) := by rw [IntKind.wrap_i64]; omega
    have s2 : IntKind.i64.wrap ((s : Int) + 2) = ((s + 2 : Nat) : Int) := by rw [IntKind.wrap_i64]; omega
    clear hy
    go_enter Try.func28, Try.ntmps28
    go_wp2_with fail
    go_loopw [9, 10, 11] (fun y t i v => ∃ (k j : Nat) (x' : Value) (G : List (Nat × List Int)) (P : List Int), k ≤ cn ∧ y = x' ∧ t = .int .i64 (j : Int) ∧ i = .int .i64 (k : Int) ∧ s + 2 ≤ j ∧ j ≤ n ∧ Hid (Gr B x' G v) ∧ Hid (G.length = k) ∧ Hid ((k = 0 → P = List.replicate width 0) ∧ ∀ q, q + 1 = k → ∃ g, G[q]? = some (g, P)) ∧ Hid (P.length = width) ∧ Hid (Below B w v) ∧ Hid (rdG cn (List.replicate width 0) (L.drop (s + 2)) = (rdG (cn - k) P (L.drop j)).map fun q => (grL G ++ q.1, q.2))) (fun _ _ i _ => cn - (intOf i).toNat)
    case atStart => exact ⟨0, s + 2, _, [], List.replicate width 0, by omega, rfl, by first | rfl | go_num, rfl, by omega, by omega, Lib.hid (Gr.nil _ _), Lib.hid rfl, Lib.hid ⟨fun _ => rfl, fun q h => by omega⟩, Lib.hid (by simp), Lib.hid (Below.refl _ _), Lib.hid (by rw [Nat.sub_zero]; cases rdG cn (List.replicate width 0) (L.drop (s + 2)) <;> simp [grL])⟩
    case round =>
      obtain ⟨k, j, x', G, P, hk, rfl, rfl, rfl, hj1, hj2, hG, hGl, hP, hPl, hb, hT⟩ := hrel
      generalize wr = v at *
      have c3 := CE.out v hb.out
      by_cases hlt : k < cn
      · have h1 : (k : Int) < (cn : Int) := by omega
        have k1 : IntKind.i64.wrap ((k : Int) + 1) = (k : Int) + 1 := by have := HN.out; rw [IntKind.wrap_i64]; omega
        have mk1 := HM.out v
        have C1 := Cl.new width v
        obtain ⟨g0, eg⟩ : ∃ g, v.heap.size = g := ⟨_, rfl⟩
        rw [eg] at mk1 C1
        have A1 := (Below.refl v.heap.size v).alloc (Nat.le_refl _) (.cells (madeCells #[.int .i64 0] width) 2)
        have gB := Lib.hid (show B ≤ g0 by have := hb.out.size; have := EB.out; omega)
        have hG1 := Lib.hid (hG.out.bel A1)
        have hb1 := Lib.hid (show Below B w (v.alloc (.cells (madeCells #[.int .i64 0] width) 2)) from hb.out.trans (A1.mono (by rw [eg]; exact gB.out)))
        have ng := Lib.hid (show ogB _ ≠ some g0 ∧ (∀ t ∈ G, t.1 ≠ g0) from ⟨fun e => by have := hG.out.lt (.inl e); omega, fun t ht => by have := hG.out.lt (.inr ⟨t, ht, rfl⟩); omega⟩)
        replace C1 := Lib.hid C1
        clear A1 hG hb eg
        go_upto_region 9 with (fail)
        clear mk1 c3
        generalize v.alloc (.cells (madeCells #[.int .i64 0] width) 2) = v4 at *
        go_wp2_with fail
        go_loopw [10, 13] (fun t i u => ∃ (q j2 : Nat) (A : List Int), q ≤ width ∧ t = .int .i64 (j2 : Int) ∧ i = .int .i64 (q : Int) ∧ s + 2 ≤ j2 ∧ j2 ≤ n ∧ Hid (Gr B _ G u) ∧ Hid (A.length = q) ∧ Hid (Cl g0 (A ++ List.replicate (width - q) 0) u) ∧ Hid (Below B w u) ∧ Hid (rdR P (L.drop j) = (rdR (P.drop q) (L.drop j2)).map fun q => (A ++ q.1, q.2))) (fun _ i _ => width - (intOf i).toNat)
        case atStart => exact ⟨0, j, [], by omega, rfl, rfl, hj1, hj2, hG1, Lib.hid rfl, C1, hb1, Lib.hid (by rw [List.drop_zero]; cases rdR P (L.drop j) <;> simp)⟩
        case round =>
          clear hG1 C1 hb1 hj1 hj2
          obtain ⟨q, j2, A, hq, rfl, rfl, hj1, hj2, hG, hA, hC0, hb, hT2⟩ := hrel
          generalize wr = u at *
          by_cases hlq : q < width
          · have i1 : (q : Int) < (width : Int) := by omega
            have i0 : 0 ≤ (q : Int) := by omega
            have i2 : IntKind.i64.wrap ((q : Int) + 1) = (q : Int) + 1 := by have := HW.out; rw [IntKind.wrap_i64]; omega
            have T1 := rtake _ cap L j2 u (HR.out u hb.out) (by rw [EN.out]; exact hj2) (by rw [EN.out]; omega) HB.out
            rw [EN.out] at T1
            replace T1 := Lib.hid T1
            go_wp2_with fail
            refine T1.out.mono ?_
            rintro e u2 ⟨rfl, ⟨hNo, rfl⟩ | ⟨c, kk, hS, hc, hk1, hk2, rfl⟩⟩
            · have hP0 := drop_at (show q < P.length by rw [hPl.out]; exact hlq)
              have hk := Lib.hid (show K = (3, [], []) by rw [← EK.out]; refine rdK_form ?_; rw [RB.out, hT.out, show cn - k = (cn - k - 1) + 1 by omega, rdG, hT2.out, hP0, rdR_cons, hNo]; rfl)
              clear T1 hP0
              go_wp2_with fail
              go_ret3
              rw [hk.out]
              exact ⟨hb.out, _, [], 0, rfl, Gr.nil _ _, rfl, fun h => by cases h⟩
            obtain ⟨j3, ej3⟩ : ∃ z, j2 + kk = z := ⟨_, rfl⟩
            rw [ej3] at hk2 ⊢
            have j30 : ¬ (j3 : Int) < 0 := by omega
            have DP := Lib.hid (drop_at (show q < P.length by rw [hPl.out]; exact hlq))
            have AL := Lib.hid (show (A ++ List.replicate (width - q) 0).length = width by rw [List.length_append, List.length_replicate, hA.out]; omega)
            have d2 := hC0.out.cell (i := q) (by rw [AL.out]; exact hlq)
            have f2 := hC0.out.frozen q
            obtain ⟨un, eun⟩ : ∃ z, unfo c = z := ⟨_, rfl⟩
            have ub := unfo_bd hc
            rw [eun] at ub ⊢
            have u1 := Lib.hid (hG.out.cell (i := q) (.int .i64 un) ng.out.1 ng.out.2)
            have u2 := Lib.hid (hC0.out.set q un)
            have u3 := Lib.hid (show Below B w (u.setCell ⟨g0, q, none⟩ (.int .i64 un)) from hb.out.setCell (p := ⟨g0, q, none⟩) gB.out _)
            have hT3 := Lib.hid (show ∀ nv, IntKind.i64.wrap (P.getD q 0 + un) = nv → rdR P (L.drop j) = (rdR (P.drop (q + 1)) (L.drop j3)).map fun r => ((A ++ [nv]) ++ r.1, r.2) from fun nv env => by rw [hT2.out, DP.out, rdR_cons, hS]; show Option.map _ (Option.map _ (rdR (P.drop (q + 1)) ((L.drop j2).drop kk))) = _; rw [List.drop_drop, ej3, eun, env, Option.map_map]; congr 1; funext r; simp)
            clear T1 hS hG hC0 hb hT2 AL DP eun hc
            generalize (A ++ List.replicate (width - q) 0).getD q 0 = old at *
            go_upto_region 16 with (fail)
            generalize u.setCell ⟨g0, q, none⟩ (.int .i64 un) = w1 at *
            clear d2 f2
            by_cases k0 : k = 0
            · have k01 : ¬ (0 : Int) < (k : Int) := by omega
              have r6 := Lib.hid (hT3.out un (by rw [hP.out.1 k0]; rw [show (List.replicate width (0 : Int)).getD q 0 = 0 by simp [List.getD, hlq], IntKind.wrap_i64]; omega))
              have r2 := Lib.hid (show Cl g0 ((A ++ [un]) ++ List.replicate (width - (q + 1)) 0) w1 by rw [← fill_set A un hA.out hlq]; exact u2.out)
              have r8 := Lib.hid (show (A ++ [un]).length = q + 1 by simp [hA.out])
              clear hT3 u2
              go_wp2
              go_roundw
              case rel => exact ⟨q + 1, j3, A ++ [un], by omega, rfl, by first | rfl | go_num, by omega, hk2, u1, r8, r2, u3, r6⟩
              case measure => simp [intOf]; omega
            · have k01 : (0 : Int) < (k : Int) := by omega
              obtain ⟨kp, ekp⟩ : ∃ z, z + 1 = k := ⟨k - 1, by omega⟩
              have kpn : IntKind.i64.wrap ((k : Int) - 1) = (kp : Int) := by have := HN.out; rw [IntKind.wrap_i64]; omega
              have kp0 : (0 : Int) ≤ (kp : Int) := by omega
              obtain ⟨g, hg⟩ := hP.out.2 kp ekp
              have hgl : kp < G.length := by rw [hGl.out]; omega
              have hge : G[kp] = (g, P) := by rw [List.getElem?_eq_getElem hgl] at hg; injection hg
              obtain ⟨b7, o7, c7, e7, k7⟩ := u1.out.at hgl
              rw [hGl.out] at e7
              rw [hge, hPl.out] at k7
              have hCg := (u1.out.rw (G[kp]) (List.getElem_mem hgl)).1
              rw [hge] at hCg
              have k8 := hCg.cell (show q < P.length by rw [hPl.out]; exact hlq)
              have kpk : (kp : Int) < (k : Int) := by omega
              have AL := u2.out.cell (i := q) (by rw [List.length_set, List.length_append, List.length_replicate, hA.out]; omega)
              have f2 := u2.out.frozen q
              generalize ((A ++ List.replicate (width - q) 0).set q un).getD q 0 = old2 at *
              obtain ⟨nv, env⟩ : ∃ z, IntKind.i64.wrap (un + P.getD q 0) = z := ⟨_, rfl⟩
              have r6 := Lib.hid (hT3.out nv (by rw [Int.add_comm]; exact env))
              have k8 : w1.cell? ⟨g, q, none⟩ = some (.int .i64 (P.getD q 0)) := k8
              generalize P.getD q 0 = pv at *
              have r1 := Lib.hid (u1.out.cell (i := q) (.int .i64 nv) ng.out.1 ng.out.2)
              have r2 := Lib.hid (show Cl g0 ((A ++ [nv]) ++ List.replicate (width - (q + 1)) 0) (w1.setCell ⟨g0, q, none⟩ (.int .i64 nv)) by rw [← fill_set A nv hA.out hlq]; have := u2.out.set q nv; rw [List.set_set] at this; exact this)
              have r3 := Lib.hid (show Below B w (w1.setCell ⟨g0, q, none⟩ (.int .i64 nv)) from u3.out.setCell (p := ⟨g0, q, none⟩) gB.out _)
              have r8 := Lib.hid (show (A ++ [nv]).length = q + 1 by simp [hA.out])
              clear hT3 u1 u2 u3 hg hge hCg
              subst e7
              go_upto_region 18 with (fail)
              generalize w1.setCell ⟨g0, q, none⟩ (.int .i64 nv) = w2 at *
              clear k7 k8 AL f2
              go_wp2
              go_roundw
              case rel => exact ⟨q + 1, j3, A ++ [nv], by omega, rfl, by first | rfl | go_num, by omega, hk2, r1, r8, r2, r3, r6⟩
              case measure => simp [intOf]; omega
          · obtain rfl : q = width := by omega
            have i1 : ¬ (q : Int) < (q : Int) := by omega
            have RT := Lib.hid (show rdR P (L.drop j) = some (A, L.drop j2) by rw [hT2.out, List.drop_eq_nil_of_le (by rw [hPl.out]; omega), rdR]; simp)
            have hC1 := Lib.hid (show Cl g0 A u by have := hC0.out; rw [Nat.sub_self] at this; simpa using this)
            clear hC0 hT2 hPl hP
            have SR := Lib.hid (src_new 35 79 79 Try.underlying35 u [.slice (some ⟨g0, 0, none⟩) q q] (fun u hu => by simp at hu; subst hu; rfl))
            have A1 := Lib.hid ((Below.refl u.heap.size u).alloc (Nat.le_refl _) (.cells #[.slice (some ⟨g0, 0, none⟩) q q] 79))
            have hG3 := Lib.hid (hG.out.bel A1.out)
            have hO3 := Lib.hid hG3.out.og
            have hBu := Lib.hid (show B ≤ u.heap.size by have := hb.out.size; have := EB.out; omega)
            have hz3 := Lib.hid (show B ≤ (u.alloc (.cells #[.slice (some ⟨g0, 0, none⟩) q q] 79)).heap.size by have := hBu.out; simp; omega)
            have GL := Lib.hid (show (grV G).length + 1 ≤ 1000 by rw [grV_len, hGl.out]; have := HN.out; omega)
            have hC2 := Lib.hid (hC1.out.bel A1.out)
            have hB2 := Lib.hid (hb.out.trans (A1.out.mono hBu.out))
            clear hC1 hb hG A1
            go_upto_region 7 with (first | (at_builtin; refine wpList_append_og _ rfl (.tmp 91) (.tmp 93) 35 35 rfl 79 (.slice none 0 0) 24 Try.underlying35 (by kernel_rfl) rfl B _ _ rfl hO3.out hz3.out _ 1 _ rfl SR.out (by have := GL.out; unfold maxLen; omega) (by have := GL.out; omega) ?_; intro x2 w5 hO5 hK5 hN5))
            have r1 := Lib.hid (show Gr B x2 (G ++ [(g0, A)]) w5 from hG3.out.app (H := [(g0, A)]) (fun t ht => by simp at ht; subst ht; exact ⟨hC2.out, gB.out⟩) (by rw [show grV [(g0, A)] = [.slice (some ⟨g0, 0, none⟩) A.length A.length] from rfl, hA.out]; exact hO5) hK5)
            have r4 := Lib.hid (show Below B w w5 from hB2.out.trans (hK5.below hO3.out hz3.out))
            have r5 := Lib.hid (show rdG cn (List.replicate q 0) (L.drop (s + 2)) = (rdG (cn - (k + 1)) A (L.drop j2)).map fun r => (grL (G ++ [(g0, A)]) ++ r.1, r.2) by rw [hT.out, show cn - k = (cn - (k + 1)) + 1 by omega, rdG, RT.out]; show Option.map _ (Option.map _ _) = _; rw [Option.map_map]; congr 1; funext r; simp [grL])
            have r6 := Lib.hid (show (G ++ [(g0, A)]).length = k + 1 by simp [hGl.out])
            have r7 := Lib.hid (show (k + 1 = 0 → A = List.replicate q 0) ∧ ∀ p, p + 1 = k + 1 → ∃ g, (G ++ [(g0, A)])[p]? = some (g, A) from ⟨fun h => by omega, fun p hp => ⟨g0, by rw [show p = G.length by rw [hGl.out]; omega]; simp⟩⟩)
            clear hO5 hK5 hN5 hG3 hO3 hz3 hC2 hB2 SR hT RT
            go_wp2
            go_roundw
            case rel => exact ⟨k + 1, j2, x2, G ++ [(g0, A)], A, by omega, rfl, rfl, by first | rfl | go_num, hj1, hj2, r1, r6, r7, hA, r4, r5⟩
            case measure => simp [intOf]; omega
      · obtain rfl : k = cn := by omega
        have h1 : ¬ (k : Int) < (k : Int) := by omega
        have RES := Lib.hid (show rdB width (L.drop s) = some (grL G, L.drop j) by rw [RB.out, hT.out, Nat.sub_self, rdG]; simp)
        clear hT hP hPl hGl
        have wnj : IntKind.i64.wrap ((n : Int) - (j : Int)) = (n : Int) - (j : Int) := by rw [IntKind.wrap_i64]; omega
        by_cases hz : n - j < 2
        · have z1 : (n : Int) - (j : Int) < 2 := by omega
          have hk := Lib.hid (show K = (3, [], []) by
        rw [← EK.out]
        unfold rdK
        rw [RES.out]
        have e : (L.drop j).length < 2 := by rw [List.length_drop, EN.out]; exact hz
        match L.drop j, e with
        | [], _ => rfl
        | [_], _ => rfl)
          go_wp2_with fail
          go_ret3
          rw [hk.out]
          exact ⟨hb.out, _, [], 0, rfl, Gr.nil _ _, rfl, fun h => by cases h⟩
        · have z1 : ¬ (n : Int) - (j : Int) < 2 := by omega
          have hjl : j < L.length := by rw [EN.out]; omega
          have hjl1 : j + 1 < L.length := by rw [EN.out]; omega
          have D1 := drop_at hjl
          have D2 := drop_at hjl1
          have bh := HB.out (L.getD j 0) (by simp [List.getD, hjl])
          have bl := HB.out (L.getD (j + 1) 0) (by simp [List.getD, hjl1])
          have e1 := (HR.out v hb.out).c hjl
          have e2 := (HR.out v hb.out).c hjl1
          obtain ⟨h, eh⟩ : ∃ x, L.getD j 0 = x := ⟨_, rfl⟩
          obtain ⟨l, el⟩ : ∃ y, L.getD (j + 1) 0 = y := ⟨_, rfl⟩
          rw [eh] at D1 bh e1
          rw [el] at D2 bl e2
          have DJ := Lib.hid (show L.drop j = h :: l :: L.drop (j + 2) by rw [D1, D2])
          clear eh el D1 D2 hjl hjl1
          have hr8 : RowIs .u8 v.drew (some ⟨b0, o0 + s, none⟩) ((L.drop s).take (j - s)) := row_take (by have := row_at (HR.out v.drew hb.out.drew) s; simpa [Addr.add_lit] using this) _
          have SU := rsum (some ⟨b0, o0 + s, none⟩) (cap - s) ((L.drop s).take (j - s)) v.drew hr8 (by rw [List.length_take, List.length_drop, EN.out]; unfold maxLen; omega) (BYL.by8 fun z hz => HB.out z (List.mem_of_mem_drop (List.mem_of_mem_take hz)))
          rw [show ((L.drop s).take (j - s)).length = j - s by rw [List.length_take, List.length_drop, EN.out]; omega] at SU
          obtain ⟨S, eS⟩ : ∃ S, crI ((L.drop s).take (j - s)) = S := ⟨_, rfl⟩
          rw [eS] at SU
          replace SU := Lib.hid SU
          have RK := Lib.hid (show K = if h * 256 + l = (S : Int) then (0, grL G, L.drop (j + 2)) else (4, [], []) by
          rw [← EK.out]
          unfold rdK
          rw [RES.out, DJ.out]
          show (if h * 256 + l = (crI ((L.drop s).take ((L.drop s).length - ((L.drop (j + 2)).length + 2))) : Int) then _ else _) = _
          rw [show (L.drop s).length - ((L.drop (j + 2)).length + 2) = j - s by rw [List.length_drop, List.length_drop, EN.out]; omega, eS])
          clear RES eS hr8
          have kn : ¬ (cap = s) := by have := HC.out; have := EN.out; omega
          have p1 : (0 : Int) ≤ (j : Int) := by omega
          have p2 : (j : Int) ≤ (cap : Int) := by have := HC.out; have := EN.out; omega
          have p3 : (s : Int) ≤ (j : Int) := by omega
          have p4 : (j : Int) < (n : Int) := by omega
          have p5 : (0 : Int) ≤ (j : Int) + 1 := by omega
          have p6 : (j : Int) + 1 < (n : Int) := by omega
          have p7 : ((j : Int) + 1).toNat = j + 1 := by omega
          have p8 : IntKind.i64.wrap ((j : Int) + 1) = (j : Int) + 1 := by rw [IntKind.wrap_i64]; omega
          have w1 : IntKind.i64.wrap h = h := by rw [IntKind.wrap_i64]; omega
          have w2 : IntKind.i64.wrap l = l := by rw [IntKind.wrap_i64]; omega
          have w3 : IntKind.i64.wrap (h * 256) = h * 256 := by rw [IntKind.wrap_i64]; omega
          have w4 : IntKind.i64.wrap (h * 256 + l) = h * 256 + l := by rw [IntKind.wrap_i64]; omega
          have w5 : IntKind.i64.wrap ((j : Int) + 2) = ((j + 2 : Nat) : Int) := by rw [IntKind.wrap_i64]; omega
          obtain ⟨T, eT⟩ : ∃ z, h * 256 + l = z := ⟨_, rfl⟩
          rw [eT] at w4 RK
          have w6 : IntKind.i64.wrap T = T := w4
          have hbd := Lib.hid (show Below B w v.drew from hb.out.drew)
          have hGd := Lib.hid (hG.out.bel (Below.refl v.heap.size v).drew)
          have LJ := Lib.hid (show (L.drop (j + 2)).length + (j + 2) = n by rw [List.length_drop, EN.out]; omega)
          clear DJ bh bl hj1 hG hb w4
          by_cases q : T = (S : Int)
          rotate_left
          · have t1 : (T == (S : Int)) = false := by simp [q]
            have t2 : (T != (S : Int)) = true := by simp [q]
            have hk := Lib.hid (show K = (4, [], []) by rw [RK.out, if_neg q])
            replace q := Lib.hid q
            clear RK
            go_upto_region 22 with (fail)
            refine region_moves (fun u => u.cell? ⟨b0, o0 + j, none⟩ = some (.int .u8 h) ∧ u.cell? ⟨b0, o0 + (j + 1), none⟩ = some (.int .u8 l)) [] [(.free, 0), (.free, 1), (.free, 2), (.take, 3), (.free, 4), (.free, 5), (.free, 6), (.free, 7), (.free, 8), (.free, 9), (.take, 10), (.free, 11), (.free, 12), (.free, 13), (.free, 14), (.free, 15), (.free, 16), (.step, 17), (.free, 18)] _ (by kernel_rfl) (by kernel_rfl) (by kernel_rfl) (by kernel_rfl) (by decide) rfl (fun _ _ _ _ _ h => h) ?_
            simp only [List.filterMap_cons, List.filterMap_nil, List.getElem?_toArray, List.getElem?_cons_zero, List.getElem?_cons_succ, Option.map_some]
            iterate 3
              first
                | (refine mv_free ?_ (Or.inl ⟨by rfl, ?_⟩) (⟨e1, e2⟩) ?_
                   rotate_left 1
                   · intro u
                     go_simp
                     try simp only [d1]
                     try simp only [d2]
                     try simp only [d3]
                     try simp only [d1]
                     try simp only [d2]
                     try simp only [d3]
                     try with_reducible rfl
                   simp only [Act.put, List.setIfInBounds_toArray, List.set_cons_zero, List.set_cons_succ])
                | (refine mv_free _ (Or.inr ⟨by rfl, rfl⟩) (⟨e1, e2⟩) ?_
                   simp only [Act.put, List.setIfInBounds_toArray, List.set_cons_zero, List.set_cons_succ])
            iterate 1
              first
                | (refine mv_take ?_ (Or.inl ⟨by rfl, ?_⟩) (⟨e1, e2⟩) ?_
                   rotate_left 1
                   · intro u hu
                     (try dsimp only at hu)
                     go_simp
                     try with_reducible rfl
                   simp only [Act.put, List.setIfInBounds_toArray, List.set_cons_zero, List.set_cons_succ])
                | (refine mv_take _ (Or.inr ⟨by rfl, rfl⟩) (⟨e1, e2⟩) ?_
                   simp only [Act.put, List.setIfInBounds_toArray, List.set_cons_zero, List.set_cons_succ])
            iterate 6
              first
                | (refine mv_free ?_ (Or.inl ⟨by rfl, ?_⟩) (⟨e1, e2⟩) ?_
                   rotate_left 1
                   · intro u
                     go_simp
                     try simp only [d1]
                     try simp only [d2]
                     try simp only [d3]
                     try simp only [d1]
                     try simp only [d2]
                     try simp only [d3]
                     try with_reducible rfl
                   simp only [Act.put, List.setIfInBounds_toArray, List.set_cons_zero, List.set_cons_succ])
                | (refine mv_free _ (Or.inr ⟨by rfl, rfl⟩) (⟨e1, e2⟩) ?_
                   simp only [Act.put, List.setIfInBounds_toArray, List.set_cons_zero, List.set_cons_succ])
            iterate 1
              first
                | (refine mv_take ?_ (Or.inl ⟨by rfl, ?_⟩) (⟨e1, e2⟩) ?_
                   rotate_left 1
                   · intro u hu
                     (try dsimp only at hu)
                     go_simp
                     try with_reducible rfl
                   simp only [Act.put, List.setIfInBounds_toArray, List.set_cons_zero, List.set_cons_succ])
                | (refine mv_take _ (Or.inr ⟨by rfl, rfl⟩) (⟨e1, e2⟩) ?_
                   simp only [Act.put, List.setIfInBounds_toArray, List.set_cons_zero, List.set_cons_succ])
            iterate 6
              first
                | (refine mv_free ?_ (Or.inl ⟨by rfl, ?_⟩) (⟨e1, e2⟩) ?_
                   rotate_left 1
                   · intro u
                     go_simp
                     try simp only [d1]
                     try simp only [d2]
                     try simp only [d3]
                     try simp only [d1]
                     try simp only [d2]
                     try simp only [d3]
                     try with_reducible rfl
                   simp only [Act.put, List.setIfInBounds_toArray, List.set_cons_zero, List.set_cons_succ])
                | (refine mv_free _ (Or.inr ⟨by rfl, rfl⟩) (⟨e1, e2⟩) ?_
                   simp only [Act.put, List.setIfInBounds_toArray, List.set_cons_zero, List.set_cons_succ])
            refine mv_step (fun K hK => ?_)
            go_simp
            refine SU.out.mono ?_
            rintro e v2 ⟨rfl, rfl⟩
            go_wp2_with fail
            refine hK.out _ _ _ (fun u hu => hu) (⟨e1, e2⟩) ?_
            clear hK K
            iterate 1
              first
                | (refine mv_free ?_ (Or.inl ⟨by rfl, ?_⟩) (⟨e1, e2⟩) ?_
                   rotate_left 1
                   · intro u
                     go_simp
                     try simp only [d1]
                     try simp only [d2]
                     try simp only [d3]
                     try simp only [d1]
                     try simp only [d2]
                     try simp only [d3]
                     try with_reducible rfl
                   simp only [Act.put, List.setIfInBounds_toArray, List.set_cons_zero, List.set_cons_succ])
                | (refine mv_free _ (Or.inr ⟨by rfl, rfl⟩) (⟨e1, e2⟩) ?_
                   simp only [Act.put, List.setIfInBounds_toArray, List.set_cons_zero, List.set_cons_succ])
            refine mv_done ?_
            go_wp2_with fail
            go_ret3
            rw [hk.out]
            exact ⟨hbd.out, _, [], 0, rfl, Gr.nil _ _, rfl, fun h => by cases h⟩
          · have t1 : (T == (S : Int)) = true := by simp [q]
            have t2 : (T != (S : Int)) = false := by simp [q]
            have hk := Lib.hid (show K = (0, grL G, L.drop (j + 2)) by rw [RK.out, if_pos q])
            replace q := Lib.hid q
            clear RK
            go_upto_region 22 with (fail)
            refine region_moves (fun u => u.cell? ⟨b0, o0 + j, none⟩ = some (.int .u8 h) ∧ u.cell? ⟨b0, o0 + (j + 1), none⟩ = some (.int .u8 l)) [] [(.free, 0), (.free, 1), (.free, 2), (.take, 3), (.free, 4), (.free, 5), (.free, 6), (.free, 7), (.free, 8), (.free, 9), (.take, 10), (.free, 11), (.free, 12), (.free, 13), (.free, 14), (.free, 15), (.free, 16), (.step, 17), (.free, 18)] _ (by kernel_rfl) (by kernel_rfl) (by kernel_rfl) (by kernel_rfl) (by decide) rfl (fun _ _ _ _ _ h => h) ?_
            simp only [List.filterMap_cons, List.filterMap_nil, List.getElem?_toArray, List.getElem?_cons_zero, List.getElem?_cons_succ, Option.map_some]
            iterate 3
              first
                | (refine mv_free ?_ (Or.inl ⟨by rfl, ?_⟩) (⟨e1, e2⟩) ?_
                   rotate_left 1
                   · intro u
                     go_simp
                     try simp only [d1]
                     try simp only [d2]
                     try simp only [d3]
                     try simp only [d1]
                     try simp only [d2]
                     try simp only [d3]
                     try with_reducible rfl
                   simp only [Act.put, List.setIfInBounds_toArray, List.set_cons_zero, List.set_cons_succ])
                | (refine mv_free _ (Or.inr ⟨by rfl, rfl⟩) (⟨e1, e2⟩) ?_
                   simp only [Act.put, List.setIfInBounds_toArray, List.set_cons_zero, List.set_cons_succ])
            iterate 1
              first
                | (refine mv_take ?_ (Or.inl ⟨by rfl, ?_⟩) (⟨e1, e2⟩) ?_
                   rotate_left 1
                   · intro u hu
                     (try dsimp only at hu)
                     go_simp
                     try with_reducible rfl
                   simp only [Act.put, List.setIfInBounds_toArray, List.set_cons_zero, List.set_cons_succ])
                | (refine mv_take _ (Or.inr ⟨by rfl, rfl⟩) (⟨e1, e2⟩) ?_
                   simp only [Act.put, List.setIfInBounds_toArray, List.set_cons_zero, List.set_cons_succ])
            iterate 6
              first
                | (refine mv_free ?_ (Or.inl ⟨by rfl, ?_⟩) (⟨e1, e2⟩) ?_
                   rotate_left 1
                   · intro u
                     go_simp
                     try simp only [d1]
                     try simp only [d2]
                     try simp only [d3]
                     try simp only [d1]
                     try simp only [d2]
                     try simp only [d3]
                     try with_reducible rfl
                   simp only [Act.put, List.setIfInBounds_toArray, List.set_cons_zero, List.set_cons_succ])
                | (refine mv_free _ (Or.inr ⟨by rfl, rfl⟩) (⟨e1, e2⟩) ?_
                   simp only [Act.put, List.setIfInBounds_toArray, List.set_cons_zero, List.set_cons_succ])
            iterate 1
              first
                | (refine mv_take ?_ (Or.inl ⟨by rfl, ?_⟩) (⟨e1, e2⟩) ?_
                   rotate_left 1
                   · intro u hu
                     (try dsimp only at hu)
                     go_simp
                     try with_reducible rfl
                   simp only [Act.put, List.setIfInBounds_toArray, List.set_cons_zero, List.set_cons_succ])
                | (refine mv_take _ (Or.inr ⟨by rfl, rfl⟩) (⟨e1, e2⟩) ?_
                   simp only [Act.put, List.setIfInBounds_toArray, List.set_cons_zero, List.set_cons_succ])
            iterate 6
              first
                | (refine mv_free ?_ (Or.inl ⟨by rfl, ?_⟩) (⟨e1, e2⟩) ?_
                   rotate_left 1
                   · intro u
                     go_simp
                     try simp only [d1]
                     try simp only [d2]
                     try simp only [d3]
                     try simp only [d1]
                     try simp only [d2]
                     try simp only [d3]
                     try with_reducible rfl
                   simp only [Act.put, List.setIfInBounds_toArray, List.set_cons_zero, List.set_cons_succ])
                | (refine mv_free _ (Or.inr ⟨by rfl, rfl⟩) (⟨e1, e2⟩) ?_
                   simp only [Act.put, List.setIfInBounds_toArray, List.set_cons_zero, List.set_cons_succ])
            refine mv_step (fun K hK => ?_)
            go_simp
            refine SU.out.mono ?_
            rintro e v2 ⟨rfl, rfl⟩
            go_wp2_with fail
            refine hK.out _ _ _ (fun u hu => hu) (⟨e1, e2⟩) ?_
            clear hK K
            iterate 1
              first
                | (refine mv_free ?_ (Or.inl ⟨by rfl, ?_⟩) (⟨e1, e2⟩) ?_
                   rotate_left 1
                   · intro u
                     go_simp
                     try simp only [d1]
                     try simp only [d2]
                     try simp only [d3]
                     try simp only [d1]
                     try simp only [d2]
                     try simp only [d3]
                     try with_reducible rfl
                   simp only [Act.put, List.setIfInBounds_toArray, List.set_cons_zero, List.set_cons_succ])
                | (refine mv_free _ (Or.inr ⟨by rfl, rfl⟩) (⟨e1, e2⟩) ?_
                   simp only [Act.put, List.setIfInBounds_toArray, List.set_cons_zero, List.set_cons_succ])
            refine mv_done ?_
            go_wp2_with fail
            go_ret3
            rw [hk.out]
            exact ⟨hbd.out, _, G, j + 2, rfl, hGd.out, rfl, fun _ => by rw [Nat.add_comm]; exact LJ.out⟩
end Go.Proofs.Ytpcbnoefgknihaa
