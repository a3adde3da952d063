/- The law StreamNils; walked. -/
import Derived.Test.YtpcbnoefgknihaaStm8
namespace Go.Proofs.Ytpcbnoefgknihaa
open Go.ChangeShapes Go.WideShapes Go.ChangeAt Go.RowKit
set_option linter.unusedVariables false
set_option linter.unusedSimpArgs false
theorem fd_new (w : World) : ∃ V, V = w.alloc (.cells #[.int .i64 0, .slice none 0 0, .int .i64 0, .int .i64 0] 62) ∧ Below w.heap.size w V ∧ V.heap.size = w.heap.size + 1 ∧ Fd (w.heap.size + 1) w.heap.size [] 0 0 (.slice none 0 0) V := by
  refine ⟨_, rfl, (Below.refl _ _).alloc (Nat.le_refl _) _, by simp, ⟨?_, Og.nil _ _ _, by omega, fun b hb => by cases hb⟩⟩
  rw [stP_nil rfl]
  exact Held.new w [.int .i64 0, .slice none 0 0, .int .i64 0, .int .i64 0] 62
theorem byl_of {l : List Int} (h : ∀ n ∈ l, (Lit.int .u8 n).wf = true) : BYL l := fun b hb => by
  have := h b hb
  simp [Lit.wf, IntKind.min, IntKind.max, IntKind.signed, IntKind.bits] at this
  omega
theorem pk_one {G : List (Nat × Nat × List Int)} {p : List Int} (h : G.map (fun t => t.2.2) = [p]) : ∃ g o, G = [(g, o, p)] := by
  cases G with
  | nil => simp at h
  | cons t r =>
    cases r with
    | nil =>
      simp at h
      obtain ⟨g, o, q⟩ := t
      exact ⟨g, o, by rw [show q = p from h]⟩
    | cons t2 r2 => simp at h
theorem pkL_byl {b : List Int} (h : BYL b) : BYL (pkL b) := by
  have hs : ∀ l : List Int, BYL l → BYL (esL l) := by
    intro l
    induction l with
    | nil => intro _ b hb; cases hb
    | cons x r ih =>
      intro hl
      refine BYL.app (fun c hc => ?_) (ih (fun c hc => hl c (by simp [hc])))
      have hx := hl x (by simp)
      unfold esB at hc
      split at hc
      · simp at hc; omega
      · split at hc
        · simp at hc; omega
        · simp at hc; omega
  have h2 := hs (smL b) (smL_byl h)
  intro c hc
  unfold pkL at hc
  rcases List.mem_cons.1 hc with q | q
  · omega
  · rcases List.mem_append.1 q with q | q
    · exact h2 c q
    · simp at q; omega
theorem row_lt {k : IntKind} {w : World} {a : Option Addr} {l : List Int} (h : RowIs k w a l) (h1 : 1 ≤ l.length) : ∀ c, a = some c → c.block < w.heap.size := fun c hc => by
  obtain ⟨b, o, e, hl, -⟩ := h.at (show 0 < l.length by omega)
  rw [hc] at e
  injection e with e
  subst e
  exact hl
set_option maxRecDepth 100000 in
set_option maxHeartbeats 8000000 in
theorem law_StreamNils (a b : Option Addr) (ca cb : Nat) (L M : List Int) (w : World) (hr : RowIs .u8 w a L) (hs : RowIs .u8 w b M) (hBb : BYL L) (hBp : BYL M) (hLb : L.length ≤ maxLen) (hLp : M.length ≤ maxLen) : Calls Try.prog 11 #[.slice a L.length ca, .slice b M.length cb] w fun e w' => e = .returned (.bool true) ∧ Below w.heap.size w w' := by
  have LV := Lib.hid (fun u => lives47 u)
  have LPb := Lib.hid hLb
  have BYb := Lib.hid (fun (q : True) => hBb)
  have BYp := Lib.hid hBp
  by_cases hc : L.length ≤ 300 ∧ 1 ≤ M.length ∧ M.length ≤ 64
  · have c1 : ¬ (300 : Int) < (L.length : Int) := by omega
    have c2 : ¬ (M.length : Int) < 1 := by omega
    have c3 : ¬ (64 : Int) < (M.length : Int) := by omega
    obtain ⟨V, eV, hbV, hsV, hF⟩ := fd_new w
    have P1 := Lib.hid (spush a ca L V hF (by omega) (hr.below hbV) (fun q c e => ⟨by have := row_lt hr q c e; omega, by simp [ogB]⟩) (by omega) hBb ⟨by omega, by omega⟩ ⟨by omega, by omega⟩)
    have RM := Lib.hid (fun u (k : Below w.heap.size w u) => hs.below k)
    have HC := Lib.hid hc
    have HBV := Lib.hid hbV
    have HSV := Lib.hid hsV
    replace eV := Lib.hid eV
    have MB := Lib.hid hBp
    clear hr hs hF hbV hsV hBb hBp hLb
    obtain ⟨n, en⟩ : ∃ n, L.length = n := ⟨_, rfl⟩
    obtain ⟨m, em⟩ : ∃ m, M.length = m := ⟨_, rfl⟩
    have EN := Lib.hid en
    have EM := Lib.hid em
    rw [en] at c1 P1 ⊢
    rw [em] at c2 c3 ⊢
    replace P1 := Lib.hid P1.out
    clear hc en em
    go_enter Try.func11, Try.ntmps11
    go_wp2_with fail
    refine (sreset_nil _).mono ?_
    rintro e u1 ⟨rfl, rfl⟩
    go_wp2_with fail
    refine (scount_nil _).mono ?_
    rintro e u1 ⟨rfl, rfl⟩
    go_wp2_with fail
    refine (spush_nil _ _ _ _).mono ?_
    rintro e u1 ⟨rfl, rfl⟩
    go_wp2_with fail
    refine (spend_nil _).mono ?_
    rintro e u1 ⟨rfl, rfl⟩
    go_upto_region 9 with (fail)
    rw [← eV.out]
    go_wp2_with fail
    refine P1.out.mono ?_
    rintro e v1 ⟨x1, y1, G1, rfl, hS1⟩
    clear P1
    have R1 := Lib.hid (sreset v1 hS1.fd)
    have XB := Lib.hid (fun g (e : ogB x1 = some g) => (hS1.fd.h.lt e).1)
    have hb1 := Lib.hid (show Below w.heap.size w v1 from HBV.out.trans (hS1.k.bel (Nat.le_refl _) (fun g e => by simp [ogB] at e) (by have := HSV.out; omega)))
    have FR := Lib.hid (fdF_bd [] L)
    have LB := Lib.hid (show w.heap.size + 1 ≤ v1.heap.size from by have := HSV.out; have := hS1.k.size; omega)
    clear hS1
    go_wp2_with fail
    refine R1.out.mono ?_
    rintro e v2 ⟨rfl, hF2, hK2⟩
    clear R1
    have hb2 := Lib.hid (show Below w.heap.size w v2 from hb1.out.trans (hK2.bel (Nat.le_refl _) (fun g e => by have := XB.out g e; omega) (by have := LB.out; omega)))
    have LB2 := Lib.hid (show w.heap.size + 1 ≤ v2.heap.size from by have := LB.out; have := hK2.size; omega)
    have PK := spack b cb M v2 (RM.out v2 hb2.out) HC.out.2.1 HC.out.2.2 MB.out
    rw [EM.out] at PK
    replace PK := Lib.hid PK
    replace hF2 := Lib.hid hF2
    clear hK2
    go_wp2_with fail
    refine PK.out.mono ?_
    rintro e v3 ⟨x2, rfl, hO3, hb3⟩
    clear PK
    obtain ⟨a3, c9, rfl, -, r3, -, hs3⟩ := hO3.rowIs
    have hF3 := hF2.out.keep hb3
    have hb4 := Lib.hid (show Below w.heap.size w v3 from hb2.out.trans (hb3.mono (by have := LB2.out; omega)))
    have LB3 := Lib.hid (show w.heap.size + 1 ≤ v3.heap.size from by have := LB2.out; have := hb3.size; omega)
    have P2 := Lib.hid (spush a3 c9 (pkL M) v3 hF3 LB3.out r3 (fun _ c e => ⟨by have := (hs3 c e).2; have := LB2.out; omega, by simp [ogB]⟩) (by have := pkL_len M; have := HC.out; omega) (pkL_byl MB.out) ⟨by omega, by have := FR.out; have := HC.out; omega⟩ ⟨by omega, by have := FR.out; have := HC.out; omega⟩)
    clear hO3 hb3 r3 hs3 hF3 hF2
    go_wp2_with fail
    refine P2.out.mono ?_
    rintro e v4 ⟨x4, y4, G4, rfl, hS4⟩
    clear P2
    have hgo := hS4.go
    rw [fdF_pk HC.out.2.1 HC.out.2.2 [] rfl] at hgo
    obtain ⟨g, o, rfl⟩ := pk_one hgo
    obtain ⟨ay, cy, ey, -, hny, hsy⟩ := hS4.yo.row
    have hb5 := Lib.hid (show Below w.heap.size w v4 from hb4.out.trans (hS4.k.bel (Nat.le_refl _) (fun g e => by simp [ogB] at e) (by have := LB3.out; omega)))
    have rp := (hS4.rows (g, o, M) (by simp)).1
    have cv1 := row_str (rp.below (Below.refl _ _).drew) M.length
    have cv2 := row_str (RM.out _ hb5.out.drew) cb
    cases ay with
    | none => exact absurd (hny rfl).1 (by simp [pkV])
    | some ay =>
      obtain ⟨gy, oy, sp⟩ := ay
      obtain ⟨q1, -, -, q4⟩ := hsy _ rfl
      have q1 : sp = none := q1
      subst q1
      have hc4 : v4.cell? ⟨gy, oy + 0, none⟩ = some (.slice (some ⟨g, o, none⟩) M.length M.length) := q4 0 _ rfl
      rw [Nat.add_zero] at hc4
      have ey : y4 = .slice (some ⟨gy, oy, none⟩) 1 cy := ey
      subst ey
      rw [EM.out] at cv1 cv2 hc4
      have RP := Lib.hid rp
      have GYL := Lib.hid (show gy < v4.heap.size from (hS4.yo.lt (g := gy) rfl).2)
      clear hgo hny hsy hS4 rp q4
      go_wp2_with fail
      refine region_moves (fun u => u.cell? ⟨gy, oy, none⟩ = some (.slice (some ⟨g, o, none⟩) m m) ∧ (convert 22 9 (.slice (some ⟨g, o, none⟩) m m)).run Try.prog u = .ok (.string (strOfNums M)) u ∧ (convert 22 9 (.slice b m cb)).run Try.prog u = .ok (.string (strOfNums M)) u) [] [(.free, 0), (.free, 1), (.free, 2), (.free, 3), (.free, 4), (.free, 5), (.free, 6), (.free, 7), (.free, 8), (.free, 9), (.take, 10), (.take, 11), (.free, 12), (.take, 13), (.free, 14), (.free, 15), (.free, 16), (.step, 17), (.free, 18), (.free, 19)] _ (by kernel_rfl) (by kernel_rfl) (by kernel_rfl) (by kernel_rfl) (by decide) rfl (fun _ _ _ _ _ h => h) ?_
      simp only [List.filterMap_cons, List.filterMap_nil, List.getElem?_toArray, List.getElem?_cons_zero, List.getElem?_cons_succ, Option.map_some]
      iterate 10
        first
          | (refine mv_free ?_ (Or.inl ⟨by rfl, ?_⟩) (⟨hc4, cv1, cv2⟩) ?_
             rotate_left 1
             · intro u
               go_simp
               try simp only [d1]
               try simp only [d2]
               try simp only [d3]
               try with_reducible rfl
             simp only [Act.put, List.setIfInBounds_toArray, List.set_cons_zero, List.set_cons_succ])
          | (refine mv_free _ (Or.inr ⟨by rfl, rfl⟩) (⟨hc4, cv1, cv2⟩) ?_
             simp only [Act.put, List.setIfInBounds_toArray, List.set_cons_zero, List.set_cons_succ])
      iterate 2
        first
          | (refine mv_take ?_ (Or.inl ⟨by rfl, ?_⟩) (⟨hc4, cv1, cv2⟩) ?_
             rotate_left 1
             · intro u hu
               (try dsimp only at hu)
               go_simp
               try with_reducible rfl
             simp only [Act.put, List.setIfInBounds_toArray, List.set_cons_zero, List.set_cons_succ])
          | (refine mv_take _ (Or.inr ⟨by rfl, rfl⟩) (⟨hc4, cv1, cv2⟩) ?_
             simp only [Act.put, List.setIfInBounds_toArray, List.set_cons_zero, List.set_cons_succ])
      iterate 1
        first
          | (refine mv_free ?_ (Or.inl ⟨by rfl, ?_⟩) (⟨hc4, cv1, cv2⟩) ?_
             rotate_left 1
             · intro u
               go_simp
               try simp only [d1]
               try simp only [d2]
               try simp only [d3]
               try with_reducible rfl
             simp only [Act.put, List.setIfInBounds_toArray, List.set_cons_zero, List.set_cons_succ])
          | (refine mv_free _ (Or.inr ⟨by rfl, rfl⟩) (⟨hc4, cv1, cv2⟩) ?_
             simp only [Act.put, List.setIfInBounds_toArray, List.set_cons_zero, List.set_cons_succ])
      iterate 1
        first
          | (refine mv_take ?_ (Or.inl ⟨by rfl, ?_⟩) (⟨hc4, cv1, cv2⟩) ?_
             rotate_left 1
             · intro u hu
               (try dsimp only at hu)
               go_simp
               try with_reducible rfl
             simp only [Act.put, List.setIfInBounds_toArray, List.set_cons_zero, List.set_cons_succ])
          | (refine mv_take _ (Or.inr ⟨by rfl, rfl⟩) (⟨hc4, cv1, cv2⟩) ?_
             simp only [Act.put, List.setIfInBounds_toArray, List.set_cons_zero, List.set_cons_succ])
      iterate 3
        first
          | (refine mv_free ?_ (Or.inl ⟨by rfl, ?_⟩) (⟨hc4, cv1, cv2⟩) ?_
             rotate_left 1
             · intro u
               go_simp
               try simp only [d1]
               try simp only [d2]
               try simp only [d3]
               try with_reducible rfl
             simp only [Act.put, List.setIfInBounds_toArray, List.set_cons_zero, List.set_cons_succ])
          | (refine mv_free _ (Or.inr ⟨by rfl, rfl⟩) (⟨hc4, cv1, cv2⟩) ?_
             simp only [Act.put, List.setIfInBounds_toArray, List.set_cons_zero, List.set_cons_succ])
      refine mv_step (fun K hK => ?_)
      go_simp
      refine (LV.out _).mono ?_
      rintro e v5 ⟨rfl, hb9⟩
      replace hc4 := Lib.hid hc4
      clear cv1 cv2
      have hb10 := Lib.hid (show Below w.heap.size w v5 from hb5.out.drew.trans (hb9.mono (by have := hb5.out.size; exact this)))
      have hbx := Lib.hid (show Below v4.heap.size v4 v5 from (Below.refl _ _).drew.trans hb9)
      have hc5 := (hbx.out.cell (p := ⟨gy, oy, none⟩) GYL.out).trans hc4.out
      have cv1b := row_str (RP.out.below hbx.out) M.length
      have cv2b := row_str (RM.out v5 hb10.out) cb
      rw [EM.out] at cv1b cv2b
      clear hb9
      go_wp2_with fail
      refine hK.out _ _ _ (fun u hu => hu) (⟨hc5, cv1b, cv2b⟩) ?_
      clear hK K
      iterate 2
        first
          | (refine mv_free ?_ (Or.inl ⟨by rfl, ?_⟩) (⟨hc5, cv1b, cv2b⟩) ?_
             rotate_left 1
             · intro u
               go_simp
               try simp only [d1]
               try simp only [d2]
               try simp only [d3]
               try with_reducible rfl
             simp only [Act.put, List.setIfInBounds_toArray, List.set_cons_zero, List.set_cons_succ])
          | (refine mv_free _ (Or.inr ⟨by rfl, rfl⟩) (⟨hc5, cv1b, cv2b⟩) ?_
             simp only [Act.put, List.setIfInBounds_toArray, List.set_cons_zero, List.set_cons_succ])
      refine mv_done ?_
      go_wp2_with fail
      go_ret
      exact ⟨rfl, hb10.out⟩
  · have m1 : (L.length : Int) ≤ 9223372036854775807 := by unfold maxLen at hLb; omega
    have m2 : (M.length : Int) ≤ 9223372036854775807 := by unfold maxLen at hLp; omega
    have cc : ((300 : Int) < (L.length : Int)) ∨ (¬ (300 : Int) < (L.length : Int) ∧ (M.length : Int) < 1) ∨ (¬ (300 : Int) < (L.length : Int) ∧ ¬ (M.length : Int) < 1 ∧ (64 : Int) < (M.length : Int)) := by omega
    clear hc
    rcases cc with q | ⟨q, q2⟩ | ⟨q, q2, q3⟩
    · clear hr hs hBb hBp
      go_enter Try.func11, Try.ntmps11
      go_wp2_with fail
      refine (LV.out _).mono ?_
      rintro e u1 ⟨rfl, hb⟩
      go_wp2
      go_ret
      exact ⟨rfl, hb⟩
    · clear hr hs hBb hBp
      go_enter Try.func11, Try.ntmps11
      go_wp2_with fail
      refine (LV.out _).mono ?_
      rintro e u1 ⟨rfl, hb⟩
      go_wp2
      go_ret
      exact ⟨rfl, hb⟩
    · clear hr hs hBb hBp
      go_enter Try.func11, Try.ntmps11
      go_wp2_with fail
      refine (LV.out _).mono ?_
      rintro e u1 ⟨rfl, hb⟩
      go_wp2
      go_ret
      exact ⟨rfl, hb⟩
end Go.Proofs.Ytpcbnoefgknihaa
