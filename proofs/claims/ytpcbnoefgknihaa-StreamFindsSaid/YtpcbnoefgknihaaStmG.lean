/- The document's answer for a whole stream; walked. -/
import Derived.Test.YtpcbnoefgknihaaStmF
namespace Go.Proofs.Ytpcbnoefgknihaa
open Go.ChangeShapes Go.WideShapes Go.ChangeAt Go.RowKit
set_option linter.unusedVariables false
set_option linter.unusedSimpArgs false
def pvV (G : List (Nat × Nat × Nat × List Int)) : List Value := G.map fun t => .slice (some ⟨t.1, t.2.1, none⟩) t.2.2.2.length t.2.2.1
theorem pvV_len (G : List (Nat × Nat × Nat × List Int)) : (pvV G).length = G.length := by simp [pvV]
structure FoS (B : Nat) (L : List Int) (k fr R : Nat) (y : Value) (G : List (Nat × Nat × Nat × List Int)) (v : World) : Prop where
  go : G.map (fun t => t.2.2.2) = (fdF [] (L.take k)).1
  rf : R = (fdF [] (L.take k)).2.1
  wt : (L.take k).drop fr = (fdF [] (L.take k)).2.2
  yo : Og 22 B y (pvV G) v
  rows : ∀ t ∈ G, RowIs .u8 v (some ⟨t.1, t.2.1, none⟩) t.2.2.2 ∧ B ≤ t.1 ∧ t.1 < v.heap.size
  sy : ∀ t ∈ G, ogB y ≠ some t.1
theorem FoS.start (B : Nat) (L : List Int) (v : World) : FoS B L 0 0 0 (.slice none 0 0) [] v :=
  ⟨by simp [fdF], by simp [fdF], by simp [fdF], Og.nil _ _ _, fun t ht => by (cases ht), fun t ht => by (cases ht)⟩
theorem FoS.bel {B : Nat} {L : List Int} {k fr R : Nat} {y : Value} {G : List (Nat × Nat × Nat × List Int)} {v v' : World} (h : FoS B L k fr R y G v) (b : Below v.heap.size v v') : FoS B L k fr R y G v' :=
  ⟨h.go, h.rf, h.wt, h.yo.bel b, fun t ht => ⟨(h.rows t ht).1.below b, (h.rows t ht).2.1, Nat.lt_of_lt_of_le (h.rows t ht).2.2 b.size⟩, h.sy⟩
theorem FoS.pass {B : Nat} {L : List Int} {k fr R : Nat} {y : Value} {G : List (Nat × Nat × Nat × List Int)} {v : World} (h : FoS B L k fr R y G v) (hk : k < L.length) (hf : fr ≤ k) (hx : L.getD k 0 ≠ 126) : FoS B L (k + 1) fr R y G v := by
  have e := fdF_app (L.take k) [L.getD k 0] []
  rw [fdF_one, if_neg hx, ← take_snoc hk] at e
  simp only [List.append_nil, Nat.add_zero] at e
  refine ⟨by rw [e]; exact h.go, by rw [e]; exact h.rf, ?_, h.yo, h.rows, h.sy⟩
  rw [e, take_snoc hk, List.drop_append_of_le_length (by rw [List.length_take]; omega), h.wt]
theorem FoS.skip {B : Nat} {L : List Int} {k R : Nat} {y : Value} {G : List (Nat × Nat × Nat × List Int)} {v : World} (h : FoS B L k k R y G v) (hk : k < L.length) (hx : L.getD k 0 = 126) : FoS B L (k + 1) (k + 1) R y G v := by
  have w := h.wt
  rw [List.drop_eq_nil_of_le (by rw [List.length_take]; omega)] at w
  have e := fdF_app (L.take k) [L.getD k 0] []
  rw [fdF_one, if_pos hx, if_pos w.symm, ← take_snoc hk] at e
  simp only [List.append_nil, Nat.add_zero] at e
  refine ⟨by rw [e]; exact h.go, by rw [e]; exact h.rf, ?_, h.yo, h.rows, h.sy⟩
  rw [e, List.drop_eq_nil_of_le (by rw [List.length_take]; omega)]
theorem FoS.ne {B : Nat} {L : List Int} {k fr R : Nat} {y : Value} {G : List (Nat × Nat × Nat × List Int)} {v : World} (h : FoS B L k fr R y G v) (hk : k < L.length) (hf : fr < k) : (fdF [] (L.take k)).2.2 ≠ [] := by
  rw [← h.wt]
  intro e
  have := congrArg List.length e
  rw [List.length_drop, List.length_take] at this
  simp at this
  omega
theorem FoS.lost {B : Nat} {L : List Int} {k fr R : Nat} {y : Value} {G : List (Nat × Nat × Nat × List Int)} {v v' : World} (h : FoS B L k fr R y G v) (hk : k < L.length) (hf : fr < k) (hx : L.getD k 0 = 126) (hp : pkt ((L.take k).drop fr) = none) (b : Below v.heap.size v v') : FoS B L (k + 1) (k + 1) (R + 1) y G v' := by
  have e := fdF_app (L.take k) [L.getD k 0] []
  rw [h.wt] at hp
  rw [fdF_one, if_pos hx, if_neg (h.ne hk hf), hp, ← take_snoc hk] at e
  simp only [List.append_nil] at e
  have h2 := h.bel b
  refine ⟨by rw [e]; exact h.go, by rw [e]; show R + 1 = _ + 1; rw [h.rf], ?_, h2.yo, h2.rows, h.sy⟩
  rw [e, List.drop_eq_nil_of_le (by rw [List.length_take]; omega)]
theorem FoS.got {B : Nat} {L : List Int} {k fr R : Nat} {y y2 : Value} {G : List (Nat × Nat × Nat × List Int)} {v v1 v2 v3 : World} {g o c : Nat} {q : List Int} (h : FoS B L k fr R y G v) (hB : B ≤ v.heap.size) (hk : k < L.length) (hf : fr < k) (hx : L.getD k 0 = 126) (hp : pkt ((L.take k).drop fr) = some q) (b : Below v.heap.size v v1)
    (hq : RowIs .u8 v1 (some ⟨g, o, none⟩) q) (hg : v.heap.size ≤ g ∧ g < v1.heap.size) (b2 : Below v1.heap.size v1 v2)
    (hO : Og 22 B y2 (pvV G ++ [.slice (some ⟨g, o, none⟩) q.length c]) v3) (hK : OgK y v2 v3) (hN : OgN y y2 v2) : FoS B L (k + 1) (k + 1) R y2 (G ++ [(g, o, c, q)]) v3 := by
  have e := fdF_app (L.take k) [L.getD k 0] []
  rw [h.wt] at hp
  rw [fdF_one, if_pos hx, if_neg (h.ne hk hf), hp, ← take_snoc hk] at e
  simp only [Nat.add_zero] at e
  have h2 := (h.bel b).bel b2
  have sz := b2.size
  have sz0 := b.size
  have all : ∀ t ∈ G ++ [(g, o, c, q)], RowIs .u8 v2 (some ⟨t.1, t.2.1, none⟩) t.2.2.2 ∧ B ≤ t.1 ∧ t.1 < v2.heap.size ∧ ogB y ≠ some t.1 := fun t ht => by
    rcases List.mem_append.1 ht with ht | ht
    · exact ⟨(h2.rows t ht).1, (h2.rows t ht).2.1, (h2.rows t ht).2.2, h.sy t ht⟩
    · have ht : t = (g, o, c, q) := by simpa using ht
      subst ht
      exact ⟨hq.below b2, by show B ≤ g; omega, by show g < _; omega, fun q => by have := (h.yo.lt q).2; have : g < v.heap.size := this; omega⟩
  refine ⟨by rw [e, List.map_append, h.go]; rfl, by rw [e]; exact h.rf, ?_, by rw [show pvV (G ++ [(g, o, c, q)]) = pvV G ++ [.slice (some ⟨g, o, none⟩) q.length c] by simp [pvV]]; exact hO, fun t ht => ?_, fun t ht => ?_⟩
  · rw [e, List.drop_eq_nil_of_le (by rw [List.length_take]; omega)]
  · obtain ⟨a1, a2, a3, a4⟩ := all t ht
    exact ⟨a1.ogk hK (fun b hb => by injection hb with hb; subst hb; exact a4), a2, Nat.lt_of_lt_of_le a3 hK.size⟩
  · obtain ⟨a1, a2, a3, a4⟩ := all t ht
    rcases hN with hN | ⟨c, hN, hc⟩
    · rw [hN]; exact a4
    · rw [hN]; intro e; injection e with e; omega
theorem FoS.grid {B : Nat} {L : List Int} {k fr R : Nat} {y : Value} {G : List (Nat × Nat × Nat × List Int)} {v : World} (h : FoS B L k fr R y G v) : ∃ ay cy A C, y = .slice ay (fdF [] (L.take k)).1.length cy ∧ GridIs .u8 v ay A C (fdF [] (L.take k)).1 := by
  rw [← h.go]
  obtain ⟨ay, cy, rfl, -, hn, hs⟩ := h.yo.row
  have hr := h.rows
  refine ⟨ay, cy, fun i => (G[i]?).bind (fun t => some ⟨t.1, t.2.1, none⟩), fun i => ((G[i]?).map (fun t => t.2.2.1)).getD 0, by rw [pvV_len, List.length_map], ⟨?_, fun i hi => ?_⟩⟩
  · cases ay with
    | none =>
      have := (hn rfl).1
      have : G = [] := by simpa [pvV] using this
      subst this
      exact .inl rfl
    | some a =>
      obtain ⟨g, o, sp⟩ := a
      obtain ⟨h1, h2, h3, h4⟩ := hs _ rfl
      have h1 : sp = none := h1
      subst h1
      refine .inr ⟨g, o, rfl, h3, fun i hi => ?_⟩
      rw [List.length_map] at hi
      refine h4 i _ ?_
      simp [pvV, List.getD, hi]
  · rw [List.length_map] at hi
    have := (hr (G[i]'hi) (List.getElem_mem hi)).1
    simpa [List.getD, hi] using this
set_option maxRecDepth 100000 in
set_option maxHeartbeats 8000000 in
theorem rfound (a : Option Addr) (cap : Nat) (l : List Int) (w : World) (hr : RowIs .u8 w a l) (hcap : l.length ≤ cap) (hL : l.length ≤ 100000) (hB : BYL l) : Calls Try.prog 37 #[.slice a l.length cap] w fun e w' => ∃ ay cy A C, e = .returned (.tuple #[.slice ay (fdF [] l).1.length cy, .int .i64 ((fdF [] l).2.1 : Nat), .int .i64 (pdN (fdF [] l).2.2)]) ∧ GridIs .u8 w' ay A C (fdF [] l).1 ∧ Below w.heap.size w w' := by
  obtain ⟨B, eB⟩ : ∃ B, w.heap.size = B := ⟨_, rfl⟩
  have EB := Lib.hid eB
  rw [eB]
  have HR := Lib.hid (fun u (k : Below B w u) => show RowIs .u8 u a l from hr.below (by rw [eB]; exact k))
  have BY := Lib.hid hB
  have HL := Lib.hid hL
  have HC := Lib.hid hcap
  clear hr eB
  obtain ⟨n, en⟩ : ∃ n, l.length = n := ⟨_, rfl⟩
  have EN := Lib.hid en
  rw [en] at hL hcap ⊢
  have hL2 : (n : Int) ≤ 100000 := by omega
  clear en hL hcap
  go_enter Try.func37, Try.ntmps37
  go_wp2_with fail
  go_loopw [5, 6, 7, 8] (fun y r f i v => ∃ (k fr R : Nat) (y' : Value) (G : List (Nat × Nat × Nat × List Int)), k ≤ n ∧ fr ≤ k ∧ y = y' ∧ r = .int .i64 (R : Int) ∧ f = .int .i64 (fr : Int) ∧ i = .int .i64 (k : Int) ∧ Hid (FoS B l k fr R y' G v) ∧ Hid (Below B w v)) (fun _ _ _ i _ => n - (intOf i).toNat)
  case atStart => exact ⟨0, 0, 0, _, [], by omega, by omega, rfl, rfl, rfl, rfl, Lib.hid (FoS.start _ _ _), Lib.hid (Below.refl _ _)⟩
  case round =>
    obtain ⟨k, fr, R, y', G, hk, hf, rfl, rfl, rfl, rfl, hS, hK⟩ := hrel
    generalize wr = v at *
    have HBv := Lib.hid (show B ≤ v.heap.size from by have := EB.out; have := hK.out.size; omega)
    have RK := Lib.hid (show R ≤ 100000 by have h1 := hS.out.rf; have h2 := (fdF_bd [] (l.take k)).2; rw [List.length_take] at h2; have := EN.out; omega)
    have rk := RK.out
    have s3 : IntKind.i64.wrap ((R : Int) + 1) = (R : Int) + 1 := by rw [IntKind.wrap_i64]; omega
    clear rk
    by_cases hlt : k < n
    · have hkl : k < l.length := by rw [EN.out]; exact hlt
      have HKL := Lib.hid hkl
      have h1 : (k : Int) < (n : Int) := by omega
      have h0 : 0 ≤ (k : Int) := by omega
      obtain ⟨b, off, rfl, -, hc⟩ := (HR.out v hK.out).at hkl
      have s1 : IntKind.i64.wrap ((k : Int) + 1) = (k : Int) + 1 := by rw [IntKind.wrap_i64]; omega
      by_cases hx : l.getD k 0 = 126
      · have HX := Lib.hid hx
        rw [hx] at hc
        by_cases hfk : fr < k
        · have g1 : (fr : Int) < (k : Int) := by omega
          have g0 : 0 ≤ (fr : Int) := by omega
          have g2 : (fr : Int) ≤ (k : Int) := by omega
          have g3 : (k : Int) ≤ (cap : Int) := by have := HC.out; have := EN.out; omega
          have g4 : ¬ cap = fr := by have := HC.out; have := EN.out; omega
          have g5 : cap - fr ≠ 0 := by omega
          have HF := Lib.hid hfk
          have LD : ((l.take k).drop fr).length = k - fr := by rw [List.length_drop, List.length_take]; omega
          have PK := rpacket (some ⟨b, off + fr, none⟩) (cap - fr) ((l.take k).drop fr) v (rowIs_drop (rowIs_take (HR.out v hK.out) k (by omega)) fr (by rw [List.length_take]; omega)) (by rw [LD]; omega) (fun x hx => BY.out x (List.mem_of_mem_take (List.mem_of_mem_drop hx)))
          rw [LD] at PK
          obtain ⟨P9, eP⟩ : ∃ P, pkt ((l.take k).drop fr) = P := ⟨_, rfl⟩
          rw [eP] at PK
          replace PK := Lib.hid PK
          replace eP := Lib.hid eP
          clear LD hkl hx
          cases P9 with
          | none =>
            go_wp2_with fail
            refine PK.out.mono ?_
            rintro e v2 ⟨x9, rfl, hb2⟩
            clear PK
            have hS2 := Lib.hid (hS.out.lost HKL.out HF.out HX.out eP.out hb2)
            have hK2 := Lib.hid (hK.out.trans (hb2.mono HBv.out))
            clear hS hK hb2
            go_wp2
            go_roundw
            case rel => exact ⟨k + 1, k + 1, R + 1, _, G, by omega, by omega, rfl, by first | rfl | go_num, by first | rfl | go_num, by first | rfl | go_num, hS2, hK2⟩
            case measure => simp [intOf]; omega
          | some q =>
            go_wp2_with fail
            refine PK.out.mono ?_
            rintro e v2 ⟨g9, o9, c9, rfl, hq, hg, hb2⟩
            clear PK
            have hS2 := hS.out.bel hb2
            have hA := Lib.hid ((Below.refl v2.heap.size v2).alloc (Nat.le_refl _) (.cells #[.slice (some ⟨g9, o9, none⟩) q.length c9] 22))
            have hO3 := Lib.hid (hS2.yo.bel hA.out)
            have hz3 := Lib.hid (show B ≤ (v2.alloc (.cells #[.slice (some ⟨g9, o9, none⟩) q.length c9] 22)).heap.size from by have := HBv.out; have := hb2.size; simp; omega)
            have SR := Lib.hid (src_new 51 22 22 Try.underlying51 v2 [.slice (some ⟨g9, o9, none⟩) q.length c9] (fun u hu => by simp at hu; subst hu; rfl))
            have GL := Lib.hid (show (pvV G).length + 1 ≤ 1000001 by rw [pvV_len]; have h1 := congrArg List.length hS.out.go; rw [List.length_map] at h1; have h2 := (fdF_bd [] (l.take k)).1; rw [List.length_take] at h2; have := HL.out; omega)
            replace hq := Lib.hid hq
            replace hg := Lib.hid hg
            replace hb2 := Lib.hid hb2
            clear hS2
            go_wp2_with (first | (at_builtin; refine wpList_append_og _ rfl (.tmp 35) (.tmp 37) 51 51 rfl 22 (.slice none 0 0) 24 Try.underlying51 (by kernel_rfl) rfl B u5 _ rfl hO3.out hz3.out _ 1 _ rfl SR.out (by have := GL.out; unfold maxLen; omega) (by have := GL.out; omega) ?_; intro x2 w5 hO5 hK5 hN5) | fail)
            have S9 := Lib.hid (hS.out.got HBv.out HKL.out HF.out HX.out eP.out hb2.out hq.out hg.out hA.out hO5 hK5 hN5)
            have hK2 := Lib.hid (hK.out.trans ((hb2.out.mono HBv.out).trans ((hA.out.mono (by have := HBv.out; have := hb2.out.size; omega)).trans (hK5.below hO3.out hz3.out))))
            clear hS hK hb2 hO5 hK5 hN5 hO3 hz3 SR hA hq hg
            go_wp2
            go_roundw
            case rel => exact ⟨k + 1, k + 1, R, _, _, by omega, by omega, rfl, by first | rfl | go_num, by first | rfl | go_num, by first | rfl | go_num, S9, hK2⟩
            case measure => simp [intOf]; omega
        · obtain rfl : fr = k := by omega
          have hS2 := Lib.hid (hS.out.skip HKL.out HX.out)
          clear hS hkl hx hfk
          have g1 : ¬ (fr : Int) < (fr : Int) := by omega
          go_wp2
          go_roundw
          case rel => exact ⟨fr + 1, fr + 1, R, _, G, by omega, by omega, rfl, by first | rfl | go_num, by first | rfl | go_num, by first | rfl | go_num, hS2, hK⟩
          case measure => simp [intOf]; omega
      · have hS2 := Lib.hid (hS.out.pass HKL.out hf hx)
        have e6 : (l.getD k 0 == 126) = false := beq_eq_false_iff_ne.2 hx
        have e7 : (l.getD k 0 != 126) = true := bne_iff_ne.2 hx
        generalize l.getD k 0 = x at *
        clear hS hkl
        go_wp2
        go_roundw
        case rel => exact ⟨k + 1, fr, R, _, G, by omega, by omega, rfl, rfl, rfl, by first | rfl | go_num, hS2, hK⟩
        case measure => simp [intOf]; omega
    · obtain rfl : k = n := by omega
      have tk : l.take k = l := List.take_of_length_le (by rw [EN.out]; omega)
      have hSo := hS.out
      obtain ⟨ay, cy, A2, C2, ey, hG⟩ := hSo.grid
      have r1 := hSo.rf
      have w1 := congrArg List.length hSo.wt
      rw [tk] at ey hG r1 w1
      rw [List.length_drop, EN.out] at w1
      have ey : u5 = .slice ay (fdF [] l).1.length cy := ey
      have PD := Lib.hid (show pdN (fdF [] l).2.2 = (if k - fr ≤ 141 then ((k - fr : Nat) : Int) else 141) by unfold pdN; rw [← w1])
      obtain ⟨D, eD⟩ : ∃ D, pdN (fdF [] l).2.2 = D := ⟨_, rfl⟩
      rw [eD] at PD
      replace hG := Lib.hid hG
      replace eD := Lib.hid eD
      have h1 : ¬ (k : Int) < (k : Int) := by omega
      have s2 : IntKind.i64.wrap ((k : Int) - (fr : Int)) = ((k - fr : Nat) : Int) := by rw [IntKind.wrap_i64]; omega
      clear hS hSo tk w1 hlt
      subst ey
      subst r1
      obtain ⟨z, ez⟩ : ∃ z, k - fr = z := ⟨_, rfl⟩
      rw [ez] at s2 PD
      clear ez
      by_cases q : z ≤ 141
      · have q1 : ¬ (141 : Int) < (z : Int) := by omega
        have PD2 := PD.out
        rw [if_pos q] at PD2
        subst PD2
        clear q PD
        go_wp2
        go_ret3
        exact ⟨ay, ⟨cy, by rw [eD.out] <;> rfl⟩, ⟨A2, C2, hG.out⟩, hK.out⟩
      · have q1 : (141 : Int) < (z : Int) := by omega
        have PD2 := PD.out
        rw [if_neg q] at PD2
        subst PD2
        clear q PD
        go_wp2
        go_ret3
        exact ⟨ay, ⟨cy, by rw [eD.out] <;> rfl⟩, ⟨A2, C2, hG.out⟩, hK.out⟩
end Go.Proofs.Ytpcbnoefgknihaa
