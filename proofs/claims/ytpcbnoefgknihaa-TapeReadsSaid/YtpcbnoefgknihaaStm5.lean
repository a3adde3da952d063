/- Package stream: Push; walked. -/
import Derived.Test.YtpcbnoefgknihaaStm4
namespace Go.Proofs.Ytpcbnoefgknihaa
open Go.ChangeShapes Go.WideShapes Go.ChangeAt Go.RowKit
set_option linter.unusedVariables false
set_option linter.unusedSimpArgs false
def pkV (G : List (Nat × Nat × List Int)) : List Value := G.map fun t => .slice (some ⟨t.1, t.2.1, none⟩) t.2.2.length t.2.2.length
theorem pkV_app (G H : List (Nat × Nat × List Int)) : pkV (G ++ H) = pkV G ++ pkV H := by simp [pkV]
theorem pkV_one (G : List (Nat × Nat × List Int)) : ∀ u ∈ pkV G, u.oneCell' = true := fun u hu => by
  obtain ⟨_, _, rfl⟩ := List.mem_map.1 hu
  rfl
theorem pkV_len (G : List (Nat × Nat × List Int)) : (pkV G).length = G.length := by simp [pkV]
/-- Rows of bytes, each in a block of its own (or not), from Bn on. -/
def PkR (Bn : Nat) (G : List (Nat × Nat × List Int)) (v : World) : Prop := ∀ t ∈ G, RowIs .u8 v (some ⟨t.1, t.2.1, none⟩) t.2.2 ∧ Bn ≤ t.1 ∧ t.1 < v.heap.size
theorem PkR.bel {Bn : Nat} {G : List (Nat × Nat × List Int)} {v v' : World} (h : PkR Bn G v) (k : Below v.heap.size v v') : PkR Bn G v' := fun t ht => ⟨(h t ht).1.below k, (h t ht).2.1, Nat.lt_of_lt_of_le (h t ht).2.2 k.size⟩
theorem PkR.ogk {Bn : Nat} {G : List (Nat × Nat × List Int)} {v v' : World} {y : Value} (h : PkR Bn G v) (k : OgK y v v') (hy : ∀ t ∈ G, ogB y ≠ some t.1) : PkR Bn G v' := fun t ht => ⟨(h t ht).1.ogk k (fun b hb => by injection hb with hb; subst hb; exact hy t ht), (h t ht).2.1, Nat.lt_of_lt_of_le (h t ht).2.2 k.size⟩
theorem PkR.fdk {Bn b : Nat} {G : List (Nat × Nat × List Int)} {v v' : World} {x : Value} (h : PkR Bn G v) (k : FdK b x v v') (hb : b < Bn) (hx : ∀ t ∈ G, ogB x ≠ some t.1) : PkR Bn G v' := fun t ht => ⟨(h t ht).1.fdk k (fun c hc => by injection hc with hc; subst hc; have := (h t ht).2.1; show t.1 ≠ b; omega) (fun c hc => by injection hc with hc; subst hc; exact hx t ht), (h t ht).2.1, Nat.lt_of_lt_of_le (h t ht).2.2 k.size⟩
/-- Where a push stands: M has come. -/
structure PuS (B b Bn : Nat) (x : Value) (w : World) (P : List Int) (f r : Int) (M : List Int) (x' y : Value) (G : List (Nat × Nat × List Int)) (v : World) : Prop where
  fd : Fd B b (fdF P M).2.2 (f + ((fdF P M).1.length : Int)) (r + ((fdF P M).2.1 : Int)) x' v
  go : G.map (fun t => t.2.2) = (fdF P M).1
  yo : Og 22 Bn y (pkV G) v
  rows : PkR Bn G v
  sx : ∀ t ∈ G, ogB x' ≠ some t.1
  sy : ∀ t ∈ G, ogB y ≠ some t.1
  sxy : ∀ g, ogB x' = some g → ogB y ≠ some g
  k : FdK b x w v
  n : FdN x x' w
  bn : b < Bn ∧ w.heap.size = Bn
theorem PuS.start {B b : Nat} {x : Value} {w : World} {P : List Int} {f r : Int} (h : Fd B b P f r x w) : PuS B b w.heap.size x w P f r [] x (.slice none 0 0) [] w where
  fd := by simpa [fdF] using h
  go := rfl
  yo := Og.nil _ _ _
  rows := fun t ht => by cases ht
  sx := fun t ht => by cases ht
  sy := fun t ht => by cases ht
  sxy := fun g _ => by simp [ogB]
  k := FdK.refl _ _ _
  n := FdN.refl _ _
  bn := ⟨h.o.lt, rfl⟩
theorem PuS.pre {B b Bn : Nat} {x : Value} {w : World} {P : List Int} {f r : Int} {M : List Int} {x' y : Value} {G : List (Nat × Nat × List Int)} {v v' : World} (h : PuS B b Bn x w P f r M x' y G v) (k : FdK b x' v v') : Og 22 Bn y (pkV G) v' ∧ PkR Bn G v' ∧ FdK b x w v' :=
  ⟨h.yo.fdk k (fun g hg => by have := (h.yo.lt hg).1; have := h.bn.1; omega) (fun g hg e => h.sxy g e hg), h.rows.fdk k h.bn.1 h.sx, h.k.trans h.n k⟩
theorem PuS.hold {B b Bn : Nat} {x : Value} {w : World} {P : List Int} {f r : Int} {M : List Int} {x' y x2 : Value} {G : List (Nat × Nat × List Int)} {v v' : World} {c : Int} (h : PuS B b Bn x w P f r M x' y G v) (hc : c ≠ 126)
    (hf : Fd B b ((fdF P M).2.2 ++ [c]) (f + ((fdF P M).1.length : Int)) (r + ((fdF P M).2.1 : Int)) x2 v') (k : FdK b x' v v') (n : FdN x' x2 v) : PuS B b Bn x w P f r (M ++ [c]) x2 y G v' := by
  obtain ⟨a1, a2, a3⟩ := h.pre k
  have e := fdF_app M [c] P
  rw [fdF_one, if_neg hc] at e
  simp only [List.append_nil, Nat.add_zero] at e
  refine ⟨by rw [e]; exact hf, by rw [e]; exact h.go, a1, a2, fun t ht q => ?_, h.sy, fun g hg => ?_, a3, h.n.trans n h.k.size, h.bn⟩
  · rcases n.of q with q | q
    · exact h.sx t ht q
    · have := (h.rows t ht).2.2; omega
  · rcases n.of hg with q | q
    · exact h.sxy g q
    · intro e2; have := (h.yo.lt e2).2; omega
theorem PuS.empty {B b Bn : Nat} {x : Value} {w : World} {P : List Int} {f r : Int} {M : List Int} {x' y : Value} {G : List (Nat × Nat × List Int)} {v : World} (h : PuS B b Bn x w P f r M x' y G v) (hp : (fdF P M).2.2 = []) : PuS B b Bn x w P f r (M ++ [126]) x' y G v := by
  have e := fdF_app M [126] P
  rw [fdF_one, if_pos rfl, if_pos hp] at e
  simp only [List.append_nil, Nat.add_zero] at e
  exact ⟨by rw [e]; have := h.fd; rw [hp] at this; exact this, by rw [e]; exact h.go, h.yo, h.rows, h.sx, h.sy, h.sxy, h.k, h.n, h.bn⟩
theorem PuS.none {B b Bn : Nat} {x : Value} {w : World} {P : List Int} {f r : Int} {M : List Int} {x' y : Value} {G : List (Nat × Nat × List Int)} {v v' : World} (h : PuS B b Bn x w P f r M x' y G v) (hp : (fdF P M).2.2 ≠ []) (hk : pkt (fdF P M).2.2 = .none)
    (hf : Fd B b [] (f + ((fdF P M).1.length : Int)) (r + ((fdF P M).2.1 : Int) + 1) (.slice .none 0 0) v') (k : FdK b x' v v') : PuS B b Bn x w P f r (M ++ [126]) (.slice .none 0 0) y G v' := by
  obtain ⟨a1, a2, a3⟩ := h.pre k
  have e := fdF_app M [126] P
  rw [fdF_one, if_pos rfl, if_neg hp, hk] at e
  simp only [List.append_nil] at e
  refine ⟨by rw [e]; refine cast (congrArg (fun z => Fd B b [] (f + ((fdF P M).1.length : Int)) z (.slice .none 0 0) v') ?_) hf; simp; omega, by rw [e]; exact h.go, a1, a2, fun t _ => by simp [ogB], h.sy, fun g hg => by simp [ogB] at hg, a3, .inl rfl, h.bn⟩
theorem PuS.some {B b Bn : Nat} {x : Value} {w : World} {P : List Int} {f r : Int} {M : List Int} {x' y y2 : Value} {G : List (Nat × Nat × List Int)} {v v' v2 v3 : World} {g o : Nat} {q : List Int} (h : PuS B b Bn x w P f r M x' y G v) (hp : (fdF P M).2.2 ≠ []) (hk : pkt (fdF P M).2.2 = .some q)
    (hq : RowIs .u8 v' (.some ⟨g, o, .none⟩) q) (hg : v.heap.size ≤ g ∧ g < v'.heap.size)
    (hf : Fd B b [] (f + ((fdF P M).1.length : Int) + 1) (r + ((fdF P M).2.1 : Int)) (.slice .none 0 0) v') (k : FdK b x' v v') (hb : Below v'.heap.size v' v2)
    (hO : Og 22 Bn y2 (pkV G ++ [.slice (.some ⟨g, o, .none⟩) q.length q.length]) v3) (hK : OgK y v2 v3) (hN : OgN y y2 v2) : PuS B b Bn x w P f r (M ++ [126]) (.slice .none 0 0) y2 (G ++ [(g, o, q)]) v3 := by
  obtain ⟨a1, a2, a3⟩ := h.pre k
  have e := fdF_app M [126] P
  rw [fdF_one, if_pos rfl, if_neg hp, hk] at e
  simp only [Nat.add_zero] at e
  have yl : ∀ c, ogB y = .some c → c < v.heap.size := fun c hc => (h.yo.lt hc).2
  have yb : ogB y ≠ .some b := fun hc => by have := (h.yo.lt hc).1; have := h.bn.1; omega
  have yg : ogB y ≠ .some g := fun hc => by have := yl g hc; omega
  have hs2 := hb.size
  refine ⟨by rw [e]; refine cast (congrArg (fun z => Fd B b [] z (r + ((fdF P M).2.1 : Int)) (.slice .none 0 0) v3) ?_) ((hf.keep hb).ogk hK yb (fun c hc => by simp [ogB] at hc)); simp; omega, by rw [e]; simp [h.go], by rw [pkV_app]; exact hO, ?_, fun t _ => by simp [ogB], ?_, fun c hc => by simp [ogB] at hc, ?_, .inl rfl, h.bn⟩
  · intro t ht
    rcases List.mem_append.1 ht with ht | ht
    · exact (a2.bel hb).ogk hK h.sy t ht
    · simp at ht
      subst ht
      exact ⟨(hq.below hb).ogk hK (fun c hc => by injection hc with hc; subst hc; exact yg), by have := h.k.size; have := h.bn.2; omega, Nat.lt_of_lt_of_le hg.2 (Nat.le_trans hs2 hK.size)⟩
  · intro t ht
    have hlt : t.1 < v2.heap.size ∧ ogB y ≠ .some t.1 := by
      rcases List.mem_append.1 ht with ht | ht
      · exact ⟨by have := (a2 t ht).2.2; omega, h.sy t ht⟩
      · simp at ht
        subst ht
        exact ⟨by show g < _; omega, yg⟩
    rcases hN with hN | ⟨c, hN, hc⟩
    · rw [hN]; exact hlt.2
    · rw [hN]; intro e; injection e with e; omega
  · exact ⟨hK.os.trans (hb.os.trans a3.os), hK.tape.trans (hb.tape.trans a3.tape), hK.output.trans (hb.output.trans a3.output), Nat.le_trans a3.size (Nat.le_trans hs2 hK.size), fun j hj h1 h2 => (hK.block j (by have := a3.size; omega) (fun e => by have := (h.yo.lt e).1; have := h.bn.2; omega)).trans ((hb.block j (by have := a3.size; omega)).trans (a3.block j hj h1 h2))⟩
theorem fdF_bd : ∀ (P L : List Int), (fdF P L).1.length ≤ L.length ∧ (fdF P L).2.1 ≤ L.length
  | P, [] => by simp [fdF]
  | P, x :: r => by
    rw [fdF_cons]
    have h1 := fdF_bd [] r
    have h2 := fdF_bd (P ++ [x]) r
    simp only [List.length_cons]
    split
    · split
      · omega
      · split
        · simp only [List.length_cons]; omega
        · simp only; omega
    · omega
set_option maxRecDepth 100000 in
set_option maxHeartbeats 4000000 in
theorem spush_nil (a : Option Addr) (n cap : Nat) (w : World) : Calls Try.prog 36 #[.pointer none, .slice a n cap] w fun e w' => e = .returned (.slice none 0 0) ∧ w = w' := by
  go_enter Try.func36, Try.ntmps36
  go_wp2
  go_ret
  exact ⟨rfl, rfl⟩
set_option maxRecDepth 100000 in
set_option maxHeartbeats 8000000 in
theorem spush {B b : Nat} {P : List Int} {f r : Int} {x : Value} (a : Option Addr) (cap : Nat) (L : List Int) (w : World) (h : Fd B b P f r x w) (hB : B ≤ w.heap.size) (hr : RowIs .u8 w a L) (ha : 1 ≤ L.length → ∀ c, a = some c → c.block ≠ b ∧ ogB x ≠ some c.block) (hL : L.length ≤ 100000) (hby : BYL L) (f0 : 0 ≤ f ∧ f ≤ 1000000000) (r0 : 0 ≤ r ∧ r ≤ 1000000000) : Calls Try.prog 36 #[.pointer (some ⟨b, 0, none⟩), .slice a L.length cap] w fun e w' => ∃ x' y G, e = .returned y ∧ PuS B b w.heap.size x w P f r L x' y G w' := by
  obtain ⟨n, en⟩ : ∃ n, L.length = n := ⟨_, rfl⟩
  have EN := Lib.hid en
  have HB := Lib.hid hB
  have HL := Lib.hid hby
  have hL2 : (n : Int) ≤ 1000000 := by omega
  have S0 := Lib.hid (PuS.start h)
  have HR := Lib.hid (fun u (k : FdK b x w u) => show RowIs .u8 u a L from by rcases Nat.eq_zero_or_pos L.length with q | q; exact .inl (List.eq_nil_of_length_eq_zero q); exact hr.fdk k (fun c hc => (ha q c hc).1) (fun c hc => (ha q c hc).2))
  have F0 := Lib.hid f0
  have R0 := Lib.hid r0
  have BD := Lib.hid (fun k => fdF_bd P (L.take k))
  have HN := Lib.hid hL
  rw [en]
  clear hr ha h hB hby hL en f0 r0
  go_enter Try.func36, Try.ntmps36
  go_wp2_with fail
  go_loopw [5, 14] (fun y i v => ∃ (k : Nat) (x' y' : Value) (G : List (Nat × Nat × List Int)), k ≤ n ∧ y = y' ∧ i = .int .i64 (k : Int) ∧ Hid (PuS B b w.heap.size x w P f r (L.take k) x' y' G v)) (fun _ i _ => n - (intOf i).toNat)
  case atStart => exact ⟨0, x, _, [], by omega, rfl, rfl, Lib.hid (by simpa using S0.out)⟩
  case round =>
    obtain ⟨k, x', y', G, hk, rfl, rfl, hS⟩ := hrel
    clear S0
    generalize wr = v at *
    by_cases hlt : k < n
    · have hkl : k < L.length := by rw [EN.out]; exact hlt
      have h1 : (k : Int) < (n : Int) := by omega
      have h0 : 0 ≤ (k : Int) := by omega
      have s1 : IntKind.i64.wrap ((k : Int) + 1) = (k : Int) + 1 := by rw [IntKind.wrap_i64]; omega
      obtain ⟨ab, ao, rfl, -, hc⟩ := (HR.out v hS.out.k).at hkl
      have TK := Lib.hid (take_snoc hkl)
      have hx := HL.out.by8 k hkl
      have bd := BD.out k
      have lk : (L.take k).length = k := by simp; omega
      rw [lk] at bd
      generalize L.take k = M at *
      generalize L.getD k 0 = c at *
      have HBv := Lib.hid (show B ≤ v.heap.size from Nat.le_trans HB.out hS.out.k.size)
      have fr : (0 ≤ f + ((fdF P M).1.length : Int) ∧ f + ((fdF P M).1.length : Int) < 9223372036854775806) ∧ (0 ≤ r + ((fdF P M).2.1 : Int) ∧ r + ((fdF P M).2.1 : Int) < 9223372036854775806) := by have := F0.out; have := R0.out; have := HN.out; omega
      by_cases hc6 : c = 126
      · subst hc6
        by_cases hp : (fdF P M).2.2 = []
        · have FN := sfinish_no (B := B) (b := b) (f := f + ((fdF P M).1.length : Int)) (r := r + ((fdF P M).2.1 : Int)) (x := x') v (by have := hS.out.fd; rw [hp] at this; exact this)
          replace FN := Lib.hid FN
          have S9 := Lib.hid (hS.out.empty hp)
          rw [← TK.out] at S9
          clear hS hp fr bd lk hx hkl
          go_wp2_with fail
          refine FN.out.mono ?_
          rintro e w1 ⟨rfl, rfl⟩
          clear FN
          go_wp2
          go_roundw
          case rel => exact ⟨k + 1, _, _, _, by omega, rfl, by first | rfl | go_num, S9⟩
          case measure => simp [intOf]; omega
        · have FN := sfinish v hS.out.fd HBv.out hp fr.1 fr.2
          cases hpk : pkt (fdF P M).2.2 with
          | none =>
            rw [hpk] at FN
            replace FN := Lib.hid FN
            clear fr bd lk hx hkl
            go_wp2_with fail
            refine FN.out.mono ?_
            rintro e w1 ⟨rfl, hF, hK⟩
            clear FN
            have S9 := Lib.hid (hS.out.none hp hpk hF hK)
            rw [← TK.out] at S9
            clear hS hF hK hp hpk
            go_wp2
            go_roundw
            case rel => exact ⟨k + 1, _, _, _, by omega, rfl, by first | rfl | go_num, S9⟩
            case measure => simp [intOf]; omega
          | some q =>
            rw [hpk] at FN
            replace FN := Lib.hid FN
            have GL := Lib.hid (show (pkV G).length + 1 ≤ 1000001 by rw [pkV_len]; have := congrArg List.length hS.out.go; rw [List.length_map] at this; have := HN.out; have := EN.out; omega)
            clear fr bd lk hx hkl
            go_wp2_with fail
            refine FN.out.mono ?_
            rintro e w1 ⟨g9, o9, rfl, hq, hg, hF, hK⟩
            clear FN
            obtain ⟨a1, -, -⟩ := hS.out.pre hK
            have hA := Lib.hid ((Below.refl w1.heap.size w1).alloc (Nat.le_refl _) (.cells #[.slice (some ⟨g9, o9, none⟩) q.length q.length] 22))
            have hO3 := Lib.hid (a1.bel hA.out)
            have hz3 := Lib.hid (show w.heap.size ≤ (w1.alloc (.cells #[.slice (some ⟨g9, o9, none⟩) q.length q.length] 22)).heap.size from by have := hS.out.k.size; have := hK.size; simp; omega)
            have SR := Lib.hid (src_new 51 22 22 Try.underlying51 w1 [.slice (some ⟨g9, o9, none⟩) q.length q.length] (fun u hu => by simp at hu; subst hu; rfl))
            replace hq := Lib.hid hq
            replace hg := Lib.hid hg
            replace hF := Lib.hid hF
            replace hK := Lib.hid hK
            replace hp := Lib.hid hp
            replace hpk := Lib.hid hpk
            clear a1
            go_upto_region 12 with (first | (at_builtin; refine wpList_append_og _ rfl (.tmp 29) (.tmp 31) 51 51 rfl 22 (.slice none 0 0) 24 Try.underlying51 (by kernel_rfl) rfl w.heap.size u5 _ rfl hO3.out hz3.out _ 1 _ rfl SR.out (by have := GL.out; unfold maxLen; omega) (by have := GL.out; omega) ?_; intro x2 w5 hO5 hK5 hN5))
            have S9 := Lib.hid (hS.out.some hp.out hpk.out hq.out hg.out hF.out hK.out hA.out hO5 hK5 hN5)
            rw [← TK.out] at S9
            clear hS hF hK hp hpk hO5 hK5 hN5 hO3 hz3 SR hA hq hg
            go_wp2
            go_roundw
            case rel => exact ⟨k + 1, _, _, _, by omega, rfl, by first | rfl | go_num, S9⟩
            case measure => simp [intOf]; omega
      · have e6 : (c == 126) = false := beq_eq_false_iff_ne.2 hc6
        have e7 : (c != 126) = true := bne_iff_ne.2 hc6
        have HD := Lib.hid (shold c v hS.out.fd HBv.out hx)
        replace hc6 := Lib.hid hc6
        clear fr bd lk hx hkl
        go_wp2_with fail
        refine HD.out.mono ?_
        rintro e w1 ⟨rfl, x2, hF, hK, hN⟩
        clear HD
        have S9 := Lib.hid (hS.out.hold hc6.out hF hK hN)
        rw [← TK.out] at S9
        clear hS hF hK hN hc6
        go_wp2
        go_roundw
        case rel => exact ⟨k + 1, _, _, _, by omega, rfl, by first | rfl | go_num, S9⟩
        case measure => simp [intOf]; omega
    · obtain rfl : k = n := by omega
      have S9 := Lib.hid (show PuS B b w.heap.size x w P f r L x' _ G v by have := hS.out; rwa [show L.take k = L by rw [← EN.out, List.take_length]] at this)
      clear hS hlt
      have h1 : ¬ (k : Int) < (k : Int) := by omega
      go_wp2
      go_ret
      exact ⟨_, _, rfl, _, S9.out⟩
end Go.Proofs.Ytpcbnoefgknihaa
