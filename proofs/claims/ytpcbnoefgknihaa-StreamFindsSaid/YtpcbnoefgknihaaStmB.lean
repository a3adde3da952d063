/- Package stream: what a law keeps of a feeder over several pushes; are two lists of packets the same; walked. -/
import Derived.Test.YtpcbnoefgknihaaStmA
namespace Go.Proofs.Ytpcbnoefgknihaa
open Go.ChangeShapes Go.WideShapes Go.ChangeAt Go.RowKit
set_option linter.unusedVariables false
set_option linter.unusedSimpArgs false
theorem Fd.re {B b : Nat} {P : List Int} {f r f' r' : Int} {x : Value} {v : World} (h : Fd B b P f r x v) (e1 : f = f') (e2 : r = r') : Fd B b P f' r' x v := by subst e1 e2; exact h
/-- Behind several pushes: M has come, y keeps all packets. -/
structure GoS (B b Bg : Nat) (f r : Int) (M : List Int) (x' y : Value) (G : List (Nat × Nat × List Int)) (v : World) : Prop where
  fd : Fd B b (fdF [] M).2.2 (f + ((fdF [] M).1.length : Int)) (r + ((fdF [] M).2.1 : Int)) x' v
  go : G.map (fun t => t.2.2) = (fdF [] M).1
  yo : Og 22 Bg y (pkV G) v
  rows : PkR Bg G v
  sx : ∀ t ∈ G, ogB x' ≠ some t.1
  sy : ∀ t ∈ G, ogB y ≠ some t.1
  sxy : ∀ g, ogB x' = some g → ogB y ≠ some g
  bn : b < Bg ∧ Bg ≤ v.heap.size
theorem GoS.keep {B b Bg : Nat} {f r : Int} {M : List Int} {x' y : Value} {G : List (Nat × Nat × List Int)} {v v' : World} (h : GoS B b Bg f r M x' y G v) (k : Below v.heap.size v v') : GoS B b Bg f r M x' y G v' :=
  ⟨h.fd.keep k, h.go, h.yo.bel k, h.rows.bel k, h.sx, h.sy, h.sxy, ⟨h.bn.1, Nat.le_trans h.bn.2 k.size⟩⟩
theorem GoS.step {B b Bg : Nat} {f r : Int} {M L : List Int} {x' y x2 y2 y3 : Value} {G G2 : List (Nat × Nat × List Int)} {v v2 v3 : World} (h : GoS B b Bg f r M x' y G v)
    (p : PuS B b v.heap.size x' v (fdF [] M).2.2 (f + ((fdF [] M).1.length : Int)) (r + ((fdF [] M).2.1 : Int)) L x2 y2 G2 v2) (hO : Og 22 Bg y3 (pkV G ++ pkV G2) v3) (hK : OgK y v2 v3) (hN : OgN y y3 v2) : GoS B b Bg f r (M ++ L) x2 y3 (G ++ G2) v3 := by
  have e := fdF_app M L []
  have yl : ∀ c, ogB y = some c → Bg ≤ c ∧ c < v.heap.size := fun c hc => h.yo.lt hc
  have x2y : ∀ g, ogB x2 = some g → ogB y ≠ some g := fun g hg => by
    rcases p.n.of hg with q | q
    · exact h.sxy g q
    · intro e2; have := (yl _ e2).2; omega
  have yb : ogB y ≠ some b := fun hc => by have := (yl _ hc).1; have := h.bn.1; omega
  have sz := p.k.size
  have rG : PkR Bg G v2 := h.rows.fdk p.k h.bn.1 h.sx
  have ltG : ∀ t ∈ G ++ G2, t.1 < v2.heap.size ∧ ogB y ≠ some t.1 := fun t ht => by
    rcases List.mem_append.1 ht with ht | ht
    · exact ⟨(rG t ht).2.2, h.sy t ht⟩
    · exact ⟨(p.rows t ht).2.2, fun q => by have := (yl _ q).2; have := (p.rows t ht).2.1; omega⟩
  refine ⟨?_, by rw [e, List.map_append, h.go, p.go], by rw [pkV_app]; exact hO, ?_, ?_, ?_, ?_, ⟨h.bn.1, by have := h.bn.2; have := hK.size; omega⟩⟩
  · rw [e]
    refine (p.fd.ogk hK yb x2y).re ?_ ?_ <;> simp <;> omega
  · intro t ht
    rcases List.mem_append.1 ht with ht | ht
    · exact rG.ogk hK h.sy t ht
    · have := p.rows.ogk hK (fun t ht => (ltG t (List.mem_append_right _ ht)).2) t ht
      exact ⟨this.1, by have := h.bn.2; have := this; omega, this.2.2⟩
  · intro t ht
    rcases List.mem_append.1 ht with ht | ht
    · intro q
      rcases p.n.of q with q | q
      · exact h.sx t ht q
      · have := (h.rows t ht).2.2; omega
    · exact p.sx t ht
  · intro t ht
    rcases hN with hN | ⟨c, hN, hc⟩
    · rw [hN]; exact (ltG t ht).2
    · rw [hN]; intro e; injection e with e; have := (ltG t ht).1; omega
  · intro g hg
    rcases hN with hN | ⟨c, hN, hc⟩
    · rw [hN]; exact x2y g hg
    · rw [hN]; intro e; injection e with e; have := (p.fd.h.lt hg).2; omega
/-- Packets that a call has made, as rows of bytes. -/
theorem grid_of_pk {Bn : Nat} {y : Value} {G : List (Nat × Nat × List Int)} {v : World} (ho : Og 22 Bn y (pkV G) v) (hr : PkR Bn G v) : ∃ ay cy A C, y = .slice ay (G.map (fun t => t.2.2)).length cy ∧ GridIs .u8 v ay A C (G.map (fun t => t.2.2)) := by
  obtain ⟨ay, cy, rfl, -, hn, hs⟩ := ho.row
  refine ⟨ay, cy, fun i => (G[i]?).bind (fun t => some ⟨t.1, t.2.1, none⟩), fun i => ((G.map (fun t => t.2.2)).getD i []).length, by rw [pkV_len, List.length_map], ⟨?_, fun i hi => ?_⟩⟩
  · cases ay with
    | none =>
      have := (hn rfl).1
      have : G = [] := by simpa [pkV] using this
      subst this
      exact .inl rfl
    | some a =>
      obtain ⟨g, o, sp⟩ := a
      obtain ⟨h1, h2, h3, h4⟩ := hs _ rfl
      have h1 : sp = none := h1
      subst h1
      refine .inr ⟨g, o, rfl, h3, fun i hi => ?_⟩
      rw [List.length_map] at hi
      refine h4 i _ ?_
      simp [pkV, List.getD, hi]
  · rw [List.length_map] at hi
    have := (hr (G[i]'hi) (List.getElem_mem hi)).1
    simpa [List.getD, hi] using this
set_option maxRecDepth 100000 in
set_option maxHeartbeats 8000000 in
theorem rsame47 (a b : Option Addr) (A D : Nat → Option Addr) (C E : Nat → Nat) (Z : List (List Int)) (ca cb : Nat) (w : World) (h1 : GridIs .u8 w a A C Z) (h2 : GridIs .u8 w b D E Z) (hZ : Z.length ≤ maxLen) : Calls Try.prog 39 #[.slice a Z.length ca, .slice b Z.length cb] w fun e w' => e = .returned (.bool true) ∧ Below w.heap.size w w' := by
  have H1 := Lib.hid (fun u (k : Below w.heap.size w u) => h1.below k)
  have H2 := Lib.hid (fun u (k : Below w.heap.size w u) => h2.below k)
  have hZ' : (Z.length : Int) ≤ 9223372036854775807 := by unfold maxLen at hZ; omega
  obtain ⟨n, en⟩ : ∃ n, Z.length = n := ⟨_, rfl⟩
  have EN := Lib.hid en
  rw [en] at hZ' ⊢
  clear h1 h2 hZ en
  go_enter Try.func39, Try.ntmps39
  go_wp2_with fail
  go_loopw [5] (fun i v => ∃ k : Nat, k ≤ n ∧ i = .int .i64 (k : Int) ∧ Hid (Below w.heap.size w v)) (fun i _ => n - (intOf i).toNat)
  case atStart => exact ⟨0, by omega, rfl, Lib.hid (Below.refl _ _)⟩
  case round =>
    obtain ⟨k, hk, rfl, hb⟩ := hrel
    generalize wr = v at *
    by_cases hlt : k < n
    · have hkl : k < Z.length := by rw [EN.out]; exact hlt
      have j1 : (k : Int) < (n : Int) := by omega
      have j0 : 0 ≤ (k : Int) := by omega
      have G1 := H1.out v hb.out
      have G2 := H2.out v hb.out
      obtain ⟨b1, o1, ea, -, c1⟩ := G1.at hkl
      obtain ⟨b2, o2, eb, -, c2⟩ := G2.at hkl
      have v1 := row_str ((G1.rows k hkl).below (Below.refl _ _).drew) (C k)
      have v2 := row_str ((G2.rows k hkl).below (Below.refl _ _).drew) (E k)
      generalize strOfNums (Z.getD k []) = s at *
      generalize (Z.getD k []).length = zl at *
      generalize A k = ak at *
      generalize D k = dk at *
      generalize C k = ck at *
      generalize E k = ek at *
      have ss : (s.toList == s.toList) = true := by simp
      have s1 : IntKind.i64.wrap ((k : Int) + 1) = (k : Int) + 1 := by rw [IntKind.wrap_i64]; omega
      subst ea eb
      clear G1 G2 hkl
      go_wp2_with fail
      refine region_moves (fun u => u.cell? ⟨b1, o1 + k, none⟩ = some (.slice ak zl ck) ∧ u.cell? ⟨b2, o2 + k, none⟩ = some (.slice dk zl ek) ∧ (convert 22 9 (.slice ak zl ck)).run Try.prog u = .ok (.string s) u ∧ (convert 22 9 (.slice dk zl ek)).run Try.prog u = .ok (.string s) u) [] [(.free, 0), (.free, 1), (.free, 2), (.take, 3), (.take, 4), (.free, 5), (.free, 6), (.free, 7), (.take, 8), (.take, 9), (.free, 10)] _ (by kernel_rfl) (by kernel_rfl) (by kernel_rfl) (by kernel_rfl) (by decide) rfl (fun _ _ _ _ _ h => h) ?_
      simp only [List.filterMap_cons, List.filterMap_nil, List.getElem?_toArray, List.getElem?_cons_zero, List.getElem?_cons_succ, Option.map_some]
      iterate 3
        first
          | (refine mv_free ?_ (Or.inl ⟨by rfl, ?_⟩) (⟨c1, c2, v1, v2⟩) ?_
             rotate_left 1
             · intro u
               go_simp
               try simp only [d1]
               try simp only [d2]
               try simp only [d3]
               try with_reducible rfl
             simp only [Act.put, List.setIfInBounds_toArray, List.set_cons_zero, List.set_cons_succ])
          | (refine mv_free _ (Or.inr ⟨by rfl, rfl⟩) (⟨c1, c2, v1, v2⟩) ?_
             simp only [Act.put, List.setIfInBounds_toArray, List.set_cons_zero, List.set_cons_succ])
      iterate 2
        first
          | (refine mv_take ?_ (Or.inl ⟨by rfl, ?_⟩) (⟨c1, c2, v1, v2⟩) ?_
             rotate_left 1
             · intro u hu
               (try dsimp only at hu)
               go_simp
               try with_reducible rfl
             simp only [Act.put, List.setIfInBounds_toArray, List.set_cons_zero, List.set_cons_succ])
          | (refine mv_take _ (Or.inr ⟨by rfl, rfl⟩) (⟨c1, c2, v1, v2⟩) ?_
             simp only [Act.put, List.setIfInBounds_toArray, List.set_cons_zero, List.set_cons_succ])
      iterate 3
        first
          | (refine mv_free ?_ (Or.inl ⟨by rfl, ?_⟩) (⟨c1, c2, v1, v2⟩) ?_
             rotate_left 1
             · intro u
               go_simp
               try simp only [d1]
               try simp only [d2]
               try simp only [d3]
               try with_reducible rfl
             simp only [Act.put, List.setIfInBounds_toArray, List.set_cons_zero, List.set_cons_succ])
          | (refine mv_free _ (Or.inr ⟨by rfl, rfl⟩) (⟨c1, c2, v1, v2⟩) ?_
             simp only [Act.put, List.setIfInBounds_toArray, List.set_cons_zero, List.set_cons_succ])
      iterate 2
        first
          | (refine mv_take ?_ (Or.inl ⟨by rfl, ?_⟩) (⟨c1, c2, v1, v2⟩) ?_
             rotate_left 1
             · intro u hu
               (try dsimp only at hu)
               go_simp
               try with_reducible rfl
             simp only [Act.put, List.setIfInBounds_toArray, List.set_cons_zero, List.set_cons_succ])
          | (refine mv_take _ (Or.inr ⟨by rfl, rfl⟩) (⟨c1, c2, v1, v2⟩) ?_
             simp only [Act.put, List.setIfInBounds_toArray, List.set_cons_zero, List.set_cons_succ])
      iterate 1
        first
          | (refine mv_free ?_ (Or.inl ⟨by rfl, ?_⟩) (⟨c1, c2, v1, v2⟩) ?_
             rotate_left 1
             · intro u
               go_simp
               try simp only [d1]
               try simp only [d2]
               try simp only [d3]
               try with_reducible rfl
             simp only [Act.put, List.setIfInBounds_toArray, List.set_cons_zero, List.set_cons_succ])
          | (refine mv_free _ (Or.inr ⟨by rfl, rfl⟩) (⟨c1, c2, v1, v2⟩) ?_
             simp only [Act.put, List.setIfInBounds_toArray, List.set_cons_zero, List.set_cons_succ])
      refine mv_done ?_
      go_wp2
      go_roundw
      case rel => exact ⟨k + 1, by omega, by first | rfl | go_num, Lib.hid hb.out.drew⟩
      case measure => simp [intOf]; omega
    · have j1 : ¬ (k : Int) < (n : Int) := by omega
      go_wp2
      go_ret
      exact ⟨rfl, hb.out⟩
def cnt6 : List Int → Nat
  | [] => 0
  | x :: r => (if x = 126 then 1 else 0) + cnt6 r
theorem cnt6_app : ∀ (l m : List Int), cnt6 (l ++ m) = cnt6 l + cnt6 m
  | [], m => by simp [cnt6]
  | x :: r, m => by simp [cnt6, cnt6_app r m]; omega
theorem cnt6_no : ∀ (l : List Int), (∀ x ∈ l, x ≠ 126) → cnt6 l = 0
  | [], _ => rfl
  | x :: r, h => by simp [cnt6, h x (by simp), cnt6_no r (fun y hy => h y (by simp [hy]))]
theorem cnt6_pk (b : List Int) : cnt6 (pkL b) = 2 := by
  unfold pkL
  rw [show 126 :: (esL (smL b) ++ [126]) = [126] ++ (esL (smL b) ++ [126]) from rfl, cnt6_app, cnt6_app, cnt6_no _ (esL_126 _)]
  rfl
theorem cnt6_row : ∀ (Z : List (List Int)), cnt6 (rowL Z) = 2 * Z.length
  | [] => rfl
  | b :: r => by
    show cnt6 (pkL b ++ rowL r) = _
    rw [cnt6_app, cnt6_pk, cnt6_row r, List.length_cons]
    omega
theorem cnt6_snoc {l : List Int} {k : Nat} (h : k < l.length) : cnt6 (l.take (k + 1)) = cnt6 (l.take k) + (if l.getD k 0 = 126 then 1 else 0) := by
  rw [take_snoc h, cnt6_app]
  simp [cnt6]
end Go.Proofs.Ytpcbnoefgknihaa
