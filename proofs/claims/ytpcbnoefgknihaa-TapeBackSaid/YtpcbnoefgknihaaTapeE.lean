/- What a reader takes of bytes, as functions; own rows of own rows of numbers. -/
import Derived.Test.YtpcbnoefgknihaaTapeB
import Derived.Test.YtpcbnoefgknihaaOgb
import Derived.Test.YtpcbnoefgknihaaMixg
namespace Go.Proofs.Ytpcbnoefgknihaa
open Go.ChangeShapes Go.WideShapes Go.ChangeAt Go.RowKit
set_option linter.unusedVariables false
set_option linter.unusedSimpArgs false
/-- As many numbers as P has, each added to P's. -/
def rdR : List Int → List Int → Option (List Int × List Int)
  | [], L => some ([], L)
  | p :: P, L => match tkU 0 L with
    | none => none
    | some (c, k) => (rdR P (L.drop k)).map fun q => (IntKind.i64.wrap (p + unfo c) :: q.1, q.2)
/-- Rows, each upon the one before. -/
def rdG : Nat → List Int → List Int → Option (List (List Int) × List Int)
  | 0, _, L => some ([], L)
  | n + 1, P, L => match rdR P L with
    | none => none
    | some (R, M) => (rdG n R M).map fun q => (R :: q.1, q.2)
def rdB (width : Nat) (L : List Int) : Option (List (List Int) × List Int) := match L with
  | x :: y :: r => if x = 90 ∧ 1 ≤ y ∧ y ≤ 50 then rdG y.toNat (List.replicate width 0) r else none
  | _ => none
/-- A block: the error, the rows, what is behind. -/
def rdK (width : Nat) (L : List Int) : Int × List (List Int) × List Int := match rdB width L with
  | some (Z, h :: l :: R) => if h * 256 + l = (crI (L.take (L.length - (R.length + 2))) : Int) then (0, Z, R) else (4, [], [])
  | _ => (3, [], [])
/-- All blocks: the error, the place of the first that is none, the rows. -/
def rdA (width : Nat) : Nat → List Int → Int × Nat × List (List Int)
  | 0, _ => (0, 0, [])
  | n + 1, L => if L = [] then (0, 0, []) else if (rdK width L).1 = 0 then (if (rdA width n (rdK width L).2.2).1 = 0 then (0, 0, (rdK width L).2.1 ++ (rdA width n (rdK width L).2.2).2.2) else ((rdA width n (rdK width L).2.2).1, (L.length - (rdK width L).2.2.length) + (rdA width n (rdK width L).2.2).2.1, [])) else ((rdK width L).1, 0, [])
theorem tkU_len : ∀ (L : List Int) (i c k : Nat), tkU i L = some (c, k) → 1 ≤ k ∧ k ≤ L.length
  | [], i, c, k, h => by cases h
  | x :: r, i, c, k, h => by
    rw [tkU_cons] at h
    split at h
    · cases h
    · split at h
      · cases h
      · split at h
        · split at h
          · cases h
          · injection h with h
            injection h with h1 h2
            subst h2
            simp
        · obtain ⟨p, hp, e⟩ := Option.map_eq_some_iff.1 h
          obtain ⟨p1, p2⟩ := p
          injection e with e1 e2
          have := tkU_len r (i + 1) p1 p2 hp
          subst e2
          simp; omega
theorem rdR_cons (p : Int) (P L : List Int) : rdR (p :: P) L = match tkU 0 L with
    | none => none
    | some (c, k) => (rdR P (L.drop k)).map fun q => (IntKind.i64.wrap (p + unfo c) :: q.1, q.2) := by rw [rdR]
/-- What is left is an end of what there was. -/
theorem rdR_sub : ∀ (P L R M : List Int), rdR P L = some (R, M) → R.length = P.length ∧ ∃ k, P.length ≤ k ∧ k ≤ L.length ∧ M = L.drop k
  | [], L, R, M, h => by
    injection h with h
    injection h with h1 h2
    subst h1 h2
    exact ⟨rfl, 0, by simp, by omega, rfl⟩
  | p :: P, L, R, M, h => by
    rw [rdR_cons] at h
    cases q : tkU 0 L with
    | none => rw [q] at h; cases h
    | some z =>
      obtain ⟨c, k⟩ := z
      rw [q] at h
      have hk := tkU_len L 0 c k q
      obtain ⟨⟨R', M'⟩, hp, e⟩ := Option.map_eq_some_iff.1 h
      injection e with e1 e2
      subst e1 e2
      obtain ⟨h1, j, h2, h3, h4⟩ := rdR_sub P (L.drop k) R' M' hp
      rw [List.length_drop] at h3
      exact ⟨by simp [h1], k + j, by simp; omega, by omega, by rw [h4, List.drop_drop]⟩
theorem rdG_sub : ∀ (n : Nat) (P L : List Int) (Z : List (List Int)) (M : List Int), rdG n P L = some (Z, M) → Z.length = n ∧ (∀ R ∈ Z, R.length = P.length) ∧ ∃ k, n * P.length ≤ k ∧ k ≤ L.length ∧ M = L.drop k
  | 0, P, L, Z, M, h => by
    injection h with h
    injection h with h1 h2
    subst h1 h2
    exact ⟨rfl, by simp, 0, by omega, by omega, rfl⟩
  | n + 1, P, L, Z, M, h => by
    rw [rdG] at h
    cases q : rdR P L with
    | none => rw [q] at h; cases h
    | some z =>
      obtain ⟨R, N⟩ := z
      rw [q] at h
      obtain ⟨⟨Z', M'⟩, hp, e⟩ := Option.map_eq_some_iff.1 h
      injection e with e1 e2
      subst e1 e2
      obtain ⟨g1, i, g2, g3, g4⟩ := rdR_sub P L R N q
      obtain ⟨h1, h2, j, h3, h4, h5⟩ := rdG_sub n R N Z' M' hp
      subst g4
      rw [List.length_drop] at h4
      refine ⟨by simp [h1], fun X hX => ?_, i + j, ?_, by omega, by rw [h5, List.drop_drop]⟩
      · rcases List.mem_cons.1 hX with rfl | hX
        · exact g1
        · rw [h2 X hX, g1]
      · rw [g1] at h3; rw [Nat.succ_mul]; omega
theorem rdB_sub {width : Nat} {L : List Int} {Z : List (List Int)} {M : List Int} (h : rdB width L = some (Z, M)) : 1 ≤ Z.length ∧ Z.length ≤ 50 ∧ (∀ R ∈ Z, R.length = width) ∧ ∃ k, 2 + width ≤ k ∧ k ≤ L.length ∧ M = L.drop k := by
  unfold rdB at h
  split at h
  · rename_i x y r
    split at h
    · rename_i q
      obtain ⟨h1, h2, j, h3, h4, h5⟩ := rdG_sub _ _ _ _ _ h
      rw [List.length_replicate] at h2 h3
      have : 1 * width ≤ y.toNat * width := Nat.mul_le_mul_right _ (by omega)
      exact ⟨by omega, by omega, h2, j + 2, by omega, by simp; omega, by rw [h5]; rfl⟩
    · cases h
  · cases h
theorem rdK_sub {width : Nat} {L : List Int} (h : (rdK width L).1 = 0) : 1 ≤ (rdK width L).2.1.length ∧ (rdK width L).2.1.length ≤ 50 ∧ (∀ R ∈ (rdK width L).2.1, R.length = width) ∧ ∃ k, 4 + width ≤ k ∧ k ≤ L.length ∧ (rdK width L).2.2 = L.drop k := by
  unfold rdK at h ⊢
  split at h
  · rename_i Z a b R q
    split at h
    · rename_i hc
      obtain ⟨h1, h2, h3, k, h4, h5, h6⟩ := rdB_sub q
      rw [if_pos hc]
      have hl := congrArg List.length h6
      simp at hl
      refine ⟨h1, h2, h3, k + 2, by omega, by omega, ?_⟩
      show R = L.drop (k + 2)
      rw [← List.drop_drop, ← h6]
      rfl
    · cases h
  · cases h
theorem rdK_no {width : Nat} {L : List Int} (h : (rdK width L).1 ≠ 0) : (rdK width L).2 = ([], []) ∧ ((rdK width L).1 = 3 ∨ (rdK width L).1 = 4) := by
  unfold rdK at h ⊢
  split at h
  · rename_i Z a b R q
    split at h
    · exact absurd rfl h
    · rename_i hc; rw [if_neg hc]; exact ⟨rfl, .inr rfl⟩
  · exact ⟨rfl, .inl rfl⟩
theorem rdA_fuel (width : Nat) : ∀ (n : Nat) (L : List Int), L.length ≤ n → rdA width n L = rdA width L.length L := by
  intro n
  induction n using Nat.strongRecOn with
  | ind n ih =>
    intro L hL
    cases L with
    | nil => cases n <;> simp [rdA]
    | cons x r =>
      obtain ⟨m, rfl⟩ : ∃ m, n = m + 1 := ⟨n - 1, by simp at hL; omega⟩
      have hr : r.length ≤ m := by simpa using hL
      show rdA width (m + 1) (x :: r) = rdA width (r.length + 1) (x :: r)
      rw [rdA, rdA]
      by_cases q : (rdK width (x :: r)).1 = 0
      · obtain ⟨-, -, -, k, h1, h2, h3⟩ := rdK_sub q
        have hl : (rdK width (x :: r)).2.2.length ≤ r.length := by rw [h3, List.length_drop]; simp; omega
        rw [ih m (by omega) _ (by omega), ih r.length (by omega) _ hl]
      · rw [if_neg q, if_neg q]
theorem rdA_nil (width n : Nat) : rdA width n [] = (0, 0, []) := by cases n <;> simp [rdA]
theorem rdA_no {width : Nat} {L : List Int} (h : L ≠ []) (q : (rdK width L).1 ≠ 0) : rdA width L.length L = ((rdK width L).1, 0, []) := by
  cases L with
  | nil => exact absurd rfl h
  | cons x r => show rdA width (r.length + 1) (x :: r) = _; rw [rdA, if_neg h, if_neg q]
theorem rdA_ok {width : Nat} {L : List Int} (h : L ≠ []) (q : (rdK width L).1 = 0) : rdA width L.length L = if (rdA width (rdK width L).2.2.length (rdK width L).2.2).1 = 0 then (0, 0, (rdK width L).2.1 ++ (rdA width (rdK width L).2.2.length (rdK width L).2.2).2.2) else ((rdA width (rdK width L).2.2.length (rdK width L).2.2).1, (L.length - (rdK width L).2.2.length) + (rdA width (rdK width L).2.2.length (rdK width L).2.2).2.1, []) := by
  cases L with
  | nil => exact absurd rfl h
  | cons x r =>
    obtain ⟨-, -, -, k, h1, h2, h3⟩ := rdK_sub q
    have hl : (rdK width (x :: r)).2.2.length ≤ r.length := by rw [h3, List.length_drop]; simp; omega
    rw [← rdA_fuel width r.length _ hl]
    show rdA width (r.length + 1) (x :: r) = _
    rw [rdA, if_neg h, if_pos q]
/-- A block that is a row of numbers of its own. -/
def Cl (g : Nat) (l : List Int) (v : World) : Prop := v.heap[g]? = some (.cells (nvals .i64 l).toArray 2 (0, 0))
theorem Cl.new (n : Nat) (w : World) : Cl w.heap.size (List.replicate n 0) (w.alloc (.cells (madeCells #[.int .i64 0] n) 2)) := by
  unfold Cl
  rw [heap_alloc_new]
  rw [show madeCells #[.int .i64 0] n = (nvals .i64 (List.replicate n 0)).toArray from by
    apply Array.toList_inj.1
    rw [toList_madeCells_one]
    simp [nvals]]
theorem Cl.lt {g : Nat} {l : List Int} {v : World} (h : Cl g l v) : g < v.heap.size := by
  rcases Nat.lt_or_ge g v.heap.size with q | q
  · exact q
  · unfold Cl at h; rw [Array.getElem?_eq_none q] at h; cases h
theorem Cl.kept {g : Nat} {l : List Int} {v v' : World} (h : Cl g l v) (e : v'.heap[g]? = v.heap[g]?) : Cl g l v' := e.trans h
theorem Cl.cell {g : Nat} {l : List Int} {v : World} (h : Cl g l v) {i : Nat} (hi : i < l.length) : v.cell? ⟨g, i, none⟩ = some (.int .i64 (l.getD i 0)) := by
  rw [cell_of_row v g i _ _ _ h]
  simpa using nvals_at hi
theorem Cl.frozen {g : Nat} {l : List Int} {v : World} (h : Cl g l v) (i : Nat) : v.frozen? ⟨g, i, none⟩ = false := frozen_of_row v g i _ _ h
theorem Cl.set {g : Nat} {l : List Int} {v : World} (h : Cl g l v) (i : Nat) (n : Int) : Cl g (l.set i n) (v.setCell ⟨g, i, none⟩ (.int .i64 n)) := by
  have := heap_setCell_same v g i _ _ (.int .i64 n) h
  unfold Cl
  rw [this]
  simp [nvals, List.map_set]
theorem Cl.row {g : Nat} {l : List Int} {v : World} (h : Cl g l v) : RowIs .i64 v (some ⟨g, 0, none⟩) l := .inr ⟨g, 0, rfl, h.lt, fun i hi => by rw [Nat.zero_add]; exact h.cell hi⟩
theorem Og.at {e : TypeId} {B : Nat} {x : Value} {V : List Value} {w : World} (h : Og e B x V w) {g : Nat} (hg : ogB x = some g) : ∃ cur, w.heap[g]? = some (.cells cur e (0, 0)) := by
  rcases h with ⟨rfl, _⟩ | ⟨g', off, cap, cur, rfl, hB, hgg, _⟩
  · cases hg
  · injection hg with hg
    subst hg
    exact ⟨cur, hgg⟩
def grV (G : List (Nat × List Int)) : List Value := G.map fun t => .slice (some ⟨t.1, 0, none⟩) t.2.length t.2.length
theorem grV_len (G : List (Nat × List Int)) : (grV G).length = G.length := by simp [grV]
theorem grV_app (G H : List (Nat × List Int)) : grV (G ++ H) = grV G ++ grV H := by simp [grV]
theorem grV_one (G : List (Nat × List Int)) : ∀ u ∈ grV G, u.oneCell' = true := fun u hu => by
  obtain ⟨_, _, rfl⟩ := List.mem_map.1 hu
  rfl
def grL (G : List (Nat × List Int)) : List (List Int) := G.map fun t => t.2
theorem grL_len (G : List (Nat × List Int)) : (grL G).length = G.length := by simp [grL]
theorem grL_app (G H : List (Nat × List Int)) : grL (G ++ H) = grL G ++ grL H := by simp [grL]
/-- An own row of own rows. -/
structure Gr (B : Nat) (x : Value) (G : List (Nat × List Int)) (v : World) : Prop where
  og : Og 79 B x (grV G) v
  rw : ∀ t ∈ G, Cl t.1 t.2 v ∧ B ≤ t.1
theorem Gr.nil (B : Nat) (w : World) : Gr B (.slice none 0 0) [] w := ⟨Og.nil _ _ _, fun t ht => by cases ht⟩
theorem Gr.kept {B : Nat} {x : Value} {G : List (Nat × List Int)} {v v' : World} (h : Gr B x G v) (k : ∀ g, B ≤ g → g < v.heap.size → (ogB x = some g ∨ ∃ t ∈ G, t.1 = g) → v'.heap[g]? = v.heap[g]?) : Gr B x G v' :=
  ⟨h.og.kept fun g hg hl => k g (h.og.lt hg).1 hl (.inl hg), fun t ht => ⟨(h.rw t ht).1.kept (k t.1 (h.rw t ht).2 (h.rw t ht).1.lt (.inr ⟨t, ht, rfl⟩)), (h.rw t ht).2⟩⟩
theorem Gr.bel {B : Nat} {x : Value} {G : List (Nat × List Int)} {v v' : World} (h : Gr B x G v) (k : Below v.heap.size v v') : Gr B x G v' := h.kept fun g _ hl _ => k.block g hl
theorem Gr.mono {B B' : Nat} {x : Value} {G : List (Nat × List Int)} {v : World} (h : Gr B x G v) (hb : B' ≤ B) : Gr B' x G v := ⟨h.og.mono hb, fun t ht => ⟨(h.rw t ht).1, Nat.le_trans hb (h.rw t ht).2⟩⟩
theorem Gr.lt {B : Nat} {x : Value} {G : List (Nat × List Int)} {v : World} (h : Gr B x G v) {g : Nat} (hg : ogB x = some g ∨ ∃ t ∈ G, t.1 = g) : g < v.heap.size := by
  rcases hg with q | ⟨t, ht, rfl⟩
  · exact (h.og.lt q).2
  · exact (h.rw t ht).1.lt
/-- No row lies where the row of rows lies. -/
theorem Gr.ne {B B' : Nat} {x y : Value} {V : List Value} {g : Nat} {l : List Int} {v : World} (h : Og 79 B x V v) (c : Cl g l v) : ogB x ≠ some g := fun e => by
  obtain ⟨cur, hc⟩ := h.at e
  unfold Cl at c
  rw [hc] at c
  injection c with c
  injection c with _ c _
  cases c
theorem Gr.app {B : Nat} {x x2 : Value} {G H : List (Nat × List Int)} {v v' : World} (h : Gr B x G v) (hH : ∀ t ∈ H, Cl t.1 t.2 v ∧ B ≤ t.1) (hO : Og 79 B x2 (grV G ++ grV H) v') (hK : OgK x v v') : Gr B x2 (G ++ H) v' :=
  ⟨by rw [grV_app]; exact hO, fun t ht => by
    have : Cl t.1 t.2 v ∧ B ≤ t.1 := by
      rcases List.mem_append.1 ht with q | q
      · exact h.rw t q
      · exact hH t q
    exact ⟨this.1.kept (hK.block t.1 this.1.lt (Gr.ne (B' := 0) (y := x) h.og this.1)), this.2⟩⟩
theorem grL_at (G : List (Nat × List Int)) {i : Nat} (hi : i < G.length) : (grL G).getD i [] = (G[i]).2 := by simp [grL, List.getD, hi]
theorem Gr.grid {B : Nat} {x : Value} {G : List (Nat × List Int)} {v : World} (h : Gr B x G v) : ∃ ay cy A C, x = .slice ay (grL G).length cy ∧ GridIs .i64 v ay A C (grL G) := by
  obtain ⟨ay, cy, rfl, -, hn, hs⟩ := h.og.row
  refine ⟨ay, cy, fun i => (G[i]?).bind (fun t => some ⟨t.1, 0, none⟩), fun i => ((grL G).getD i []).length, by rw [grV_len, grL_len], ⟨?_, fun i hi => ?_⟩⟩
  · cases ay with
    | none =>
      have := (hn rfl).1
      have : G = [] := by simpa [grV] using this
      subst this
      exact .inl rfl
    | some a =>
      obtain ⟨g, o, sp⟩ := a
      obtain ⟨h1, h2, h3, h4⟩ := hs _ rfl
      have h1 : sp = none := h1
      subst h1
      refine .inr ⟨g, o, rfl, h3, fun i hi => ?_⟩
      rw [grL_len] at hi
      refine h4 i _ ?_
      simp [grV, grL, List.getD, hi]
  · rw [grL_len] at hi
    have := (h.rw (G[i]'hi) (List.getElem_mem hi)).1.row
    simpa [grL, List.getD, hi] using this
end Go.Proofs.Ytpcbnoefgknihaa
