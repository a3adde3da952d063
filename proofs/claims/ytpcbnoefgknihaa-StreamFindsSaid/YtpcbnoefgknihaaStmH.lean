/- The law StreamFinds; walked. -/
import Derived.Test.YtpcbnoefgknihaaStmG
import Derived.Test.YtpcbnoefgknihaaStmC
namespace Go.Proofs.Ytpcbnoefgknihaa
open Go.ChangeShapes Go.WideShapes Go.ChangeAt Go.RowKit
set_option linter.unusedVariables false
set_option linter.unusedSimpArgs false
def catL : List (List Int) → List Int
  | [] => []
  | b :: r => b ++ catL r
theorem catL_app : ∀ (Y Z : List (List Int)), catL (Y ++ Z) = catL Y ++ catL Z
  | [], _ => rfl
  | b :: r, Z => by simp [catL, catL_app r Z]
theorem catL_snoc {Z : List (List Int)} {k : Nat} (h : k < Z.length) : catL (Z.take (k + 1)) = catL (Z.take k) ++ Z.getD k [] := by
  rw [List.take_add_one, catL_app]
  simp [List.getD, h, catL]
theorem catL_byl : ∀ {Z : List (List Int)}, (∀ b ∈ Z, BYL b) → BYL (catL Z)
  | [], _ => fun b hb => by cases hb
  | b :: r, h => (h b (by simp)).app (catL_byl (fun c hc => h c (by simp [hc])))
theorem catL_len : ∀ {Z : List (List Int)}, (∀ b ∈ Z, b.length ≤ 300) → (catL Z).length ≤ 300 * Z.length
  | [], _ => by simp [catL]
  | b :: r, h => by
    have h2 := h b (by simp)
    have h3 := catL_len (Z := r) (fun c hc => h c (by simp [hc]))
    simp only [catL, List.length_append, List.length_cons]
    omega
theorem getD_all {Z : List (List Int)} {p : List Int → Prop} (h : ∀ i, i < Z.length → p (Z.getD i [])) : ∀ b ∈ Z, p b := fun b hb => by
  obtain ⟨i, hi, rfl⟩ := List.getElem_of_mem hb
  have := h i hi
  simpa [List.getD, hi] using this
theorem GoS.aside {B b Bg : Nat} {f r : Int} {M : List Int} {x' y z : Value} {G : List (Nat × Nat × List Int)} {v v' : World} (h : GoS B b Bg f r M x' y G v) (k : OgK z v v') (zb : ogB z ≠ some b) (zx : ∀ g, ogB x' = some g → ogB z ≠ some g) (zy : ∀ g, ogB y = some g → ogB z ≠ some g) (zG : ∀ t ∈ G, ogB z ≠ some t.1) : GoS B b Bg f r M x' y G v' :=
  ⟨h.fd.ogk k zb zx, h.go, h.yo.kept (fun g hg hl => k.block g hl (zy g hg)), h.rows.ogk k zG, h.sx, h.sy, h.sxy, ⟨h.bn.1, Nat.le_trans h.bn.2 k.size⟩⟩
structure FiS (B b Bg : Nat) (M N : List Int) (x' y z : Value) (G : List (Nat × Nat × List Int)) (v : World) : Prop where
  gs : GoS B b Bg 0 0 M x' y G v
  zo : Og 5 Bg z (nvals .u8 N) v
  sep : ∀ g, ogB z = some g → ogB x' ≠ some g ∧ ogB y ≠ some g ∧ ∀ t ∈ G, t.1 ≠ g
theorem FiS.keep {B b Bg : Nat} {M N : List Int} {x' y z : Value} {G : List (Nat × Nat × List Int)} {v v' : World} (h : FiS B b Bg M N x' y z G v) (k : Below v.heap.size v v') : FiS B b Bg M N x' y z G v' := ⟨h.gs.keep k, h.zo.bel k, h.sep⟩
theorem FiS.push {B b Bg : Nat} {M N L : List Int} {x' y z x2 y2 y3 : Value} {G G2 : List (Nat × Nat × List Int)} {v v2 v3 : World} (h : FiS B b Bg M N x' y z G v)
    (p : PuS B b v.heap.size x' v (fdF [] M).2.2 (0 + ((fdF [] M).1.length : Int)) (0 + ((fdF [] M).2.1 : Int)) L x2 y2 G2 v2) (hO : Og 22 Bg y3 (pkV G ++ pkV G2) v3) (hK : OgK y v2 v3) (hN : OgN y y3 v2) : FiS B b Bg (M ++ L) N x2 y3 z (G ++ G2) v3 := by
  have zl : ∀ g, ogB z = some g → Bg ≤ g ∧ g < v.heap.size := fun g hg => h.zo.lt hg
  have sz := p.k.size
  refine ⟨h.gs.step p hO hK hN, ?_, fun g hg => ⟨?_, ?_, fun t ht => ?_⟩⟩
  · exact (h.zo.fdk p.k (fun g hg => by have := (zl g hg).1; have := h.gs.bn.1; omega) (fun g hg => (h.sep g hg).1)).kept (fun g hg hl => hK.block g hl (h.sep g hg).2.1)
  · intro q
    rcases p.n.of q with q | q
    · exact (h.sep g hg).1 q
    · have := (zl g hg).2; omega
  · intro q
    rcases hN with hN | ⟨c, hN, hc⟩
    · rw [hN] at q; exact (h.sep g hg).2.1 q
    · rw [hN] at q; injection q with q; have := (zl g hg).2; omega
  · rcases List.mem_append.1 ht with ht | ht
    · exact (h.sep g hg).2.2 t ht
    · have := (p.rows t ht).2.1; have := (zl g hg).2; omega
theorem FiS.all {B b Bg : Nat} {M N N2 : List Int} {x' y z z2 : Value} {G : List (Nat × Nat × List Int)} {v v' : World} (h : FiS B b Bg M N x' y z G v) (hO : Og 5 Bg z2 (nvals .u8 N2) v') (hK : OgK z v v') (hN : OgN z z2 v) : FiS B b Bg M N2 x' y z2 G v' := by
  have zl : ∀ g, ogB z = some g → Bg ≤ g ∧ g < v.heap.size := fun g hg => h.zo.lt hg
  refine ⟨h.gs.aside hK (fun q => by have := (zl _ q).1; have := h.gs.bn.1; omega) (fun g hg q => (h.sep g q).1 hg) (fun g hg q => (h.sep g q).2.1 hg) (fun t ht q => (h.sep _ q).2.2 t ht rfl), hO, fun g hg => ?_⟩
  rcases hN with hN | ⟨c, hN, hc⟩
  · rw [hN] at hg; exact h.sep g hg
  · rw [hN] at hg
    injection hg with hg
    subst hg
    exact ⟨fun q => by have := (h.gs.fd.h.lt q).2; omega, fun q => by have := (h.gs.yo.lt q).2; omega, fun t ht e => by have := (h.gs.rows t ht).2.2; omega⟩
theorem FiS.start {B b : Nat} {x : Value} {v : World} (h : Fd B b [] 0 0 x v) (hx : ogB x = none) : FiS B b v.heap.size [] [] x (.slice none 0 0) (.slice none 0 0) [] v :=
  ⟨GoS.start h, Og.nil _ _ _, fun g hg => by simp [ogB] at hg⟩
set_option maxRecDepth 100000 in
set_option maxHeartbeats 8000000 in
theorem law_StreamFinds (a : Option Addr) (A : Nat → Option Addr) (C : Nat → Nat) (Z : List (List Int)) (cap : Nat) (w : World) (hG : GridIs .u8 w a A C Z) (hZ : Z.length ≤ maxLen) (hv : ∀ i, i < Z.length → (Z.getD i []).length ≤ maxLen ∧ ∀ n ∈ Z.getD i [], (Lit.int .u8 n).wf = true) : Calls Try.prog 10 #[.slice a Z.length cap] w fun e w' => e = .returned (.bool true) ∧ Below w.heap.size w w' := by
  have LV := Lib.hid (fun u => lives47 u)
  have hR : ∀ i, i < Z.length → (Z.getD i []).length ≤ maxLen := fun i hi => (hv i hi).1
  have hB : ∀ i, i < Z.length → BYL (Z.getD i []) := fun i hi => byl_of (hv i hi).2
  have GT := lgreat47 a A C Z cap w hG hZ hR
  by_cases hg : gr47 Z = true
  · rw [hg] at GT
    replace GT := Lib.hid GT
    clear hG hv hR hB hg
    go_enter Try.func10, Try.ntmps10
    go_wp2_with fail
    refine GT.out.mono ?_
    rintro e u0 ⟨rfl, rfl⟩
    go_wp2_with fail
    refine (LV.out _).mono ?_
    rintro e u1 ⟨rfl, hb⟩
    go_wp2
    go_ret
    exact ⟨rfl, hb⟩
  · have hg2 : gr47 Z = false := Bool.eq_false_iff.2 hg
    have g1 : Z.length ≤ 50 := by
      by_cases q : Z.length ≤ 50
      · exact q
      · exact absurd (show gr47 Z = true by unfold gr47; rw [decide_eq_true (show 50 < Z.length by omega), Bool.true_or]) hg
    have h300 : ∀ i, i < Z.length → (Z.getD i []).length ≤ 300 := fun i hi => by
      by_cases q : (Z.getD i []).length ≤ 300
      · exact q
      · exact absurd (show gr47 Z = true by unfold gr47; rw [decide_eq_true (show ∃ i, i < Z.length ∧ i < 50 ∧ 300 < (Z.getD i []).length from ⟨i, hi, by omega, by omega⟩), Bool.or_true]) hg
    rw [hg2] at GT
    replace GT := Lib.hid GT
    have HG := Lib.hid (fun u (k : Below w.heap.size w u) => hG.below k)
    have HB := Lib.hid hB
    have H3 := Lib.hid h300
    have CB := Lib.hid (fun k => catL_byl (Z := Z.take k) (fun b hb => getD_all hB b (List.mem_of_mem_take hb)))
    have CL := Lib.hid (fun k => show (catL (Z.take k)).length ≤ 15000 from by have h := catL_len (Z := Z.take k) (fun b hb => getD_all (p := fun b => b.length ≤ 300) h300 b (List.mem_of_mem_take hb)); rw [List.length_take] at h; omega)
    obtain ⟨n, en⟩ : ∃ n, Z.length = n := ⟨_, rfl⟩
    have EN := Lib.hid en
    have hn : (n : Int) ≤ 50 := by omega
    rw [en] at GT ⊢
    replace GT := Lib.hid GT.out
    obtain ⟨V, eV, hbV, hsV, hF⟩ := fd_new w
    have HBV := Lib.hid hbV
    have HSV := Lib.hid hsV
    replace eV := Lib.hid eV
    have FS := Lib.hid (FiS.start hF rfl)
    rw [hsV] at FS
    clear hG hv hR hB hg hg2 g1 h300 hZ en hbV hsV hF
    go_enter Try.func10, Try.ntmps10
    go_wp2_with fail
    refine GT.out.mono ?_
    rintro e u0 ⟨rfl, rfl⟩
    clear GT
    go_upto_region 4 with (fail)
    rw [← eV.out]
    go_wp2_with fail
    go_loopw [4, 5, 6] (fun z y i v => ∃ (k : Nat) (x' y' z' : Value) (G : List (Nat × Nat × List Int)), k ≤ n ∧ z = z' ∧ y = y' ∧ i = .int .i64 (k : Int) ∧ Hid (FiS (w.heap.size + 1) w.heap.size (w.heap.size + 1) (catL (Z.take k)) (catL (Z.take k)) x' y' z' G v) ∧ Hid (Below w.heap.size w v)) (fun _ _ i _ => n - (intOf i).toNat)
    case atStart => exact ⟨0, _, _, _, _, by omega, rfl, rfl, rfl, Lib.hid FS.out, HBV⟩
    case round =>
      clear FS
      obtain ⟨k, x', y', z', G, hk, rfl, rfl, rfl, hS, hK⟩ := hrel
      generalize wr = v at *
      have VZ := Lib.hid (show w.heap.size + 1 ≤ v.heap.size from hS.out.gs.bn.2)
      by_cases hlt : k < n
      · have hkl : k < Z.length := by rw [EN.out]; exact hlt
        have h1 : (k : Int) < (n : Int) := by omega
        have h0 : 0 ≤ (k : Int) := by omega
        have s1 : IntKind.i64.wrap ((k : Int) + 1) = (k : Int) + 1 := by rw [IntKind.wrap_i64]; omega
        obtain ⟨b, off, rfl, -, hc⟩ := (HG.out v hK.out).at hkl
        have HCE := Lib.hid (fun u (q : Below w.heap.size w u) => show u.cell? ⟨b, off + k, none⟩ = some (.slice (A k) (Z.getD k []).length (C k)) from by obtain ⟨b2, o2, e2, -, c2⟩ := (HG.out u q).at hkl; injection e2 with e2; injection e2 with e2 e3; subst e2 e3; exact c2)
        have HRW := Lib.hid (fun u (q : Below w.heap.size w u) => (HG.out u q).rows k hkl)
        have BL := Lib.hid (HB.out k hkl)
        have L3 := Lib.hid (H3.out k hkl)
        have CS := Lib.hid (catL_snoc hkl)
        have ML := Lib.hid (CL.out k)
        have ML2 := Lib.hid (CL.out (k + 1))
        have BM2 := Lib.hid (CB.out (k + 1))
        generalize Z.getD k [] = L at *
        obtain ⟨M2, eM2⟩ : ∃ M, catL (Z.take (k + 1)) = M := ⟨_, rfl⟩
        have HM2 := Lib.hid eM2
        rw [eM2] at CS ML2 BM2
        clear eM2
        generalize hM : catL (Z.take k) = M at *
        clear hM
        have FB := Lib.hid (fdF_bd [] M)
        have hSo := Lib.hid hS.out
        have P := spush (A k) (C k) L v hSo.out.gs.fd VZ.out (HRW.out v hK.out) (fun q c e => by have := row_lt (HRW.out w (Below.refl _ _)) q c e; exact ⟨by omega, fun q2 => by have q3 := (hSo.out.gs.fd.h.lt q2).1; omega⟩) (by have := L3.out; omega) BL.out ⟨by omega, by have := FB.out; have := ML.out; omega⟩ ⟨by omega, by have := FB.out; have := ML.out; omega⟩
        have LE := Lib.hid (show L.length = L.length from rfl)
        have SRC := Lib.hid (fun u (q : Below w.heap.size w u) => (HRW.out u q).src (t := 22) Try.underlying22 (C k))
        replace P := Lib.hid P
        generalize A k = ak at *
        generalize C k = ck at *
        obtain ⟨zl, ezl⟩ : ∃ z, L.length = z := ⟨_, rfl⟩
        have EZ := Lib.hid ezl
        rw [ezl] at P HCE SRC L3 hc
        clear ezl LE hkl
        replace hc := Lib.hid hc
        have hc1 := hc.out
        replace P := Lib.hid P.out
        replace SRC := Lib.hid SRC.out
        replace HCE := Lib.hid HCE.out
        go_wp2_with fail
        refine P.out.mono ?_
        rintro e v2 ⟨x2, y2, G2, rfl, hS2⟩
        clear P hc1 hc
        have hS2 := Lib.hid hS2
        have hO2 := Lib.hid (hSo.out.gs.yo.fdk hS2.out.k (by intro g hg; have := (hSo.out.gs.yo.lt hg).1; omega) (fun g hg e => hSo.out.gs.sxy g e hg))
        have hz2 := Lib.hid (show w.heap.size + 1 ≤ v2.heap.size from by have := VZ.out; have := hS2.out.k.size; omega)
        have YL := Lib.hid (show G.length ≤ 20000 from by have e := congrArg List.length hSo.out.gs.go; rw [List.length_map] at e; have := FB.out; have := ML.out; omega)
        have YL2 := Lib.hid (show G2.length ≤ 20000 from by have e := congrArg List.length hS2.out.go; rw [List.length_map] at e; have f := fdF_bd (fdF [] M).2.2 L; have := L3.out; have := EZ.out; omega)
        have SR := Lib.hid (hS2.out.yo.src (t := 51) Try.underlying51 (pkV_one _))
        go_upto_region 10 with (first | (at_builtin; refine wpList_append_og _ rfl (.tmp 21) (.tmp 26) 51 51 rfl 22 (.slice none 0 0) 24 Try.underlying51 (by kernel_rfl) rfl (w.heap.size + 1) u5 _ rfl hO2.out hz2.out _ _ _ rfl SR.out (by rw [pkV_len, pkV_len]; have := YL.out; have := YL2.out; unfold maxLen; omega) (by rw [pkV_len, pkV_len]; have := YL.out; have := YL2.out; omega) ?_; intro x7 w7 hO7 hK7 hN7))
        have hS3 := Lib.hid (hSo.out.push hS2.out hO7 hK7 hN7)
        have hK3 := Lib.hid (show Below w.heap.size w w7 from hK.out.trans ((hS2.out.k.bel (Nat.le_refl _) (fun g e => by have := (hSo.out.gs.fd.h.lt e).1; omega) (by have := VZ.out; omega)).trans (hK7.bel (fun g hg => by have := (hO2.out.lt hg).1; omega) (by have := hz2.out; omega))))
        clear hO7 hK7 hN7 hO2 hz2 YL YL2 SR hS2 hSo FB hS hK
        have hZ3 := Lib.hid hS3.out.zo
        have hz3 := Lib.hid (show w.heap.size + 1 ≤ w7.heap.size from hS3.out.gs.bn.2)
        have SR2 := Lib.hid (SRC.out w7 hK3.out)
        have hc3 := HCE.out w7 hK3.out
        go_upto_region 11 with (first | (at_builtin; go_loud (refine wpList_append_og _ rfl (.tmp 28) (.tmp 32) 22 22 rfl 5 (.int .u8 0) 1 Try.underlying22 (by kernel_rfl) rfl (w.heap.size + 1) u4 _ rfl hZ3.out hz3.out _ _ _ rfl SR2.out (by rw [nvals_len]; have := ML.out; have := L3.out; unfold maxLen; omega) (by rw [nvals_len]; have := ML.out; have := L3.out; omega) ?_; intro x8 w8 hO8 hK8 hN8)))
        rw [← nvals_app, ← CS.out] at hO8
        have hS4 := Lib.hid (show FiS (w.heap.size + 1) w.heap.size (w.heap.size + 1) M2 M2 x2 x7 x8 (G ++ G2) w8 from by have := hS3.out.all hO8 hK8 hN8; rw [← CS.out] at this; exact this)
        have hK4 := Lib.hid (show Below w.heap.size w w8 from hK3.out.trans (hK8.bel (fun g hg => by have := (hZ3.out.lt hg).1; omega) (by have := hz3.out; omega)))
        clear hO8 hK8 hN8 hS3 hK3 hZ3 hz3 SR2 hc3 SRC HCE HRW
        obtain ⟨a7, c7, ex8, hc7, r7, -, -⟩ := hS4.out.zo.rowIs
        have FO := rfound a7 c7 M2 w8 r7 hc7 (by have := ML2.out; omega) BM2.out
        rw [← ex8] at FO
        clear ex8 hc7 r7
        replace FO := Lib.hid FO
        go_wp2_with fail
        refine FO.out.mono ?_
        rintro e v5 ⟨ay, cy, A2, C2, rfl, hGw, hb5⟩
        clear FO
        have hS5 := Lib.hid (hS4.out.keep hb5)
        have hK5 := Lib.hid (show Below w.heap.size w v5 from hK4.out.trans (hb5.mono hK4.out.size))
        have hGw := Lib.hid (fun u (q : Below v5.heap.size v5 u) => hGw.below q)
        clear hb5 hS4 hK4
        have SC := scount v5 hS5.out.gs.fd
        obtain ⟨by2, cy2, A3, C3, ey, hGg⟩ := grid_of_pk hS5.out.gs.yo hS5.out.gs.rows
        have QL := Lib.hid (show (fdF [] M2).1.length ≤ maxLen from by have := (fdF_bd [] M2).1; have := ML2.out; unfold maxLen; omega)
        have hgo := hS5.out.gs.go
        rw [hgo] at ey hGg
        clear hgo
        rw [Int.zero_add, Int.zero_add] at SC
        have SM := Lib.hid (fun u (q : Below v5.heap.size v5 u) => rsame47 by2 ay A3 A2 C3 C2 (fdF [] M2).1 cy2 cy u (hGg.below q) (hGw.out u q) QL.out)
        have SP := Lib.hid (fun u (q : Below v5.heap.size v5 u) => spend u (hS5.out.gs.keep q).fd)
        replace SC := Lib.hid SC
        clear hGg QL
        generalize hz : pdN (fdF [] M2).2.2 = D at *
        generalize (fdF [] M2).2.1 = QR at *
        clear hz
        obtain ⟨QN, eQ⟩ : ∃ q, (fdF [] M2).1.length = q := ⟨_, rfl⟩
        rw [eQ] at SC SM ey ⊢
        clear eQ
        subst ey
        replace SC := Lib.hid SC.out
        replace SM := Lib.hid SM.out
        go_wp2_with fail
        refine SC.out.mono ?_
        rintro e v6 ⟨rfl, hb6⟩
        clear SC
        replace hb6 := Lib.hid hb6
        go_wp2_with fail
        refine (SM.out v6 hb6.out).mono ?_
        rintro e v7 ⟨rfl, hb7⟩
        have hb7 := Lib.hid (hb6.out.trans (hb7.mono hb6.out.size))
        clear hb6
        go_wp2_with fail
        refine (SP.out v7 hb7.out).mono ?_
        rintro e v8 ⟨rfl, rfl⟩
        clear SP SM
        have hS9 := Lib.hid (hS5.out.keep hb7.out)
        have hK9 := Lib.hid (show Below w.heap.size w v7 from hK5.out.trans (hb7.out.mono hK5.out.size))
        clear hS5 hK5 hb7 hGw
        go_wp2
        go_roundw
        case rel => exact ⟨k + 1, _, _, _, _, by omega, rfl, rfl, by first | rfl | go_num, by have := hS9; rw [← HM2.out] at this; exact this, hK9⟩
        case measure => simp [intOf]; omega
      · obtain rfl : k = n := by omega
        have h1 : ¬ (k : Int) < (k : Int) := by omega
        have RS := Lib.hid (sreset v hS.out.gs.fd)
        have XB := Lib.hid (fun g (e : ogB x' = some g) => (hS.out.gs.fd.h.lt e).1)
        clear hS
        go_wp2_with fail
        refine RS.out.mono ?_
        rintro e v2 ⟨rfl, hF2, hK2⟩
        clear RS
        have hw2 := Lib.hid (show Below w.heap.size w v2 from hK.out.trans (hK2.bel (Nat.le_refl _) (fun g e => by have := XB.out g e; omega) (by have := VZ.out; omega)))
        have SP := Lib.hid (show Calls Try.prog 40 #[.pointer (some ⟨w.heap.size, 0, none⟩)] v2 fun e w' => e = .returned (.int .i64 0) ∧ v2 = w' from spend v2 hF2)
        clear hF2 hK2 XB
        go_wp2_with fail
        refine SP.out.mono ?_
        rintro e v3 ⟨rfl, rfl⟩
        clear SP
        go_wp2_with fail
        refine (LV.out _).mono ?_
        rintro e u1 ⟨rfl, hb2⟩
        have hb3 := Lib.hid (hw2.out.trans (hb2.mono hw2.out.size))
        clear hb2
        go_wp2
        go_ret
        exact ⟨rfl, hb3.out⟩
end Go.Proofs.Ytpcbnoefgknihaa
