/- Numbers as twelve digits of the base 65536: plain laws. -/
namespace Go.Proofs.YtfejdbmamaggpaaDoor
set_option linter.unusedVariables false

def pw : Nat → Int
  | 0 => 1
  | k + 1 => 65536 * pw k
theorem pw_succ (k : Nat) : pw (k + 1) = 65536 * pw k := rfl
theorem pw_pos : ∀ k, 0 < pw k
  | 0 => by decide
  | k + 1 => by have := pw_pos k; rw [pw_succ]; omega
theorem pw_add (j k : Nat) : pw (j + k) = pw j * pw k := by
  induction j with
  | zero => simp [pw]
  | succ j ih => rw [show j + 1 + k = (j + k) + 1 by omega, pw_succ, pw_succ, ih, Int.mul_assoc]
theorem pw_12 : pw 12 = 6277101735386680763835789423207666416102355444464034512896 := by decide
theorem pw_4 : pw 4 = 18446744073709551616 := by decide
theorem pw_8 : pw 8 = 340282366920938463463374607431768211456 := by decide

/-- A number's digit. -/
def dg (N : Int) (i : Nat) : Int := N / pw i % 65536
theorem dg_bd (N : Int) (i : Nat) : 0 ≤ dg N i ∧ dg N i < 65536 := by unfold dg; omega

/-- The first n digits, as a number. -/
def sm (f : Nat → Int) : Nat → Int
  | 0 => 0
  | n + 1 => sm f n + f n * pw n
theorem sm_succ (f : Nat → Int) (n : Nat) : sm f (n + 1) = sm f n + f n * pw n := rfl
def upd (f : Nat → Int) (k : Nat) (v : Int) : Nat → Int := fun j => if j = k then v else f j
theorem upd_same (f : Nat → Int) (k : Nat) (v : Int) : upd f k v k = v := by simp [upd]
theorem upd_ne (f : Nat → Int) {j k : Nat} (v : Int) (h : j ≠ k) : upd f k v j = f j := by simp [upd, h]

theorem sm_congr {f g : Nat → Int} : ∀ n, (∀ j, j < n → f j = g j) → sm f n = sm g n
  | 0, _ => rfl
  | n + 1, h => by rw [sm_succ, sm_succ, sm_congr n (fun j hj => h j (by omega)), h n (by omega)]
theorem sm_upd_ge (f : Nat → Int) (k : Nat) (v : Int) (n : Nat) (h : n ≤ k) : sm (upd f k v) n = sm f n :=
  sm_congr n (fun j hj => upd_ne f v (by omega))
theorem sm_upd (f : Nat → Int) (k : Nat) (v : Int) : ∀ n, k < n → sm (upd f k v) n = sm f n + (v - f k) * pw k
  | 0, h => by omega
  | n + 1, h => by
    by_cases e : k = n
    · subst e
      rw [sm_succ, sm_succ, sm_upd_ge f k v k (by omega), upd_same, Int.sub_mul]; omega
    · rw [sm_succ, sm_succ, sm_upd f k v n (by omega), upd_ne f v (by omega)]; omega
theorem sm_zero : ∀ n, sm (fun _ => 0) n = 0
  | 0 => rfl
  | n + 1 => by rw [sm_succ, sm_zero n]; simp
def Ds (f : Nat → Int) (n : Nat) : Prop := ∀ j, j < n → 0 ≤ f j ∧ f j < 65536
theorem Ds.upd {f : Nat → Int} {n : Nat} (h : Ds f n) (k : Nat) {v : Int} (h0 : 0 ≤ v) (h1 : v < 65536) : Ds (upd f k v) n := fun j hj => by
  by_cases e : j = k
  · subst e; rw [upd_same]; exact ⟨h0, h1⟩
  · rw [upd_ne f v e]; exact h j hj
theorem sm_bd (f : Nat → Int) : ∀ n, Ds f n → 0 ≤ sm f n ∧ sm f n < pw n
  | 0, _ => ⟨Int.le_refl _, pw_pos 0⟩
  | n + 1, h => by
    have h1 := sm_bd f n (fun j hj => h j (by omega))
    have h2 := h n (by omega)
    have hp := pw_pos n
    have h3 : 0 ≤ f n * pw n := Int.mul_nonneg h2.1 (by omega)
    have h4 : f n * pw n ≤ 65535 * pw n := Int.mul_le_mul_of_nonneg_right (by omega) (by omega)
    rw [sm_succ, pw_succ]
    omega
theorem dg_ds (N : Int) (n : Nat) : Ds (dg N) n := fun j _ => dg_bd N j
theorem mod_step (N p : Int) (hp : 0 < p) : N % (65536 * p) = N % p + (N / p % 65536) * p := by
  have e1 := Int.mul_ediv_add_emod N p
  have e2 := Int.mul_ediv_add_emod (N / p) 65536
  have b1 := Int.emod_nonneg N (by omega : p ≠ 0)
  have b2 := Int.emod_lt_of_pos N hp
  generalize hq : N / p / 65536 = q at *
  generalize hr : N / p % 65536 = r at *
  have r0 : 0 ≤ r := by omega
  have r1 : r < 65536 := by omega
  generalize N / p = m at *
  generalize N % p = s at *
  have h3 : 0 ≤ r * p := Int.mul_nonneg r0 (by omega)
  have h4 : r * p ≤ 65535 * p := Int.mul_le_mul_of_nonneg_right (by omega) (by omega)
  have := (Int.ediv_emod_unique (a := N) (b := 65536 * p) (r := s + r * p) (q := q) (by omega)).2 ⟨by
    have e : p * m = 65536 * p * q + r * p := by rw [← e2, Int.mul_add, Int.mul_comm p r, Int.mul_comm 65536 p, Int.mul_assoc]
    omega, by omega, by omega⟩
  exact this.2
theorem sm_dg (N : Int) : ∀ n, sm (dg N) n = N % pw n
  | 0 => by simp [sm, pw, Int.emod_one]
  | n + 1 => by
    rw [sm_succ, pw_succ, sm_dg N n, mod_step N (pw n) (pw_pos n)]; rfl
theorem sm_dg12 {N : Int} (h0 : 0 ≤ N) {n : Nat} (h : N < pw n) : sm (dg N) n = N := by rw [sm_dg]; exact Int.emod_eq_of_lt h0 h

theorem dg_sm (f : Nat → Int) : ∀ n, Ds f n → ∀ i, i < n → dg (sm f n) i = f i
  | 0, _, i, h => by omega
  | n + 1, hd, i, h => by
    have hb := sm_bd f n (fun j hj => hd j (by omega))
    have hf := hd n (by omega)
    by_cases e : i = n
    · subst e
      rw [sm_succ]
      unfold dg
      rw [Int.add_mul_ediv_right _ _ (by have := pw_pos i; omega), Int.ediv_eq_zero_of_lt hb.1 hb.2]
      omega
    · have ih := dg_sm f n (fun j hj => hd j (by omega)) i (by omega)
      unfold dg at *
      obtain ⟨d, rfl⟩ : ∃ d, n = i + (d + 1) := ⟨n - i - 1, by omega⟩
      rw [sm_succ, pw_add i (d + 1), show f (i + (d + 1)) * (pw i * pw (d + 1)) = (f (i + (d + 1)) * pw d * 65536) * pw i by
        rw [show pw (d + 1) = 65536 * pw d from rfl, Int.mul_comm (pw i), ← Int.mul_assoc, Int.mul_comm 65536 (pw d), ← Int.mul_assoc],
        Int.add_mul_ediv_right _ _ (by have := pw_pos i; omega)]
      omega
theorem digits_of {f : Nat → Int} {N : Int} (hd : Ds f 12) (h : sm f 12 = N) : ∀ i, i < 12 → f i = dg N i := fun i hi => by rw [← h, dg_sm f 12 hd i hi]
theorem dg_zero (i : Nat) : dg 0 i = 0 := by simp [dg]
theorem dg_small {N : Int} (h0 : 0 ≤ N) {n i : Nat} (h : N < pw n) (hi : n ≤ i) : dg N i = 0 := by
  have : N < pw i := by
    obtain ⟨d, rfl⟩ : ∃ d, i = d + n := ⟨i - n, by omega⟩
    rw [pw_add]
    have h1 := pw_pos d
    have h2 := pw_pos n
    have := Int.mul_le_mul_of_nonneg_right (show 1 ≤ pw d by omega) (show 0 ≤ pw n by omega)
    omega
  unfold dg
  rw [Int.ediv_eq_zero_of_lt h0 this]; rfl
theorem div_pw_succ (N : Int) (k : Nat) : N / pw (k + 1) = N / pw k / 65536 := by
  rw [show pw (k + 1) = pw k * 65536 by rw [pw_succ, Int.mul_comm], Int.ediv_ediv_of_nonneg (by have := pw_pos k; omega)]
theorem div_pw_dg (N : Int) (k : Nat) : N / pw k = N / pw (k + 1) * 65536 + dg N k := by
  rw [div_pw_succ]; unfold dg; omega

/-- The one step of a row of sums: a digit and a carry. -/
theorem step_carry (f : Nat → Int) (k n : Nat) (hk : k < n) (x : Int) : sm (upd f k (x % 65536)) n + x / 65536 * pw (k + 1) = sm f n + (x - f k) * pw k := by
  rw [sm_upd f k _ n hk]
  have e : x / 65536 * pw (k + 1) = (x / 65536 * 65536) * pw k := by rw [pw_succ, Int.mul_assoc]
  rw [e, Int.add_assoc, ← Int.add_mul]
  congr 2
  omega
theorem step_carry' (f : Nat → Int) (k : Nat) (x : Int) : sm (upd f k (x % 65536)) (k + 1) + x / 65536 * pw (k + 1) = sm f k + x * pw k := by
  rw [sm_succ, sm_upd_ge f k _ k (by omega), upd_same]
  have e : x / 65536 * pw (k + 1) = (x / 65536 * 65536) * pw k := by rw [pw_succ, Int.mul_assoc]
  rw [e, Int.add_assoc, ← Int.add_mul]
  congr 2
  omega

/-- The bits of a number. -/
def p2 : Nat → Int
  | 0 => 1
  | k + 1 => 2 * p2 k
theorem p2_succ (k : Nat) : p2 (k + 1) = 2 * p2 k := rfl
theorem p2_pos : ∀ k, 0 < p2 k
  | 0 => by decide
  | k + 1 => by have := p2_pos k; rw [p2_succ]; omega
theorem div_p2_succ (N : Int) (k : Nat) : N / p2 (k + 1) = N / p2 k / 2 := by
  rw [show p2 (k + 1) = p2 k * 2 by rw [p2_succ, Int.mul_comm], Int.ediv_ediv_of_nonneg (by have := p2_pos k; omega)]
theorem p2_add (j k : Nat) : p2 (j + k) = p2 j * p2 k := by
  induction j with
  | zero => simp [p2]
  | succ j ih => rw [show j + 1 + k = (j + k) + 1 by omega, p2_succ, p2_succ, ih, Int.mul_assoc]
theorem pw_p2 : ∀ k, pw k = p2 (16 * k)
  | 0 => rfl
  | k + 1 => by rw [show 16 * (k + 1) = 16 + 16 * k by omega, p2_add, ← pw_p2 k]; rfl
/-- A digit's bit is the number's. -/
theorem dg_bit (N : Int) (q k : Nat) (hk : k < 16) : dg N q / p2 k % 2 = N / p2 (16 * q + k) % 2 := by
  unfold dg
  rw [p2_add, ← pw_p2, ← Int.ediv_ediv_of_nonneg (by have := pw_pos q; omega)]
  generalize N / pw q = M
  have h16 : (65536 : Int) = p2 k * p2 (16 - k) := by rw [← p2_add, show k + (16 - k) = 16 by omega]; rfl
  have h2 : p2 (16 - k) = 2 * p2 (15 - k) := by rw [show 16 - k = (15 - k) + 1 by omega]; rfl
  have e := Int.mul_ediv_add_emod M 65536
  have hk0 := p2_pos k
  have : M / p2 k = M % 65536 / p2 k + (M / 65536 * p2 (15 - k)) * 2 := by
    conv => lhs; rw [← e]
    rw [Int.add_comm, show 65536 * (M / 65536) = (M / 65536 * p2 (16 - k)) * p2 k by
      generalize M / 65536 = Q
      rw [h16, Int.mul_comm Q, Int.mul_comm _ (p2 k), Int.mul_assoc], Int.add_mul_ediv_right _ _ (by omega), h2]
    congr 1
    rw [Int.mul_comm 2, Int.mul_assoc]
  rw [this]
  omega

/-- Long division, bit by bit: the next quotient and what is left. -/
theorem long_step (A b bit : Int) (hb : 0 < b) (h0 : 0 ≤ bit) (h1 : bit ≤ 1) :
    (b ≤ 2 * (A % b) + bit → (2 * A + bit) / b = 2 * (A / b) + 1 ∧ (2 * A + bit) % b = 2 * (A % b) + bit - b) ∧
    (2 * (A % b) + bit < b → (2 * A + bit) / b = 2 * (A / b) ∧ (2 * A + bit) % b = 2 * (A % b) + bit) := by
  have e := Int.mul_ediv_add_emod A b
  have e0 := Int.emod_nonneg A (by omega : b ≠ 0)
  have e1 := Int.emod_lt_of_pos A hb
  generalize A / b = q at *
  generalize A % b = r at *
  have m2 : b * (2 * q) = 2 * (b * q) := by rw [← Int.mul_assoc, Int.mul_comm b 2, Int.mul_assoc]
  constructor
  · intro h
    exact (Int.ediv_emod_unique hb).2 ⟨by rw [Int.mul_add, m2, Int.mul_one]; omega, by omega, by omega⟩
  · intro h
    exact (Int.ediv_emod_unique hb).2 ⟨by rw [m2]; omega, by omega, by omega⟩

theorem mod_pw_succ (N : Int) (k : Nat) : N % pw (k + 1) = N % pw k + dg N k * pw k := by rw [pw_succ, mod_step N (pw k) (pw_pos k)]; rfl

/-- Two numbers whose digits above j are the same. -/
theorem dig_lt {A B : Int} {j : Nat} (h : A / pw (j + 1) = B / pw (j + 1)) (hd : dg A j < dg B j) : A < B := by
  have ea := div_pw_dg A j
  have eb := div_pw_dg B j
  by_cases hc : A < B
  · exact hc
  · have := Int.ediv_le_ediv (pw_pos j) (show B ≤ A by omega)
    omega
theorem dig_eq {A B : Int} {j : Nat} (h : A / pw (j + 1) = B / pw (j + 1)) (hd : dg A j = dg B j) : A / pw j = B / pw j := by
  have ea := div_pw_dg A j
  have eb := div_pw_dg B j
  omega
theorem div_pw12 {N : Int} (h0 : 0 ≤ N) (h : N < pw 12) : N / pw 12 = 0 := Int.ediv_eq_zero_of_lt h0 h

/-- A difference, digit by digit: o is owed. -/
def Lss (A B : Int) (f : Nat → Int) (k : Nat) (o : Int) : Prop := Ds f 12 ∧ sm f k = A % pw k - B % pw k + o * pw k
theorem Ds.zero (n : Nat) : Ds (fun _ => 0) n := fun _ _ => by simp
theorem Lss.start (A B : Int) : Lss A B (fun _ => 0) 0 0 := ⟨Ds.zero 12, by simp [sm, pw, Int.emod_one]⟩
theorem Lss.step {A B : Int} {f : Nat → Int} {k : Nat} {o : Int} (h : Lss A B f k o) : Lss A B (upd f k ((dg A k + 65536 - dg B k - o) % 65536)) (k + 1) (1 - (dg A k + 65536 - dg B k - o) / 65536) := by
  refine ⟨h.1.upd k (by omega) (by omega), ?_⟩
  have e := step_carry' f k (dg A k + 65536 - dg B k - o)
  generalize (dg A k + 65536 - dg B k - o) / 65536 = y at *
  rw [h.2] at e
  rw [mod_pw_succ, mod_pw_succ, Int.sub_mul 1 y]
  have e2 : (dg A k + 65536 - dg B k - o) * pw k = dg A k * pw k + pw (k + 1) - dg B k * pw k - o * pw k := by rw [Int.sub_mul, Int.sub_mul, Int.add_mul, pw_succ]
  rw [e2] at e
  omega
theorem Lss.fin {A B : Int} {f : Nat → Int} {o : Int} (h : Lss A B f 12 o) (hB0 : 0 ≤ B) (hB : B ≤ A) (hA : A < pw 12) (h0 : 0 ≤ o) : ∀ i, i < 12 → f i = dg (A - B) i := by
  have hb := sm_bd f 12 h.1
  have e := h.2
  rw [Int.emod_eq_of_lt (by omega) hA, Int.emod_eq_of_lt hB0 (by omega)] at e
  have : o = 0 := by
    by_cases hc : o = 0
    · exact hc
    · have := Int.mul_le_mul_of_nonneg_right (show 1 ≤ o by omega) (show 0 ≤ pw 12 by have := pw_pos 12; omega)
      omega
  subst this
  exact digits_of h.1 (by omega)

/-- Twice, digit by digit: c is carried. -/
def Twc (A : Int) (f : Nat → Int) (k : Nat) (c : Int) : Prop := Ds f 12 ∧ sm f k + c * pw k = 2 * (A % pw k)
theorem Twc.start (A : Int) : Twc A (fun _ => 0) 0 0 := ⟨Ds.zero 12, by simp [sm, pw, Int.emod_one]⟩
theorem Twc.step {A : Int} {f : Nat → Int} {k : Nat} {c : Int} (h : Twc A f k c) : Twc A (upd f k ((2 * dg A k + c) % 65536)) (k + 1) ((2 * dg A k + c) / 65536) := by
  refine ⟨h.1.upd k (by omega) (by omega), ?_⟩
  rw [step_carry', mod_pw_succ, Int.add_mul (2 * dg A k), Int.mul_assoc 2]
  have := h.2
  omega
theorem Twc.fin {A : Int} {f : Nat → Int} {c : Int} (h : Twc A f 12 c) (h0 : 0 ≤ A) (hA : 2 * A < pw 12) (hc : 0 ≤ c) : ∀ i, i < 12 → f i = dg (2 * A) i := by
  have hb := sm_bd f 12 h.1
  have e := h.2
  rw [Int.emod_eq_of_lt (by omega) (by omega)] at e
  have : c = 0 := by
    by_cases hc0 : c = 0
    · exact hc0
    · have := Int.mul_le_mul_of_nonneg_right (show 1 ≤ c by omega) (show 0 ≤ pw 12 by have := pw_pos 12; omega)
      omega
  subst this
  exact digits_of h.1 (by omega)

/-- One more: the first k digits were 65535, and are 0. -/
def Mor (A : Int) (f : Nat → Int) (k : Nat) : Prop := Ds f 12 ∧ sm f 12 + pw k = A + 1
theorem Mor.start {A : Int} (h0 : 0 ≤ A) (hA : A < pw 12) : Mor A (dg A) 0 := ⟨dg_ds A 12, by rw [sm_dg12 h0 hA]; rfl⟩
theorem Mor.fin {A : Int} {f : Nat → Int} {k : Nat} (h : Mor A f k) (hk : k < 12) (hf : f k + 1 < 65536) : ∀ i, i < 12 → upd f k (f k + 1) i = dg (A + 1) i :=
  digits_of (h.1.upd k (by have := (h.1 k hk).1; omega) hf) (by rw [sm_upd f k _ 12 hk, show f k + 1 - f k = 1 by omega]; have := h.2; omega)
theorem Mor.step {A : Int} {f : Nat → Int} {k : Nat} (h : Mor A f k) (hk : k < 12) (hf : ¬ f k + 1 < 65536) : Mor A (upd (upd f k (f k + 1)) k 0) (k + 1) := by
  have hb := h.1 k hk
  have e : f k = 65535 := by omega
  have eu : sm (upd (upd f k (f k + 1)) k 0) 12 = sm (upd f k 0) 12 := sm_congr 12 (fun j hj => by
    by_cases ej : j = k
    · subst ej; rw [upd_same, upd_same]
    · rw [upd_ne _ _ ej, upd_ne _ _ ej, upd_ne _ _ ej])
  refine ⟨fun j hj => ?_, ?_⟩
  · by_cases ej : j = k
    · subst ej; rw [upd_same]; omega
    · rw [upd_ne _ _ ej, upd_ne _ _ ej]; exact h.1 j hj
  · rw [eu, sm_upd f k 0 12 hk, e, pw_succ]
    have := h.2
    omega
theorem Mor.never {A : Int} {f : Nat → Int} (h : Mor A f 12) (hA : A + 1 < pw 12) : False := by
  have hb := sm_bd f 12 h.1
  have := h.2
  omega

/-- A product, digit by digit. -/
def Tim (A B : Int) (f : Nat → Int) (i : Nat) : Prop := Ds f 12 ∧ sm f 12 = A % pw i * B ∧ ∀ j, i + 4 ≤ j → f j = 0
def Tin (A B : Int) (i : Nat) (f : Nat → Int) (k : Nat) (c : Int) : Prop := Ds f 12 ∧ sm f 12 + c * pw (i + k) = A % pw i * B + dg A i * pw i * (B % pw k) ∧ ∀ j, i + 4 ≤ j → f j = 0
theorem Tim.start (A B : Int) : Tim A B (fun _ => 0) 0 := ⟨Ds.zero 12, by rw [sm_zero]; simp [pw, Int.emod_one], fun _ _ => rfl⟩
theorem Tim.inner {A B : Int} {f : Nat → Int} {i : Nat} (h : Tim A B f i) : Tin A B i f 0 0 := ⟨h.1, by rw [h.2.1]; simp [pw, Int.emod_one], h.2.2⟩
theorem tin_bd {x y z c : Int} (hx : 0 ≤ x ∧ x < 65536) (hy : 0 ≤ y ∧ y < 65536) (hz : 0 ≤ z ∧ z < 65536) (hc : 0 ≤ c ∧ c < 65536) : 0 ≤ x + y * z + c ∧ x + y * z + c ≤ 4294967295 ∧ 0 ≤ y * z ∧ y * z ≤ 4294836225 := by
  have h1 : 0 ≤ y * z := Int.mul_nonneg hy.1 hz.1
  have h2 : y * z ≤ 65535 * 65535 := Int.mul_le_mul (by omega) (by omega) hz.1 (by omega)
  omega
theorem Tin.step {A B : Int} {i : Nat} {f : Nat → Int} {k : Nat} {c : Int} (h : Tin A B i f k c) (hi : i < 4) (hk : k < 4) (hc : 0 ≤ c) : Tin A B i (upd f (i + k) ((f (i + k) + dg A i * dg B k + c) % 65536)) (k + 1) ((f (i + k) + dg A i * dg B k + c) / 65536) := by
  refine ⟨h.1.upd _ (by omega) (by omega), ?_, fun j hj => by rw [upd_ne _ _ (by omega)]; exact h.2.2 j hj⟩
  have e := step_carry f (i + k) 12 (by omega) (f (i + k) + dg A i * dg B k + c)
  rw [show i + (k + 1) = i + k + 1 by omega, e, mod_pw_succ, show f (i + k) + dg A i * dg B k + c - f (i + k) = dg A i * dg B k + c by omega, Int.add_mul (dg A i * dg B k), Int.mul_add (dg A i * pw i)]
  have e2 : dg A i * dg B k * pw (i + k) = dg A i * pw i * (dg B k * pw k) := by
    rw [pw_add, Int.mul_assoc, Int.mul_assoc, ← Int.mul_assoc (dg B k), ← Int.mul_assoc (pw i), Int.mul_comm (dg B k) (pw i)]
  have := h.2.1
  omega
theorem Tin.fin {A B : Int} {i : Nat} {f : Nat → Int} {c : Int} (h : Tin A B i f 4 c) (hi : i < 4) (hc0 : 0 ≤ c) (hc : c < 65536) (hB0 : 0 ≤ B) (hB : B < pw 4) : f (i + 4) = 0 ∧ Tim A B (upd f (i + 4) c) (i + 1) := by
  have hz := h.2.2 (i + 4) (Nat.le_refl _)
  refine ⟨hz, h.1.upd _ hc0 hc, ?_, fun j hj => by rw [upd_ne _ _ (by omega)]; exact h.2.2 j (by omega)⟩
  rw [sm_upd f _ _ 12 (by omega), hz, mod_pw_succ, Int.add_mul, Int.sub_zero]
  have := h.2.1
  rw [Int.emod_eq_of_lt hB0 hB] at this
  exact this
theorem Tim.fin {A B : Int} {f : Nat → Int} (h : Tim A B f 4) (h0 : 0 ≤ A) (hA : A < pw 4) : ∀ i, i < 12 → f i = dg (A * B) i := by
  have e := h.2.1
  rw [Int.emod_eq_of_lt h0 hA] at e
  exact digits_of h.1 e
end Go.Proofs.YtfejdbmamaggpaaDoor
