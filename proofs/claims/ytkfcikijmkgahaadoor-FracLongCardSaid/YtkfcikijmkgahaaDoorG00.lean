/- Part of the proof: Ma, Mb, Mc, Md, Me. -/
set_option linter.unusedVariables false
set_option linter.unusedSimpArgs false
set_option linter.unusedSectionVars false
/- Plain arithmetic on digits to the base 2^32: nothing of the program. -/
namespace Tw

/-- the powers of the base -/
def R (k : Nat) : Nat := 4294967296 ^ k
theorem R_zero : R 0 = 1 := rfl
theorem R_succ (k : Nat) : R (k + 1) = 4294967296 * R k := by unfold R; rw [Nat.pow_succ, Nat.mul_comm]
theorem R_pos (k : Nat) : 0 < R k := Nat.pow_pos (by omega)
theorem R_add (j k : Nat) : R (j + k) = R j * R k := Nat.pow_add _ _ _
theorem R_le {j k : Nat} (h : j ≤ k) : R j ≤ R k := Nat.pow_le_pow_right (by omega) h

/-- digit i of x -/
def dg (x i : Nat) : Nat := x / R i % 4294967296
theorem dg_lt (x i : Nat) : dg x i < 4294967296 := Nat.mod_lt _ (by omega)
theorem dg_zero (x : Nat) : dg x 0 = x % 4294967296 := by simp [dg, R_zero]
theorem dg_of_lt {x k : Nat} (h : x < R k) : dg x k = 0 := by simp [dg, Nat.div_eq_of_lt h]
theorem dg_of_lt' {x k i : Nat} (h : x < R k) (hi : k ≤ i) : dg x i = 0 := dg_of_lt (Nat.lt_of_lt_of_le h (R_le hi))

/-- x in three parts about digit k -/
theorem dg_split (x k : Nat) : x = x / R (k + 1) * R (k + 1) + dg x k * R k + x % R k := by
  have h1 := Nat.div_add_mod x (R k)
  have h2 := Nat.div_add_mod (x / R k) 4294967296
  rw [Nat.div_div_eq_div_mul, Nat.mul_comm (R k), ← R_succ] at h2
  unfold dg
  generalize x / R k % 4294967296 = d at *
  generalize x / R (k + 1) = q at *
  rw [← h2] at h1
  rw [R_succ]
  generalize x % R k = r at *
  generalize R k = p at *
  have : p * (4294967296 * q + d) = q * (4294967296 * p) + d * p := by grind
  omega

theorem mod_succ (x k : Nat) : x % R (k + 1) = x % R k + dg x k * R k := by
  have h := dg_split x k
  have h1 := Nat.div_add_mod x (R (k + 1))
  have : R (k + 1) * (x / R (k + 1)) = x / R (k + 1) * R (k + 1) := Nat.mul_comm _ _
  omega

theorem div_succ (x k : Nat) : x / R k = x / R (k + 1) * 4294967296 + dg x k := by
  have h2 := Nat.div_add_mod (x / R k) 4294967296
  rw [Nat.div_div_eq_div_mul, Nat.mul_comm (R k), ← R_succ] at h2
  unfold dg; omega

theorem mod_lt_R (x k : Nat) : x % R k < R k := Nat.mod_lt _ (R_pos k)

/-- x with digit k replaced by v -/
def setd (x k v : Nat) : Nat := x / R (k + 1) * R (k + 1) + v * R k + x % R k

theorem setd_eq (x k v : Nat) : setd x k v + dg x k * R k = x + v * R k := by
  have h := dg_split x k
  unfold setd; omega

theorem setd_div (x k v : Nat) (hv : v < 4294967296) : setd x k v / R (k + 1) = x / R (k + 1) := by
  unfold setd
  have h1 := mod_lt_R x k
  have h2 := R_succ k
  have h3 : (v + 1) * R k ≤ 4294967296 * R k := Nat.mul_le_mul_right _ (by omega)
  have h4 : (v + 1) * R k = v * R k + R k := by rw [Nat.add_mul, Nat.one_mul]
  have h5 : v * R k + x % R k < R (k + 1) := by omega
  rw [Nat.add_assoc, Nat.mul_comm, Nat.mul_add_div (R_pos _), Nat.div_eq_of_lt h5, Nat.add_zero]

theorem setd_mod (x k v : Nat) : setd x k v % R k = x % R k := by
  unfold setd
  rw [R_succ]
  have : x / (4294967296 * R k) * (4294967296 * R k) + v * R k + x % R k = R k * (x / (4294967296 * R k) * 4294967296 + v) + x % R k := by
    generalize x / (4294967296 * R k) = q
    generalize x % R k = r
    generalize R k = p
    grind
  rw [this, Nat.mul_add_mod, Nat.mod_mod]

theorem dg_setd_same (x k v : Nat) (hv : v < 4294967296) : dg (setd x k v) k = v := by
  have h := dg_split (setd x k v) k
  rw [setd_div x k v hv, setd_mod] at h
  have h2 : setd x k v = x / R (k + 1) * R (k + 1) + v * R k + x % R k := rfl
  have h3 : dg (setd x k v) k * R k = v * R k := by omega
  exact Nat.eq_of_mul_eq_mul_right (R_pos k) h3

theorem dg_mod {x k i : Nat} (h : i < k) : dg (x % R k) i = dg x i := by
  unfold dg
  obtain ⟨j, rfl⟩ : ∃ j, k = i + (j + 1) := ⟨k - i - 1, by omega⟩
  rw [R_add, Nat.mod_mul_right_div_self, R_succ, Nat.mod_mod_of_dvd _ (Nat.dvd_mul_right _ _)]

theorem dg_div (x k i : Nat) : dg (x / R k) i = dg x (k + i) := by
  unfold dg
  rw [Nat.div_div_eq_div_mul, R_add]

theorem dg_setd_other (x k v i : Nat) (hv : v < 4294967296) (h : i ≠ k) : dg (setd x k v) i = dg x i := by
  rcases Nat.lt_or_gt_of_ne h with h | h
  · rw [← dg_mod h, setd_mod, dg_mod h]
  · obtain ⟨j, rfl⟩ : ∃ j, i = (k + 1) + j := ⟨i - (k + 1), by omega⟩
    rw [← dg_div, setd_div x k v hv, dg_div]

theorem setd_lt {x k v n : Nat} (hx : x < R n) (hk : k < n) (hv : v < 4294967296) : setd x k v < R n := by
  have h : setd x k v / R (k + 1) = x / R (k + 1) := setd_div x k v hv
  obtain ⟨j, rfl⟩ : ∃ j, n = (k + 1) + j := ⟨n - (k + 1), by omega⟩
  rw [R_add (k + 1) j, Nat.mul_comm] at *
  exact (Nat.div_lt_iff_lt_mul (R_pos _)).1 (by rw [h]; exact (Nat.div_lt_iff_lt_mul (R_pos _)).2 hx)

/-- digits decide -/
theorem eq_of_dg : ∀ {n x y : Nat}, x < R n → y < R n → (∀ i, i < n → dg x i = dg y i) → x = y
  | 0, x, y, hx, hy, _ => by rw [R_zero] at hx hy; omega
  | n + 1, x, y, hx, hy, h => by
    have h0 := h n (by omega)
    have hm : x % R n = y % R n := eq_of_dg (mod_lt_R _ _) (mod_lt_R _ _) (fun i hi => by rw [dg_mod hi, dg_mod hi]; exact h i (by omega))
    have hx' := dg_split x n
    have hy' := dg_split y n
    rw [Nat.div_eq_of_lt hx] at hx'
    rw [Nat.div_eq_of_lt hy] at hy'
    rw [h0, hm] at hx'
    omega

/-- the number of digits -/
def va (f : Nat → Nat) : Nat → Nat
  | 0 => 0
  | n + 1 => va f n + f n * R n
theorem va_lt (f : Nat → Nat) (h : ∀ i, f i < 4294967296) : ∀ n, va f n < R n
  | 0 => by simp [va, R_zero]
  | n + 1 => by
    have := va_lt f h n
    have h1 : (f n + 1) * R n ≤ 4294967296 * R n := Nat.mul_le_mul_right _ (h n)
    rw [Nat.add_mul, Nat.one_mul] at h1
    rw [va, R_succ]; omega
theorem va_dg (x : Nat) : ∀ n, va (dg x) n = x % R n
  | 0 => by simp [va, R_zero, Nat.mod_one]
  | n + 1 => by rw [va, va_dg x n, mod_succ]
theorem dg_va (f : Nat → Nat) (h : ∀ i, f i < 4294967296) : ∀ n i, i < n → dg (va f n) i = f i
  | 0, i, hi => absurd hi (by omega)
  | n + 1, i, hi => by
    have hl := va_lt f h n
    have e : va f (n + 1) = R n * f n + va f n := by rw [va, Nat.mul_comm]; omega
    by_cases hin : i = n
    · subst hin
      unfold dg
      rw [e, Nat.mul_add_div (R_pos _), Nat.div_eq_of_lt hl, Nat.add_zero, Nat.mod_eq_of_lt (h _)]
    · rw [← dg_mod (k := n) (by omega), e, Nat.mul_add_mod, Nat.mod_eq_of_lt hl]
      exact dg_va f h n i (by omega)
attribute [irreducible] R dg setd va
end Tw
/- Steps of sums, differences and products, digit by digit. -/
namespace Tw

theorem t_split (t r : Nat) : t * r = t / 4294967296 * (4294967296 * r) + t % 4294967296 * r := by
  have h := Nat.div_add_mod t 4294967296
  generalize t / 4294967296 = q at *
  generalize t % 4294967296 = m at *
  subst h; grind

/-- one digit of a sum -/
theorem plus_step {P a b c k v c' : Nat} (inv : P + c * R k = a + b % R k) (hv : v + c' * 4294967296 = dg P k + dg b k + c) :
    setd P k v + c' * R (k + 1) = a + b % R (k + 1) := by
  have h1 := setd_eq P k v
  rw [mod_succ, R_succ]
  have e : (v + c' * 4294967296) * R k = (dg P k + dg b k + c) * R k := by rw [hv]
  have e1 : (v + c' * 4294967296) * R k = v * R k + c' * (4294967296 * R k) := by grind
  have e2 : (dg P k + dg b k + c) * R k = dg P k * R k + dg b k * R k + c * R k := by grind
  omega

/-- one digit of a difference -/
theorem minus_step {P a b c k v c' : Nat} (inv : P + b % R k = a + c * R k) (hv : v + dg b k + c = dg P k + c' * 4294967296) :
    setd P k v + b % R (k + 1) = a + c' * R (k + 1) := by
  have h1 := setd_eq P k v
  rw [mod_succ, R_succ]
  have e : (v + dg b k + c) * R k = (dg P k + c' * 4294967296) * R k := by rw [hv]
  have e1 : (dg P k + c' * 4294967296) * R k = dg P k * R k + c' * (4294967296 * R k) := by grind
  have e2 : (v + dg b k + c) * R k = v * R k + dg b k * R k + c * R k := by grind
  omega

/-- one digit of a product -/
theorem times_step {P M x y c i j v c' : Nat} (inv : P + c * R (i + j) = M + x * (y % R j) * R i) (hv : v + c' * 4294967296 = x * dg y j + dg P (i + j) + c) :
    setd P (i + j) v + c' * R (i + (j + 1)) = M + x * (y % R (j + 1)) * R i := by
  have h1 := setd_eq P (i + j) v
  rw [mod_succ]
  have hR : R (i + (j + 1)) = 4294967296 * R (i + j) := R_succ (i + j)
  have hA : R (i + j) = R i * R j := R_add i j
  have e : (v + c' * 4294967296) * R (i + j) = (x * dg y j + dg P (i + j) + c) * R (i + j) := by rw [hv]
  have e1 : (v + c' * 4294967296) * R (i + j) = v * R (i + j) + c' * (4294967296 * R (i + j)) := by grind
  have e2 : (x * dg y j + dg P (i + j) + c) * R (i + j) = x * dg y j * R (i + j) + dg P (i + j) * R (i + j) + c * R (i + j) := by grind
  have e3 : x * (y % R j + dg y j * R j) * R i = x * (y % R j) * R i + x * dg y j * R (i + j) := by rw [hA]; grind
  rw [hR, e3]
  omega

theorem fits64 {x y d c : Nat} (hx : x < 4294967296) (hy : y < 4294967296) (hd : d < 4294967296) (hc : c < 4294967296) : x * y + d + c < 18446744073709551616 := by
  have h : x * y ≤ 4294967295 * 4294967295 := Nat.mul_le_mul (by omega) (by omega)
  omega

/-- one digit of a number times a digit, and more -/
theorem scale_step {P a x c k v c' M : Nat} (inv : P + c * R k = (a % R k) * x + M + a / R k * R k) (hd : dg P k = dg a k) (hv : v + c' * 4294967296 = dg P k * x + c) :
    setd P k v + c' * R (k + 1) = (a % R (k + 1)) * x + M + a / R (k + 1) * R (k + 1) := by
  have h1 := setd_eq P k v
  have e0 : a / R k * R k = a / R (k + 1) * R (k + 1) + dg a k * R k := by
    rw [div_succ a k, R_succ]; generalize a / R (k+1) = q; generalize dg a k = d; grind
  rw [mod_succ, R_succ]
  rw [e0, R_succ] at inv
  rw [hd] at h1 hv
  have e : (v + c' * 4294967296) * R k = (dg a k * x + c) * R k := by rw [hv]
  have e1 : (v + c' * 4294967296) * R k = v * R k + c' * (4294967296 * R k) := by grind
  have e2 : (dg a k * x + c) * R k = dg a k * R k * x + c * R k := by grind
  have e3 : (a % R k + dg a k * R k) * x = a % R k * x + dg a k * R k * x := by grind
  generalize a / (4294967296 * R k) * (4294967296 * R k) = z at *
  omega

/-- one digit of a quotient by a digit: from above -/
theorem short_step {P a x r k v r' : Nat} (inv : a = P / R (k + 1) * R (k + 1) * x + r * R (k + 1) + a % R (k + 1)) (hv : v * x + r' = r * 4294967296 + dg a k) (hv' : v < 4294967296) :
    a = setd P k v / R k * R k * x + r' * R k + a % R k := by
  have hd : dg (setd P k v) k = v := dg_setd_same _ _ _ hv'
  have h2 : setd P k v / R k = P / R (k + 1) * 4294967296 + v := by
    rw [div_succ, setd_div _ _ _ hv', hd]
  rw [h2]
  have hm := mod_succ a k
  have hR := R_succ k
  generalize P / R (k + 1) = q at *
  have e : (v * x + r') * R k = (r * 4294967296 + dg a k) * R k := by rw [hv]
  have e1 : (v * x + r') * R k = v * R k * x + r' * R k := by grind
  have e2 : (r * 4294967296 + dg a k) * R k = r * R (k + 1) + dg a k * R k := by grind
  have e3 : (q * 4294967296 + v) * R k * x = q * R (k + 1) * x + v * R k * x := by grind
  omega
end Tw
/- Long division, digit by digit. -/
namespace Tw

theorem div_two {x k : Nat} (h : x < R (k + 2)) : x / R k = dg x (k + 1) * 4294967296 + dg x k := by
  have h0 : x / R (k + 1 + 1) = 0 := Nat.div_eq_of_lt h
  rw [div_succ x k, div_succ x (k + 1), h0, Nat.zero_mul, Nat.zero_add]
theorem div_one {x k : Nat} (h : x < R (k + 1)) : x / R k = dg x k := by
  rw [div_succ x k, Nat.div_eq_of_lt h, Nat.zero_mul, Nat.zero_add]
theorem div_three {x k : Nat} (h : x < R (k + 3)) : x / R k = (dg x (k + 2) * 4294967296 + dg x (k + 1)) * 4294967296 + dg x k := by
  rw [div_succ x k, div_two (k := k + 1) h]

/-- the first guess is not too small -/
theorem guess_first {P D k : Nat} (hf : 0 < D / R k) : P / D ≤ P / R k / (D / R k) := by
  rw [Nat.le_div_iff_mul_le hf, Nat.le_div_iff_mul_le (R_pos k), Nat.mul_assoc]
  have h1 : D / R k * R k ≤ D := Nat.div_mul_le_self _ _
  have h2 : P / D * (D / R k * R k) ≤ P / D * D := Nat.mul_le_mul_left _ h1
  have h3 : P / D * D ≤ P := Nat.div_mul_le_self _ _
  omega
/-- what is too great by three digits is too great -/
theorem guess_more {P D k l : Nat} (h : P / R k < l * (D / R k)) : P / D < l := by
  rcases Nat.lt_or_ge (P / D) l with h1 | h1
  · exact h1
  · exfalso
    have h2 : l * D ≤ P := by
      have a : l * D ≤ P / D * D := Nat.mul_le_mul_right _ h1
      have b : P / D * D ≤ P := Nat.div_mul_le_self _ _
      omega
    have h3 : l * (D / R k) ≤ P / R k := by
      rw [Nat.le_div_iff_mul_le (R_pos k), Nat.mul_assoc]
      have a : D / R k * R k ≤ D := Nat.div_mul_le_self _ _
      have b : l * (D / R k * R k) ≤ l * D := Nat.mul_le_mul_left _ a
      omega
    omega
/-- what is not too great by three digits is too great by one at most -/
theorem guess_most {P D k l : Nat} (hl : l < 4294967296) (hD : 4294967296 ≤ D / R k) (h : l * (D / R k) ≤ P / R k) : l ≤ P / D + 1 := by
  rcases Nat.lt_or_ge (P / D + 1) l with h1 | h1
  · exfalso
    have hl0 : 0 < l := Nat.lt_of_le_of_lt (Nat.zero_le _) h1
    obtain ⟨m, rfl⟩ : ∃ m, l = m + 1 := ⟨l - 1, by omega⟩
    have hpos : 0 < D := by
      rcases Nat.eq_zero_or_pos D with e | e
      · subst e; rw [Nat.zero_div] at hD; omega
      · exact e
    have h2 : P < m * D := by
      have a : P < (P / D + 1) * D := by
        have := Nat.lt_div_mul_add (a := P) hpos
        rw [Nat.add_mul, Nat.one_mul]; omega
      have b : (P / D + 1) * D ≤ m * D := Nat.mul_le_mul_right _ (by omega)
      omega
    have h3 : (m + 1) * (D / R k) * R k ≤ P := by
      have a : (m + 1) * (D / R k) * R k ≤ P / R k * R k := Nat.mul_le_mul_right _ h
      have b : P / R k * R k ≤ P := Nat.div_mul_le_self _ _
      omega
    have h4 : D < (D / R k + 1) * R k := by
      have := Nat.lt_div_mul_add (a := D) (R_pos k)
      rw [Nat.add_mul, Nat.one_mul]; omega
    have h5 : m * D ≤ m * ((D / R k + 1) * R k) := Nat.mul_le_mul_left _ (Nat.le_of_lt h4)
    have h6 : (m + 1) * (D / R k) * R k < m * ((D / R k + 1) * R k) := by omega
    rw [← Nat.mul_assoc] at h6
    have h7 := Nat.lt_of_mul_lt_mul_right h6
    generalize D / R k = e at *
    have h8 : (m + 1) * e = m * e + e := by grind
    have h9 : m * (e + 1) = m * e + m := by grind
    omega
  · exact h1
theorem guess_cond {l f s r u t e p : Nat} (h : l * f + r = t) (he : e = f * 4294967296 + s) (hp : p = t * 4294967296 + u) : (r * 4294967296 + u < l * s) ↔ (p < l * e) := by
  subst h he hp
  have h1 : (l * f + r) * 4294967296 + u = l * f * 4294967296 + (r * 4294967296 + u) := by omega
  have h2 : l * (f * 4294967296 + s) = l * f * 4294967296 + l * s := by grind
  omega

/-- one digit of a part without a multiple of the divisor -/
theorem sub_step {X P D l c b i p v c' b' : Nat} (inv : X + l * (D % R i) = P + (c + b) * R i) (hp : p + c' * 4294967296 = l * dg D i + c) (hv : v + p + b = dg X i + b' * 4294967296) :
    setd X i v + l * (D % R (i + 1)) = P + (c' + b') * R (i + 1) := by
  have h1 := setd_eq X i v
  rw [mod_succ, R_succ]
  have e : (v + p + b) * R i = (dg X i + b' * 4294967296) * R i := by rw [hv]
  have e1 : (v + p + b) * R i = v * R i + p * R i + b * R i := by grind
  have e2 : (dg X i + b' * 4294967296) * R i = dg X i * R i + b' * (4294967296 * R i) := by grind
  have f : (p + c' * 4294967296) * R i = (l * dg D i + c) * R i := by rw [hp]
  have f1 : (p + c' * 4294967296) * R i = p * R i + c' * (4294967296 * R i) := by grind
  have f2 : (l * dg D i + c) * R i = l * (dg D i * R i) + c * R i := by grind
  have g : l * (D % R i + dg D i * R i) = l * (D % R i) + l * (dg D i * R i) := by grind
  have g1 : (c' + b') * (4294967296 * R i) = c' * (4294967296 * R i) + b' * (4294967296 * R i) := by grind
  have g2 : (c + b) * R i = c * R i + b * R i := by grind
  omega
/-- the highest digit of it -/
theorem sub_last {X P D l c b n v b' : Nat} (hD : D < R n) (inv : X + l * (D % R n) = P + (c + b) * R n) (hv : v + c + b = dg X n + b' * 4294967296) :
    setd X n v + l * D = P + b' * R (n + 1) := by
  rw [Nat.mod_eq_of_lt hD] at inv
  have h1 := setd_eq X n v
  rw [R_succ]
  have e : (v + c + b) * R n = (dg X n + b' * 4294967296) * R n := by rw [hv]
  have e1 : (v + c + b) * R n = v * R n + (c + b) * R n := by grind
  have e2 : (dg X n + b' * 4294967296) * R n = dg X n * R n + b' * (4294967296 * R n) := by grind
  omega
/-- what is left, where the guess was right -/
theorem sub_right {X P D l : Nat} (h : X + l * D = P) (hl : P / D ≤ l) (hD : 0 < D) : l = P / D ∧ X = P % D := by
  have h1 : l ≤ P / D := by rw [Nat.le_div_iff_mul_le hD]; omega
  have h2 : l = P / D := by omega
  refine ⟨h2, ?_⟩
  have h3 := Nat.div_add_mod P D
  rw [Nat.mul_comm, ← h2] at h3
  omega
/-- the guess was too great by one: the divisor is added again -/
theorem sub_wrong {X P D l n c Y : Nat} (hX : X < R (n + 1)) (h : X + l * D = P + 1 * R (n + 1)) (hl : l ≤ P / D + 1) (hD : 0 < D) (hDn : D < R n) (hY : Y + c * R (n + 1) = X + D) (hYl : Y < R (n + 1)) :
    l = P / D + 1 ∧ Y = P % D := by
  have h1 : ¬ l ≤ P / D := by
    intro hle
    have a : l * D ≤ P / D * D := Nat.mul_le_mul_right _ hle
    have b : P / D * D ≤ P := Nat.div_mul_le_self _ _
    omega
  have h2 : l = P / D + 1 := by omega
  refine ⟨h2, ?_⟩
  have h3 := Nat.div_add_mod P D
  have h4 := Nat.mod_lt P hD
  subst h2
  have h5 : (P / D + 1) * D = D * (P / D) + D := by grind
  have h6 : R n ≤ R (n + 1) := R_le (by omega)
  have hc : c = 1 := by
    rcases Nat.lt_trichotomy c 1 with hc | hc | hc
    · have : c = 0 := by omega
      subst this
      omega
    · exact hc
    · exfalso
      have : 2 * R (n + 1) ≤ c * R (n + 1) := Nat.mul_le_mul_right _ (by omega)
      omega
  subst hc
  omega

/-- one digit of the quotient -/
theorem long_step {A D j : Nat} (hD : 0 < D) (hA : A < D * R (j + 1)) : A / R j / D < 4294967296 ∧ A = A / R j / D * (D * R j) + (A / R j % D * R j + A % R j) ∧ A / R j % D * R j + A % R j < D * R j := by
  refine ⟨?_, ?_, ?_⟩
  · rw [Nat.div_lt_iff_lt_mul hD, Nat.div_lt_iff_lt_mul (R_pos j)]
    rw [R_succ] at hA
    have : 4294967296 * D * R j = D * (4294967296 * R j) := by grind
    omega
  · have h1 := Nat.div_add_mod A (R j)
    have h2 := Nat.div_add_mod (A / R j) D
    generalize A / R j / D = q at *
    generalize A / R j % D = r at *
    generalize A % R j = m at *
    rw [← h2] at h1
    rw [← h1]
    grind
  · have h1 := Nat.mod_lt (A / R j) hD
    have h2 := mod_lt_R A j
    have h3 : (A / R j % D + 1) * R j ≤ D * R j := Nat.mul_le_mul_right _ h1
    rw [Nat.add_mul, Nat.one_mul] at h3
    omega
end Tw
/- Fractions in lowest terms. -/
namespace Tw
open Nat (Coprime)

theorem num_den_of {p p' : Int} {q q' : Nat} (hq : q ≠ 0) (hq' : q' ≠ 0) (hc : p.natAbs.Coprime q) (h : p * (q' : Int) = p' * (q : Int)) : (Rat.normalize p' q' hq').num = p ∧ (Rat.normalize p' q' hq').den = q := by
  have e : (⟨p, q, hq, hc⟩ : Rat) = Rat.normalize p' q' hq' := by
    rw [Rat.mk_eq_normalize, Rat.normalize_eq_iff]; exact h
  exact ⟨by rw [← e], by rw [← e]⟩

/-- a number with a sign -/
def sg (neg : Bool) (n : Nat) : Int := if neg then -(n : Int) else n
theorem sg_natAbs (neg : Bool) (n : Nat) : (sg neg n).natAbs = n := by unfold sg; cases neg <;> simp
theorem sg_zero (neg : Bool) : sg neg 0 = 0 := by unfold sg; cases neg <;> simp

/-- a product, cancelled first -/
theorem mul_red {n1 d1 n2 d2 : Nat} (h1 : n1.Coprime d1) (h2 : n2.Coprime d2) (hd1 : 0 < d1) (hd2 : 0 < d2) :
    (n1 / n1.gcd d2 * (n2 / n2.gcd d1)).Coprime (d1 / n2.gcd d1 * (d2 / n1.gcd d2)) ∧
    0 < d1 / n2.gcd d1 * (d2 / n1.gcd d2) ∧
    n1 / n1.gcd d2 * (n2 / n2.gcd d1) * (d1 * d2) = n1 * n2 * (d1 / n2.gcd d1 * (d2 / n1.gcd d2)) := by
  have ha : 0 < n1.gcd d2 := Nat.gcd_pos_of_pos_right _ hd2
  have hb : 0 < n2.gcd d1 := Nat.gcd_pos_of_pos_right _ hd1
  have ca := Nat.coprime_div_gcd_div_gcd ha
  have cb := Nat.coprime_div_gcd_div_gcd hb
  have a1 := Nat.div_mul_cancel (Nat.gcd_dvd_left n1 d2)
  have a2 := Nat.div_mul_cancel (Nat.gcd_dvd_right n1 d2)
  have b1 := Nat.div_mul_cancel (Nat.gcd_dvd_left n2 d1)
  have b2 := Nat.div_mul_cancel (Nat.gcd_dvd_right n2 d1)
  generalize n1.gcd d2 = a at *
  generalize n2.gcd d1 = b at *
  generalize n1 / a = x1 at *
  generalize d2 / a = y2 at *
  generalize n2 / b = x2 at *
  generalize d1 / b = y1 at *
  have c1 : x1.Coprime y1 := by rw [← a1, ← b2] at h1; exact (h1.coprime_dvd_left (Nat.dvd_mul_right _ _)).coprime_dvd_right (Nat.dvd_mul_right _ _)
  have c2 : x2.Coprime y2 := by rw [← b1, ← a2] at h2; exact (h2.coprime_dvd_left (Nat.dvd_mul_right _ _)).coprime_dvd_right (Nat.dvd_mul_right _ _)
  refine ⟨Nat.Coprime.mul_left (Nat.Coprime.mul_right c1 ca) (Nat.Coprime.mul_right cb c2), ?_, ?_⟩
  · have : 0 < y1 := by rcases Nat.eq_zero_or_pos y1 with e | e; (subst e; omega); exact e
    have : 0 < y2 := by rcases Nat.eq_zero_or_pos y2 with e | e; (subst e; omega); exact e
    exact Nat.mul_pos ‹_› ‹_›
  · rw [← a1, ← a2, ← b1, ← b2]; grind

/-- a sum over what the denominators have in common -/
theorem add_red {p1 p2 s : Int} {d1 d2 : Nat} (h1 : p1.natAbs.Coprime d1) (h2 : p2.natAbs.Coprime d2) (hd1 : 0 < d1) (hd2 : 0 < d2)
    (hs : s = p1 * ((d2 / d1.gcd d2 : Nat) : Int) + p2 * ((d1 / d1.gcd d2 : Nat) : Int)) (l : Nat) (hl : l = s.natAbs.gcd (d1.gcd d2)) :
    (s.natAbs / l).Coprime (d1 / d1.gcd d2 * (d2 / l)) ∧ 0 < d1 / d1.gcd d2 * (d2 / l) ∧
    s * ((d1 * d2 : Nat) : Int) = (p1 * d2 + p2 * d1) * ((d1 / d1.gcd d2 * d2 : Nat) : Int) ∧ 0 < l ∧ l ∣ s.natAbs ∧ l ∣ d2 := by
  have hc : 0 < d1.gcd d2 := Nat.gcd_pos_of_pos_right _ hd2
  have ce := Nat.coprime_div_gcd_div_gcd hc
  have e1 := Nat.div_mul_cancel (Nat.gcd_dvd_left d1 d2)
  have e2 := Nat.div_mul_cancel (Nat.gcd_dvd_right d1 d2)
  generalize d1.gcd d2 = c at *
  generalize d1 / c = x1 at *
  generalize d2 / c = x2 at *
  have hlpos : 0 < l := by rw [hl]; exact Nat.gcd_pos_of_pos_right _ hc
  have cl := Nat.coprime_div_gcd_div_gcd (m := s.natAbs) (n := c) (by rw [← hl]; exact hlpos)
  rw [← hl] at cl
  have hlc : l ∣ c := by rw [hl]; exact Nat.gcd_dvd_right _ _
  have hls : l ∣ s.natAbs := by rw [hl]; exact Nat.gcd_dvd_left _ _
  have k1 : s.natAbs.Coprime x1 := by
    have g1 : (s.natAbs.gcd x1 : Nat) ∣ s.natAbs := Nat.gcd_dvd_left _ _
    have g2 : (s.natAbs.gcd x1 : Nat) ∣ x1 := Nat.gcd_dvd_right _ _
    show s.natAbs.gcd x1 = 1
    generalize s.natAbs.gcd x1 = g at *
    have i1 : (g : Int) ∣ s := Int.ofNat_dvd_left.2 g1
    have i2 : (g : Int) ∣ p2 * (x1 : Int) := Int.dvd_mul_of_dvd_right (Int.natCast_dvd_natCast.2 g2)
    have i3 : (g : Int) ∣ p1 * (x2 : Int) := by
      have := Int.dvd_sub i1 i2
      rw [hs] at this
      rwa [Int.add_sub_cancel] at this
    have i4 : g ∣ p1.natAbs * x2 := by
      have := Int.ofNat_dvd_left.1 i3
      rwa [Int.natAbs_mul, Int.natAbs_natCast] at this
    have i5 : g ∣ p1.natAbs := (ce.coprime_dvd_left g2).dvd_of_dvd_mul_right i4
    have i6 : g ∣ d1 := Nat.dvd_trans g2 ⟨c, e1.symm⟩
    have := Nat.dvd_gcd i5 i6
    rw [show p1.natAbs.gcd d1 = 1 from h1] at this
    exact Nat.dvd_one.1 this
  have k2 : s.natAbs.Coprime x2 := by
    have g1 : (s.natAbs.gcd x2 : Nat) ∣ s.natAbs := Nat.gcd_dvd_left _ _
    have g2 : (s.natAbs.gcd x2 : Nat) ∣ x2 := Nat.gcd_dvd_right _ _
    show s.natAbs.gcd x2 = 1
    generalize s.natAbs.gcd x2 = g at *
    have i1 : (g : Int) ∣ s := Int.ofNat_dvd_left.2 g1
    have i2 : (g : Int) ∣ p1 * (x2 : Int) := Int.dvd_mul_of_dvd_right (Int.natCast_dvd_natCast.2 g2)
    have i3 : (g : Int) ∣ p2 * (x1 : Int) := by
      have := Int.dvd_sub i1 i2
      rw [hs, Int.add_comm] at this
      rwa [Int.add_sub_cancel] at this
    have i4 : g ∣ p2.natAbs * x1 := by
      have := Int.ofNat_dvd_left.1 i3
      rwa [Int.natAbs_mul, Int.natAbs_natCast] at this
    have i5 : g ∣ p2.natAbs := (ce.symm.coprime_dvd_left g2).dvd_of_dvd_mul_right i4
    have i6 : g ∣ d2 := Nat.dvd_trans g2 ⟨c, e2.symm⟩
    have := Nat.dvd_gcd i5 i6
    rw [show p2.natAbs.gcd d2 = 1 from h2] at this
    exact Nat.dvd_one.1 this
  have hld2 : l ∣ d2 := Nat.dvd_trans hlc ⟨x2, by rw [← e2, Nat.mul_comm]⟩
  have e3 : d2 / l = x2 * (c / l) := by rw [← e2, Nat.mul_div_assoc _ hlc]
  have hn : s.natAbs / l ∣ s.natAbs := Nat.div_dvd_of_dvd hls
  refine ⟨?_, ?_, ?_, hlpos, hls, hld2⟩
  · rw [e3]
    exact Nat.Coprime.mul_right (k1.coprime_dvd_left hn) (Nat.Coprime.mul_right (k2.coprime_dvd_left hn) cl)
  · have a : 0 < x1 := by rcases Nat.eq_zero_or_pos x1 with e | e; (subst e; omega); exact e
    have b : 0 < d2 / l := Nat.div_pos (Nat.le_of_dvd hd2 hld2) hlpos
    exact Nat.mul_pos a b
  · rw [hs, ← e1, ← e2]
    simp only [Int.natCast_mul]
    grind
end Tw
/- Sums and products of fractions, as the fractions of Lean's own. -/
namespace Tw
open Nat (Coprime)

theorem add_rat (x y : Rat) (s : Int) (hs : s = x.num * ((y.den / x.den.gcd y.den : Nat) : Int) + y.num * ((x.den / x.den.gcd y.den : Nat) : Int)) (l : Nat) (hl : l = s.natAbs.gcd (x.den.gcd y.den)) :
    (x + y).num.natAbs = s.natAbs / l ∧ (x + y).den = x.den / x.den.gcd y.den * (y.den / l) ∧ ((x + y).num < 0 ↔ s < 0) ∧ ((x + y).num = 0 ↔ s = 0) := by
  obtain ⟨hc, hpos, he, hl0, hls, hld⟩ := add_red x.reduced y.reduced x.den_pos y.den_pos hs l hl
  have hd : x.den * y.den ≠ 0 := Nat.ne_of_gt (Nat.mul_pos x.den_pos y.den_pos)
  have hsl : (l : Int) ∣ s := Int.ofNat_dvd_left.2 hls
  have hdl : x.den / x.den.gcd y.den * y.den = x.den / x.den.gcd y.den * (y.den / l) * l := by
    rw [Nat.mul_assoc, Nat.div_mul_cancel hld]
  obtain ⟨p, hp⟩ := hsl
  have hpn : p.natAbs = s.natAbs / l := by
    rw [hp, Int.natAbs_mul, Int.natAbs_natCast, Nat.mul_div_cancel_left _ hl0]
  have hx : p * ((x.den * y.den : Nat) : Int) = (x.num * y.den + y.num * x.den) * ((x.den / x.den.gcd y.den * (y.den / l) : Nat) : Int) := by
    rw [hdl] at he
    have : (l : Int) ≠ 0 := by omega
    apply Int.eq_of_mul_eq_mul_left this
    rw [← Int.mul_assoc, ← hp, he, Int.natCast_mul _ l]
    generalize ((x.den / x.den.gcd y.den * (y.den / l) : Nat) : Int) = q
    grind
  obtain ⟨e1, e2⟩ := num_den_of (p := p) (q := x.den / x.den.gcd y.den * (y.den / l)) (Nat.ne_of_gt hpos) hd (by rw [hpn]; exact hc) hx
  rw [← Rat.add_def] at e1 e2
  refine ⟨by rw [e1, hpn], e2, ?_, ?_⟩
  · rw [e1, hp]
    constructor
    · intro h; exact Int.mul_neg_of_pos_of_neg (by omega) h
    · intro h
      rcases Int.lt_or_le p 0 with h1 | h1
      · exact h1
      · have := Int.mul_nonneg (a := (l : Int)) (by omega) h1; omega
  · rw [e1, hp]
    constructor
    · intro h; rw [h, Int.mul_zero]
    · intro h
      rcases Int.mul_eq_zero.1 h with h | h
      · omega
      · exact h

theorem mul_rat (x y : Rat) :
    (x * y).num.natAbs = x.num.natAbs / x.num.natAbs.gcd y.den * (y.num.natAbs / y.num.natAbs.gcd x.den) ∧
    (x * y).den = x.den / y.num.natAbs.gcd x.den * (y.den / x.num.natAbs.gcd y.den) ∧
    ((x * y).num < 0 ↔ x.num * y.num < 0) ∧ ((x * y).num = 0 ↔ x.num * y.num = 0) := by
  obtain ⟨hc, hpos, he⟩ := mul_red x.reduced y.reduced x.den_pos y.den_pos
  have hd : x.den * y.den ≠ 0 := Nat.ne_of_gt (Nat.mul_pos x.den_pos y.den_pos)
  generalize hN : x.num.natAbs / x.num.natAbs.gcd y.den * (y.num.natAbs / y.num.natAbs.gcd x.den) = N at *
  generalize hD : x.den / y.num.natAbs.gcd x.den * (y.den / x.num.natAbs.gcd y.den) = D at *
  have hdpos : 0 < x.den * y.den := Nat.mul_pos x.den_pos y.den_pos
  have hx : (x.num * y.num).sign * (N : Int) * ((x.den * y.den : Nat) : Int) = (x.num * y.num) * (D : Int) := by
    have h1 : x.num * y.num = (x.num * y.num).sign * ((x.num.natAbs * y.num.natAbs : Nat) : Int) := by
      rw [← Int.natAbs_mul]; exact (Int.sign_mul_natAbs _).symm
    rw [Int.mul_assoc, ← Int.natCast_mul, he]
    conv => rhs; rw [h1]
    rw [Int.natCast_mul _ D, Int.mul_assoc]
  have hab : ((x.num * y.num).sign * (N : Int)).natAbs = N := by
    rw [Int.natAbs_mul, Int.natAbs_natCast]
    by_cases h0 : x.num * y.num = 0
    · rw [h0] at hx ⊢
      have : N = 0 := by
        have h2 : x.num.natAbs * y.num.natAbs = 0 := by rw [← Int.natAbs_mul, h0]; rfl
        rw [h2, Nat.zero_mul] at he
        rcases Nat.mul_eq_zero.1 he with h | h
        · exact h
        · omega
      subst this; simp
    · rw [Int.natAbs_sign_of_ne_zero h0, Nat.one_mul]
  obtain ⟨e1, e2⟩ := num_den_of (p := (x.num * y.num).sign * (N : Int)) (q := D) (Nat.ne_of_gt hpos) hd (by rw [hab]; exact hc) hx
  rw [← Rat.mul_def] at e1 e2
  have hN0 : x.num * y.num ≠ 0 → 0 < N := by
    intro h0
    rcases Nat.eq_zero_or_pos N with h | h
    · exfalso
      rw [h, Nat.zero_mul] at he
      have h2 : x.num.natAbs * y.num.natAbs = 0 := by
        rcases Nat.mul_eq_zero.1 he.symm with h | h
        · exact h
        · omega
      rw [← Int.natAbs_mul] at h2
      exact h0 (Int.natAbs_eq_zero.1 h2)
    · exact h
  refine ⟨by rw [e1, hab], e2, ?_, ?_⟩
  · rw [e1]
    rcases Int.lt_trichotomy (x.num * y.num) 0 with h | h | h
    · have := hN0 (by omega)
      rw [Int.sign_eq_neg_one_of_neg h]; omega
    · rw [h]; simp
    · have := hN0 (by omega)
      rw [Int.sign_eq_one_of_pos h]; omega
  · rw [e1]
    rcases Int.lt_trichotomy (x.num * y.num) 0 with h | h | h
    · have := hN0 (by omega)
      rw [Int.sign_eq_neg_one_of_neg h]; omega
    · rw [h]; simp
    · have := hN0 (by omega)
      rw [Int.sign_eq_one_of_pos h]; omega
end Tw
