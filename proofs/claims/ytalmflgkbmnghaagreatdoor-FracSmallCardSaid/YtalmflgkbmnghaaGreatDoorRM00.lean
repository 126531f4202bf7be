import Derived.OrdersHeld
import Derived.Below
import Derived.Laws.Rows
import Derived.WalkKit
import Derived.Laws.CopyRow
import Derived.Laws.CopyOwn
import Derived.RegionTactic
import Derived.Test.YtalmflgkbmnghaaGreatDoorProg
import Derived.WalkSpells
import Derived.WalkLawsBesides
import Derived.Handy
import Derived.Lib.Hide
import Derived.Deep.QuietTactic
import Derived.BigQuiet
import Derived.Deep.OwnRows
import Derived.Laws.BitsAllLaws
import Derived.Deep.RegionLaw
import Derived.ChangeKeysEq
import Derived.Laws.StructEq
import Derived.Lib.Repeat
import Derived.Lib.ItoaNum
import Derived.Deep.Cut
import Derived.Lib.LaidTab
import Derived.Lib.IndexMore
import Derived.Lib.Strings
import Derived.Outline
import Derived.Deep.RegionWith
import Derived.Maps.RangeWalk
import Derived.ProofKit
import Derived.OpenShut
import Derived.LaidMore
import Derived.SizedLaws
import Derived.Shelf.Vars
import Derived.Stop.Joined
import Derived.SevenTiedAt
import Derived.Shelf.Strings.Builder1
import Derived.Shelf.Strings.Builder2
import Derived.Shelf.Small.Bits
import Derived.Shelf.Small.Wraps
import Derived.Shelf.Strings.BuilderF
import Derived.Shelf.Strings.BuilderK
import Derived.Shelf.Strings.Builder2Cap
import Derived.Shelf.Strconv.Itoa0
import Derived.Shelf.Strconv.Itoa1
import Derived.Shelf.LaysM
import Derived.Shelf.Strconv.Itoa2
import Derived.Shelf.Strconv.Itoa3
import Derived.Shelf.Strings.Search1
import Derived.Shelf.Strings.Search2
import Derived.Shelf.Strings.Cut
import Derived.Shelf.Strings.Shaped
import Derived.Shelf.Strings.Prefix
import Derived.Shelf.Bits.Mul64
import Derived.Shelf.Strings.Repeat
import Derived.Shelf.Strings.BuilderCap
import Derived.ChangeMaps5
import Derived.Deep.Strs
import Derived.Laws.AppendOwn
import Derived.Laws.BytesArg
import Derived.Laws.IdiomStrings
import Derived.Lib.FrozenHead
import Derived.Deep.Upon
import Derived.Laws.OwnMore
import Derived.Laws.Small
import Derived.Laws.RangeAny
/- Part of the proof: Ma, Mb, Mc, Md, Me, Rg, Ba, Ar, As, Yb. -/
set_option linter.unusedVariables false
set_option linter.unusedSimpArgs false
set_option linter.unusedSectionVars false
namespace Tw
open Go Go.RowKit
theorem kr {p : Prop} (h : p := by kernel_rfl) : p := h
theorem om {p : Prop} (h : p := by omega) : p := h
theorem pu {p : Prop} (h : p := by simp only [List.setIfInBounds_toArray, List.set_cons_succ, List.set_cons_zero] <;> rfl) : p := h
theorem nee {p : Prop} (h : p := by first | assumption | exact Ne.symm (by assumption)) : p := h
theorem sb {T K : List (Nat × Obj)} (h : ∀ q ∈ T, q ∈ K := by intro q hq; first | exact hq | (simp only [List.mem_cons, List.mem_append, List.nil_append, List.not_mem_nil, or_assoc, or_false, false_or, List.cons_append, List.append_assoc] at hq ⊢ <;> grind)) : ∀ q ∈ T, q ∈ K := h
theorem kf {α : Type} {p : α → Prop} (h : ∀ x, p x := by intro _; kernel_rfl) : ∀ x, p x := h
theorem pf {α : Type} {p : α → Prop} (h : ∀ x, p x := by intro _; simp only [List.setIfInBounds_toArray, List.set_cons_succ, List.set_cons_zero] <;> rfl) : ∀ x, p x := h
theorem sc {T K : List (Nat × Obj)} (h : ∀ p ∈ T, p ∈ K := by intro p hp; simp only [List.mem_cons, List.mem_append, List.nil_append, List.not_mem_nil, or_assoc, or_false, false_or, hp, or_true, true_or]) : ∀ p ∈ T, p ∈ K := h
section
variable {α : Type} {a b c d e f g : α} {l : List α}
theorem m0 : a ∈ a :: l := .head _
theorem m1 : a ∈ b :: a :: l := .tail _ m0
theorem m2 : a ∈ b :: c :: a :: l := .tail _ m1
theorem m3 : a ∈ b :: c :: d :: a :: l := .tail _ m2
theorem m4 : a ∈ b :: c :: d :: e :: a :: l := .tail _ m3
theorem m5 : a ∈ b :: c :: d :: e :: f :: a :: l := .tail _ m4
end
end Tw
/- Plain arithmetic on digits to the base 2^32: nothing of the program. -/
namespace Tf

def R (k : Nat) : Nat := 4294967296 ^ k
theorem R_zero : R 0 = 1 := rfl
theorem R_succ (k : Nat) : R (k + 1) = 4294967296 * R k := by unfold R; rw [Nat.pow_succ, Nat.mul_comm]
theorem R_pos (k : Nat) : 0 < R k := Nat.pow_pos Tw.om
theorem R_add (j k : Nat) : R (j + k) = R j * R k := Nat.pow_add _ _ _
theorem R_le {j k : Nat} (h : j ≤ k) : R j ≤ R k := Nat.pow_le_pow_right Tw.om h

def dg (x i : Nat) : Nat := x / R i % 4294967296
theorem dg_lt (x i : Nat) : dg x i < 4294967296 := Nat.mod_lt _ Tw.om
theorem dg_zero (x : Nat) : dg x 0 = x % 4294967296 := by simp [dg, R_zero]
theorem dg_of_lt {x k : Nat} (h : x < R k) : dg x k = 0 := by simp [dg, Nat.div_eq_of_lt h]
theorem dg_of_lt' {x k i : Nat} (h : x < R k) (hi : k ≤ i) : dg x i = 0 := dg_of_lt (Nat.lt_of_lt_of_le h (R_le hi))

theorem dg_split (x k : Nat) : x = x / R (k + 1) * R (k + 1) + dg x k * R k + x % R k := by
 have h1 := Nat.div_add_mod x (R k)
 have h2 := Nat.div_add_mod (x / R k) 4294967296
 rw [Nat.div_div_eq_div_mul, Nat.mul_comm (R k), ← R_succ] at h2
 unfold dg
 generalize x / R k % 4294967296 = d at *
 generalize x / R (k + 1) = q at *
 rw [← h2] at h1
 rw [R_succ]
 generalize x % R k = r at *
 generalize R k = p at *
 have : p * (4294967296 * q + d) = q * (4294967296 * p) + d * p := by grind
 omega

theorem mod_succ (x k : Nat) : x % R (k + 1) = x % R k + dg x k * R k := by
 have h := dg_split x k
 have h1 := Nat.div_add_mod x (R (k + 1))
 have : R (k + 1) * (x / R (k + 1)) = x / R (k + 1) * R (k + 1) := Nat.mul_comm _ _
 omega

theorem div_succ (x k : Nat) : x / R k = x / R (k + 1) * 4294967296 + dg x k := by
 have h2 := Nat.div_add_mod (x / R k) 4294967296
 rw [Nat.div_div_eq_div_mul, Nat.mul_comm (R k), ← R_succ] at h2
 unfold dg; omega

theorem mod_lt_R (x k : Nat) : x % R k < R k := Nat.mod_lt _ (R_pos k)

def setd (x k v : Nat) : Nat := x / R (k + 1) * R (k + 1) + v * R k + x % R k

theorem setd_eq (x k v : Nat) : setd x k v + dg x k * R k = x + v * R k := by
 have h := dg_split x k
 unfold setd; omega

theorem setd_div (x k v : Nat) (hv : v < 4294967296) : setd x k v / R (k + 1) = x / R (k + 1) := by
 unfold setd
 have h1 := mod_lt_R x k
 have h2 := R_succ k
 have h3 : (v + 1) * R k ≤ 4294967296 * R k := Nat.mul_le_mul_right _ Tw.om
 have h4 : (v + 1) * R k = v * R k + R k := by rw [Nat.add_mul, Nat.one_mul]
 have h5 : v * R k + x % R k < R (k + 1) := by omega
 rw [Nat.add_assoc, Nat.mul_comm, Nat.mul_add_div (R_pos _), Nat.div_eq_of_lt h5, Nat.add_zero]

theorem setd_mod (x k v : Nat) : setd x k v % R k = x % R k := by
 unfold setd
 rw [R_succ]
 have : x / (4294967296 * R k) * (4294967296 * R k) + v * R k + x % R k = R k * (x / (4294967296 * R k) * 4294967296 + v) + x % R k := by
   generalize x / (4294967296 * R k) = q
   generalize x % R k = r
   generalize R k = p
   grind
 rw [this, Nat.mul_add_mod, Nat.mod_mod]

theorem dg_setd_same (x k v : Nat) (hv : v < 4294967296) : dg (setd x k v) k = v := by
 have h := dg_split (setd x k v) k
 rw [setd_div x k v hv, setd_mod] at h
 have h2 : setd x k v = x / R (k + 1) * R (k + 1) + v * R k + x % R k := rfl
 have h3 : dg (setd x k v) k * R k = v * R k := by omega
 exact Nat.eq_of_mul_eq_mul_right (R_pos k) h3

theorem dg_mod {x k i : Nat} (h : i < k) : dg (x % R k) i = dg x i := by
 unfold dg
 obtain ⟨j, rfl⟩ : ∃ j, k = i + (j + 1) := ⟨k - i - 1, by omega⟩
 rw [R_add, Nat.mod_mul_right_div_self, R_succ, Nat.mod_mod_of_dvd _ (Nat.dvd_mul_right _ _)]

theorem dg_div (x k i : Nat) : dg (x / R k) i = dg x (k + i) := by
 unfold dg
 rw [Nat.div_div_eq_div_mul, R_add]

theorem dg_setd_other (x k v i : Nat) (hv : v < 4294967296) (h : i ≠ k) : dg (setd x k v) i = dg x i := by
 rcases Nat.lt_or_gt_of_ne h with h | h
 · rw [← dg_mod h, setd_mod, dg_mod h]
 · obtain ⟨j, rfl⟩ : ∃ j, i = (k + 1) + j := ⟨i - (k + 1), by omega⟩
   rw [← dg_div, setd_div x k v hv, dg_div]

theorem setd_lt {x k v n : Nat} (hx : x < R n) (hk : k < n) (hv : v < 4294967296) : setd x k v < R n := by
 have h : setd x k v / R (k + 1) = x / R (k + 1) := setd_div x k v hv
 obtain ⟨j, rfl⟩ : ∃ j, n = (k + 1) + j := ⟨n - (k + 1), by omega⟩
 rw [R_add (k + 1) j, Nat.mul_comm] at *
 exact (Nat.div_lt_iff_lt_mul (R_pos _)).1 (by rw [h]; exact (Nat.div_lt_iff_lt_mul (R_pos _)).2 hx)

theorem eq_of_dg : ∀ {n x y : Nat}, x < R n → y < R n → (∀ i, i < n → dg x i = dg y i) → x = y
 | 0, x, y, hx, hy, _ => by rw [R_zero] at hx hy; omega
 | n + 1, x, y, hx, hy, h => by
   have h0 := h n Tw.om
   have hm : x % R n = y % R n := eq_of_dg (mod_lt_R _ _) (mod_lt_R _ _) (fun i hi => by rw [dg_mod hi, dg_mod hi]; exact h i Tw.om)
   have hx' := dg_split x n
   have hy' := dg_split y n
   rw [Nat.div_eq_of_lt hx] at hx'
   rw [Nat.div_eq_of_lt hy] at hy'
   rw [h0, hm] at hx'
   omega

def va (f : Nat → Nat) : Nat → Nat
 | 0 => 0
 | n + 1 => va f n + f n * R n
theorem va_lt (f : Nat → Nat) (h : ∀ i, f i < 4294967296) : ∀ n, va f n < R n
 | 0 => by simp [va, R_zero]
 | n + 1 => by
   have := va_lt f h n
   have h1 : (f n + 1) * R n ≤ 4294967296 * R n := Nat.mul_le_mul_right _ (h n)
   rw [Nat.add_mul, Nat.one_mul] at h1
   rw [va, R_succ]; omega
theorem va_dg (x : Nat) : ∀ n, va (dg x) n = x % R n
 | 0 => by simp [va, R_zero, Nat.mod_one]
 | n + 1 => by rw [va, va_dg x n, mod_succ]
theorem dg_va (f : Nat → Nat) (h : ∀ i, f i < 4294967296) : ∀ n i, i < n → dg (va f n) i = f i
 | 0, i, hi => absurd hi Tw.om
 | n + 1, i, hi => by
   have hl := va_lt f h n
   have e : va f (n + 1) = R n * f n + va f n := by rw [va, Nat.mul_comm]; omega
   by_cases hin : i = n
   · subst hin
     unfold dg
     rw [e, Nat.mul_add_div (R_pos _), Nat.div_eq_of_lt hl, Nat.add_zero, Nat.mod_eq_of_lt (h _)]
   · rw [← dg_mod (k := n) Tw.om, e, Nat.mul_add_mod, Nat.mod_eq_of_lt hl]
     exact dg_va f h n i Tw.om
attribute [irreducible] R dg setd va
end Tf
/- Steps of sums, differences and products, digit by digit. -/
namespace Tf

theorem plus_step {P a b c k v c' : Nat} (inv : P + c * R k = a + b % R k) (hv : v + c' * 4294967296 = dg P k + dg b k + c) :
   setd P k v + c' * R (k + 1) = a + b % R (k + 1) := by
 have h1 := setd_eq P k v
 rw [mod_succ, R_succ]
 have e : (v + c' * 4294967296) * R k = (dg P k + dg b k + c) * R k := by rw [hv]
 have e1 : (v + c' * 4294967296) * R k = v * R k + c' * (4294967296 * R k) := by grind
 have e2 : (dg P k + dg b k + c) * R k = dg P k * R k + dg b k * R k + c * R k := by grind
 omega

theorem minus_step {P a b c k v c' : Nat} (inv : P + b % R k = a + c * R k) (hv : v + dg b k + c = dg P k + c' * 4294967296) :
   setd P k v + b % R (k + 1) = a + c' * R (k + 1) := by
 have h1 := setd_eq P k v
 rw [mod_succ, R_succ]
 have e : (v + dg b k + c) * R k = (dg P k + c' * 4294967296) * R k := by rw [hv]
 have e1 : (dg P k + c' * 4294967296) * R k = dg P k * R k + c' * (4294967296 * R k) := by grind
 have e2 : (v + dg b k + c) * R k = v * R k + dg b k * R k + c * R k := by grind
 omega

theorem times_step {P M x y c i j v c' : Nat} (inv : P + c * R (i + j) = M + x * (y % R j) * R i) (hv : v + c' * 4294967296 = x * dg y j + dg P (i + j) + c) :
   setd P (i + j) v + c' * R (i + (j + 1)) = M + x * (y % R (j + 1)) * R i := by
 have h1 := setd_eq P (i + j) v
 rw [mod_succ]
 have hR : R (i + (j + 1)) = 4294967296 * R (i + j) := R_succ (i + j)
 have hA : R (i + j) = R i * R j := R_add i j
 have e : (v + c' * 4294967296) * R (i + j) = (x * dg y j + dg P (i + j) + c) * R (i + j) := by rw [hv]
 have e1 : (v + c' * 4294967296) * R (i + j) = v * R (i + j) + c' * (4294967296 * R (i + j)) := by grind
 have e2 : (x * dg y j + dg P (i + j) + c) * R (i + j) = x * dg y j * R (i + j) + dg P (i + j) * R (i + j) + c * R (i + j) := by grind
 have e3 : x * (y % R j + dg y j * R j) * R i = x * (y % R j) * R i + x * dg y j * R (i + j) := by rw [hA]; grind
 rw [hR, e3]
 omega

theorem fits64 {x y d c : Nat} (hx : x < 4294967296) (hy : y < 4294967296) (hd : d < 4294967296) (hc : c < 4294967296) : x * y + d + c < 18446744073709551616 := by
 have h : x * y ≤ 4294967295 * 4294967295 := Nat.mul_le_mul Tw.om Tw.om
 omega

theorem scale_step {P a x c k v c' M : Nat} (inv : P + c * R k = (a % R k) * x + M + a / R k * R k) (hd : dg P k = dg a k) (hv : v + c' * 4294967296 = dg P k * x + c) :
   setd P k v + c' * R (k + 1) = (a % R (k + 1)) * x + M + a / R (k + 1) * R (k + 1) := by
 have h1 := setd_eq P k v
 have e0 : a / R k * R k = a / R (k + 1) * R (k + 1) + dg a k * R k := by
   rw [div_succ a k, R_succ]; generalize a / R (k+1) = q; generalize dg a k = d; grind
 rw [mod_succ, R_succ]
 rw [e0, R_succ] at inv
 rw [hd] at h1 hv
 have e : (v + c' * 4294967296) * R k = (dg a k * x + c) * R k := by rw [hv]
 have e1 : (v + c' * 4294967296) * R k = v * R k + c' * (4294967296 * R k) := by grind
 have e2 : (dg a k * x + c) * R k = dg a k * R k * x + c * R k := by grind
 have e3 : (a % R k + dg a k * R k) * x = a % R k * x + dg a k * R k * x := by grind
 generalize a / (4294967296 * R k) * (4294967296 * R k) = z at *
 omega

theorem short_step {P a x r k v r' : Nat} (inv : a = P / R (k + 1) * R (k + 1) * x + r * R (k + 1) + a % R (k + 1)) (hv : v * x + r' = r * 4294967296 + dg a k) (hv' : v < 4294967296) :
   a = setd P k v / R k * R k * x + r' * R k + a % R k := by
 have hd : dg (setd P k v) k = v := dg_setd_same _ _ _ hv'
 have h2 : setd P k v / R k = P / R (k + 1) * 4294967296 + v := by
   rw [div_succ, setd_div _ _ _ hv', hd]
 rw [h2]
 have hm := mod_succ a k
 have hR := R_succ k
 generalize P / R (k + 1) = q at *
 have e : (v * x + r') * R k = (r * 4294967296 + dg a k) * R k := by rw [hv]
 have e1 : (v * x + r') * R k = v * R k * x + r' * R k := by grind
 have e2 : (r * 4294967296 + dg a k) * R k = r * R (k + 1) + dg a k * R k := by grind
 have e3 : (q * 4294967296 + v) * R k * x = q * R (k + 1) * x + v * R k * x := by grind
 omega
end Tf
/- Long division, digit by digit. -/
namespace Tf

theorem div_two {x k : Nat} (h : x < R (k + 2)) : x / R k = dg x (k + 1) * 4294967296 + dg x k := by
 have h0 : x / R (k + 1 + 1) = 0 := Nat.div_eq_of_lt h
 rw [div_succ x k, div_succ x (k + 1), h0, Nat.zero_mul, Nat.zero_add]
theorem div_one {x k : Nat} (h : x < R (k + 1)) : x / R k = dg x k := by
 rw [div_succ x k, Nat.div_eq_of_lt h, Nat.zero_mul, Nat.zero_add]
theorem div_three {x k : Nat} (h : x < R (k + 3)) : x / R k = (dg x (k + 2) * 4294967296 + dg x (k + 1)) * 4294967296 + dg x k := by
 rw [div_succ x k, div_two (k := k + 1) h]

theorem guess_first {P D k : Nat} (hf : 0 < D / R k) : P / D ≤ P / R k / (D / R k) := by
 rw [Nat.le_div_iff_mul_le hf, Nat.le_div_iff_mul_le (R_pos k), Nat.mul_assoc]
 have h1 : D / R k * R k ≤ D := Nat.div_mul_le_self _ _
 have h2 : P / D * (D / R k * R k) ≤ P / D * D := Nat.mul_le_mul_left _ h1
 have h3 : P / D * D ≤ P := Nat.div_mul_le_self _ _
 omega
theorem guess_more {P D k l : Nat} (h : P / R k < l * (D / R k)) : P / D < l := by
 rcases Nat.lt_or_ge (P / D) l with h1 | h1
 · exact h1
 · exfalso
   have h2 : l * D ≤ P := by
     have a : l * D ≤ P / D * D := Nat.mul_le_mul_right _ h1
     have b : P / D * D ≤ P := Nat.div_mul_le_self _ _
     omega
   have h3 : l * (D / R k) ≤ P / R k := by
     rw [Nat.le_div_iff_mul_le (R_pos k), Nat.mul_assoc]
     have a : D / R k * R k ≤ D := Nat.div_mul_le_self _ _
     have b : l * (D / R k * R k) ≤ l * D := Nat.mul_le_mul_left _ a
     omega
   omega
theorem guess_most {P D k l : Nat} (hl : l < 4294967296) (hD : 4294967296 ≤ D / R k) (h : l * (D / R k) ≤ P / R k) : l ≤ P / D + 1 := by
 rcases Nat.lt_or_ge (P / D + 1) l with h1 | h1
 · exfalso
   have hl0 : 0 < l := Nat.lt_of_le_of_lt (Nat.zero_le _) h1
   obtain ⟨m, rfl⟩ : ∃ m, l = m + 1 := ⟨l - 1, by omega⟩
   have hpos : 0 < D := by
     rcases Nat.eq_zero_or_pos D with e | e
     · subst e; rw [Nat.zero_div] at hD; omega
     · exact e
   have h2 : P < m * D := by
     have a : P < (P / D + 1) * D := by
       have := Nat.lt_div_mul_add (a := P) hpos
       rw [Nat.add_mul, Nat.one_mul]; omega
     have b : (P / D + 1) * D ≤ m * D := Nat.mul_le_mul_right _ Tw.om
     omega
   have h3 : (m + 1) * (D / R k) * R k ≤ P := by
     have a : (m + 1) * (D / R k) * R k ≤ P / R k * R k := Nat.mul_le_mul_right _ h
     have b : P / R k * R k ≤ P := Nat.div_mul_le_self _ _
     omega
   have h4 : D < (D / R k + 1) * R k := by
     have := Nat.lt_div_mul_add (a := D) (R_pos k)
     rw [Nat.add_mul, Nat.one_mul]; omega
   have h5 : m * D ≤ m * ((D / R k + 1) * R k) := Nat.mul_le_mul_left _ (Nat.le_of_lt h4)
   have h6 : (m + 1) * (D / R k) * R k < m * ((D / R k + 1) * R k) := by omega
   rw [← Nat.mul_assoc] at h6
   have h7 := Nat.lt_of_mul_lt_mul_right h6
   generalize D / R k = e at *
   have h8 : (m + 1) * e = m * e + e := by grind
   have h9 : m * (e + 1) = m * e + m := by grind
   omega
 · exact h1
theorem guess_cond {l f s r u t e p : Nat} (h : l * f + r = t) (he : e = f * 4294967296 + s) (hp : p = t * 4294967296 + u) : (r * 4294967296 + u < l * s) ↔ (p < l * e) := by
 subst h he hp
 have h1 : (l * f + r) * 4294967296 + u = l * f * 4294967296 + (r * 4294967296 + u) := by omega
 have h2 : l * (f * 4294967296 + s) = l * f * 4294967296 + l * s := by grind
 omega

theorem sub_step {X P D l c b i p v c' b' : Nat} (inv : X + l * (D % R i) = P + (c + b) * R i) (hp : p + c' * 4294967296 = l * dg D i + c) (hv : v + p + b = dg X i + b' * 4294967296) :
   setd X i v + l * (D % R (i + 1)) = P + (c' + b') * R (i + 1) := by
 have h1 := setd_eq X i v
 rw [mod_succ, R_succ]
 have e : (v + p + b) * R i = (dg X i + b' * 4294967296) * R i := by rw [hv]
 have e1 : (v + p + b) * R i = v * R i + p * R i + b * R i := by grind
 have e2 : (dg X i + b' * 4294967296) * R i = dg X i * R i + b' * (4294967296 * R i) := by grind
 have f : (p + c' * 4294967296) * R i = (l * dg D i + c) * R i := by rw [hp]
 have f1 : (p + c' * 4294967296) * R i = p * R i + c' * (4294967296 * R i) := by grind
 have f2 : (l * dg D i + c) * R i = l * (dg D i * R i) + c * R i := by grind
 have g : l * (D % R i + dg D i * R i) = l * (D % R i) + l * (dg D i * R i) := by grind
 have g1 : (c' + b') * (4294967296 * R i) = c' * (4294967296 * R i) + b' * (4294967296 * R i) := by grind
 have g2 : (c + b) * R i = c * R i + b * R i := by grind
 omega
theorem sub_last {X P D l c b n v b' : Nat} (hD : D < R n) (inv : X + l * (D % R n) = P + (c + b) * R n) (hv : v + c + b = dg X n + b' * 4294967296) :
   setd X n v + l * D = P + b' * R (n + 1) := by
 rw [Nat.mod_eq_of_lt hD] at inv
 have h1 := setd_eq X n v
 rw [R_succ]
 have e : (v + c + b) * R n = (dg X n + b' * 4294967296) * R n := by rw [hv]
 have e1 : (v + c + b) * R n = v * R n + (c + b) * R n := by grind
 have e2 : (dg X n + b' * 4294967296) * R n = dg X n * R n + b' * (4294967296 * R n) := by grind
 omega
theorem sub_right {X P D l : Nat} (h : X + l * D = P) (hl : P / D ≤ l) (hD : 0 < D) : l = P / D ∧ X = P % D := by
 have h1 : l ≤ P / D := by rw [Nat.le_div_iff_mul_le hD]; omega
 have h2 : l = P / D := by omega
 refine ⟨h2, ?_⟩
 have h3 := Nat.div_add_mod P D
 rw [Nat.mul_comm, ← h2] at h3
 omega
theorem sub_wrong {X P D l n c Y : Nat} (hX : X < R (n + 1)) (h : X + l * D = P + 1 * R (n + 1)) (hl : l ≤ P / D + 1) (hD : 0 < D) (hDn : D < R n) (hY : Y + c * R (n + 1) = X + D) (hYl : Y < R (n + 1)) :
   l = P / D + 1 ∧ Y = P % D := by
 have h1 : ¬ l ≤ P / D := by
   intro hle
   have a : l * D ≤ P / D * D := Nat.mul_le_mul_right _ hle
   have b : P / D * D ≤ P := Nat.div_mul_le_self _ _
   omega
 have h2 : l = P / D + 1 := by omega
 refine ⟨h2, ?_⟩
 have h3 := Nat.div_add_mod P D
 have h4 := Nat.mod_lt P hD
 subst h2
 have h5 : (P / D + 1) * D = D * (P / D) + D := by grind
 have h6 : R n ≤ R (n + 1) := R_le Tw.om
 have hc : c = 1 := by
   rcases Nat.lt_trichotomy c 1 with hc | hc | hc
   · have : c = 0 := by omega
     subst this
     omega
   · exact hc
   · exfalso
     have : 2 * R (n + 1) ≤ c * R (n + 1) := Nat.mul_le_mul_right _ Tw.om
     omega
 subst hc
 omega

theorem long_step {A D j : Nat} (hD : 0 < D) (hA : A < D * R (j + 1)) : A / R j / D < 4294967296 ∧ A = A / R j / D * (D * R j) + (A / R j % D * R j + A % R j) ∧ A / R j % D * R j + A % R j < D * R j := by
 refine ⟨?_, ?_, ?_⟩
 · rw [Nat.div_lt_iff_lt_mul hD, Nat.div_lt_iff_lt_mul (R_pos j)]
   rw [R_succ] at hA
   have : 4294967296 * D * R j = D * (4294967296 * R j) := by grind
   omega
 · have h1 := Nat.div_add_mod A (R j)
   have h2 := Nat.div_add_mod (A / R j) D
   generalize A / R j / D = q at *
   generalize A / R j % D = r at *
   generalize A % R j = m at *
   rw [← h2] at h1
   rw [← h1]
   grind
 · have h1 := Nat.mod_lt (A / R j) hD
   have h2 := mod_lt_R A j
   have h3 : (A / R j % D + 1) * R j ≤ D * R j := Nat.mul_le_mul_right _ h1
   rw [Nat.add_mul, Nat.one_mul] at h3
   omega
end Tf
/- Fractions in lowest terms. -/
namespace Tf
open Nat (Coprime)

theorem num_den_of {p p' : Int} {q q' : Nat} (hq : q ≠ 0) (hq' : q' ≠ 0) (hc : p.natAbs.Coprime q) (h : p * (q' : Int) = p' * (q : Int)) : (Rat.normalize p' q' hq').num = p ∧ (Rat.normalize p' q' hq').den = q := by
 have e : (⟨p, q, hq, hc⟩ : Rat) = Rat.normalize p' q' hq' := by
   rw [Rat.mk_eq_normalize, Rat.normalize_eq_iff]; exact h
 exact ⟨by rw [← e], by rw [← e]⟩

def sg (neg : Bool) (n : Nat) : Int := if neg then -(n : Int) else n
theorem mul_red {n1 d1 n2 d2 : Nat} (h1 : n1.Coprime d1) (h2 : n2.Coprime d2) (hd1 : 0 < d1) (hd2 : 0 < d2) :
   (n1 / n1.gcd d2 * (n2 / n2.gcd d1)).Coprime (d1 / n2.gcd d1 * (d2 / n1.gcd d2)) ∧
   0 < d1 / n2.gcd d1 * (d2 / n1.gcd d2) ∧
   n1 / n1.gcd d2 * (n2 / n2.gcd d1) * (d1 * d2) = n1 * n2 * (d1 / n2.gcd d1 * (d2 / n1.gcd d2)) := by
 have ha : 0 < n1.gcd d2 := Nat.gcd_pos_of_pos_right _ hd2
 have hb : 0 < n2.gcd d1 := Nat.gcd_pos_of_pos_right _ hd1
 have ca := Nat.coprime_div_gcd_div_gcd ha
 have cb := Nat.coprime_div_gcd_div_gcd hb
 have a1 := Nat.div_mul_cancel (Nat.gcd_dvd_left n1 d2)
 have a2 := Nat.div_mul_cancel (Nat.gcd_dvd_right n1 d2)
 have b1 := Nat.div_mul_cancel (Nat.gcd_dvd_left n2 d1)
 have b2 := Nat.div_mul_cancel (Nat.gcd_dvd_right n2 d1)
 generalize n1.gcd d2 = a at *
 generalize n2.gcd d1 = b at *
 generalize n1 / a = x1 at *
 generalize d2 / a = y2 at *
 generalize n2 / b = x2 at *
 generalize d1 / b = y1 at *
 have c1 : x1.Coprime y1 := by rw [← a1, ← b2] at h1; exact (h1.coprime_dvd_left (Nat.dvd_mul_right _ _)).coprime_dvd_right (Nat.dvd_mul_right _ _)
 have c2 : x2.Coprime y2 := by rw [← b1, ← a2] at h2; exact (h2.coprime_dvd_left (Nat.dvd_mul_right _ _)).coprime_dvd_right (Nat.dvd_mul_right _ _)
 refine ⟨Nat.Coprime.mul_left (Nat.Coprime.mul_right c1 ca) (Nat.Coprime.mul_right cb c2), ?_, ?_⟩
 · have : 0 < y1 := by rcases Nat.eq_zero_or_pos y1 with e | e; (subst e; omega); exact e
   have : 0 < y2 := by rcases Nat.eq_zero_or_pos y2 with e | e; (subst e; omega); exact e
   exact Nat.mul_pos ‹_› ‹_›
 · rw [← a1, ← a2, ← b1, ← b2]; grind

theorem add_red {p1 p2 s : Int} {d1 d2 : Nat} (h1 : p1.natAbs.Coprime d1) (h2 : p2.natAbs.Coprime d2) (hd1 : 0 < d1) (hd2 : 0 < d2)
   (hs : s = p1 * ((d2 / d1.gcd d2 : Nat) : Int) + p2 * ((d1 / d1.gcd d2 : Nat) : Int)) (l : Nat) (hl : l = s.natAbs.gcd (d1.gcd d2)) :
   (s.natAbs / l).Coprime (d1 / d1.gcd d2 * (d2 / l)) ∧ 0 < d1 / d1.gcd d2 * (d2 / l) ∧
   s * ((d1 * d2 : Nat) : Int) = (p1 * d2 + p2 * d1) * ((d1 / d1.gcd d2 * d2 : Nat) : Int) ∧ 0 < l ∧ l ∣ s.natAbs ∧ l ∣ d2 := by
 have hc : 0 < d1.gcd d2 := Nat.gcd_pos_of_pos_right _ hd2
 have ce := Nat.coprime_div_gcd_div_gcd hc
 have e1 := Nat.div_mul_cancel (Nat.gcd_dvd_left d1 d2)
 have e2 := Nat.div_mul_cancel (Nat.gcd_dvd_right d1 d2)
 generalize d1.gcd d2 = c at *
 generalize d1 / c = x1 at *
 generalize d2 / c = x2 at *
 have hlpos : 0 < l := by rw [hl]; exact Nat.gcd_pos_of_pos_right _ hc
 have cl := Nat.coprime_div_gcd_div_gcd (m := s.natAbs) (n := c) (by rw [← hl]; exact hlpos)
 rw [← hl] at cl
 have hlc : l ∣ c := by rw [hl]; exact Nat.gcd_dvd_right _ _
 have hls : l ∣ s.natAbs := by rw [hl]; exact Nat.gcd_dvd_left _ _
 have k1 : s.natAbs.Coprime x1 := by
   have g1 : (s.natAbs.gcd x1 : Nat) ∣ s.natAbs := Nat.gcd_dvd_left _ _
   have g2 : (s.natAbs.gcd x1 : Nat) ∣ x1 := Nat.gcd_dvd_right _ _
   show s.natAbs.gcd x1 = 1
   generalize s.natAbs.gcd x1 = g at *
   have i1 : (g : Int) ∣ s := Int.ofNat_dvd_left.2 g1
   have i2 : (g : Int) ∣ p2 * (x1 : Int) := Int.dvd_mul_of_dvd_right (Int.natCast_dvd_natCast.2 g2)
   have i3 : (g : Int) ∣ p1 * (x2 : Int) := by
     have := Int.dvd_sub i1 i2
     rw [hs] at this
     rwa [Int.add_sub_cancel] at this
   have i4 : g ∣ p1.natAbs * x2 := by
     have := Int.ofNat_dvd_left.1 i3
     rwa [Int.natAbs_mul, Int.natAbs_natCast] at this
   have i5 : g ∣ p1.natAbs := (ce.coprime_dvd_left g2).dvd_of_dvd_mul_right i4
   have i6 : g ∣ d1 := Nat.dvd_trans g2 ⟨c, e1.symm⟩
   have := Nat.dvd_gcd i5 i6
   rw [show p1.natAbs.gcd d1 = 1 from h1] at this
   exact Nat.dvd_one.1 this
 have k2 : s.natAbs.Coprime x2 := by
   have g1 : (s.natAbs.gcd x2 : Nat) ∣ s.natAbs := Nat.gcd_dvd_left _ _
   have g2 : (s.natAbs.gcd x2 : Nat) ∣ x2 := Nat.gcd_dvd_right _ _
   show s.natAbs.gcd x2 = 1
   generalize s.natAbs.gcd x2 = g at *
   have i1 : (g : Int) ∣ s := Int.ofNat_dvd_left.2 g1
   have i2 : (g : Int) ∣ p1 * (x2 : Int) := Int.dvd_mul_of_dvd_right (Int.natCast_dvd_natCast.2 g2)
   have i3 : (g : Int) ∣ p2 * (x1 : Int) := by
     have := Int.dvd_sub i1 i2
     rw [hs, Int.add_comm] at this
     rwa [Int.add_sub_cancel] at this
   have i4 : g ∣ p2.natAbs * x1 := by
     have := Int.ofNat_dvd_left.1 i3
     rwa [Int.natAbs_mul, Int.natAbs_natCast] at this
   have i5 : g ∣ p2.natAbs := (ce.symm.coprime_dvd_left g2).dvd_of_dvd_mul_right i4
   have i6 : g ∣ d2 := Nat.dvd_trans g2 ⟨c, e2.symm⟩
   have := Nat.dvd_gcd i5 i6
   rw [show p2.natAbs.gcd d2 = 1 from h2] at this
   exact Nat.dvd_one.1 this
 have hld2 : l ∣ d2 := Nat.dvd_trans hlc ⟨x2, by rw [← e2, Nat.mul_comm]⟩
 have e3 : d2 / l = x2 * (c / l) := by rw [← e2, Nat.mul_div_assoc _ hlc]
 have hn : s.natAbs / l ∣ s.natAbs := Nat.div_dvd_of_dvd hls
 refine ⟨?_, ?_, ?_, hlpos, hls, hld2⟩
 · rw [e3]
   exact Nat.Coprime.mul_right (k1.coprime_dvd_left hn) (Nat.Coprime.mul_right (k2.coprime_dvd_left hn) cl)
 · have a : 0 < x1 := by rcases Nat.eq_zero_or_pos x1 with e | e; (subst e; omega); exact e
   have b : 0 < d2 / l := Nat.div_pos (Nat.le_of_dvd hd2 hld2) hlpos
   exact Nat.mul_pos a b
 · rw [hs, ← e1, ← e2]
   simp only [Int.natCast_mul]
   grind
end Tf
/- Sums and products of fractions, as the fractions of Lean's own. -/
namespace Tf
open Nat (Coprime)

theorem add_rat (x y : Rat) (s : Int) (hs : s = x.num * ((y.den / x.den.gcd y.den : Nat) : Int) + y.num * ((x.den / x.den.gcd y.den : Nat) : Int)) (l : Nat) (hl : l = s.natAbs.gcd (x.den.gcd y.den)) :
   (x + y).num.natAbs = s.natAbs / l ∧ (x + y).den = x.den / x.den.gcd y.den * (y.den / l) ∧ ((x + y).num < 0 ↔ s < 0) ∧ ((x + y).num = 0 ↔ s = 0) := by
 obtain ⟨hc, hpos, he, hl0, hls, hld⟩ := add_red x.reduced y.reduced x.den_pos y.den_pos hs l hl
 have hd : x.den * y.den ≠ 0 := Nat.ne_of_gt (Nat.mul_pos x.den_pos y.den_pos)
 have hsl : (l : Int) ∣ s := Int.ofNat_dvd_left.2 hls
 have hdl : x.den / x.den.gcd y.den * y.den = x.den / x.den.gcd y.den * (y.den / l) * l := by
   rw [Nat.mul_assoc, Nat.div_mul_cancel hld]
 obtain ⟨p, hp⟩ := hsl
 have hpn : p.natAbs = s.natAbs / l := by
   rw [hp, Int.natAbs_mul, Int.natAbs_natCast, Nat.mul_div_cancel_left _ hl0]
 have hx : p * ((x.den * y.den : Nat) : Int) = (x.num * y.den + y.num * x.den) * ((x.den / x.den.gcd y.den * (y.den / l) : Nat) : Int) := by
   rw [hdl] at he
   have : (l : Int) ≠ 0 := by omega
   apply Int.eq_of_mul_eq_mul_left this
   rw [← Int.mul_assoc, ← hp, he, Int.natCast_mul _ l]
   generalize ((x.den / x.den.gcd y.den * (y.den / l) : Nat) : Int) = q
   grind
 obtain ⟨e1, e2⟩ := num_den_of (p := p) (q := x.den / x.den.gcd y.den * (y.den / l)) (Nat.ne_of_gt hpos) hd (by rw [hpn]; exact hc) hx
 rw [← Rat.add_def] at e1 e2
 refine ⟨by rw [e1, hpn], e2, ?_, ?_⟩
 · rw [e1, hp]
   constructor
   · intro h; exact Int.mul_neg_of_pos_of_neg Tw.om h
   · intro h
     rcases Int.lt_or_le p 0 with h1 | h1
     · exact h1
     · have := Int.mul_nonneg (a := (l : Int)) Tw.om h1; omega
 · rw [e1, hp]
   constructor
   · intro h; rw [h, Int.mul_zero]
   · intro h
     rcases Int.mul_eq_zero.1 h with h | h
     · omega
     · exact h

theorem mul_rat (x y : Rat) :
   (x * y).num.natAbs = x.num.natAbs / x.num.natAbs.gcd y.den * (y.num.natAbs / y.num.natAbs.gcd x.den) ∧
   (x * y).den = x.den / y.num.natAbs.gcd x.den * (y.den / x.num.natAbs.gcd y.den) ∧
   ((x * y).num < 0 ↔ x.num * y.num < 0) ∧ ((x * y).num = 0 ↔ x.num * y.num = 0) := by
 obtain ⟨hc, hpos, he⟩ := mul_red x.reduced y.reduced x.den_pos y.den_pos
 have hd : x.den * y.den ≠ 0 := Nat.ne_of_gt (Nat.mul_pos x.den_pos y.den_pos)
 generalize hN : x.num.natAbs / x.num.natAbs.gcd y.den * (y.num.natAbs / y.num.natAbs.gcd x.den) = N at *
 generalize hD : x.den / y.num.natAbs.gcd x.den * (y.den / x.num.natAbs.gcd y.den) = D at *
 have hdpos : 0 < x.den * y.den := Nat.mul_pos x.den_pos y.den_pos
 have hx : (x.num * y.num).sign * (N : Int) * ((x.den * y.den : Nat) : Int) = (x.num * y.num) * (D : Int) := by
   have h1 : x.num * y.num = (x.num * y.num).sign * ((x.num.natAbs * y.num.natAbs : Nat) : Int) := by
     rw [← Int.natAbs_mul]; exact (Int.sign_mul_natAbs _).symm
   rw [Int.mul_assoc, ← Int.natCast_mul, he]
   conv => rhs; rw [h1]
   rw [Int.natCast_mul _ D, Int.mul_assoc]
 have hab : ((x.num * y.num).sign * (N : Int)).natAbs = N := by
   rw [Int.natAbs_mul, Int.natAbs_natCast]
   by_cases h0 : x.num * y.num = 0
   · rw [h0] at hx ⊢
     have : N = 0 := by
       have h2 : x.num.natAbs * y.num.natAbs = 0 := by rw [← Int.natAbs_mul, h0]; rfl
       rw [h2, Nat.zero_mul] at he
       rcases Nat.mul_eq_zero.1 he with h | h
       · exact h
       · omega
     subst this; simp
   · rw [Int.natAbs_sign_of_ne_zero h0, Nat.one_mul]
 obtain ⟨e1, e2⟩ := num_den_of (p := (x.num * y.num).sign * (N : Int)) (q := D) (Nat.ne_of_gt hpos) hd (by rw [hab]; exact hc) hx
 rw [← Rat.mul_def] at e1 e2
 have hN0 : x.num * y.num ≠ 0 → 0 < N := by
   intro h0
   rcases Nat.eq_zero_or_pos N with h | h
   · exfalso
     rw [h, Nat.zero_mul] at he
     have h2 : x.num.natAbs * y.num.natAbs = 0 := by
       rcases Nat.mul_eq_zero.1 he.symm with h | h
       · exact h
       · omega
     rw [← Int.natAbs_mul] at h2
     exact h0 (Int.natAbs_eq_zero.1 h2)
   · exact h
 refine ⟨by rw [e1, hab], e2, ?_, ?_⟩
 · rw [e1]
   rcases Int.lt_trichotomy (x.num * y.num) 0 with h | h | h
   · have := hN0 Tw.om
     rw [Int.sign_eq_neg_one_of_neg h]; omega
   · rw [h]; simp
   · have := hN0 Tw.om
     rw [Int.sign_eq_one_of_pos h]; omega
 · rw [e1]
   rcases Int.lt_trichotomy (x.num * y.num) 0 with h | h | h
   · have := hN0 Tw.om
     rw [Int.sign_eq_neg_one_of_neg h]; omega
   · rw [h]; simp
   · have := hN0 Tw.om
     rw [Int.sign_eq_one_of_pos h]; omega
end Tf
/- A statement whose order is left open, over worlds of which only some blocks are known: values (also of calls that make memory) are taken in the text's order, whatever order is drawn. Nothing of the program. -/
namespace Tf
open Go Go.RowKit

def KS (W0 : World) (K : List (Nat × Obj)) (w : World) : Prop := Below W0.heap.size W0 w ∧ ∀ p ∈ K, w.heap[p.1]? = some p.2

theorem KS.tail {W0 : World} {p : Nat × Obj} {K : List (Nat × Obj)} {w : World} (h : KS W0 (p :: K) w) : KS W0 K w := ⟨h.1, fun q hq => h.2 q (List.mem_cons_of_mem _ hq)⟩
theorem KS.sub {W0 : World} {K K' : List (Nat × Obj)} {w : World} (h : KS W0 K w) (hs : ∀ p ∈ K', p ∈ K) : KS W0 K' w := ⟨h.1, fun q hq => h.2 q (hs q hq)⟩
theorem lt_of_block {w : World} {g : Nat} {o : Obj} (h : w.heap[g]? = some o) : g < w.heap.size := (Array.getElem?_eq_some_iff.1 h).1
theorem KS.below {W0 : World} {K : List (Nat × Obj)} {w w' : World} (h : KS W0 K w) (hb : Below w.heap.size w w') : KS W0 K w' :=
 ⟨h.1.trans (hb.mono h.1.size), fun p hp => (hb.block p.1 (lt_of_block (h.2 p hp))).trans (h.2 p hp)⟩
theorem KS.drew {W0 : World} {K : List (Nat × Obj)} {w : World} (h : KS W0 K w) : KS W0 K w.drew := ⟨h.1.drew, h.2⟩
theorem KS.alloc {W0 : World} {K : List (Nat × Obj)} {w : World} (h : KS W0 K w) (o : Obj) : KS W0 ((w.heap.size, o) :: K) (w.alloc o) :=
 ⟨h.1.alloc h.1.size _, fun p hp => by
   rcases List.mem_cons.1 hp with rfl | hp
   · exact heap_alloc_new w o
   · exact (Below.heap_alloc w o p.1 (lt_of_block (h.2 p hp))).trans (h.2 p hp)⟩
theorem KS.start (w : World) : KS w [] w := ⟨Below.refl _ _, fun _ h => by cases h⟩

section
variable {P : Program} {ops : Array Oper} {Q : Exit → Act → World → Prop} {md : Region.Mode} {W0 : World}

def Oto (P : Program) (o : Oper) (ρ : Operand → Value) (w : World) (R : Value → World → Prop) : Prop :=
 match (execOp ρ o).run P w with
 | .ok (.value v) w' => R v w'
 | .ok .skip w' => R undef w'
 | .ok (.enter f args) w' => Calls P f args w' fun e w'' => ∃ v, e = .returned v ∧ R v w''
 | .ok (.row row args) w' => Rows P row args w' R
 | _ => False

theorem Oto.wp {o : Oper} {a : Act} {w : World} {R : Value → World → Prop} {K : Act → World → Prop} (h : Oto P o a.eval w R) (hk : ∀ v w', R v w' → K (a.put o.dst v) w') : o.wp P a w K Q := by
 unfold Oto at h
 unfold Oper.wp
 generalize (execOp a.eval o).run P w = r at *
 cases r with
 | ok n w' =>
   cases n <;> simp only [Oper.upon] at h ⊢
   · exact hk _ _ h
   · exact hk _ _ h
   · exact Calls.mono h fun e w'' ⟨v, he, hr⟩ => by subst he; exact hk _ _ hr
   · exact Rows.mono h fun _ _ hr => hk _ _ hr
 | halt x w' => exact h.elim

theorem Oto.of_wp {o : Oper} {a : Act} {w : World} {v : Value} {d : Nat} (hd : o.dst = some d) (hlt : d < a.tmps.size)
   (h : ∀ K : Act → World → Prop, (∀ w', Below w.heap.size w w' → K (a.put o.dst v) w') → o.wp P a w K (fun _ _ _ => False)) :
   Oto P o a.eval w (fun u w' => u = v ∧ Below w.heap.size w w') := by
 have h1 := h (fun x w' => x.defers = a.defers ∧ x.tmps[d]? = some v ∧ Below w.heap.size w w') (fun w' hb => by
   refine ⟨by simp [hd, Act.put], by simp [hd, Act.put, hlt], hb⟩)
 have put : ∀ u, (a.put o.dst u).tmps[d]? = some u := fun u => by simp [hd, Act.put, hlt]
 unfold Oper.wp at h1
 unfold Oto
 generalize (execOp a.eval o).run P w = r at *
 cases r with
 | ok n w' =>
   cases n <;> simp only [Oper.upon] at h1 ⊢
   · rename_i u
     rw [put u] at h1
     exact ⟨Option.some.inj h1.2.1, h1.2.2⟩
   · rw [put undef] at h1
     exact ⟨Option.some.inj h1.2.1, h1.2.2⟩
   · refine Calls.mono h1 fun e w'' he => ?_
     cases e with
     | returned u =>
       simp only [put u] at he
       exact ⟨u, rfl, Option.some.inj he.2.1, he.2.2⟩
     | panicked c => exact he.elim
     | outgrown => obtain ⟨_, _, hf⟩ := he; exact hf.elim
   · rename_i dd
     exfalso
     have := h1.1
     simp [hd, Act.put] at this
   · refine Rows.mono h1 fun u w'' he => ?_
     rw [put u] at he
     exact ⟨Option.some.inj he.2.1, he.2.2⟩
 | halt x w' => cases x <;> simp only [Oper.upon] at h1

def YB (P : Program) (ops : Array Oper) (W0 : World) (K : List (Nat × Obj)) (o : Oper) (v : Value) (a : Act) : Prop :=
 (Region.wanted o (yielded ops a.tmps) = true ∧ ∀ w, KS W0 K w → Oto P o a.eval w (fun u w' => u = v ∧ Below w.heap.size w w')) ∨
 (Region.wanted o (yielded ops a.tmps) = false ∧ v = undef)
def AL (P : Program) (ops : Array Oper) (o : Oper) (obj : Obj) (a : Act) : Prop :=
 Region.wanted o (yielded ops a.tmps) = true ∧ ∀ w, (execOp a.eval o).run P w = .ok (.value (.pointer (some ⟨w.heap.size, 0, none⟩))) (w.alloc obj)
def isStore (o : Oper) : Bool := match o.op with | .store .. => true | _ => false
def ST (P : Program) (ops : Array Oper) (W0 : World) (K K' : List (Nat × Obj)) (o : Oper) (a : Act) : Prop :=
 Region.wanted o (yielded ops a.tmps) = true ∧ ∀ w, KS W0 K w → ∃ w', (execOp a.eval o).run P w = .ok .skip w' ∧ KS W0 K' w'

theorem YB.of_same {K : List (Nat × Obj)} {o : Oper} {v : Value} {a a' : Act} (hy : YB P ops W0 K o v a) (he : execOp a'.eval o = execOp a.eval o)
   (hw : Region.wanted o (yielded ops a'.tmps) = Region.wanted o (yielded ops a.tmps)) : YB P ops W0 K o v a' := by
 unfold YB Oto at *
 rw [he, hw]
 exact hy
theorem YB.more {K : List (Nat × Obj)} {p : Nat × Obj} {o : Oper} {v : Value} {a : Act} (hy : YB P ops W0 K o v a) : YB P ops W0 (p :: K) o v a :=
 hy.imp (fun h => ⟨h.1, fun w hw => h.2 w hw.tail⟩) id
theorem AL.of_same {o : Oper} {obj : Obj} {a a' : Act} (hy : AL P ops o obj a) (he : execOp a'.eval o = execOp a.eval o)
   (hw : Region.wanted o (yielded ops a'.tmps) = Region.wanted o (yielded ops a.tmps)) : AL P ops o obj a' := by
 unfold AL at *
 rw [he, hw]
 exact hy

def wpU (P : Program) (md : Region.Mode) (ops : Array Oper) (Q : Exit → Act → World → Prop) (W0 : World) : Nat → Array Bool → Act → List (Nat × Obj) → Prop
 | 0, listed, a, K => Region.ready md ops listed = [] ∧ ∀ w, KS W0 K w → Q .normal a w
 | n + 1, listed, a, K =>
   (Region.ready md ops listed = [] → ∀ w, KS W0 K w → Q .normal a w) ∧
   ∀ i ∈ Region.ready md ops listed, ∃ o, ops[i]? = some o ∧
     ((∃ v, YB P ops W0 K o v a ∧ wpU P md ops Q W0 n (listed.setIfInBounds i true) (a.put o.dst v) K) ∨
      (∃ obj, AL P ops o obj a ∧ ∀ g, W0.heap.size ≤ g → (∀ p ∈ K, p.1 ≠ g) → wpU P md ops Q W0 n (listed.setIfInBounds i true) (a.put o.dst (.pointer (some ⟨g, 0, none⟩))) ((g, obj) :: K)) ∨
      (isStore o = true ∧ ∃ K', ST P ops W0 K K' o a ∧ wpU P md ops Q W0 n (listed.setIfInBounds i true) (a.put o.dst undef) K'))

theorem wpU_sound : ∀ (n : Nat) (listed : Array Bool) (a : Act) (K : List (Nat × Obj)), wpU P md ops Q W0 n listed a K → ∀ w, KS W0 K w → wpAny P md ops Q n listed a w
 | 0, _, _, _, h, w, hw => ⟨h.1, h.2 w hw⟩
 | n + 1, listed, a, K, h, w, hw => by
   refine ⟨fun hr => h.1 hr w hw, fun i hi => ?_⟩
   obtain ⟨o, ho, hc⟩ := h.2 i hi
   refine wpOp_step ho fun K' hK' => ?_
   rcases hc with ⟨v, hy, hu⟩ | ⟨obj, hal, hu⟩ | ⟨_, K2, hst, hu⟩
   · rcases hy with ⟨hwn, hto⟩ | ⟨hwn, rfl⟩
     · rw [if_pos hwn]
       exact (hto w hw).wp fun u w' ⟨hu', hb⟩ => by subst hu'; exact hK' _ _ (wpU_sound n _ _ _ hu w' (hw.below hb))
     · rw [if_neg (by rw [hwn]; decide)]
       exact hK' _ _ (wpU_sound n _ _ _ hu w hw)
   · rw [if_pos hal.1]
     unfold Oper.wp
     rw [hal.2 w]
     refine hK' _ _ (wpU_sound n _ _ _ (hu w.heap.size hw.1.size (fun p hp e => ?_)) _ (hw.alloc obj))
     have := lt_of_block (hw.2 p hp)
     omega
   · rw [if_pos hst.1]
     obtain ⟨w', hrun, hw'⟩ := hst.2 w hw
     unfold Oper.wp
     rw [hrun]
     exact hK' _ _ (wpU_sound n _ _ _ hu w' hw')

def waits (md : Region.Mode) (ops : Array Oper) : Nat → Nat → Nat → Bool
 | 0, _, _ => false
 | n + 1, j, i => match ops[j]? with
   | none => false
   | some o => o.after.toList.any fun e => Region.binds md e && (e.on == i || waits md ops n e.on i)
def closedB (md : Region.Mode) (ops : Array Oper) (listed : Array Bool) : Bool :=
 (List.range ops.size).all fun k => !listed.getD k false || match ops[k]? with
   | none => true
   | some o => o.after.toList.all fun e => !Region.binds md e || listed.getD e.on false
def closed (md : Region.Mode) (ops : Array Oper) (listed : Array Bool) : Prop :=
 ∀ k o, ops[k]? = some o → listed.getD k false = true → ∀ e ∈ o.after, Region.binds md e = true → listed.getD e.on false = true
theorem closed_of {listed : Array Bool} (h : closedB md ops listed = true) : closed md ops listed := by
 intro k o ho hk e he hb
 unfold closedB at h
 rw [List.all_eq_true] at h
 have h1 := h k (List.mem_range.2 (Array.getElem?_eq_some_iff.1 ho).1)
 simp only [hk, ho, Bool.not_true, Bool.false_or, List.all_eq_true] at h1
 have h2 := h1 e (Array.mem_def.1 he)
 simpa [hb] using h2
theorem not_waits {listed : Array Bool} {i : Nat} (hc : closed md ops listed) (hi : listed.getD i false = false) : ∀ n j o, ops[j]? = some o → waits md ops n j i = true →
   (∀ e ∈ o.after, Region.binds md e = true → listed.getD e.on false = true) → False
 | 0, _, _, _, h, _ => by simp [waits] at h
 | n + 1, j, o, ho, h, hall => by
   simp only [waits, ho, List.any_eq_true, Bool.and_eq_true, Bool.or_eq_true, beq_iff_eq] at h
   obtain ⟨e, he, hb, h2⟩ := h
   have hl := hall e (Array.mem_def.2 he) hb
   rcases h2 with h2 | h2
   · rw [h2, hi] at hl; cases hl
   · cases hk : ops[e.on]? with
     | none =>
       cases n with
       | zero => simp [waits] at h2
       | succ n => simp [waits, hk] at h2
     | some ok => exact not_waits hc hi n e.on ok hk h2 (hc e.on ok hk hl)
theorem closed_set {listed : Array Bool} {j : Nat} (hc : closed md ops listed) (hj : j ∈ Region.ready md ops listed) : closed md ops (listed.setIfInBounds j true) := by
 obtain ⟨_, oj, hoj, hall⟩ := mem_ready.1 hj
 intro k o ho hk e he hb
 by_cases hkj : k = j
 · subst hkj
   rw [hoj] at ho
   cases ho
   exact getD_set_true (hall e he hb)
 · rw [getD_set_ne false (Ne.symm hkj)] at hk
   exact getD_set_true (hc k o ho hk e he hb)

theorem unlisted_false {listed : Array Bool} {i : Nat} (h : listed.getD i true = false) : listed.getD i false = false := by
 rcases Nat.lt_or_ge i listed.size with h' | h'
 · simp [h'] at h ⊢; exact h
 · simp [Array.getElem?_eq_none h'] at h

theorem wpU_first {i : Nat} {oi : Oper} {v : Value} (hi : ops[i]? = some oi) (hsel : ∀ (j : Nat) (o : Oper) cs b, ops[j]? = some o → o.op ≠ .select cs b) :
   ∀ (n : Nat) (listed : Array Bool) (a : Act) (K : List (Nat × Obj)), closed md ops listed →
     (∀ j oj, ops[j]? = some oj → j ≠ i → listed.getD j true = false → (∀ e ∈ oj.after, Region.binds md e = true → e.on ≠ i) → oi.apart ops oj = true) →
     i ∈ Region.ready md ops listed → ((∀ K', YB P ops W0 K' oi v a) ∨ (YB P ops W0 K oi v a ∧ ∀ j o, ops[j]? = some o → isStore o = true → ∃ m, waits md ops m j i = true)) →
     wpU P md ops Q W0 n (listed.setIfInBounds i true) (a.put oi.dst v) K → wpU P md ops Q W0 (n + 1) listed a K := by
 intro n
 induction n with
 | zero =>
   intro listed a K _ _ hr hy H
   refine ⟨fun h => (by rw [h] at hr; cases hr), fun j hj => ?_⟩
   by_cases hji : j = i
   · subst hji
     exact ⟨oi, hi, .inl ⟨v, hy.elim (fun h => h K) (fun h => h.1), H⟩⟩
   · have := ready_mono hj hji
     rw [H.1] at this
     cases this
 | succ n ih =>
   intro listed a K hcl hfree hr hy H
   refine ⟨fun h => (by rw [h] at hr; cases hr), fun j hj => ?_⟩
   by_cases hji : j = i
   · subst hji
     exact ⟨oi, hi, .inl ⟨v, hy.elim (fun h => h K) (fun h => h.1), H⟩⟩
   · obtain ⟨oj, hoj, hc⟩ := H.2 j (ready_mono hj hji)
     obtain ⟨hjun, oj', hoj', hall⟩ := mem_ready.1 hj
     rw [hoj] at hoj'
     cases hoj'
     have hiun := (mem_ready.1 hr).1
     have hnot : ∀ e ∈ oj.after, Region.binds md e = true → e.on ≠ i := fun e he hb heq => by
       have h1 := hall e he hb
       rw [heq, unlisted_false hiun] at h1
       cases h1
     have hap := hfree j oj hoj hji hjun hnot
     obtain ⟨h1, h2, h3⟩ := Oper.apart_spec hap
     have hfree' : ∀ k ok, ops[k]? = some ok → k ≠ i → (listed.setIfInBounds j true).getD k true = false →
         (∀ e ∈ ok.after, Region.binds md e = true → e.on ≠ i) → oi.apart ops ok = true := fun k ok hk hki hun hno => by
       refine hfree k ok hk hki ?_ hno
       by_cases hjk : j = k
       · subst hjk; exact hjun
       · rw [getD_set_ne true hjk] at hun; exact hun
     have hsi : ∀ cs b, oi.op ≠ .select cs b := fun cs b => hsel i oi cs b hi
     have hsj : ∀ cs b, oj.op ≠ .select cs b := fun cs b => hsel j oj cs b hoj
     have keep : ∀ K' u, YB P ops W0 K' oi v a → YB P ops W0 K' oi v (a.put oj.dst u) := fun K' u h => h.of_same (execOp_put oi hsi a oj.dst u h3) (wanted_put oi a oj.dst u h3)
     have eqe : execOp (a.put oi.dst v).eval oj = execOp a.eval oj := execOp_put oj hsj a oi.dst v h1
     have eqw : Region.wanted oj (yielded ops (a.put oi.dst v).tmps) = Region.wanted oj (yielded ops a.tmps) := wanted_put oj a oi.dst v h1
     refine ⟨oj, hoj, ?_⟩
     rcases hc with ⟨u, hyj, hu⟩ | ⟨obj, hal, hu⟩ | ⟨hs, K2, hst2, hu⟩
     · refine .inl ⟨u, hyj.of_same eqe.symm eqw.symm, ih _ _ _ (closed_set hcl hj) hfree' (ready_mono hr (Ne.symm hji)) (hy.imp (fun h K' => keep K' u (h K')) (fun h => ⟨keep K u h.1, h.2⟩)) ?_⟩
       rw [Array.setIfInBounds_comm _ _ hji, ← Act.put_comm a v u h2]
       exact hu
     · refine .inr (.inl ⟨obj, hal.of_same eqe.symm eqw.symm, fun g hg hgk => ih _ _ _ (closed_set hcl hj) hfree' (ready_mono hr (Ne.symm hji)) (hy.imp (fun h K' => keep K' _ (h K')) (fun h => ⟨(keep K _ h.1).more, h.2⟩)) ?_⟩)
       rw [Array.setIfInBounds_comm _ _ hji, ← Act.put_comm a v _ h2]
       exact hu g hg hgk
     · rcases hy with hy | ⟨hy, hwait⟩
       · refine .inr (.inr ⟨hs, K2, ⟨by rw [← eqw]; exact hst2.1, fun w hw => by rw [← eqe]; exact hst2.2 w hw⟩, ih _ _ _ (closed_set hcl hj) hfree' (ready_mono hr (Ne.symm hji)) (.inl fun K' => keep K' _ (hy K')) ?_⟩)
         rw [Array.setIfInBounds_comm _ _ hji, ← Act.put_comm a v _ h2]
         exact hu
       · obtain ⟨m, hm⟩ := hwait j oj hoj hs
         exact (not_waits hcl (unlisted_false hiun) m j oj hoj hm hall).elim

def storesWait (md : Region.Mode) (ops : Array Oper) (i : Nat) : Bool :=
 (List.range ops.size).all fun j => match ops[j]? with
   | some o => !isStore o || waits md ops 4 j i
   | none => true
theorem storesWait_spec {i : Nat} (h : storesWait md ops i = true) (j : Nat) (o : Oper) (ho : ops[j]? = some o) (hs : isStore o = true) : ∃ m, waits md ops m j i = true := by
 unfold storesWait at h
 rw [List.all_eq_true] at h
 have h1 := h j (List.mem_range.2 (Array.getElem?_eq_some_iff.1 ho).1)
 simp only [ho, hs, Bool.not_true, Bool.false_or] at h1
 exact ⟨4, h1⟩
def freeAll (md : Region.Mode) (ops : Array Oper) (listed : Array Bool) (i : Nat) : Bool :=
 Region.noSelect ops && (Region.free md ops listed i && ((Region.ready md ops listed).contains i && (closedB md ops listed && storesWait md ops i)))

theorem wpU_val {i : Nat} {oi : Oper} {v : Value} {d n : Nat} {listed : Array Bool} {a : Act} {K : List (Nat × Obj)} (hi : ops[i]? = some oi) (hd : oi.dst = some d) (hlt : Nat.blt d a.tmps.size = true)
   (hf : freeAll md ops listed i = true) (hw : Region.wanted oi (yielded ops a.tmps) = true)
   (hy : ∀ w, KS W0 K w → ∀ K' : Act → World → Prop, (∀ w', Below w.heap.size w w' → K' (a.put oi.dst v) w') → Oper.wp P oi a w K' (fun _ _ _ => False))
   (h : wpU P md ops Q W0 n (listed.setIfInBounds i true) (a.put oi.dst v) K) : wpU P md ops Q W0 (n + 1) listed a K := by
 unfold freeAll at hf
 simp only [Bool.and_eq_true] at hf
 obtain ⟨h1, h2, h3, h4, h5⟩ := hf
 exact wpU_first hi (Region.noSelect_spec h1) n listed a K (closed_of h4) (Region.free_spec hi h2) (by simpa using h3)
   (.inr ⟨.inl ⟨hw, fun w hk => Oto.of_wp hd (Nat.le_of_ble_eq_true hlt) (hy w hk)⟩, storesWait_spec h5⟩) h
theorem wpU_not {i : Nat} {oi : Oper} {n : Nat} {listed : Array Bool} {a : Act} {K : List (Nat × Obj)} (hi : ops[i]? = some oi)
   (hf : freeAll md ops listed i = true) (hw : Region.wanted oi (yielded ops a.tmps) = false)
   (h : wpU P md ops Q W0 n (listed.setIfInBounds i true) (a.put oi.dst undef) K) : wpU P md ops Q W0 (n + 1) listed a K := by
 unfold freeAll at hf
 simp only [Bool.and_eq_true] at hf
 obtain ⟨h1, h2, h3, h4, h5⟩ := hf
 exact wpU_first hi (Region.noSelect_spec h1) n listed a K (closed_of h4) (Region.free_spec hi h2) (by simpa using h3)
   (.inl fun _ => .inr ⟨hw, rfl⟩) h
theorem wpU_alloc {i : Nat} {oi : Oper} {obj : Obj} {n : Nat} {listed : Array Bool} {a : Act} {K : List (Nat × Obj)} (hi : ops[i]? = some oi) (hr : Region.ready md ops listed = [i])
   (hw : Region.wanted oi (yielded ops a.tmps) = true) (hal : ∀ w, (execOp a.eval oi).run P w = .ok (.value (.pointer (some ⟨w.heap.size, 0, none⟩))) (w.alloc obj))
   (h : ∀ g, W0.heap.size ≤ g → (∀ p ∈ K, p.1 ≠ g) → wpU P md ops Q W0 n (listed.setIfInBounds i true) (a.put oi.dst (.pointer (some ⟨g, 0, none⟩))) ((g, obj) :: K)) : wpU P md ops Q W0 (n + 1) listed a K :=
 ⟨fun h0 => (by rw [hr] at h0; cases h0), fun j hj => by
   rw [hr] at hj
   cases List.mem_singleton.1 hj
   exact ⟨oi, hi, .inr (.inl ⟨obj, ⟨hw, hal⟩, h⟩)⟩⟩
theorem wpU_alloc2 {i j : Nat} {oi oj : Oper} {obi obj : Obj} {n : Nat} {listed : Array Bool} {a : Act} {K : List (Nat × Obj)} (hi : ops[i]? = some oi) (hj : ops[j]? = some oj) (hr : Region.ready md ops listed = [i, j])
   (hwi : Region.wanted oi (yielded ops a.tmps) = true) (hwj : Region.wanted oj (yielded ops a.tmps) = true)
   (hai : ∀ w, (execOp a.eval oi).run P w = .ok (.value (.pointer (some ⟨w.heap.size, 0, none⟩))) (w.alloc obi))
   (haj : ∀ w, (execOp a.eval oj).run P w = .ok (.value (.pointer (some ⟨w.heap.size, 0, none⟩))) (w.alloc obj))
   (h1 : ∀ g, W0.heap.size ≤ g → (∀ p ∈ K, p.1 ≠ g) → wpU P md ops Q W0 n (listed.setIfInBounds i true) (a.put oi.dst (.pointer (some ⟨g, 0, none⟩))) ((g, obi) :: K))
   (h2 : ∀ g, W0.heap.size ≤ g → (∀ p ∈ K, p.1 ≠ g) → wpU P md ops Q W0 n (listed.setIfInBounds j true) (a.put oj.dst (.pointer (some ⟨g, 0, none⟩))) ((g, obj) :: K)) : wpU P md ops Q W0 (n + 1) listed a K :=
 ⟨fun h0 => (by rw [hr] at h0; cases h0), fun k hk => by
   rw [hr] at hk
   rcases List.mem_cons.1 hk with rfl | hk
   · exact ⟨oi, hi, .inr (.inl ⟨obi, ⟨hwi, hai⟩, h1⟩)⟩
   · cases List.mem_singleton.1 hk
     exact ⟨oj, hj, .inr (.inl ⟨obj, ⟨hwj, haj⟩, h2⟩)⟩⟩
theorem wpU_store {i : Nat} {oi : Oper} {n : Nat} {listed : Array Bool} {a : Act} {K K' : List (Nat × Obj)} (hi : ops[i]? = some oi) (hr : Region.ready md ops listed = [i])
   (hs : isStore oi = true) (hw : Region.wanted oi (yielded ops a.tmps) = true) (hst : ∀ w, KS W0 K w → ∃ w', (execOp a.eval oi).run P w = .ok .skip w' ∧ KS W0 K' w')
   (h : wpU P md ops Q W0 n (listed.setIfInBounds i true) (a.put oi.dst undef) K') : wpU P md ops Q W0 (n + 1) listed a K :=
 ⟨fun h0 => (by rw [hr] at h0; cases h0), fun j hj => by
   rw [hr] at hj
   cases List.mem_singleton.1 hj
   exact ⟨oi, hi, .inr (.inr ⟨hs, K', ⟨hw, hst⟩, h⟩)⟩⟩
def StepU (P : Program) (md : Region.Mode) (ops : Array Oper) (Q : Exit → Act → World → Prop) (W0 : World) (n : Nat) (listed : Array Bool) (a : Act) (K : List (Nat × Obj)) (i : Nat) : Prop :=
 ∃ o, ops[i]? = some o ∧
     ((∃ v, YB P ops W0 K o v a ∧ wpU P md ops Q W0 n (listed.setIfInBounds i true) (a.put o.dst v) K) ∨
      (∃ obj, AL P ops o obj a ∧ ∀ g, W0.heap.size ≤ g → (∀ p ∈ K, p.1 ≠ g) → wpU P md ops Q W0 n (listed.setIfInBounds i true) (a.put o.dst (.pointer (some ⟨g, 0, none⟩))) ((g, obj) :: K)) ∨
      (isStore o = true ∧ ∃ K', ST P ops W0 K K' o a ∧ wpU P md ops Q W0 n (listed.setIfInBounds i true) (a.put o.dst undef) K'))
theorem stepU_val {i : Nat} {oi : Oper} {v : Value} {d n : Nat} {listed : Array Bool} {a : Act} {K : List (Nat × Obj)} (hi : ops[i]? = some oi) (hd : oi.dst = some d) (hlt : Nat.blt d a.tmps.size = true)
   (hw : Region.wanted oi (yielded ops a.tmps) = true)
   (hy : ∀ w, KS W0 K w → ∀ K' : Act → World → Prop, (∀ w', Below w.heap.size w w' → K' (a.put oi.dst v) w') → Oper.wp P oi a w K' (fun _ _ _ => False))
   (h : wpU P md ops Q W0 n (listed.setIfInBounds i true) (a.put oi.dst v) K) : StepU P md ops Q W0 n listed a K i :=
 ⟨oi, hi, .inl ⟨v, .inl ⟨hw, fun w hk => Oto.of_wp hd (Nat.le_of_ble_eq_true hlt) (hy w hk)⟩, h⟩⟩
theorem stepU_store {i : Nat} {oi : Oper} {n : Nat} {listed : Array Bool} {a : Act} {K K' : List (Nat × Obj)} (hi : ops[i]? = some oi)
   (hs : isStore oi = true) (hw : Region.wanted oi (yielded ops a.tmps) = true) (hst : ∀ w, KS W0 K w → ∃ w', (execOp a.eval oi).run P w = .ok .skip w' ∧ KS W0 K' w')
   (h : wpU P md ops Q W0 n (listed.setIfInBounds i true) (a.put oi.dst undef) K') : StepU P md ops Q W0 n listed a K i :=
 ⟨oi, hi, .inr (.inr ⟨hs, K', ⟨hw, hst⟩, h⟩)⟩
theorem wpU_1 {i n : Nat} {listed : Array Bool} {a : Act} {K : List (Nat × Obj)} (hr : Region.ready md ops listed = [i]) (h : StepU P md ops Q W0 n listed a K i) : wpU P md ops Q W0 (n + 1) listed a K :=
 ⟨fun h0 => (by rw [hr] at h0; cases h0), fun j hj => by
   rw [hr] at hj
   cases List.mem_singleton.1 hj
   exact h⟩
theorem wpU_2 {i j n : Nat} {listed : Array Bool} {a : Act} {K : List (Nat × Obj)} (hr : Region.ready md ops listed = [i, j]) (h : StepU P md ops Q W0 n listed a K i) (h' : StepU P md ops Q W0 n listed a K j) : wpU P md ops Q W0 (n + 1) listed a K :=
 ⟨fun h0 => (by rw [hr] at h0; cases h0), fun k hk => by
   rw [hr] at hk
   rcases List.mem_cons.1 hk with rfl | hk
   · exact h
   · cases List.mem_singleton.1 hk
     exact h'⟩
theorem wpU_done {listed : Array Bool} {a : Act} {K : List (Nat × Obj)} (hr : Region.ready md ops listed = []) (h : ∀ w, KS W0 K w → Q .normal a w) : ∀ n, wpU P md ops Q W0 n listed a K
 | 0 => ⟨hr, h⟩
 | _ + 1 => ⟨fun _ => h, by rw [hr]; simp⟩
theorem wp_region_U {id : Nat} {a : Act} {w : World} (K : List (Nat × Obj)) (hm : P.follows .mixedOrders = true) (hK : KS W0 K w)
   (h : wpU P .any ops Q W0 ops.size (Array.replicate ops.size false) a K) : (Code.region id ops true).wp P Q a w :=
 wp_region_any hm (wpU_sound _ _ _ _ h _ hK.drew)

theorem run_storeVar_mid {g off : Nat} {cs : Array Value} {t ty : TypeId} {v : Value} (w : World) (hg : w.heap[g]? = some (.cells cs t (0, 0))) (hi : (P.info? ty).map (·.size) = some v.cells.size)
   (hfit : off + v.cells.size ≤ cs.size) (h1 : ∀ x ∈ v.cells.toList, x.oneCell' = true) :
   (storeVar ty ⟨g, off, none⟩ v).run P w = .ok () (w.setRow g (cs.toList.take off ++ v.cells.toList ++ cs.toList.drop (off + v.cells.toList.length)).toArray) := by
 have hst := run_storeCells_at P g off t v.cells.toList 0 cs w hg (by simpa using hfit) h1
 cases hq : P.info? ty with
 | none => simp [hq] at hi
 | some i =>
   have hs : i.size = v.cells.size := by simpa [hq] using hi
   simp only [Nat.add_zero] at hst
   simp [storeVar, Sem.run_bind, Go.sizeOf, typeInfo, hq, hs, hst]
theorem KS.setRow {K K' : List (Nat × Obj)} {w : World} {g : Nat} {cs cs' : Array Value} {t : TypeId} (h : KS W0 K w) (hB : W0.heap.size ≤ g) (hg : w.heap[g]? = some (.cells cs t (0, 0)))
   (hK : ∀ p ∈ K', p = (g, .cells cs' t (0, 0)) ∨ (p ∈ K ∧ p.1 ≠ g)) : KS W0 K' (w.setRow g cs') :=
 ⟨below_setRow h.1 hB _, fun p hp => by
   rcases hK p hp with rfl | ⟨hp, hne⟩
   · exact setRow_heap w g cs cs' t _ hg
   · rw [setRow_other w g p.1 cs' hne]; exact h.2 p hp⟩
theorem st_row {o : Oper} {a : Act} {K K' : List (Nat × Obj)} {ty t : TypeId} {x y : Operand} {g off : Nat} {cs cs' : Array Value} {v : Value} (ho : o.op = .store ty x y) (hx : a.eval x = .pointer (some ⟨g, off, none⟩)) (hv : a.eval y = v)
   (hm : (g, .cells cs t (0, 0)) ∈ K) (hB : W0.heap.size ≤ g) (hi : (P.info? ty).map (·.size) = some v.cells.size)
   (hfit : off + v.cells.size ≤ cs.size) (h1 : ∀ x ∈ v.cells.toList, x.oneCell' = true)
   (hcs : cs' = (cs.toList.take off ++ v.cells.toList ++ cs.toList.drop (off + v.cells.toList.length)).toArray)
   (hK : ∀ p ∈ K', p = (g, .cells cs' t (0, 0)) ∨ (p ∈ K ∧ p.1 ≠ g)) : ∀ w, KS W0 K w → ∃ w', (execOp a.eval o).run P w = .ok .skip w' ∧ KS W0 K' w' := by
 intro w hw
 have hg := hw.2 _ hm
 subst hcs
 refine ⟨_, ?_, hw.setRow hB hg hK⟩
 have hr := run_storeVar_mid (P := P) (ty := ty) (v := v) w hg hi hfit h1
 simp only [execOp, ho, hx, hv, Instr.storeAt, Instr.sureAddr, Sem.run_bind, Sem.run_pure, Result.andThen_ok, hr]
def aggD (d : TypeDesc) : Bool := match d with | .struct _ | .array _ _ => true | _ => false
theorem run_loadVar_mid {g off n : Nat} {cs : Array Value} {t ty : TypeId} {d : TypeDesc} (w : World) (hg : w.heap[g]? = some (.cells cs t (0, 0)))
   (hu : P.underlying ty = some d) (hd : aggD d = true) (hi : (P.info? ty).map (·.size) = some n) (hfit : off + n ≤ cs.size) :
   (loadVar ty ⟨g, off, none⟩).run P w = .ok (.agg ((cs.toList.drop off).take n).toArray) w := by
 have hlen : ((cs.toList.drop off).take n).length = n := by simp; omega
 have hl : (loadCells ⟨g, off, none⟩ ((cs.toList.drop off).take n).length).run P w = .ok ((cs.toList.drop off).take n).toArray w :=
   run_loadCells_list (P := P) w ⟨g, off, none⟩ _ (fun j v hv => by
     have hadd : (⟨g, off, none⟩ : Addr).add j = ⟨g, off + j, none⟩ := by unfold Addr.add; split <;> simp_all
     rw [hadd, cell_of_row w g (off + j) cs t (0, 0) hg]
     obtain ⟨hj, hv⟩ := List.getElem?_eq_some_iff.1 hv
     rw [hlen] at hj
     rw [List.getElem_take, List.getElem_drop] at hv
     rw [Array.getElem?_eq_getElem Tw.om, ← hv]
     simp)
 rw [hlen] at hl
 cases hq : P.info? ty with
 | none => simp [hq] at hi
 | some i =>
   have hs : i.size = n := by simpa [hq] using hi
   have hagg : (isAgg ty).run P w = .ok true w := by
     unfold isAgg
     rw [Sem.run_bind, run_underlying hu w]
     unfold aggD at hd
     cases d <;> simp_all
   simp [loadVar, Sem.run_bind, hagg, Go.sizeOf, typeInfo, hq, hs, hl]
theorem yb_load {o : Oper} {a : Act} {K : List (Nat × Obj)} {ty t : TypeId} {x : Operand} {g off n : Nat} {cs vs : Array Value} {d : TypeDesc} (ho : o.op = .load ty x) (hx : a.eval x = .pointer (some ⟨g, off, none⟩))
   (hm : (g, .cells cs t (0, 0)) ∈ K) (hu : P.underlying ty = some d) (hd : aggD d = true) (hi : (P.info? ty).map (·.size) = some n) (hfit : off + n ≤ cs.size)
   (hvs : vs = ((cs.toList.drop off).take n).toArray) :
   ∀ w, KS W0 K w → ∀ K' : Act → World → Prop, (∀ w', Below w.heap.size w w' → K' (a.put o.dst (.agg vs)) w') → Oper.wp P o a w K' (fun _ _ _ => False) := by
 intro w hw K' hk
 have hr := run_loadVar_mid (P := P) (ty := ty) w (hw.2 _ hm) hu hd hi hfit
 unfold Oper.wp execOp
 simp only [ho, hx, Instr.loadAt, Instr.sureAddr, Sem.run_bind, Sem.run_pure, Result.andThen_ok, hr]
 subst hvs
 exact hk w (Below.refl _ _)

theorem wpList_ld {ops : Array Oper} {rest : List Oper} {o : Oper} {a : Act} {w : World} {Q : Exit → Act → World → Prop} (hgd : o.guard = none) {ty t : TypeId} {x : Operand} {g off n : Nat} {cs vs : Array Value} {d : TypeDesc} (ho : o.op = .load ty x)
   (hx : a.eval x = .pointer (some ⟨g, off, none⟩)) (hg : w.heap[g]? = some (.cells cs t (0, 0))) (hu : P.underlying ty = some d) (hd : aggD d = true)
   (hi : (P.info? ty).map (·.size) = some n) (hfit : off + n ≤ cs.size) (hvs : vs = ((cs.toList.drop off).take n).toArray)
   (h : wpList P ops Q rest (a.put o.dst (.agg vs)) w) : wpList P ops Q (o :: rest) a w :=
 wpList_plain hgd fun _ hK => by
   have hr := run_loadVar_mid (P := P) (ty := ty) w hg hu hd hi hfit
   unfold Oper.wp execOp
   simp only [ho, hx, Instr.loadAt, Instr.sureAddr, Sem.run_bind, Sem.run_pure, Result.andThen_ok, hr]
   subst hvs
   exact hK _ _ h
theorem wpList_stm {ops : Array Oper} {rest : List Oper} {o : Oper} {a : Act} {w : World} {Q : Exit → Act → World → Prop} (hgd : o.guard = none) {ty t : TypeId} {x y : Operand} {g off : Nat} {cs cs' : Array Value} {v : Value} (ho : o.op = .store ty x y)
   (hx : a.eval x = .pointer (some ⟨g, off, none⟩)) (hv : a.eval y = v) (hg : w.heap[g]? = some (.cells cs t (0, 0))) (hi : (P.info? ty).map (·.size) = some v.cells.size)
   (hfit : off + v.cells.size ≤ cs.size) (h1 : ∀ x ∈ v.cells.toList, x.oneCell' = true)
   (hcs : cs' = (cs.toList.take off ++ v.cells.toList ++ cs.toList.drop (off + v.cells.toList.length)).toArray)
   (h : wpList P ops Q rest (a.put o.dst undef) (w.setRow g cs')) : wpList P ops Q (o :: rest) a w :=
 wpList_plain hgd fun _ hK => by
   have hr := run_storeVar_mid (P := P) (ty := ty) (v := v) w hg hi hfit h1
   unfold Oper.wp execOp
   simp only [ho, hx, hv, Instr.storeAt, Instr.sureAddr, Sem.run_bind, Sem.run_pure, Result.andThen_ok, hr]
   subst hcs
   exact hK _ _ h

theorem run_loadVar_all {g : Nat} {cs : Array Value} {t ty : TypeId} {d : TypeDesc} (w : World) (hg : w.heap[g]? = some (.cells cs t (0, 0)))
   (hu : P.underlying ty = some d) (hd : aggD d = true) (hi : (P.info? ty).map (·.size) = some cs.size) : (loadVar ty ⟨g, 0, none⟩).run P w = .ok (.agg cs) w := by
 have h := run_loadVar_mid (P := P) (ty := ty) (off := 0) w hg hu hd hi Tw.om
 have e : ((cs.toList.drop 0).take cs.size).toArray = cs := by
   rw [List.drop_zero, List.take_of_length_le (by simp)]
 rw [e] at h
 exact h
theorem res_cell {fn : Func} {p : Tmp} {ty : TypeId} (h : fn.results = #[.cell p ty]) {tmps : Array Value} {w : World} {g : Nat} {t : TypeId} {cs : Array Value} {d : TypeDesc}
   (hp : tmps.getD p undef = .pointer (some ⟨g, 0, none⟩)) (hg : w.heap[g]? = some (.cells cs t (0, 0)))
   (hu : P.underlying ty = some d) (hd : aggD d = true) (hi : (P.info? ty).map (·.size) = some cs.size) :
   (results fn tmps).run P w = .ok (.agg cs) w := by
 have hp' : tmps[p]?.getD undef = .pointer (some ⟨g, 0, none⟩) := by simpa using hp
 simp [results, h, hp', asAddr, run_loadVar_all w hg hu hd hi]
theorem res_cell_tmp {fn : Func} {p q : Tmp} {ty : TypeId} (h : fn.results = #[.cell p ty, .tmp q]) {tmps : Array Value} {w : World} {g : Nat} {t : TypeId} {cs : Array Value} {d : TypeDesc}
   (hp : tmps.getD p undef = .pointer (some ⟨g, 0, none⟩)) (hg : w.heap[g]? = some (.cells cs t (0, 0)))
   (hu : P.underlying ty = some d) (hd : aggD d = true) (hi : (P.info? ty).map (·.size) = some cs.size) :
   (results fn tmps).run P w = .ok (.tuple #[.agg cs, tmps.getD q undef]) w := by
 have hp' : tmps[p]?.getD undef = .pointer (some ⟨g, 0, none⟩) := by simpa using hp
 simp [results, h, hp', asAddr, run_loadVar_all w hg hu hd hi]
theorem res_tmp_cell {fn : Func} {p q : Tmp} {ty : TypeId} (h : fn.results = #[.tmp q, .cell p ty]) {tmps : Array Value} {w : World} {g : Nat} {t : TypeId} {cs : Array Value} {d : TypeDesc}
   (hp : tmps.getD p undef = .pointer (some ⟨g, 0, none⟩)) (hg : w.heap[g]? = some (.cells cs t (0, 0)))
   (hu : P.underlying ty = some d) (hd : aggD d = true) (hi : (P.info? ty).map (·.size) = some cs.size) :
   (results fn tmps).run P w = .ok (.tuple #[tmps.getD q undef, .agg cs]) w := by
 have hp' : tmps[p]?.getD undef = .pointer (some ⟨g, 0, none⟩) := by simpa using hp
 simp [results, h, hp', asAddr, run_loadVar_all w hg hu hd hi]
theorem res_cell_cell {fn : Func} {p q : Tmp} {ty uy : TypeId} (h : fn.results = #[.cell p ty, .cell q uy]) {tmps : Array Value} {w : World} {g g' : Nat} {t t' : TypeId} {cs cs' : Array Value} {d d' : TypeDesc}
   (hp : tmps.getD p undef = .pointer (some ⟨g, 0, none⟩)) (hg : w.heap[g]? = some (.cells cs t (0, 0)))
   (hu : P.underlying ty = some d) (hd : aggD d = true) (hi : (P.info? ty).map (·.size) = some cs.size)
   (hq : tmps.getD q undef = .pointer (some ⟨g', 0, none⟩)) (hg' : w.heap[g']? = some (.cells cs' t' (0, 0)))
   (hu' : P.underlying uy = some d') (hd' : aggD d' = true) (hi' : (P.info? uy).map (·.size) = some cs'.size) :
   (results fn tmps).run P w = .ok (.tuple #[.agg cs, .agg cs']) w := by
 have hp' : tmps[p]?.getD undef = .pointer (some ⟨g, 0, none⟩) := by simpa using hp
 have hq' : tmps[q]?.getD undef = .pointer (some ⟨g', 0, none⟩) := by simpa using hq
 simp [results, h, hp', hq', asAddr, run_loadVar_all w hg hu hd hi, run_loadVar_all w hg' hu' hd' hi']

theorem step_copy_at {o : Oper} {a : Act} {w : World} {K : Act → World → Prop} {E : Prop} (hgd : o.guard = none) (d s : Operand) (dT sT : TypeId)
   (ho : o.op = .call { callee := .builtin .copy, args := #[d, s], argTypes := #[dT, sT] }) (elem : TypeId) (hu : P.underlying dT = some (.slice elem)) (hsz : (P.info? elem).map (·.size) = some 1)
   (g off dLen dCap : Nat) (ad : Addr) (sLen sCap : Nat) (hd : a.eval d = .slice (some ⟨g, off, none⟩) dLen dCap) (hs : a.eval s = .slice (some ad) sLen sCap)
   (cur : Array Value) (t : TypeId) (hg : w.heap[g]? = some (.cells cur t (0, 0))) (cs : List Value) (hn : cs.length = Nat.min sLen dLen)
   (hsrc : ∀ j v, cs[j]? = some v → w.cell? (ad.add j) = some v) (hfit : off + cs.length ≤ cur.size) (h1 : ∀ v ∈ cs, v.oneCell' = true)
   (h : K (a.put o.dst (goInt cs.length)) (w.setRow g (splice cur.toList off cs).toArray)) :
   if Region.wanted o (yielded ops a.tmps) = true then Oper.wp P o a w K Q else E := by
 have hw : Region.wanted o (yielded ops a.tmps) = true := by simp [Region.wanted, hgd]
 rw [if_pos hw]
 have hrun := run_copy_row (P := P) w dT sT o.type elem g off dLen dCap ad sLen sCap cur t cs hu hsz hg hn hsrc hfit h1
 unfold Oper.wp
 simp [execOp, ho, resolve, invoke, builtin, hd, hs, hrun, Result.andThen]
 exact h

theorem yb_pure {o : Oper} {a : Act} {K : List (Nat × Obj)} {v : Value} (h : ∀ w, (execOp a.eval o).run P w = .ok (.value v) w) :
   ∀ w, KS W0 K w → ∀ K' : Act → World → Prop, (∀ w', Below w.heap.size w w' → K' (a.put o.dst v) w') → Oper.wp P o a w K' (fun _ _ _ => False) := by
 intro w _ K' hk
 unfold Oper.wp
 rw [h w]
 exact hk w (Below.refl _ _)
theorem yb_call {o : Oper} {a : Act} {K : List (Nat × Obj)} {v : Value} {f : FuncId} {args : Array Value} (hf : ∀ w, (execOp a.eval o).run P w = .ok (.enter f args) w)
   (h : ∀ w, KS W0 K w → Calls P f args w fun e w' => e = .returned v ∧ Below w.heap.size w w') :
   ∀ w, KS W0 K w → ∀ K' : Act → World → Prop, (∀ w', Below w.heap.size w w' → K' (a.put o.dst v) w') → Oper.wp P o a w K' (fun _ _ _ => False) := by
 intro w hw K' hk
 unfold Oper.wp
 rw [hf w]
 refine (h w hw).mono fun e w' ⟨he, hb⟩ => ?_
 subst he
 exact hk w' hb
end
end Tf
/- Arrays of digits in memory; the length of a number. -/
namespace Go.Proofs.YtalmflgkbmnghaaGreatDoor
open Go.RowKit Tf

def ln (f : Nat → Nat) : Nat → Nat
 | 0 => 0
 | n + 1 => if f n = 0 then ln f n else n + 1
theorem ln_le (f : Nat → Nat) : ∀ n, ln f n ≤ n
 | 0 => Nat.le_refl _
 | n + 1 => by
   unfold ln
   split
   · exact Nat.le_succ_of_le (ln_le f n)
   · exact Nat.le_refl _
theorem ln_zero (f : Nat → Nat) (n : Nat) (h : f n = 0) : ln f (n + 1) = ln f n := by rw [ln, if_pos h]
theorem ln_pos (f : Nat → Nat) (n : Nat) (h : ¬ f n = 0) : ln f (n + 1) = n + 1 := by rw [ln, if_neg h]

set_option maxHeartbeats 400000 in
theorem length_any (b o n cap : Nat) (f : Nat → Nat) (w : World) (hn : n ≤ 18) (hc : ∀ i, i < n → w.cell? ⟨b, o + i, none⟩ = some (.int .u32 (f i))) :
   Calls Tryz.prog 60 #[.slice (some ⟨b, o, none⟩) n cap] w fun e w' => e = .returned (.int .i64 (ln f n)) ∧ w = w' := by
 have HC := Lib.hid hc
 clear hc
 go_enter Tryz.func60, Tryz.ntmps60
 go_wp2
 go_loop [3] (fun v => ∃ k : Nat, k ≤ n ∧ Hid (ln f n = ln f k) ∧ v = .int .i64 k) (fun v => (intOf v).toNat)
 case atStart => exact ⟨n, Nat.le_refl _, rfl, rfl⟩
 case round =>
   obtain ⟨k, hk, he, rfl⟩ := hrel
   rcases Nat.eq_zero_or_pos k with rfl | hpos
   · go_wp2
     go_ret
     exact ⟨by rw [he.out]; rfl, rfl⟩
   · obtain ⟨j, rfl⟩ : ∃ j, k = j + 1 := ⟨k - 1, by omega⟩
     have hcell := HC.out j Tw.om
     by_cases hz : f j = 0
     · have hb : (((f j : Nat) : Int) == 0) = true := by simp [hz]
       have HZ := Lib.hid hz
       clear hz
       go_wp2
       go_round
       case rel => exact ⟨j, by omega, by unfold Hid; rw [he.out, ln_zero f j HZ.out], by go_num⟩
       case measure => (simp [intOf] <;> omega)
     · have hb : (((f j : Nat) : Int) == 0) = false := by simp [hz]
       go_wp2
       go_ret
       exact ⟨by rw [he.out, ln_pos f j hz]; rfl, rfl⟩
end Go.Proofs.YtalmflgkbmnghaaGreatDoor
/- Arrays of digits as values and in memory. -/
namespace Go.Proofs.YtalmflgkbmnghaaGreatDoor
open Go.RowKit Tf

def fa (n : Nat) (f : Nat → Nat) : Array Value := ((List.range n).map fun i => Value.int .u32 (f i)).toArray
@[simp, go_sem] theorem fa_size (n : Nat) (f : Nat → Nat) : (fa n f).size = n := by simp [fa]
theorem fa_get {n i : Nat} (f : Nat → Nat) (h : i < n) : (fa n f)[i]? = some (.int .u32 (f i)) := by simp [fa, h]
theorem fa_set {n i v : Nat} (f : Nat → Nat) (_h : i < n) : (fa n f).setIfInBounds i (.int .u32 v) = fa n (fun j => if j = i then v else f j) := by
 apply Array.ext_getElem?
 intro j
 rw [Array.getElem?_setIfInBounds]
 by_cases hj : j < n
 · rw [fa_get _ hj, fa_get _ hj]
   by_cases e : i = j
   · subst e; simp [hj]
   · rw [if_neg e, if_neg (fun h => e h.symm)]
 · simp [fa, hj]
   intro e; omega
theorem fa_congr {n : Nat} {f g : Nat → Nat} (h : ∀ i, i < n → f i = g i) : fa n f = fa n g := by
 apply Array.ext_getElem?
 intro j
 by_cases hj : j < n
 · rw [fa_get _ hj, fa_get _ hj, h j hj]
 · simp [fa, hj]
theorem fa_setd {n i v P : Nat} (h : i < n) (hv : v < 4294967296) : (fa n (dg P)).setIfInBounds i (.int .u32 v) = fa n (dg (setd P i v)) := by
 rw [fa_set _ h]
 refine fa_congr fun j _ => ?_
 by_cases e : j = i
 · subst e; rw [if_pos rfl, dg_setd_same _ _ _ hv]
 · rw [if_neg e, dg_setd_other _ _ _ _ hv e]
theorem fa_one {n : Nat} {f : Nat → Nat} : ∀ v ∈ (fa n f).toList, v.oneCell' = true := by
 intro v hv
 simp only [fa, List.mem_map] at hv
 obtain ⟨i, _, rfl⟩ := hv
 rfl

def num (x : Nat) : Value := .agg (fa 8 (dg x))
def wid (x : Nat) : Value := .agg (fa 18 (dg x))

theorem blk_cell {w : World} {g n i : Nat} {f : Nat → Nat} {t : TypeId} (h : w.heap[g]? = some (.cells (fa n f) t (0, 0))) (hi : i < n) : w.cell? ⟨g, i, none⟩ = some (.int .u32 (f i)) := by
 rw [cell_of_row w g i _ t (0, 0) h, fa_get f hi]
theorem blk_free {w : World} {g i : Nat} {cs : Array Value} {t : TypeId} (h : w.heap[g]? = some (.cells cs t (0, 0))) : w.frozen? ⟨g, i, none⟩ = false := frozen_of_row w g i cs t h
theorem blk_set {w : World} {g n i v P : Nat} {t : TypeId} (h : w.heap[g]? = some (.cells (fa n (dg P)) t (0, 0))) (hi : i < n) (hv : v < 4294967296) :
   (w.setCell ⟨g, i, none⟩ (.int .u32 v)).heap[g]? = some (.cells (fa n (dg (setd P i v))) t (0, 0)) := by
 rw [heap_setCell_same w g i _ t _ h, fa_setd hi hv]
theorem fa_zero18 : fa 18 (fun _ => 0) = #[.int .u32 0, .int .u32 0, .int .u32 0, .int .u32 0, .int .u32 0, .int .u32 0, .int .u32 0, .int .u32 0, .int .u32 0, .int .u32 0, .int .u32 0, .int .u32 0, .int .u32 0, .int .u32 0, .int .u32 0, .int .u32 0, .int .u32 0, .int .u32 0] := rfl
theorem fa_zero8 : fa 8 (fun _ => 0) = #[.int .u32 0, .int .u32 0, .int .u32 0, .int .u32 0, .int .u32 0, .int .u32 0, .int .u32 0, .int .u32 0] := rfl
theorem fa_whole (n : Nat) (f : Nat → Nat) : fa n f = (((fa n f).toList.drop 0).take n).toArray := by
 have : ((fa n f).toList.drop 0).take n = (fa n f).toList := by rw [List.drop_zero, List.take_of_length_le (by simp)]
 rw [this]
theorem fa_over (n : Nat) (f g : Nat → Nat) : fa n f = ((fa n g).toList.take 0 ++ (Value.agg (fa n f)).cells.toList ++ (fa n g).toList.drop (0 + (Value.agg (fa n f)).cells.toList.length)).toArray := by
 have h : (fa n g).toList.drop (0 + (Value.agg (fa n f)).cells.toList.length) = [] := List.drop_eq_nil_of_le (by simp [Value.cells])
 rw [h]; simp [Value.cells]
theorem under65 : ∃ d, Tryz.prog.underlying 76 = some d ∧ aggD d = true := ⟨_, Tryz.underlying76, rfl⟩
theorem under25 : ∃ d, Tryz.prog.underlying 23 = some d ∧ aggD d = true := ⟨_, Tryz.underlying23, rfl⟩
theorem size65 : (Tryz.prog.info? 76).map (·.size) = some 18 := by kernel_rfl
theorem size25 : (Tryz.prog.info? 23).map (·.size) = some 8 := by kernel_rfl
theorem size27 : (Tryz.prog.info? 25).map (·.size) = some 17 := by kernel_rfl
theorem heap1 (w : World) (A : Obj) : (w.alloc A).heap[w.heap.size]? = some A := heap_alloc_new w A
theorem size1 (w : World) (A : Obj) : (w.alloc A).heap.size = w.heap.size + 1 := by simp
theorem heap3 (w : World) (A B C : Obj) : (((w.alloc A).alloc B).alloc C).heap[w.heap.size]? = some A ∧ (((w.alloc A).alloc B).alloc C).heap[w.heap.size + 1]? = some B ∧ (((w.alloc A).alloc B).alloc C).heap[w.heap.size + 1 + 1]? = some C := by
 refine ⟨?_, ?_, ?_⟩
 · rw [Below.heap_alloc _ C _ (by simp; omega), Below.heap_alloc _ B _ (by simp), heap1]
 · rw [Below.heap_alloc _ C _ (by simp), ← size1 w A, heap1]
 · rw [← size1 w A, ← size1 _ B, heap1]
theorem below3 (w : World) (A B C : Obj) : Below w.heap.size w (((w.alloc A).alloc B).alloc C) :=
 (((Below.refl _ _).alloc (Nat.le_refl _) _).alloc (by simp) _).alloc (by simp; omega) _
theorem heap2 (w : World) (A B : Obj) : ((w.alloc A).alloc B).heap[w.heap.size]? = some A ∧ ((w.alloc A).alloc B).heap[w.heap.size + 1]? = some B := by
 refine ⟨?_, ?_⟩
 · rw [Below.heap_alloc _ B _ (by simp), heap1]
 · rw [← size1 w A, heap1]
theorem below2 (w : World) (A B : Obj) : Below w.heap.size w ((w.alloc A).alloc B) :=
 ((Below.refl _ _).alloc (Nat.le_refl _) _).alloc (by simp) _
theorem belowN {B : Nat} {a w : World} (h : Below B a w) (n : Nat) : Below B a (w.drewN n) := ⟨h.os, h.tape, h.output, h.size, h.block⟩
theorem below1 (w : World) (A : Obj) : Below w.heap.size w (w.alloc A) := (Below.refl _ _).alloc (Nat.le_refl _) _

section
variable {P : Program}
theorem wpList_sta {ops : Array Oper} {rest : List Oper} {o : Oper} {a : Act} {w : World} {Q : Exit → Act → World → Prop} (hgd : o.guard = none) {ty t : TypeId} {x y : Operand} {g n : Nat} {f f' : Nat → Nat} (ho : o.op = .store ty x y)
   (hx : a.eval x = .pointer (some ⟨g, 0, none⟩)) (hv : a.eval y = .agg (fa n f)) (hg : w.heap[g]? = some (.cells (fa n f') t (0, 0))) (hi : (P.info? ty).map (·.size) = some n)
   (h : wpList P ops Q rest (a.put o.dst undef) (w.setRow g (fa n f))) : wpList P ops Q (o :: rest) a w :=
 wpList_stm hgd ho hx hv hg (by rw [hi]; simp [Value.cells]) (by simp [Value.cells]) fa_one (fa_over _ _ _) h
theorem wpList_lda {ops : Array Oper} {rest : List Oper} {o : Oper} {a : Act} {w : World} {Q : Exit → Act → World → Prop} (hgd : o.guard = none) {ty t : TypeId} {x : Operand} {g n : Nat} {f : Nat → Nat} {d : TypeDesc} (ho : o.op = .load ty x)
   (hx : a.eval x = .pointer (some ⟨g, 0, none⟩)) (hg : w.heap[g]? = some (.cells (fa n f) t (0, 0))) (hu : P.underlying ty = some d) (hd : aggD d = true) (hi : (P.info? ty).map (·.size) = some n)
   (h : wpList P ops Q rest (a.put o.dst (.agg (fa n f))) w) : wpList P ops Q (o :: rest) a w :=
 wpList_ld hgd ho hx hg hu hd hi (by simp) (fa_whole _ _) h
end

theorem ret_int {k : IntKind} {a b : Int} (h : a = b) : Ending.returned (.int k a) = .returned (.int k b) := by rw [h]
theorem quiet_left {P : Program} {f : FuncId} {args : Array Value} {w : World} {n : Nat} {v : Value}
   (h : Calls P f args (w.drewN n) fun e w' => e = .returned v ∧ w.drewN n = w') : Calls P f args (w.drewN n) fun e w'' => e = .returned v ∧ ∃ m, w'' = w.drewN m :=
 h.mono fun _ _ ⟨he, hm⟩ => ⟨he, n, hm.symm⟩
theorem heap4 (w : World) (A B C D : Obj) : ((((w.alloc A).alloc B).alloc C).alloc D).heap[w.heap.size]? = some A ∧ ((((w.alloc A).alloc B).alloc C).alloc D).heap[w.heap.size + 1]? = some B ∧
   ((((w.alloc A).alloc B).alloc C).alloc D).heap[w.heap.size + 1 + 1]? = some C ∧ ((((w.alloc A).alloc B).alloc C).alloc D).heap[w.heap.size + 1 + 1 + 1]? = some D := by
 have h := heap3 w A B C
 refine ⟨?_, ?_, ?_, ?_⟩
 · rw [Below.heap_alloc _ D _ (by simp; omega)]; exact h.1
 · rw [Below.heap_alloc _ D _ (by simp)]; exact h.2.1
 · rw [Below.heap_alloc _ D _ (by simp)]; exact h.2.2
 · rw [← size1 w A, ← size1 _ B, ← size1 _ C, heap1]
theorem below4 (w : World) (A B C D : Obj) : Below w.heap.size w ((((w.alloc A).alloc B).alloc C).alloc D) :=
 (below3 w A B C).alloc (by simp; omega) _
theorem sub_limb {x y c : Nat} (hx : x < 4294967296) (hy : y < 4294967296) (hc : c ≤ 1) :
   ∃ v c' : Nat, v < 4294967296 ∧ c' ≤ 1 ∧ v + y + c = x + c' * 4294967296 ∧
     IntKind.u64.wrap (IntKind.u64.wrap ((x : Int) - y) - c) % 4294967296 = v ∧ IntKind.u64.wrap (IntKind.u64.wrap ((x : Int) - y) - c) / 9223372036854775808 = c' := by
 simp only [IntKind.wrap_u64]
 by_cases h : x < y + c
 · exact ⟨x + 4294967296 - y - c, 1, by omega, by omega, by omega, by omega, by omega⟩
 · exact ⟨x - y - c, 0, by omega, by omega, by omega, by omega, by omega⟩
theorem ln_lt {x : Nat} : ∀ n, x < R n → x < R (ln (dg x) n)
 | 0, h => h
 | n + 1, h => by
   by_cases hz : dg x n = 0
   · rw [ln_zero _ _ hz]
     refine ln_lt n ?_
     have := dg_split x n
     rw [Nat.div_eq_of_lt h, hz, Nat.zero_mul, Nat.zero_mul] at this
     have h2 := mod_lt_R x n
     omega
   · rw [ln_pos _ _ hz]; exact h
theorem ln_ge {x n : Nat} (h : 0 < ln (dg x) n) : dg x (ln (dg x) n - 1) ≠ 0 := by
 induction n with
 | zero => simp [ln] at h
 | succ n ih =>
   by_cases hz : dg x n = 0
   · rw [ln_zero _ _ hz] at h ⊢; exact ih h
   · rw [ln_pos _ _ hz]; exact hz
theorem or64 {x y : Nat} (hx : x < 4294967296) (hy : y < 4294967296) : bits .or .u64 ((y : Int) * 4294967296) (x : Int) = ((y * 4294967296 + x : Nat) : Int) := by
 rw [show (y : Int) * 4294967296 = ((y * 4294967296 : Nat) : Int) from by omega, u64_or_nat _ _ Tw.om Tw.om]
 have h := Nat.two_pow_add_eq_or_of_lt (i := 32) (b := x) Tw.om y
 rw [show (2 : Nat) ^ 32 = 4294967296 from rfl, Nat.mul_comm] at h
 rw [h]
theorem splice_zero {n m : Nat} {f g : Nat → Nat} (h : m ≤ n) (hz : ∀ i, i < n → m ≤ i → g i = f i) : (splice (fa n g).toList 0 (fa m f).toList).toArray = fa n f := by
 apply Array.ext_getElem?
 intro j
 unfold splice
 simp only [List.take_zero, List.nil_append, Nat.zero_add]
 rw [List.getElem?_toArray, List.getElem?_append, List.getElem?_drop]
 simp only [Array.length_toList, fa_size]
 by_cases hj : j < m
 · rw [if_pos hj, Array.getElem?_toList, fa_get _ hj, fa_get _ Tw.om]
 · rw [if_neg hj, Array.getElem?_toList]
   by_cases hj2 : j < n
   · rw [show m + (j - m) = j from by omega, fa_get _ hj2, fa_get _ hj2, hz j hj2 Tw.om]
   · rw [show m + (j - m) = j from by omega, Array.getElem?_eq_none (by simp; omega), Array.getElem?_eq_none (by simp; omega)]
theorem under74 : Tryz.prog.underlying 65 = some (.slice 22) := Tryz.underlying65
theorem size24 : (Tryz.prog.info? 22).map (·.size) = some 1 := by kernel_rfl
theorem fa_dg0 (n : Nat) : fa n (fun _ => 0) = fa n (dg 0) := fa_congr fun i _ => (dg_of_lt' (R_pos 0) (Nat.zero_le i)).symm
theorem lt_R_of_le {x j k : Nat} (h : x < R j) (hk : j ≤ k) : x < R k := Nat.lt_of_lt_of_le h (R_le hk)
theorem wrapmod {v : Nat} (hv : v < 4294967296) : IntKind.u64.wrap (v : Int) % 4294967296 = (v : Int) := by
 simp only [IntKind.wrap_u64]; omega
theorem only_setCell {a w : World} {g i : Nat} (h : a.grownBy w (some g)) (u : Value) : a.grownBy (w.setCell ⟨g, i, none⟩ u) (some g) :=
 ⟨h.os, h.tape, h.output, by simpa [World.setCell] using h.size, fun k hk hne => (Below.heap_setCell w _ u k (by
   rintro rfl
   exact hne rfl)).trans (h.block k hk hne)⟩
theorem wpList_geq {P : Program} {ops : Array Oper} {rest : List Oper} {o : Oper} {a : Act} {w : World} {Q : Exit → Act → World → Prop} (hgd : o.guard = none) {t t' : TypeId} {x y : Operand} {k : IntKind} {m n : Int} (b : Bool) (ho : o.op = .binOp .geq t x y t')
   (hx : a.eval x = .int k m) (hy : a.eval y = .int k n) (hb : decide (n ≤ m) = b) (h : wpList P ops Q rest (a.put o.dst (.bool b)) w) : wpList P ops Q (o :: rest) a w :=
 wpList_plain hgd fun _ hK => by
   subst hb
   unfold Oper.wp
   simp only [execOp, ho, hx, hy, eqGuard_geq, binOp_geq, ge_iff_le, Sem.run_bind, Sem.run_pure, Result.andThen_ok]
   exact hK _ _ h

section
variable {P : Program} {W0 : World}
theorem yb_lda {o : Oper} {a : Act} {K : List (Nat × Obj)} {ty t : TypeId} {x : Operand} {g n : Nat} {f : Nat → Nat} {d : TypeDesc} (ho : o.op = .load ty x) (hx : a.eval x = .pointer (some ⟨g, 0, none⟩))
   (hm : (g, .cells (fa n f) t (0, 0)) ∈ K) (hu : P.underlying ty = some d) (hd : aggD d = true) (hi : (P.info? ty).map (·.size) = some n) :
   ∀ w, KS W0 K w → ∀ K' : Act → World → Prop, (∀ w', Below w.heap.size w w' → K' (a.put o.dst (.agg (fa n f))) w') → Oper.wp P o a w K' (fun _ _ _ => False) :=
 yb_load ho hx hm hu hd hi (by simp) (fa_whole _ _)
theorem st_a {o : Oper} {a : Act} {K K' : List (Nat × Obj)} {ty t : TypeId} {x y : Operand} {g n : Nat} {f f' : Nat → Nat} (ho : o.op = .store ty x y) (hx : a.eval x = .pointer (some ⟨g, 0, none⟩)) (hv : a.eval y = .agg (fa n f))
   (hm : (g, .cells (fa n f') t (0, 0)) ∈ K) (hB : W0.heap.size ≤ g) (hi : (P.info? ty).map (·.size) = some n)
   (hK : ∀ p ∈ K', p = (g, .cells (fa n f) t (0, 0)) ∨ (p ∈ K ∧ p.1 ≠ g)) : ∀ w, KS W0 K w → ∃ w', (execOp a.eval o).run P w = .ok .skip w' ∧ KS W0 K' w' :=
 st_row ho hx hv hm hB (by rw [hi]; simp [Value.cells]) (by simp [Value.cells]) fa_one (fa_over _ _ _) hK
end
theorem len65 : Tryz.prog.arrayLen 76 = 18 := by kernel_rfl
theorem len25 : Tryz.prog.arrayLen 23 = 8 := by kernel_rfl
theorem arr65 : Tryz.prog.underlying 76 = some (.array (Tryz.prog.arrayLen 76) (Tryz.prog.elem 76)) := by kernel_rfl
theorem arr25 : Tryz.prog.underlying 23 = some (.array (Tryz.prog.arrayLen 23) (Tryz.prog.elem 23)) := by kernel_rfl
theorem elem65 (w : World) : (Go.sizeOf (Tryz.prog.elem 76)).run Tryz.prog w = .ok 1 w := by kernel_rfl
theorem elem25 (w : World) : (Go.sizeOf (Tryz.prog.elem 23)).run Tryz.prog w = .ok 1 w := by kernel_rfl
theorem run_slice65 (g l h : Nat) (x y : Int) (hx : x = l) (hy : y = h) (hl : l < 18) (hlh : l ≤ h) (hh : h ≤ 18) (W : World) :
   (Instr.sliceAt 76 (.pointer (some ⟨g, 0, none⟩)) (some (.int .i64 x)) (some (.int .i64 y)) none).run Tryz.prog W = .ok (.slice (some ⟨g, l, none⟩) (h - l) (18 - l)) W := by
 subst hx hy
 rw [run_sliceAt_array_lh W 76 _ arr65 .i64 .i64 (l : Int) (h : Int) Tw.om Tw.om (by rw [len65]; omega), elem65]
 simp only [Result.andThen_ok, slicedAt, len65, Int.toNat_natCast]
 rw [if_neg Tw.om, Nat.mul_one]
 have hadd : (⟨g, 0, none⟩ : Addr).add l = ⟨g, l, none⟩ := by unfold Addr.add; split <;> simp_all
 rw [hadd]
theorem run_slice25 (g h : Nat) (y : Int) (hy : y = h) (hh : h ≤ 8) (W : World) :
   (Instr.sliceAt 23 (.pointer (some ⟨g, 0, none⟩)) none (some (.int .i64 y)) none).run Tryz.prog W = .ok (.slice (some ⟨g, 0, none⟩) h 8) W := by
 subst hy
 rw [run_sliceAt_array_h W 23 _ arr25 .i64 (h : Int) Tw.om (by rw [len25]; omega), elem25]
 simp only [Result.andThen_ok, slicedAt, len25, Int.toNat_natCast, Nat.zero_mul, Nat.sub_zero]
 rw [if_neg Tw.om, Addr.add_zero']
end Go.Proofs.YtalmflgkbmnghaaGreatDoor
namespace Go.Proofs.YtalmflgkbmnghaaGreatDoor
open Go.RowKit Tf
theorem index25_0 (g : Nat) (W : World) : (Instr.indexAt 23 (.pointer (some ⟨g, 0, none⟩)) (.int .i64 0)).run Tryz.prog W = .ok (.pointer (some ⟨g, 0, none⟩)) W := by kernel_rfl
def frcC (neg : Bool) (n d : Nat) : Array Value := #[.bool neg] ++ fa 8 (dg n) ++ fa 8 (dg d)
def frc (neg : Bool) (n d : Nat) : Value := .agg (frcC neg n d)
@[simp, go_sem] theorem frcC_size (neg : Bool) (n d : Nat) : (frcC neg n d).size = 17 := by simp [frcC]
theorem zfs {p : Prop} (h : p := by simp only [frcC_size]; kernel_rfl) : p := h
theorem zfz {p : Prop} (h : p := by simp only [frcC_size]) : p := h
theorem frc_num (neg : Bool) (n d : Nat) : fa 8 (dg n) = (((frcC neg n d).toList.drop 1).take 8).toArray := by
 simp [frcC]
theorem frc_den (neg : Bool) (n d : Nat) : fa 8 (dg d) = (((frcC neg n d).toList.drop 9).take 8).toArray := by
 have h : (frcC neg n d).toList = (Value.bool neg :: (fa 8 (dg n)).toList) ++ (fa 8 (dg d)).toList := by simp [frcC]
 rw [h, List.drop_append]
 simp
 rw [List.take_of_length_le (by simp), List.drop_eq_nil_of_le (by simp), List.nil_append, Array.toArray_toList]
theorem frc_whole (neg : Bool) (n d : Nat) : frcC neg n d = (((frcC neg n d).toList.drop 0).take 17).toArray := by
 have : ((frcC neg n d).toList.drop 0).take 17 = (frcC neg n d).toList := by rw [List.drop_zero, List.take_of_length_le (by simp)]
 rw [this]
theorem frc_neg (neg : Bool) (n d : Nat) : (frcC neg n d)[0]? = some (.bool neg) := by simp [frcC]
theorem frc_one {neg : Bool} {n d : Nat} : ∀ v ∈ (frcC neg n d).toList, v.oneCell' = true := by
 intro v hv
 simp only [frcC, Array.toList_append, List.mem_append] at hv
 rcases hv with (hv | hv) | hv
 · simp at hv; subst hv; rfl
 · exact fa_one v hv
 · exact fa_one v hv
theorem frc_over (neg neg' : Bool) (n d n' d' : Nat) : frcC neg n d = ((frcC neg' n' d').toList.take 0 ++ (Value.agg (frcC neg n d)).cells.toList ++ (frcC neg' n' d').toList.drop (0 + (Value.agg (frcC neg n d)).cells.toList.length)).toArray := by
 have h : (frcC neg' n' d').toList.drop (0 + (Value.agg (frcC neg n d)).cells.toList.length) = [] := List.drop_eq_nil_of_le (by simp [Value.cells])
 rw [h]; simp [Value.cells]
theorem frc_zero : frcC false 0 0 = #[.bool false, .int .u32 0, .int .u32 0, .int .u32 0, .int .u32 0, .int .u32 0, .int .u32 0, .int .u32 0, .int .u32 0, .int .u32 0, .int .u32 0, .int .u32 0, .int .u32 0, .int .u32 0, .int .u32 0, .int .u32 0, .int .u32 0] := by
 unfold frcC; rw [← fa_dg0, fa_zero8]; rfl
theorem frc_cell {w : World} {g : Nat} {neg : Bool} {n d : Nat} {t : TypeId} (h : w.heap[g]? = some (.cells (frcC neg n d) t (0, 0))) : w.cell? ⟨g, 0, none⟩ = some (.bool neg) := by
 rw [cell_of_row w g 0 _ t (0, 0) h, frc_neg]

end Go.Proofs.YtalmflgkbmnghaaGreatDoor
namespace Tf
open Go Go.RowKit Go.Proofs.YtalmflgkbmnghaaGreatDoor
theorem KS.newvar {w w1 : World} {K : List (Nat × Obj)} {cs cs' : Array Value} {t : TypeId} (h : KS w K w1) : KS w ((w1.heap.size, .cells cs' t (0, 0)) :: K) ((w1.alloc (.cells cs t (0, 0))).setRow w1.heap.size cs') := by
 refine KS.setRow (h.alloc (.cells cs t (0, 0))) h.1.size (heap1 _ _) fun p hp => ?_
 rcases List.mem_cons.1 hp with rfl | hp
 · exact .inl rfl
 · exact .inr ⟨List.mem_cons_of_mem _ hp, fun e => by have := lt_of_block (h.2 p hp); omega⟩
theorem KS.fresh {w w1 : World} {K : List (Nat × Obj)} (h : KS w K w1) : w.heap.size ≤ w1.heap.size ∧ ∀ p ∈ K, p.1 < w1.heap.size := ⟨h.1.size, fun p hp => lt_of_block (h.2 p hp)⟩
theorem KS.drewN {w w1 : World} {K : List (Nat × Obj)} (h : KS w K w1) (n : Nat) : KS w K (w1.drewN n) := ⟨belowN h.1 n, h.2⟩
theorem KS.four (w : World) (A B C D : Obj) : KS w [(w.heap.size, A), (w.heap.size + 1, B), (w.heap.size + 1 + 1, C), (w.heap.size + 1 + 1 + 1, D)] ((((w.alloc A).alloc B).alloc C).alloc D) := by
 have h := heap4 w A B C D
 refine ⟨below4 w A B C D, ?_⟩
 simp only [List.forall_mem_cons]
 exact ⟨h.1, h.2.1, h.2.2.1, h.2.2.2, fun _ h => by cases h⟩
theorem KS.three (w : World) (A B C : Obj) : KS w [(w.heap.size, A), (w.heap.size + 1, B), (w.heap.size + 1 + 1, C)] (((w.alloc A).alloc B).alloc C) := by
 have h := heap3 w A B C
 refine ⟨below3 w A B C, ?_⟩
 simp only [List.forall_mem_cons]
 exact ⟨h.1, h.2.1, h.2.2, fun _ h => by cases h⟩
theorem KS.two (w : World) (A B : Obj) : KS w [(w.heap.size, A), (w.heap.size + 1, B)] ((w.alloc A).alloc B) := by
 have h := heap2 w A B
 refine ⟨below2 w A B, ?_⟩
 simp only [List.forall_mem_cons]
 exact ⟨h.1, h.2, fun _ h => by cases h⟩
theorem KS.one (w : World) (A : Obj) : KS w [(w.heap.size, A)] (w.alloc A) := by
 refine ⟨below1 w A, ?_⟩
 simp only [List.forall_mem_cons]
 exact ⟨heap1 w A, fun _ h => by cases h⟩
theorem KS.put {w w1 : World} {K K' : List (Nat × Obj)} {g : Nat} {cs cs' : Array Value} {t : TypeId} (h : KS w K w1) (hg : w.heap.size ≤ g) (hm : (g, .cells cs t (0, 0)) ∈ K) (hK : ∀ p ∈ K', p = (g, .cells cs' t (0, 0)) ∨ (p ∈ K ∧ p.1 ≠ g)) : KS w K' (w1.setRow g cs') :=
 KS.setRow h hg (h.2 _ hm) hK
end Tf
namespace Go.Proofs.YtalmflgkbmnghaaGreatDoor
open Go.RowKit Tf
section
variable {P : Program} {W0 : World}
theorem wpU_vY {md : Region.Mode} {ops : Array Oper} {Q : Exit → Act → World → Prop} {i : Nat} {oi : Oper} {v : Value} {d n : Nat} {listed : Array Bool} {tm : Array Value} {df : List Deferred} {K : List (Nat × Obj)} (hi : ops[i]? = some oi) (hd : oi.dst = some d) (hlt : Nat.blt d tm.size = true)
   (hf : freeAll md ops listed i = true) (hw : Region.wanted oi (yielded ops tm) = true)
   (hy : ∀ w, KS W0 K w → ∀ K' : Act → World → Prop, (∀ w', Below w.heap.size w w' → K' (Act.put ⟨tm, df⟩ oi.dst v) w') → Oper.wp P oi ⟨tm, df⟩ w K' (fun _ _ _ => False))
   {T : Array Value} (hT : tm.setIfInBounds d v = T)
   (h : wpU P md ops Q W0 n (listed.setIfInBounds i true) ⟨T, df⟩ K) : wpU P md ops Q W0 (n + 1) listed ⟨tm, df⟩ K := by
 refine wpU_val hi hd hlt hf hw hy ?_
 rw [hd]
 subst hT
 exact h
variable {ops : Array Oper} {md : Region.Mode} {Q : Exit → Act → World → Prop}
theorem wpU_memY : ∀ (n : Nat) (listed : Array Bool) (a : Act) (K K' : List (Nat × Obj)), (∀ p, p ∈ K ↔ p ∈ K') → wpU P md ops Q W0 n listed a K → wpU P md ops Q W0 n listed a K'
 | 0, _, _, _, _, hm, h => ⟨h.1, fun w hw => h.2 w (hw.sub fun p hp => (hm p).1 hp)⟩
 | n + 1, listed, a, K, K', hm, h => by
   have hs : ∀ w, KS W0 K' w → KS W0 K w := fun w hw => hw.sub fun p hp => (hm p).1 hp
   refine ⟨fun hr w hw => h.1 hr w (hs w hw), fun i hi => ?_⟩
   obtain ⟨o, ho, hc⟩ := h.2 i hi
   refine ⟨o, ho, ?_⟩
   rcases hc with ⟨v, hy, hu⟩ | ⟨obj, hal, hu⟩ | ⟨hst, K2, hs2, hu⟩
   · refine .inl ⟨v, ?_, wpU_memY n _ _ K K' hm hu⟩
     rcases hy with ⟨h1, h2⟩ | h1
     · exact .inl ⟨h1, fun w hw => h2 w (hs w hw)⟩
     · exact .inr h1
   · exact .inr (.inl ⟨obj, hal, fun g hg hf => wpU_memY n _ _ ((g, obj) :: K) ((g, obj) :: K') (fun p => by rw [List.mem_cons, List.mem_cons, hm p]) (hu g hg fun p hp => hf p ((hm p).1 hp))⟩)
   · exact .inr (.inr ⟨hst, K2, ⟨hs2.1, fun w hw => hs2.2 w (hs w hw)⟩, hu⟩)
theorem wanted_noY {o : Oper} {y : Nat → Option Bool} (h : o.guard = none) : Region.wanted o y = true := by simp [Region.wanted, h]
theorem wpU_twoY {i j : Nat} {oi oj : Oper} {d e : Nat} {obi obj : Obj} {n : Nat} {listed : Array Bool} {tm : Array Value} {df : List Deferred} {K : List (Nat × Obj)} {T : Nat → Nat → Array Value}
   (hi : ops[i]? = some oi) (hj : ops[j]? = some oj) (hdi : oi.dst = some d) (hdj : oj.dst = some e) (hgi : oi.guard = none) (hgj : oj.guard = none)
   (hr : Region.ready md ops listed = [i, j]) (hri : Region.ready md ops (listed.setIfInBounds i true) = [j]) (hrj : Region.ready md ops (listed.setIfInBounds j true) = [i])
   (hc : (listed.setIfInBounds j true).setIfInBounds i true = (listed.setIfInBounds i true).setIfInBounds j true)
   (hai : ∀ ρ w, (execOp ρ oi).run P w = .ok (.value (.pointer (some ⟨w.heap.size, 0, none⟩))) (w.alloc obi))
   (haj : ∀ ρ w, (execOp ρ oj).run P w = .ok (.value (.pointer (some ⟨w.heap.size, 0, none⟩))) (w.alloc obj))
   (hT : ∀ g h, (tm.setIfInBounds d (.pointer (some ⟨g, 0, none⟩))).setIfInBounds e (.pointer (some ⟨h, 0, none⟩)) = T g h)
   (hT' : ∀ g h, (tm.setIfInBounds e (.pointer (some ⟨h, 0, none⟩))).setIfInBounds d (.pointer (some ⟨g, 0, none⟩)) = T g h)
   (h : ∀ g h, W0.heap.size ≤ g → W0.heap.size ≤ h → g ≠ h → (∀ p ∈ K, p.1 ≠ g) → (∀ p ∈ K, p.1 ≠ h) → wpU P md ops Q W0 n ((listed.setIfInBounds i true).setIfInBounds j true) ⟨T g h, df⟩ ((g, obi) :: (h, obj) :: K)) :
   wpU P md ops Q W0 (n + 1 + 1) listed ⟨tm, df⟩ K := by
 refine wpU_alloc2 hi hj hr (wanted_noY hgi) (wanted_noY hgj) (hai _) (haj _) (fun g hg hf => ?_) (fun g hg hf => ?_)
 · refine wpU_alloc hj hri (wanted_noY hgj) (haj _) (fun g' hg' hf' => ?_)
   rw [hdi, hdj]
   simp only [Act.put]
   rw [hT g g']
   refine wpU_memY n _ _ _ _ (fun p => ?_) (h g g' hg hg' (fun e => hf' _ Tw.m0 e) hf fun p hp => hf' p (.tail _ hp))
   simp only [List.mem_cons]; exact ⟨fun | .inl h => .inr (.inl h) | .inr (.inl h) => .inl h | .inr (.inr h) => .inr (.inr h), fun | .inl h => .inr (.inl h) | .inr (.inl h) => .inl h | .inr (.inr h) => .inr (.inr h)⟩
 · refine wpU_alloc hi hrj (wanted_noY hgi) (hai _) (fun g' hg' hf' => ?_)
   rw [hdi, hdj, hc]
   simp only [Act.put]
   rw [hT' g' g]
   exact h g' g hg' hg (fun e => hf' _ Tw.m0 e.symm) (fun p hp => hf' p (.tail _ hp)) hf
theorem wpU_newY {i : Nat} {oi : Oper} {d : Nat} {obi : Obj} {n : Nat} {listed : Array Bool} {tm : Array Value} {df : List Deferred} {K : List (Nat × Obj)} {T : Nat → Array Value}
   (hi : ops[i]? = some oi) (hdi : oi.dst = some d) (hgi : oi.guard = none)
   (hr : Region.ready md ops listed = [i])
   (hai : ∀ ρ w, (execOp ρ oi).run P w = .ok (.value (.pointer (some ⟨w.heap.size, 0, none⟩))) (w.alloc obi))
   (hT : ∀ g, (tm.setIfInBounds d (.pointer (some ⟨g, 0, none⟩))) = T g)
   (h : ∀ g, W0.heap.size ≤ g → (∀ p ∈ K, p.1 ≠ g) → wpU P md ops Q W0 n (listed.setIfInBounds i true) ⟨T g, df⟩ ((g, obi) :: K)) :
   wpU P md ops Q W0 (n + 1) listed ⟨tm, df⟩ K := by
 refine wpU_alloc hi hr (wanted_noY hgi) (hai _) (fun g hg hf => ?_)
 rw [hdi]
 simp only [Act.put]
 rw [hT g]
 exact h g hg hf
theorem wpU_sY {i : Nat} {oi : Oper} {n : Nat} {listed : Array Bool} {tm : Array Value} {df : List Deferred} {K : List (Nat × Obj)} (K' : List (Nat × Obj)) (hi : ops[i]? = some oi) (hr : Region.ready md ops listed = [i]) (hd : oi.dst = none) (hg : oi.guard = none)
   (hs : isStore oi = true) (hst : ∀ w, KS W0 K w → ∃ w', (execOp (Act.eval ⟨tm, df⟩) oi).run P w = .ok .skip w' ∧ KS W0 K' w')
   (h : wpU P md ops Q W0 n (listed.setIfInBounds i true) ⟨tm, df⟩ K') : wpU P md ops Q W0 (n + 1) listed ⟨tm, df⟩ K := by
 refine wpU_store hi hr hs (wanted_noY hg) hst ?_
 rw [hd]
 exact h
def freePY (md : Region.Mode) (ops : Array Oper) (listed : Array Bool) (i : Nat) : Bool :=
 Region.noSelect ops && (Region.free md ops listed i && ((Region.ready md ops listed).contains i && closedB md ops listed))
theorem wpU_pY {i : Nat} {oi : Oper} {v : Value} {d n : Nat} {listed : Array Bool} {tm : Array Value} {df : List Deferred} {K : List (Nat × Obj)} (hi : ops[i]? = some oi) (hd : oi.dst = some d) (hlt : Nat.blt d tm.size = true)
   (hf : freePY md ops listed i = true) (hw : Region.wanted oi (yielded ops tm) = true)
   (hy : ∀ w, (execOp (Act.eval ⟨tm, df⟩) oi).run P w = .ok (.value v) w)
   {T : Array Value} (hT : tm.setIfInBounds d v = T)
   (h : wpU P md ops Q W0 n (listed.setIfInBounds i true) ⟨T, df⟩ K) : wpU P md ops Q W0 (n + 1) listed ⟨tm, df⟩ K := by
 unfold freePY at hf
 simp only [Bool.and_eq_true] at hf
 obtain ⟨h1, h2, h3, h4⟩ := hf
 refine wpU_first (v := v) hi (Region.noSelect_spec h1) n listed _ K (closed_of h4) (Region.free_spec hi h2) (by simpa using h3)
   (.inl fun K' => .inl ⟨hw, fun w hk => Oto.of_wp hd (Nat.le_of_ble_eq_true hlt) (yb_pure (K := K') hy w hk)⟩) ?_
 rw [hd]
 subst hT
 exact h
theorem run_binY {o : Oper} {a : Act} {v vx vy : Value} {op : BinOp} {xT : TypeId} {x y : Operand} {d : TypeId}
   (ho : o.op = .binOp op xT x y d) (hx : a.eval x = vx) (hy : a.eval y = vy)
   (h : ∀ w, (do eqGuard op xT x y vx vy; binOp op xT vx vy : Sem Value).run P w = .ok v w) : ∀ w, (execOp a.eval o).run P w = .ok (.value v) w := by
 intro w
 have h0 := h w
 unfold execOp
 rw [ho]
 simp only [hx, hy]
 rw [Sem.run_bind, h0]
 rfl
theorem stepU_vY {i : Nat} {oi : Oper} {v : Value} {d n : Nat} {listed : Array Bool} {tm : Array Value} {df : List Deferred} {K : List (Nat × Obj)} (hi : ops[i]? = some oi) (hd : oi.dst = some d) (hlt : Nat.blt d tm.size = true) (hg : oi.guard = none)
   (hy : ∀ w, KS W0 K w → ∀ K' : Act → World → Prop, (∀ w', Below w.heap.size w w' → K' (Act.put ⟨tm, df⟩ oi.dst v) w') → Oper.wp P oi ⟨tm, df⟩ w K' (fun _ _ _ => False))
   {T : Array Value} (hT : tm.setIfInBounds d v = T)
   (h : wpU P md ops Q W0 n (listed.setIfInBounds i true) ⟨T, df⟩ K) : StepU P md ops Q W0 n listed ⟨tm, df⟩ K i := by
 refine stepU_val hi hd hlt (wanted_noY hg) hy ?_
 rw [hd]
 subst hT
 exact h
theorem stepU_sY {i : Nat} {oi : Oper} {n : Nat} {listed : Array Bool} {tm : Array Value} {df : List Deferred} {K : List (Nat × Obj)} (K' : List (Nat × Obj)) (hi : ops[i]? = some oi) (hd : oi.dst = none) (hg : oi.guard = none)
   (hs : isStore oi = true) (hst : ∀ w, KS W0 K w → ∃ w', (execOp (Act.eval ⟨tm, df⟩) oi).run P w = .ok .skip w' ∧ KS W0 K' w')
   (h : wpU P md ops Q W0 n (listed.setIfInBounds i true) ⟨tm, df⟩ K') : StepU P md ops Q W0 n listed ⟨tm, df⟩ K i := by
 refine stepU_store hi hs (wanted_noY hg) hst ?_
 rw [hd]
 exact h
theorem wpU_nY {i : Nat} {oi : Oper} {d n : Nat} {listed : Array Bool} {tm : Array Value} {df : List Deferred} {K : List (Nat × Obj)} (hi : ops[i]? = some oi) (hd : oi.dst = some d)
   (hf : freeAll md ops listed i = true) (hw : Region.wanted oi (yielded ops tm) = false)
   {T : Array Value} (hT : tm.setIfInBounds d undef = T)
   (h : wpU P md ops Q W0 n (listed.setIfInBounds i true) ⟨T, df⟩ K) : wpU P md ops Q W0 (n + 1) listed ⟨tm, df⟩ K := by
 refine wpU_not hi hf hw ?_
 rw [hd]
 subst hT
 exact h
theorem yb_binY {o : Oper} {a : Act} {K : List (Nat × Obj)} {v vx vy : Value} {op : BinOp} {xT : TypeId} {x y : Operand} {d : TypeId}
   (ho : o.op = .binOp op xT x y d) (hx : a.eval x = vx) (hy : a.eval y = vy)
   (h : ∀ w, (do eqGuard op xT x y vx vy; binOp op xT vx vy : Sem Value).run P w = .ok v w) :
   ∀ w, KS W0 K w → ∀ K' : Act → World → Prop, (∀ w', Below w.heap.size w w' → K' (a.put o.dst v) w') → Oper.wp P o a w K' (fun _ _ _ => False) := by
 refine yb_pure fun w => ?_
 have h0 := h w
 unfold execOp
 rw [ho]
 simp only [hx, hy]
 rw [Sem.run_bind, h0]
 rfl
end
end Go.Proofs.YtalmflgkbmnghaaGreatDoor
