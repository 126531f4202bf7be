import Derived.Test.YtalmflgkbmnghaaGreatDoorRM00
import Derived.OrdersHeld
import Derived.Below
import Derived.Laws.Rows
import Derived.WalkKit
import Derived.Laws.CopyRow
import Derived.Laws.CopyOwn
import Derived.RegionTactic
import Derived.Test.YtalmflgkbmnghaaGreatDoorProg
import Derived.WalkSpells
import Derived.WalkLawsBesides
import Derived.Handy
import Derived.Lib.Hide
import Derived.Deep.QuietTactic
import Derived.BigQuiet
import Derived.Deep.OwnRows
import Derived.Laws.BitsAllLaws
import Derived.Deep.RegionLaw
/- Part of the proof: Y0, Ng, Nb, Nv, Nl. -/
set_option linter.unusedVariables false
set_option linter.unusedSimpArgs false
set_option linter.unusedSectionVars false
namespace Go.Proofs.YtalmflgkbmnghaaGreatDoor
def cdF : Nat → Nat → List Nat
 | 0, _ => []
 | f + 1, n => if n = 0 then [] else n % 65536 :: cdF f (n / 65536)
def cd (n : Nat) : List Nat := cdF n n
def dv : List Nat → Nat
 | [] => 0
 | x :: r => x + 65536 * dv r
def dOk (l : List Nat) : Prop := ∀ x ∈ l, x < 65536
theorem cdF_eq : ∀ (f g n : Nat), n ≤ f → n ≤ g → cdF f n = cdF g n
 | 0, 0, _, _, _ => rfl
 | 0, g + 1, n, h, _ => by
   have : n = 0 := by omega
   subst this; simp [cdF]
 | f + 1, 0, n, _, h => by
   have : n = 0 := by omega
   subst this; simp [cdF]
 | f + 1, g + 1, n, h1, h2 => by
   by_cases h : n = 0
   · subst h; simp [cdF]
   · simp only [cdF, if_neg h]
     rw [cdF_eq f g (n / 65536) Tw.om Tw.om]
theorem cd_zero : cd 0 = [] := rfl
theorem cd_pos {n : Nat} (h : 0 < n) : cd n = n % 65536 :: cd (n / 65536) := by
 unfold cd
 cases n with
 | zero => omega
 | succ k =>
   simp only [cdF, if_neg (Nat.succ_ne_zero k)]
   rw [cdF_eq k ((k + 1) / 65536) _ Tw.om (Nat.le_refl _)]
theorem cd_ind {p : Nat → Prop} (h0 : p 0) (h1 : ∀ n, 0 < n → p (n / 65536) → p n) (n : Nat) : p n := by
 induction n using Nat.strongRecOn with
 | _ n ih =>
   rcases Nat.eq_zero_or_pos n with rfl | h
   · exact h0
   · exact h1 n h (ih _ Tw.om)
theorem dv_cd (n : Nat) : dv (cd n) = n := by
 induction n using cd_ind with
 | h0 => rfl
 | h1 n h ih => rw [cd_pos h, dv, ih]; omega
theorem cd_ok (n : Nat) : dOk (cd n) := by
 induction n using cd_ind with
 | h0 => exact fun x h => by cases h
 | h1 n h ih =>
   rw [cd_pos h]
   intro x hx
   rcases List.mem_cons.1 hx with rfl | hx
   · omega
   · exact ih x hx
theorem dv_lt {l : List Nat} (h : dOk l) : dv l < 65536 ^ l.length := by
 induction l with
 | nil => simp [dv]
 | cons x r ih =>
   have h1 := ih (fun y hy => h y (.tail _ hy))
   have h2 := h x Tw.m0
   simp only [dv, List.length_cons, Nat.pow_succ]
   omega
theorem dv_app (l m : List Nat) : dv (l ++ m) = dv l + 65536 ^ l.length * dv m := by
 induction l with
 | nil => simp [dv]
 | cons x r ih =>
   simp only [List.cons_append, dv, ih, List.length_cons, Nat.pow_succ, Nat.mul_add]
   rw [Nat.mul_comm (65536 ^ r.length) 65536, Nat.mul_assoc]; omega
theorem dv_snoc (l : List Nat) (x : Nat) : dv (l ++ [x]) = dv l + 65536 ^ l.length * x := by
 rw [dv_app]; simp [dv]
theorem dv_take {l : List Nat} {i x : Nat} (h : l[i]? = some x) : dv (l.take (i + 1)) = dv (l.take i) + 65536 ^ i * x := by
 obtain ⟨h1, rfl⟩ := List.getElem?_eq_some_iff.1 h
 rw [List.take_succ_eq_append_getElem h1, dv_snoc, List.length_take, Nat.min_eq_left Tw.om]
theorem dv_drop {l : List Nat} {i x : Nat} (h : l[i]? = some x) : dv (l.drop i) = x + 65536 * dv (l.drop (i + 1)) := by
 obtain ⟨h1, rfl⟩ := List.getElem?_eq_some_iff.1 h
 rw [List.drop_eq_getElem_cons h1, dv]
theorem dv_split (l : List Nat) (i : Nat) (h : i ≤ l.length) : dv l = dv (l.take i) + 65536 ^ i * dv (l.drop i) := by
 conv => lhs; rw [← List.take_append_drop i l]
 rw [dv_app, List.length_take, Nat.min_eq_left h]
theorem dOk.app {l m : List Nat} (h : dOk l) (h2 : dOk m) : dOk (l ++ m) := fun x hx => (List.mem_append.1 hx).elim (h x) (h2 x)
theorem dOk.snoc {l : List Nat} {x : Nat} (h : dOk l) (h2 : x < 65536) : dOk (l ++ [x]) := h.app (fun y hy => by cases List.mem_singleton.1 hy; exact h2)
theorem dOk.nil : dOk [] := fun x h => by cases h
theorem dOk.at {l : List Nat} {i x : Nat} (h : dOk l) (hx : l[i]? = some x) : x < 65536 := h x (List.mem_of_getElem? hx)
theorem dOk.take {l : List Nat} (h : dOk l) (i : Nat) : dOk (l.take i) := fun x hx => h x (List.mem_of_mem_take hx)
theorem dOk.drop {l : List Nat} (h : dOk l) (i : Nat) : dOk (l.drop i) := fun x hx => h x (List.mem_of_mem_drop hx)
theorem cd_app {n : Nat} (h : 0 < n) : 0 < (cd n).length := by rw [cd_pos h]; simp
theorem cd_len0 {n : Nat} : (cd n).length = 0 ↔ n = 0 := by
 constructor
 · intro h
   rcases Nat.eq_zero_or_pos n with h0 | h0
   · exact h0
   · have := cd_app h0; omega
 · rintro rfl; rfl
theorem cd_low (n : Nat) (h : 0 < n) : 65536 ^ ((cd n).length - 1) ≤ n := by
 induction n using cd_ind with
 | h0 => omega
 | h1 n h' ih =>
   rw [cd_pos h, List.length_cons, Nat.add_sub_cancel]
   rcases Nat.eq_zero_or_pos (n / 65536) with h0 | h0
   · rw [h0]; simp [cd_zero]; omega
   · have h1 := ih h0
     have h2 := cd_app h0
     generalize (cd (n / 65536)).length = k at *
     obtain ⟨k, rfl⟩ : ∃ j, k = j + 1 := ⟨k - 1, by omega⟩
     simp only [Nat.add_sub_cancel] at h1
     rw [Nat.pow_succ]
     omega
theorem cd_hi (n : Nat) : n < 65536 ^ (cd n).length := by
 have := dv_lt (cd_ok n); rwa [dv_cd] at this
theorem cd_le {n k : Nat} : (cd n).length ≤ k ↔ n < 65536 ^ k := by
 constructor
 · intro h; exact Nat.lt_of_lt_of_le (cd_hi n) (Nat.pow_le_pow_right Tw.om h)
 · intro h
   rcases Nat.eq_zero_or_pos n with rfl | h0
   · simp [cd_zero]
   · have h1 := cd_low n h0
     rcases Nat.lt_or_ge k (cd n).length with h2 | h2
     · have h3 : 65536 ^ k ≤ 65536 ^ ((cd n).length - 1) := Nat.pow_le_pow_right Tw.om Tw.om
       omega
     · exact h2
theorem dv_inj : ∀ {l m : List Nat}, dOk l → dOk m → l.length = m.length → dv l = dv m → l = m
 | [], [], _, _, _, _ => rfl
 | [], _ :: _, _, _, h, _ => by simp at h
 | _ :: _, [], _, _, h, _ => by simp at h
 | x :: r, y :: q, h1, h2, hl, hv => by
   have hx := h1 x Tw.m0; have hy := h2 y Tw.m0
   simp only [dv] at hv
   have e : x = y := by omega
   subst e
   rw [dv_inj (fun z hz => h1 z (.tail _ hz)) (fun z hz => h2 z (.tail _ hz)) (by simpa using hl) Tw.om]
theorem cd_of {l : List Nat} (h : dOk l) (hl : l.length = 0 ∨ 65536 ^ (l.length - 1) ≤ dv l) : l = cd (dv l) := by
 refine dv_inj h (cd_ok _) ?_ (dv_cd _).symm
 rcases hl with h0 | h0
 · rw [List.eq_nil_of_length_eq_zero h0]; rfl
 · have h1 := dv_lt h
   have h2 := cd_hi (dv l)
   have h3 : (cd (dv l)).length ≤ l.length := cd_le.2 h1
   rcases Nat.lt_or_ge (cd (dv l)).length l.length with h4 | h4
   · have : 65536 ^ (cd (dv l)).length ≤ 65536 ^ (l.length - 1) := Nat.pow_le_pow_right Tw.om Tw.om
     omega
   · omega
theorem dv_zero {l : List Nat} {k : Nat} (h0 : 0 < k) (h : l[k - 1]? = some 0) : dv (l.take (k - 1)) = dv (l.take k) := by
 have e := dv_take h
 rw [show k - 1 + 1 = k by omega] at e
 rw [e]; simp
theorem cd_trim {l : List Nat} {k : Nat} (hl : dOk l) (hk : k ≤ l.length) (hv : dv (l.take k) = dv l) (h : 0 < k → ∃ x, l[k - 1]? = some x ∧ x ≠ 0) : l.take k = cd (dv l) := by
 rw [← hv]
 refine cd_of (hl.take k) ?_
 rcases Nat.eq_zero_or_pos k with rfl | hk0
 · left; simp
 · right
   obtain ⟨x, hx, h0⟩ := h hk0
   have e := dv_take hx
   rw [show k - 1 + 1 = k by omega] at e
   rw [List.length_take, Nat.min_eq_left hk, e]
   have : 65536 ^ (k - 1) * 1 ≤ 65536 ^ (k - 1) * x := Nat.mul_le_mul_left _ Tw.om
   omega
theorem pow_le_pow {i k : Nat} (h : i ≤ k) : 65536 ^ i ≤ 65536 ^ k := Nat.pow_le_pow_right Tw.om h
theorem cd_low' {n i : Nat} (h : i < (cd n).length) : 65536 ^ i ≤ n := by
 have h0 : 0 < n := by
   rcases Nat.eq_zero_or_pos n with rfl | h0
   · simp [cd_zero] at h
   · exact h0
 exact Nat.le_trans (pow_le_pow Tw.om) (cd_low n h0)
theorem less_len {a b : Nat} (h : ¬ (cd a).length = (cd b).length) : decide ((cd a).length < (cd b).length) = decide (a < b) := by
 rw [decide_eq_decide]
 constructor
 · intro h1
   exact Nat.lt_of_lt_of_le (cd_hi a) (cd_low' h1)
 · intro h1
   rcases Nat.lt_or_ge (cd a).length (cd b).length with h2 | h2
   · exact h2
   · have := cd_low' (show (cd b).length < (cd a).length by omega)
     have := cd_hi b
     omega
theorem less_at {A B : List Nat} {i x y : Nat} (hA : dOk A) (hB : dOk B) (hx : A[i]? = some x) (hy : B[i]? = some y) (hne : ¬ x = y) (he : A.drop (i + 1) = B.drop (i + 1)) : decide (x < y) = decide (dv A < dv B) := by
 have h1 := (List.getElem?_eq_some_iff.1 hx).1
 have h2 := (List.getElem?_eq_some_iff.1 hy).1
 have e1 := dv_split A (i + 1) Tw.om
 have e2 := dv_split B (i + 1) Tw.om
 rw [dv_take hx] at e1; rw [dv_take hy, ← he] at e2
 have l1 := dv_lt (hA.take i); have l2 := dv_lt (hB.take i)
 rw [List.length_take, Nat.min_eq_left Tw.om] at l1 l2
 rw [decide_eq_decide, e1, e2]
 constructor
 · intro h
   have : 65536 ^ i * (x + 1) ≤ 65536 ^ i * y := Nat.mul_le_mul_left _ h
   rw [Nat.mul_add] at this
   omega
 · intro h
   rcases Nat.lt_or_ge x y with h3 | h3
   · exact h3
   · have : 65536 ^ i * (y + 1) ≤ 65536 ^ i * x := Nat.mul_le_mul_left _ Tw.om
     rw [Nat.mul_add] at this
     omega
theorem drop_step {A B : List Nat} {i x : Nat} (hx : A[i]? = some x) (hy : B[i]? = some x) (he : A.drop (i + 1) = B.drop (i + 1)) : A.drop i = B.drop i := by
 obtain ⟨h1, rfl⟩ := List.getElem?_eq_some_iff.1 hx
 obtain ⟨h2, h3⟩ := List.getElem?_eq_some_iff.1 hy
 rw [List.drop_eq_getElem_cons h1, List.drop_eq_getElem_cons h2, he, h3]
theorem dv_append0 (n : Nat) : dv ([0] ++ cd n) = 65536 * n := by
 simp [dv, dv_cd]
theorem dv_cons (x n : Nat) : dv ([x] ++ cd n) = x + 65536 * n := by
 simp [dv, dv_cd]
structure AddI (a b : Nat) (R : List Nat) (i c : Nat) : Prop where
 ok : dOk R
 len : R.length = i
 c1 : c ≤ 1
 val : dv R + 65536 ^ i * (c + dv ((cd a).drop i) + dv ((cd b).drop i)) = a + b
 low : i = 0 ∨ 65536 ^ (i - 1) ≤ a + b
theorem AddI.start (a b : Nat) : AddI a b [] 0 0 := ⟨dOk.nil, rfl, by omega, by simp [dv, dv_cd], .inl rfl⟩
theorem drop_nil {l : List Nat} {i : Nat} (h : ¬ i < l.length) : dv (l.drop i) = 0 := by rw [List.drop_of_length_le Tw.om]; rfl
theorem AddI.step {a b : Nat} {R : List Nat} {i c x y s : Nat} (h : AddI a b R i c) (hx : (i < (cd a).length ∧ (cd a)[i]? = some x) ∨ (¬ i < (cd a).length ∧ x = 0)) (hy : (i < (cd b).length ∧ (cd b)[i]? = some y) ∨ (¬ i < (cd b).length ∧ y = 0))
   (hr : i < (cd a).length ∨ i < (cd b).length ∨ 0 < c) (hs : s = c + x + y) : AddI a b (R ++ [s % 65536]) (i + 1) (s / 65536) := by
 obtain ⟨h1, h2, h3, h4, h5⟩ := h
 have bx : x < 65536 := by rcases hx with ⟨_, h⟩ | ⟨_, h⟩; exact (cd_ok a).at h; omega
 have by' : y < 65536 := by rcases hy with ⟨_, h⟩ | ⟨_, h⟩; exact (cd_ok b).at h; omega
 have ex : dv ((cd a).drop i) = x + 65536 * dv ((cd a).drop (i + 1)) := by
   rcases hx with ⟨_, h⟩ | ⟨h, h0⟩
   · exact dv_drop h
   · rw [drop_nil h, drop_nil Tw.om, h0]
 have ey : dv ((cd b).drop i) = y + 65536 * dv ((cd b).drop (i + 1)) := by
   rcases hy with ⟨_, h⟩ | ⟨h, h0⟩
   · exact dv_drop h
   · rw [drop_nil h, drop_nil Tw.om, h0]
 refine ⟨h1.snoc (Nat.mod_lt _ Tw.om), by simp [h2], by omega, ?_, .inr ?_⟩
 · rw [dv_snoc, h2, Nat.pow_succ, ← h4, ex, ey]
   generalize dv ((cd a).drop (i + 1)) = u
   generalize dv ((cd b).drop (i + 1)) = v
   generalize 65536 ^ i = p
   have e : c + (x + 65536 * u) + (y + 65536 * v) = s % 65536 + 65536 * (s / 65536 + u + v) := by omega
   rw [e]
   simp only [Nat.mul_add, Nat.mul_assoc, Nat.add_assoc]
 · rw [Nat.add_sub_cancel]
   rcases hr with h | h | h
   · have := cd_low' h; omega
   · have := cd_low' h; omega
   · by_cases ha : i < (cd a).length
     · have := cd_low' ha; omega
     by_cases hb : i < (cd b).length
     · have := cd_low' hb; omega
     rw [drop_nil ha, drop_nil hb] at h4
     have : 65536 ^ i * 1 ≤ 65536 ^ i * (c + 0 + 0) := Nat.mul_le_mul_left _ Tw.om
     omega
theorem AddI.end {a b : Nat} {R : List Nat} {i : Nat} (h : AddI a b R i 0) (ha : ¬ i < (cd a).length) (hb : ¬ i < (cd b).length) : R = cd (a + b) := by
 obtain ⟨h1, h2, h3, h4, h5⟩ := h
 rw [drop_nil ha, drop_nil hb] at h4
 have e : dv R = a + b := by simpa using h4
 rw [← e]
 refine cd_of h1 ?_
 rw [h2, e]
 exact h5
structure ScI (a by' : Nat) (R : List Nat) (i c : Nat) : Prop where
 ok : dOk R
 len : R.length = i
 c1 : c < 65536
 val : dv R + 65536 ^ i * (c + dv ((cd a).drop i) * by') = a * by'
theorem ScI.start (a b : Nat) : ScI a b [] 0 0 := ⟨dOk.nil, rfl, by omega, by simp [dv, dv_cd]⟩
theorem ScI.step {a b : Nat} {R : List Nat} {i c x s : Nat} (h : ScI a b R i c) (hb : b < 65536) (hx : (i < (cd a).length ∧ (cd a)[i]? = some x) ∨ (¬ i < (cd a).length ∧ x = 0)) (hs : s = c + x * b) : ScI a b (R ++ [s % 65536]) (i + 1) (s / 65536) := by
 obtain ⟨h1, h2, h3, h4⟩ := h
 have bx : x ≤ 65535 := by rcases hx with ⟨_, h⟩ | ⟨_, h⟩; exact Nat.le_of_lt_succ ((cd_ok a).at h); omega
 have ex : dv ((cd a).drop i) = x + 65536 * dv ((cd a).drop (i + 1)) := by
   rcases hx with ⟨_, h⟩ | ⟨h, h0⟩
   · exact dv_drop h
   · rw [drop_nil h, drop_nil Tw.om, h0]
 have hxb : x * b ≤ 65535 * 65535 := Nat.mul_le_mul bx Tw.om
 refine ⟨h1.snoc (Nat.mod_lt _ Tw.om), by simp [h2], by omega, ?_⟩
 rw [dv_snoc, h2, Nat.pow_succ, ← h4, ex]
 generalize dv ((cd a).drop (i + 1)) = u
 generalize 65536 ^ i = p
 have e : c + (x + 65536 * u) * b = s % 65536 + 65536 * (s / 65536 + u * b) := by
   rw [Nat.add_mul, Nat.mul_assoc]; omega
 rw [e]
 simp only [Nat.mul_add, Nat.mul_assoc, Nat.add_assoc]
theorem ScI.end {a b : Nat} {R : List Nat} {i : Nat} (h : ScI a b R i 0) (ha : ¬ i < (cd a).length) : dv R = a * b := by
 have h4 := h.val
 rw [drop_nil ha] at h4
 simpa using h4
structure SuI (a b : Nat) (R : List Nat) (i o : Nat) : Prop where
 ok : dOk R
 len : R.length = i
 o1 : o ≤ 1
 val : dv R + dv ((cd b).take i) = dv ((cd a).take i) + 65536 ^ i * o
theorem SuI.start (a b : Nat) : SuI a b [] 0 0 := ⟨dOk.nil, rfl, by omega, by simp [dv]⟩
theorem take_none {l : List Nat} {i : Nat} (h : ¬ i < l.length) : dv (l.take (i + 1)) = dv (l.take i) := by rw [List.take_of_length_le Tw.om, List.take_of_length_le Tw.om]
theorem SuI.step {a b : Nat} {R : List Nat} {i o x y d o' : Nat} (h : SuI a b R i o) (hx : (cd a)[i]? = some x) (hy : (i < (cd b).length ∧ (cd b)[i]? = some y) ∨ (¬ i < (cd b).length ∧ y = 0)) (hd : d < 65536) (ho : o' ≤ 1) (he : d + o + y = x + 65536 * o') : SuI a b (R ++ [d]) (i + 1) o' := by
 obtain ⟨h1, h2, h3, h4⟩ := h
 have ey : dv ((cd b).take (i + 1)) = dv ((cd b).take i) + 65536 ^ i * y := by
   rcases hy with ⟨_, h⟩ | ⟨h, h0⟩
   · exact dv_take h
   · rw [take_none h, h0]; simp
 refine ⟨h1.snoc hd, by simp [h2], ho, ?_⟩
 rw [dv_snoc, h2, ey, dv_take hx, Nat.pow_succ]
 generalize dv ((cd b).take i) = u at *
 generalize dv ((cd a).take i) = v at *
 generalize 65536 ^ i = p at *
 have e : p * (d + o + y) = p * (x + 65536 * o') := by rw [he]
 simp only [Nat.mul_add] at e
 rw [Nat.mul_assoc]
 omega
theorem SuI.end {a b : Nat} {R : List Nat} {i o : Nat} (h : SuI a b R i o) (hb : b ≤ a) (hi : ¬ i < (cd a).length) (hi2 : i ≤ (cd a).length) : dv R = a - b := by
 obtain ⟨h1, h2, h3, h4⟩ := h
 have hl : (cd b).length ≤ (cd a).length := cd_le.2 (Nat.lt_of_le_of_lt hb (cd_hi a))
 rw [List.take_of_length_le Tw.om, List.take_of_length_le Tw.om, dv_cd, dv_cd] at h4
 have h5 := dv_lt h1
 rw [h2] at h5
 rcases Nat.eq_zero_or_pos o with rfl | h0
 · simp at h4; omega
 · have : 65536 ^ i * 1 ≤ 65536 ^ i * o := Nat.mul_le_mul_left _ h0
   omega
theorem mul_step {a : Nat} {B : List Nat} {i y : Nat} (hy : B[i]? = some y) : dv ([0] ++ cd (a * dv (B.drop (i + 1)))) + a * y = a * dv (B.drop i) := by
 rw [dv_append0, dv_drop hy, Nat.mul_add, ← Nat.mul_assoc, ← Nat.mul_assoc, Nat.mul_comm 65536 a]; omega
theorem top_low {x b t p q : Nat} (hb : b < (t + 1) * p) (hx : (x / p) / (t + 1) = q) : q * b ≤ x := by
 have h1 : q * (t + 1) ≤ x / p := by rw [← hx]; exact Nat.div_mul_le_self _ _
 have h2 : x / p * p ≤ x := Nat.div_mul_le_self _ _
 calc q * b ≤ q * ((t + 1) * p) := Nat.mul_le_mul_left _ (Nat.le_of_lt hb)
   _ = q * (t + 1) * p := by rw [Nat.mul_assoc]
   _ ≤ x / p * p := Nat.mul_le_mul_right _ h1
   _ ≤ x := h2
theorem top_high {x b t p : Nat} (hp : 0 < p) (ht : 0 < t) (hb : t * p ≤ b) : x / b ≤ (x / p) / t := by
 rw [Nat.div_div_eq_div_mul, Nat.mul_comm p t]
 exact Nat.div_le_div_left hb (Nat.mul_pos ht hp)
theorem top_digit {b n t : Nat} (hn : (cd b).length = n + 1) (ht : (cd b)[n]? = some t) : 0 < t ∧ t * 65536 ^ n ≤ b ∧ b < (t + 1) * 65536 ^ n := by
 have e := dv_take ht
 rw [List.take_of_length_le Tw.om, dv_cd] at e
 have l := dv_lt ((cd_ok b).take n)
 rw [List.length_take, Nat.min_eq_left Tw.om] at l
 have h0 : 0 < b := by
   rcases Nat.eq_zero_or_pos b with rfl | h0
   · simp [cd_zero] at hn
   · exact h0
 have lo := cd_low b h0
 rw [hn, Nat.add_sub_cancel] at lo
 refine ⟨?_, ?_, ?_⟩
 · rcases Nat.eq_zero_or_pos t with rfl | h
   · simp at e; omega
   · exact h
 · rw [Nat.mul_comm]; omega
 · rw [Nat.add_mul, Nat.mul_comm t]; omega
theorem quo_digit {A O : List Nat} {b i x r q : Nat} (hx : A[i]? = some x) (hr : r = dv (A.drop (i + 1)) % b) (hb : 0 < b) (hq : q = (x + 65536 * r) / b) (hi : i < O.length) (hO : dv (O.drop (i + 1)) = dv (A.drop (i + 1)) / b) :
   dv ((O.set i q).drop i) = dv (A.drop i) / b ∧ (x + 65536 * r) - b * q = dv (A.drop i) % b := by
 have e := dv_drop hx
 have hd : (O.set i q).drop i = q :: O.drop (i + 1) := by
   rw [List.drop_eq_getElem_cons (by simpa using hi)]
   simp [List.drop_set]
 rw [hd, dv, hO, e]
 generalize dv (A.drop (i + 1)) = z at *
 have hz := Nat.div_add_mod z b
 rw [← hr] at hz
 have hm := Nat.div_add_mod (x + 65536 * r) b
 rw [← hq] at hm
 have hlt := Nat.mod_lt (x + 65536 * r) hb
 have key : x + 65536 * z = b * (q + 65536 * (z / b)) + (x + 65536 * r) % b := by
   rw [Nat.mul_add, Nat.mul_left_comm]; omega
 constructor
 · rw [key, Nat.mul_add_div hb, Nat.div_eq_of_lt hlt, Nat.add_zero]
 · rw [key, Nat.mul_add_mod, Nat.mod_eq_of_lt hlt]; omega
theorem quo_lt {x r b : Nat} (hb : 0 < b) (hx : x < 65536) (hr : r < b) : (x + 65536 * r) / b < 65536 := by
 rw [Nat.div_lt_iff_lt_mul hb]
 have : 65536 * (r + 1) ≤ 65536 * b := Nat.mul_le_mul_left _ hr
 omega
theorem mid_less {x b m : Nat} (hb : 0 < b) (h : x < b * m) : x / b < m := (Nat.div_lt_iff_lt_mul hb).2 (by rw [Nat.mul_comm]; exact h)
theorem mid_geq {x b m : Nat} (hb : 0 < b) (h : ¬ x < b * m) : m ≤ x / b := (Nat.le_div_iff_mul_le hb).2 (by rw [Nat.mul_comm]; omega)
theorem drop_lt {l : List Nat} (h : dOk l) (i n : Nat) (hi : l.length - i ≤ n) : dv (l.drop i) < 65536 ^ n := by
 refine Nat.lt_of_lt_of_le (dv_lt (h.drop i)) (pow_le_pow ?_)
 rw [List.length_drop]; exact hi
theorem low_pow {b : Nat} (hb : 0 < b) : 65536 ^ ((cd b).length - 1) ≤ b := cd_low b hb
theorem cd_quo (a b : Nat) (O : List Nat) (h : dv (O.drop 0) = dv ((cd a).drop 0) / b) : dv O = a / b := by
 simpa [dv_cd] using h
theorem dOk.set {l : List Nat} {i x : Nat} (h : dOk l) (hx : x < 65536) : dOk (l.set i x) := fun y hy => by
 rcases List.mem_or_eq_of_mem_set hy with h1 | rfl
 · exact h y h1
 · exact hx
theorem dOk.rep (n : Nat) : dOk (List.replicate n 0) := fun x hx => by rw [(List.mem_replicate.1 hx).2]; omega
theorem top_val {x n t : Nat} (_ : (cd x).length ≤ n + 2) : t = dv ((cd x).drop n) → t = x / 65536 ^ n := by
 rintro rfl
 rcases Nat.lt_or_ge (cd x).length n with h1 | h1
 · rw [List.drop_of_length_le Tw.om]
   have := cd_hi x
   have h2 : 65536 ^ (cd x).length ≤ 65536 ^ n := pow_le_pow Tw.om
   rw [Nat.div_eq_of_lt Tw.om]; rfl
 · have e := dv_split (cd x) n h1
   rw [dv_cd] at e
   have l := dv_lt ((cd_ok x).take n)
   rw [List.length_take, Nat.min_eq_left h1] at l
   rw [Nat.div_eq_of_lt_le]
   · rw [Nat.mul_comm]; omega
   · rw [Nat.add_mul, Nat.mul_comm (dv _)]; omega
end Go.Proofs.YtalmflgkbmnghaaGreatDoor
/- A statement whose order is left open, over worlds of which only some blocks are known: values (also of calls that make memory) are taken in the text's order, whatever order is drawn. Nothing of the program. -/
namespace Tw
open Go Go.RowKit

structure Base where
 w : World
 B : Nat
 le : B ≤ w.heap.size
instance : Coe World Base := ⟨fun w => ⟨w, w.heap.size, Nat.le_refl _⟩⟩
def KS (W0 : Base) (K : List (Nat × Obj)) (w : World) : Prop := Below W0.B W0.w w ∧ ∀ p ∈ K, w.heap[p.1]? = some p.2
theorem KS.size {W0 : Base} {K : List (Nat × Obj)} {w : World} (h : KS W0 K w) : W0.B ≤ w.heap.size := Nat.le_trans W0.le h.1.size

theorem KS.tail {W0 : Base} {p : Nat × Obj} {K : List (Nat × Obj)} {w : World} (h : KS W0 (p :: K) w) : KS W0 K w := ⟨h.1, fun q hq => h.2 q (List.mem_cons_of_mem _ hq)⟩
theorem KS.sub {W0 : Base} {K K' : List (Nat × Obj)} {w : World} (h : KS W0 K w) (hs : ∀ p ∈ K', p ∈ K) : KS W0 K' w := ⟨h.1, fun q hq => h.2 q (hs q hq)⟩
theorem lt_of_block {w : World} {g : Nat} {o : Obj} (h : w.heap[g]? = some o) : g < w.heap.size := (Array.getElem?_eq_some_iff.1 h).1
theorem KS.below {W0 : Base} {K : List (Nat × Obj)} {w w' : World} (h : KS W0 K w) (hb : Below w.heap.size w w') : KS W0 K w' :=
 ⟨h.1.trans (hb.mono h.size), fun p hp => (hb.block p.1 (lt_of_block (h.2 p hp))).trans (h.2 p hp)⟩
theorem KS.drew {W0 : Base} {K : List (Nat × Obj)} {w : World} (h : KS W0 K w) : KS W0 K w.drew := ⟨h.1.drew, h.2⟩
theorem KS.alloc {W0 : Base} {K : List (Nat × Obj)} {w : World} (h : KS W0 K w) (o : Obj) : KS W0 ((w.heap.size, o) :: K) (w.alloc o) :=
 ⟨h.1.alloc h.size _, fun p hp => by
   rcases List.mem_cons.1 hp with rfl | hp
   · exact heap_alloc_new w o
   · exact (Below.heap_alloc w o p.1 (lt_of_block (h.2 p hp))).trans (h.2 p hp)⟩
theorem KS.start (w : World) : KS w [] w := ⟨Below.refl _ _, fun _ h => by cases h⟩

section
variable {P : Program} {ops : Array Oper} {Q : Exit → Act → World → Prop} {md : Region.Mode} {W0 : Base}

def Oto (P : Program) (o : Oper) (ρ : Operand → Value) (w : World) (R : Value → World → Prop) : Prop :=
 match (execOp ρ o).run P w with
 | .ok (.value v) w' => R v w'
 | .ok .skip w' => R undef w'
 | .ok (.enter f args) w' => Calls P f args w' fun e w'' => ∃ v, e = .returned v ∧ R v w''
 | .ok (.row row args) w' => Rows P row args w' R
 | _ => False

theorem Oto.wp {o : Oper} {a : Act} {w : World} {R : Value → World → Prop} {K : Act → World → Prop} (h : Oto P o a.eval w R) (hk : ∀ v w', R v w' → K (a.put o.dst v) w') : o.wp P a w K Q := by
 unfold Oto at h
 unfold Oper.wp
 generalize (execOp a.eval o).run P w = r at *
 cases r with
 | ok n w' =>
   cases n <;> simp only [Oper.upon] at h ⊢
   · exact hk _ _ h
   · exact hk _ _ h
   · exact Calls.mono h fun e w'' ⟨v, he, hr⟩ => by subst he; exact hk _ _ hr
   · exact Rows.mono h fun _ _ hr => hk _ _ hr
 | halt x w' => exact h.elim

theorem Oto.of_wp {o : Oper} {a : Act} {w : World} {v : Value} {d : Nat} (hd : o.dst = some d) (hlt : d < a.tmps.size)
   (h : ∀ K : Act → World → Prop, (∀ w', Below w.heap.size w w' → K (a.put o.dst v) w') → o.wp P a w K (fun _ _ _ => False)) :
   Oto P o a.eval w (fun u w' => u = v ∧ Below w.heap.size w w') := by
 have h1 := h (fun x w' => x.defers = a.defers ∧ x.tmps[d]? = some v ∧ Below w.heap.size w w') (fun w' hb => by
   refine ⟨by simp [hd, Act.put], by simp [hd, Act.put, hlt], hb⟩)
 have put : ∀ u, (a.put o.dst u).tmps[d]? = some u := fun u => by simp [hd, Act.put, hlt]
 unfold Oper.wp at h1
 unfold Oto
 generalize (execOp a.eval o).run P w = r at *
 cases r with
 | ok n w' =>
   cases n <;> simp only [Oper.upon] at h1 ⊢
   · rename_i u
     rw [put u] at h1
     exact ⟨Option.some.inj h1.2.1, h1.2.2⟩
   · rw [put undef] at h1
     exact ⟨Option.some.inj h1.2.1, h1.2.2⟩
   · refine Calls.mono h1 fun e w'' he => ?_
     cases e with
     | returned u =>
       simp only [put u] at he
       exact ⟨u, rfl, Option.some.inj he.2.1, he.2.2⟩
     | panicked c => exact he.elim
     | outgrown => obtain ⟨_, _, hf⟩ := he; exact hf.elim
   · rename_i dd
     exfalso
     have := h1.1
     simp [hd, Act.put] at this
   · refine Rows.mono h1 fun u w'' he => ?_
     rw [put u] at he
     exact ⟨Option.some.inj he.2.1, he.2.2⟩
 | halt x w' => cases x <;> simp only [Oper.upon] at h1

def YB (P : Program) (ops : Array Oper) (W0 : Base) (K : List (Nat × Obj)) (o : Oper) (v : Value) (a : Act) : Prop :=
 (Region.wanted o (yielded ops a.tmps) = true ∧ ∀ w, KS W0 K w → Oto P o a.eval w (fun u w' => u = v ∧ Below w.heap.size w w')) ∨
 (Region.wanted o (yielded ops a.tmps) = false ∧ v = undef)
def AL (P : Program) (ops : Array Oper) (o : Oper) (obj : Obj) (a : Act) : Prop :=
 Region.wanted o (yielded ops a.tmps) = true ∧ ∀ w, (execOp a.eval o).run P w = .ok (.value (.pointer (some ⟨w.heap.size, 0, none⟩))) (w.alloc obj)
def isStore (o : Oper) : Bool := match o.op with | .store .. => true | .call c => (match c.callee with | .builtin .append => true | _ => false) | _ => false
def ST (P : Program) (ops : Array Oper) (W0 : Base) (K K' : List (Nat × Obj)) (o : Oper) (a : Act) : Prop :=
 Region.wanted o (yielded ops a.tmps) = true ∧ ∀ w, KS W0 K w → ∃ w', (execOp a.eval o).run P w = .ok .skip w' ∧ KS W0 K' w'

theorem YB.of_same {K : List (Nat × Obj)} {o : Oper} {v : Value} {a a' : Act} (hy : YB P ops W0 K o v a) (he : execOp a'.eval o = execOp a.eval o)
   (hw : Region.wanted o (yielded ops a'.tmps) = Region.wanted o (yielded ops a.tmps)) : YB P ops W0 K o v a' := by
 unfold YB Oto at *
 rw [he, hw]
 exact hy
theorem YB.more {K : List (Nat × Obj)} {p : Nat × Obj} {o : Oper} {v : Value} {a : Act} (hy : YB P ops W0 K o v a) : YB P ops W0 (p :: K) o v a :=
 hy.imp (fun h => ⟨h.1, fun w hw => h.2 w hw.tail⟩) id
theorem AL.of_same {o : Oper} {obj : Obj} {a a' : Act} (hy : AL P ops o obj a) (he : execOp a'.eval o = execOp a.eval o)
   (hw : Region.wanted o (yielded ops a'.tmps) = Region.wanted o (yielded ops a.tmps)) : AL P ops o obj a' := by
 unfold AL at *
 rw [he, hw]
 exact hy

def wpU (P : Program) (md : Region.Mode) (ops : Array Oper) (Q : Exit → Act → World → Prop) (W0 : Base) : Nat → Array Bool → Act → List (Nat × Obj) → Prop
 | 0, listed, a, K => Region.ready md ops listed = [] ∧ ∀ w, KS W0 K w → Q .normal a w
 | n + 1, listed, a, K =>
   (Region.ready md ops listed = [] → ∀ w, KS W0 K w → Q .normal a w) ∧
   ∀ i ∈ Region.ready md ops listed, ∃ o, ops[i]? = some o ∧
     ((∃ v, YB P ops W0 K o v a ∧ wpU P md ops Q W0 n (listed.setIfInBounds i true) (a.put o.dst v) K) ∨
      (∃ obj, AL P ops o obj a ∧ ∀ g, W0.B ≤ g → (∀ p ∈ K, p.1 ≠ g) → wpU P md ops Q W0 n (listed.setIfInBounds i true) (a.put o.dst (.pointer (some ⟨g, 0, none⟩))) ((g, obj) :: K)) ∨
      (isStore o = true ∧ ∃ K', ST P ops W0 K K' o a ∧ wpU P md ops Q W0 n (listed.setIfInBounds i true) (a.put o.dst undef) K'))

theorem wpU_sound : ∀ (n : Nat) (listed : Array Bool) (a : Act) (K : List (Nat × Obj)), wpU P md ops Q W0 n listed a K → ∀ w, KS W0 K w → wpAny P md ops Q n listed a w
 | 0, _, _, _, h, w, hw => ⟨h.1, h.2 w hw⟩
 | n + 1, listed, a, K, h, w, hw => by
   refine ⟨fun hr => h.1 hr w hw, fun i hi => ?_⟩
   obtain ⟨o, ho, hc⟩ := h.2 i hi
   refine wpOp_step ho fun K' hK' => ?_
   rcases hc with ⟨v, hy, hu⟩ | ⟨obj, hal, hu⟩ | ⟨_, K2, hst, hu⟩
   · rcases hy with ⟨hwn, hto⟩ | ⟨hwn, rfl⟩
     · rw [if_pos hwn]
       exact (hto w hw).wp fun u w' ⟨hu', hb⟩ => by subst hu'; exact hK' _ _ (wpU_sound n _ _ _ hu w' (hw.below hb))
     · rw [if_neg (by rw [hwn]; decide)]
       exact hK' _ _ (wpU_sound n _ _ _ hu w hw)
   · rw [if_pos hal.1]
     unfold Oper.wp
     rw [hal.2 w]
     refine hK' _ _ (wpU_sound n _ _ _ (hu w.heap.size hw.size (fun p hp e => ?_)) _ (hw.alloc obj))
     have := lt_of_block (hw.2 p hp)
     omega
   · rw [if_pos hst.1]
     obtain ⟨w', hrun, hw'⟩ := hst.2 w hw
     unfold Oper.wp
     rw [hrun]
     exact hK' _ _ (wpU_sound n _ _ _ hu w' hw')

def waits (md : Region.Mode) (ops : Array Oper) : Nat → Nat → Nat → Bool
 | 0, _, _ => false
 | n + 1, j, i => match ops[j]? with
   | none => false
   | some o => o.after.toList.any fun e => Region.binds md e && (e.on == i || waits md ops n e.on i)
def closedB (md : Region.Mode) (ops : Array Oper) (listed : Array Bool) : Bool :=
 (List.range ops.size).all fun k => !listed.getD k false || match ops[k]? with
   | none => true
   | some o => o.after.toList.all fun e => !Region.binds md e || listed.getD e.on false
def closed (md : Region.Mode) (ops : Array Oper) (listed : Array Bool) : Prop :=
 ∀ k o, ops[k]? = some o → listed.getD k false = true → ∀ e ∈ o.after, Region.binds md e = true → listed.getD e.on false = true
theorem closed_of {listed : Array Bool} (h : closedB md ops listed = true) : closed md ops listed := by
 intro k o ho hk e he hb
 unfold closedB at h
 rw [List.all_eq_true] at h
 have h1 := h k (List.mem_range.2 (Array.getElem?_eq_some_iff.1 ho).1)
 simp only [hk, ho, Bool.not_true, Bool.false_or, List.all_eq_true] at h1
 have h2 := h1 e (Array.mem_def.1 he)
 simpa [hb] using h2
theorem not_waits {listed : Array Bool} {i : Nat} (hc : closed md ops listed) (hi : listed.getD i false = false) : ∀ n j o, ops[j]? = some o → waits md ops n j i = true →
   (∀ e ∈ o.after, Region.binds md e = true → listed.getD e.on false = true) → False
 | 0, _, _, _, h, _ => by simp [waits] at h
 | n + 1, j, o, ho, h, hall => by
   simp only [waits, ho, List.any_eq_true, Bool.and_eq_true, Bool.or_eq_true, beq_iff_eq] at h
   obtain ⟨e, he, hb, h2⟩ := h
   have hl := hall e (Array.mem_def.2 he) hb
   rcases h2 with h2 | h2
   · rw [h2, hi] at hl; cases hl
   · cases hk : ops[e.on]? with
     | none =>
       cases n with
       | zero => simp [waits] at h2
       | succ n => simp [waits, hk] at h2
     | some ok => exact not_waits hc hi n e.on ok hk h2 (hc e.on ok hk hl)
theorem closed_set {listed : Array Bool} {j : Nat} (hc : closed md ops listed) (hj : j ∈ Region.ready md ops listed) : closed md ops (listed.setIfInBounds j true) := by
 obtain ⟨_, oj, hoj, hall⟩ := mem_ready.1 hj
 intro k o ho hk e he hb
 by_cases hkj : k = j
 · subst hkj
   rw [hoj] at ho
   cases ho
   exact getD_set_true (hall e he hb)
 · rw [getD_set_ne false (Ne.symm hkj)] at hk
   exact getD_set_true (hc k o ho hk e he hb)

theorem unlisted_false {listed : Array Bool} {i : Nat} (h : listed.getD i true = false) : listed.getD i false = false := by
 rcases Nat.lt_or_ge i listed.size with h' | h'
 · simp [h'] at h ⊢; exact h
 · simp [Array.getElem?_eq_none h'] at h

theorem wpU_first {i : Nat} {oi : Oper} {v : Value} (hi : ops[i]? = some oi) (hsel : ∀ (j : Nat) (o : Oper) cs b, ops[j]? = some o → o.op ≠ .select cs b) :
   ∀ (n : Nat) (listed : Array Bool) (a : Act) (K : List (Nat × Obj)), closed md ops listed →
     (∀ j oj, ops[j]? = some oj → j ≠ i → listed.getD j true = false → (∀ e ∈ oj.after, Region.binds md e = true → e.on ≠ i) → oi.apart ops oj = true) →
     i ∈ Region.ready md ops listed → ((∀ K', YB P ops W0 K' oi v a) ∨ (YB P ops W0 K oi v a ∧ ∀ j o, ops[j]? = some o → isStore o = true → ∃ m, waits md ops m j i = true)) →
     wpU P md ops Q W0 n (listed.setIfInBounds i true) (a.put oi.dst v) K → wpU P md ops Q W0 (n + 1) listed a K := by
 intro n
 induction n with
 | zero =>
   intro listed a K _ _ hr hy H
   refine ⟨fun h => (by rw [h] at hr; cases hr), fun j hj => ?_⟩
   by_cases hji : j = i
   · subst hji
     exact ⟨oi, hi, .inl ⟨v, hy.elim (fun h => h K) (fun h => h.1), H⟩⟩
   · have := ready_mono hj hji
     rw [H.1] at this
     cases this
 | succ n ih =>
   intro listed a K hcl hfree hr hy H
   refine ⟨fun h => (by rw [h] at hr; cases hr), fun j hj => ?_⟩
   by_cases hji : j = i
   · subst hji
     exact ⟨oi, hi, .inl ⟨v, hy.elim (fun h => h K) (fun h => h.1), H⟩⟩
   · obtain ⟨oj, hoj, hc⟩ := H.2 j (ready_mono hj hji)
     obtain ⟨hjun, oj', hoj', hall⟩ := mem_ready.1 hj
     rw [hoj] at hoj'
     cases hoj'
     have hiun := (mem_ready.1 hr).1
     have hnot : ∀ e ∈ oj.after, Region.binds md e = true → e.on ≠ i := fun e he hb heq => by
       have h1 := hall e he hb
       rw [heq, unlisted_false hiun] at h1
       cases h1
     have hap := hfree j oj hoj hji hjun hnot
     obtain ⟨h1, h2, h3⟩ := Oper.apart_spec hap
     have hfree' : ∀ k ok, ops[k]? = some ok → k ≠ i → (listed.setIfInBounds j true).getD k true = false →
         (∀ e ∈ ok.after, Region.binds md e = true → e.on ≠ i) → oi.apart ops ok = true := fun k ok hk hki hun hno => by
       refine hfree k ok hk hki ?_ hno
       by_cases hjk : j = k
       · subst hjk; exact hjun
       · rw [getD_set_ne true hjk] at hun; exact hun
     have hsi : ∀ cs b, oi.op ≠ .select cs b := fun cs b => hsel i oi cs b hi
     have hsj : ∀ cs b, oj.op ≠ .select cs b := fun cs b => hsel j oj cs b hoj
     have keep : ∀ K' u, YB P ops W0 K' oi v a → YB P ops W0 K' oi v (a.put oj.dst u) := fun K' u h => h.of_same (execOp_put oi hsi a oj.dst u h3) (wanted_put oi a oj.dst u h3)
     have eqe : execOp (a.put oi.dst v).eval oj = execOp a.eval oj := execOp_put oj hsj a oi.dst v h1
     have eqw : Region.wanted oj (yielded ops (a.put oi.dst v).tmps) = Region.wanted oj (yielded ops a.tmps) := wanted_put oj a oi.dst v h1
     refine ⟨oj, hoj, ?_⟩
     rcases hc with ⟨u, hyj, hu⟩ | ⟨obj, hal, hu⟩ | ⟨hs, K2, hst2, hu⟩
     · refine .inl ⟨u, hyj.of_same eqe.symm eqw.symm, ih _ _ _ (closed_set hcl hj) hfree' (ready_mono hr (Ne.symm hji)) (hy.imp (fun h K' => keep K' u (h K')) (fun h => ⟨keep K u h.1, h.2⟩)) ?_⟩
       rw [Array.setIfInBounds_comm _ _ hji, ← Act.put_comm a v u h2]
       exact hu
     · refine .inr (.inl ⟨obj, hal.of_same eqe.symm eqw.symm, fun g hg hgk => ih _ _ _ (closed_set hcl hj) hfree' (ready_mono hr (Ne.symm hji)) (hy.imp (fun h K' => keep K' _ (h K')) (fun h => ⟨(keep K _ h.1).more, h.2⟩)) ?_⟩)
       rw [Array.setIfInBounds_comm _ _ hji, ← Act.put_comm a v _ h2]
       exact hu g hg hgk
     · rcases hy with hy | ⟨hy, hwait⟩
       · refine .inr (.inr ⟨hs, K2, ⟨by rw [← eqw]; exact hst2.1, fun w hw => by rw [← eqe]; exact hst2.2 w hw⟩, ih _ _ _ (closed_set hcl hj) hfree' (ready_mono hr (Ne.symm hji)) (.inl fun K' => keep K' _ (hy K')) ?_⟩)
         rw [Array.setIfInBounds_comm _ _ hji, ← Act.put_comm a v _ h2]
         exact hu
       · obtain ⟨m, hm⟩ := hwait j oj hoj hs
         exact (not_waits hcl (unlisted_false hiun) m j oj hoj hm hall).elim

def storesWait (md : Region.Mode) (ops : Array Oper) (i : Nat) : Bool :=
 (List.range ops.size).all fun j => match ops[j]? with
   | some o => !isStore o || waits md ops 4 j i
   | none => true
theorem storesWait_spec {i : Nat} (h : storesWait md ops i = true) (j : Nat) (o : Oper) (ho : ops[j]? = some o) (hs : isStore o = true) : ∃ m, waits md ops m j i = true := by
 unfold storesWait at h
 rw [List.all_eq_true] at h
 have h1 := h j (List.mem_range.2 (Array.getElem?_eq_some_iff.1 ho).1)
 simp only [ho, hs, Bool.not_true, Bool.false_or] at h1
 exact ⟨4, h1⟩
def freeAll (md : Region.Mode) (ops : Array Oper) (listed : Array Bool) (i : Nat) : Bool :=
 Region.noSelect ops && (Region.free md ops listed i && ((Region.ready md ops listed).contains i && (closedB md ops listed && storesWait md ops i)))

theorem wpU_val {i : Nat} {oi : Oper} {v : Value} {d n : Nat} {listed : Array Bool} {a : Act} {K : List (Nat × Obj)} (hi : ops[i]? = some oi) (hd : oi.dst = some d) (hlt : Nat.blt d a.tmps.size = true)
   (hf : freeAll md ops listed i = true) (hw : Region.wanted oi (yielded ops a.tmps) = true)
   (hy : ∀ w, KS W0 K w → ∀ K' : Act → World → Prop, (∀ w', Below w.heap.size w w' → K' (a.put oi.dst v) w') → Oper.wp P oi a w K' (fun _ _ _ => False))
   (h : wpU P md ops Q W0 n (listed.setIfInBounds i true) (a.put oi.dst v) K) : wpU P md ops Q W0 (n + 1) listed a K := by
 unfold freeAll at hf
 simp only [Bool.and_eq_true] at hf
 obtain ⟨h1, h2, h3, h4, h5⟩ := hf
 exact wpU_first hi (Region.noSelect_spec h1) n listed a K (closed_of h4) (Region.free_spec hi h2) (by simpa using h3)
   (.inr ⟨.inl ⟨hw, fun w hk => Oto.of_wp hd (Nat.le_of_ble_eq_true hlt) (hy w hk)⟩, storesWait_spec h5⟩) h
theorem wpU_not {i : Nat} {oi : Oper} {n : Nat} {listed : Array Bool} {a : Act} {K : List (Nat × Obj)} (hi : ops[i]? = some oi)
   (hf : freeAll md ops listed i = true) (hw : Region.wanted oi (yielded ops a.tmps) = false)
   (h : wpU P md ops Q W0 n (listed.setIfInBounds i true) (a.put oi.dst undef) K) : wpU P md ops Q W0 (n + 1) listed a K := by
 unfold freeAll at hf
 simp only [Bool.and_eq_true] at hf
 obtain ⟨h1, h2, h3, h4, h5⟩ := hf
 exact wpU_first hi (Region.noSelect_spec h1) n listed a K (closed_of h4) (Region.free_spec hi h2) (by simpa using h3)
   (.inl fun _ => .inr ⟨hw, rfl⟩) h
theorem wpU_alloc {i : Nat} {oi : Oper} {obj : Obj} {n : Nat} {listed : Array Bool} {a : Act} {K : List (Nat × Obj)} (hi : ops[i]? = some oi) (hr : Region.ready md ops listed = [i])
   (hw : Region.wanted oi (yielded ops a.tmps) = true) (hal : ∀ w, (execOp a.eval oi).run P w = .ok (.value (.pointer (some ⟨w.heap.size, 0, none⟩))) (w.alloc obj))
   (h : ∀ g, W0.B ≤ g → (∀ p ∈ K, p.1 ≠ g) → wpU P md ops Q W0 n (listed.setIfInBounds i true) (a.put oi.dst (.pointer (some ⟨g, 0, none⟩))) ((g, obj) :: K)) : wpU P md ops Q W0 (n + 1) listed a K :=
 ⟨fun h0 => (by rw [hr] at h0; cases h0), fun j hj => by
   rw [hr] at hj
   cases List.mem_singleton.1 hj
   exact ⟨oi, hi, .inr (.inl ⟨obj, ⟨hw, hal⟩, h⟩)⟩⟩
theorem wpU_alloc2 {i j : Nat} {oi oj : Oper} {obi obj : Obj} {n : Nat} {listed : Array Bool} {a : Act} {K : List (Nat × Obj)} (hi : ops[i]? = some oi) (hj : ops[j]? = some oj) (hr : Region.ready md ops listed = [i, j])
   (hwi : Region.wanted oi (yielded ops a.tmps) = true) (hwj : Region.wanted oj (yielded ops a.tmps) = true)
   (hai : ∀ w, (execOp a.eval oi).run P w = .ok (.value (.pointer (some ⟨w.heap.size, 0, none⟩))) (w.alloc obi))
   (haj : ∀ w, (execOp a.eval oj).run P w = .ok (.value (.pointer (some ⟨w.heap.size, 0, none⟩))) (w.alloc obj))
   (h1 : ∀ g, W0.B ≤ g → (∀ p ∈ K, p.1 ≠ g) → wpU P md ops Q W0 n (listed.setIfInBounds i true) (a.put oi.dst (.pointer (some ⟨g, 0, none⟩))) ((g, obi) :: K))
   (h2 : ∀ g, W0.B ≤ g → (∀ p ∈ K, p.1 ≠ g) → wpU P md ops Q W0 n (listed.setIfInBounds j true) (a.put oj.dst (.pointer (some ⟨g, 0, none⟩))) ((g, obj) :: K)) : wpU P md ops Q W0 (n + 1) listed a K :=
 ⟨fun h0 => (by rw [hr] at h0; cases h0), fun k hk => by
   rw [hr] at hk
   rcases List.mem_cons.1 hk with rfl | hk
   · exact ⟨oi, hi, .inr (.inl ⟨obi, ⟨hwi, hai⟩, h1⟩)⟩
   · cases List.mem_singleton.1 hk
     exact ⟨oj, hj, .inr (.inl ⟨obj, ⟨hwj, haj⟩, h2⟩)⟩⟩
theorem wpU_store {i : Nat} {oi : Oper} {n : Nat} {listed : Array Bool} {a : Act} {K K' : List (Nat × Obj)} (hi : ops[i]? = some oi) (hr : Region.ready md ops listed = [i])
   (hs : isStore oi = true) (hw : Region.wanted oi (yielded ops a.tmps) = true) (hst : ∀ w, KS W0 K w → ∃ w', (execOp a.eval oi).run P w = .ok .skip w' ∧ KS W0 K' w')
   (h : wpU P md ops Q W0 n (listed.setIfInBounds i true) (a.put oi.dst undef) K') : wpU P md ops Q W0 (n + 1) listed a K :=
 ⟨fun h0 => (by rw [hr] at h0; cases h0), fun j hj => by
   rw [hr] at hj
   cases List.mem_singleton.1 hj
   exact ⟨oi, hi, .inr (.inr ⟨hs, K', ⟨hw, hst⟩, h⟩)⟩⟩
def StepU (P : Program) (md : Region.Mode) (ops : Array Oper) (Q : Exit → Act → World → Prop) (W0 : Base) (n : Nat) (listed : Array Bool) (a : Act) (K : List (Nat × Obj)) (i : Nat) : Prop :=
 ∃ o, ops[i]? = some o ∧
     ((∃ v, YB P ops W0 K o v a ∧ wpU P md ops Q W0 n (listed.setIfInBounds i true) (a.put o.dst v) K) ∨
      (∃ obj, AL P ops o obj a ∧ ∀ g, W0.B ≤ g → (∀ p ∈ K, p.1 ≠ g) → wpU P md ops Q W0 n (listed.setIfInBounds i true) (a.put o.dst (.pointer (some ⟨g, 0, none⟩))) ((g, obj) :: K)) ∨
      (isStore o = true ∧ ∃ K', ST P ops W0 K K' o a ∧ wpU P md ops Q W0 n (listed.setIfInBounds i true) (a.put o.dst undef) K'))
theorem stepU_val {i : Nat} {oi : Oper} {v : Value} {d n : Nat} {listed : Array Bool} {a : Act} {K : List (Nat × Obj)} (hi : ops[i]? = some oi) (hd : oi.dst = some d) (hlt : Nat.blt d a.tmps.size = true)
   (hw : Region.wanted oi (yielded ops a.tmps) = true)
   (hy : ∀ w, KS W0 K w → ∀ K' : Act → World → Prop, (∀ w', Below w.heap.size w w' → K' (a.put oi.dst v) w') → Oper.wp P oi a w K' (fun _ _ _ => False))
   (h : wpU P md ops Q W0 n (listed.setIfInBounds i true) (a.put oi.dst v) K) : StepU P md ops Q W0 n listed a K i :=
 ⟨oi, hi, .inl ⟨v, .inl ⟨hw, fun w hk => Oto.of_wp hd (Nat.le_of_ble_eq_true hlt) (hy w hk)⟩, h⟩⟩
theorem stepU_store {i : Nat} {oi : Oper} {n : Nat} {listed : Array Bool} {a : Act} {K K' : List (Nat × Obj)} (hi : ops[i]? = some oi)
   (hs : isStore oi = true) (hw : Region.wanted oi (yielded ops a.tmps) = true) (hst : ∀ w, KS W0 K w → ∃ w', (execOp a.eval oi).run P w = .ok .skip w' ∧ KS W0 K' w')
   (h : wpU P md ops Q W0 n (listed.setIfInBounds i true) (a.put oi.dst undef) K') : StepU P md ops Q W0 n listed a K i :=
 ⟨oi, hi, .inr (.inr ⟨hs, K', ⟨hw, hst⟩, h⟩)⟩
theorem wpU_1 {i n : Nat} {listed : Array Bool} {a : Act} {K : List (Nat × Obj)} (hr : Region.ready md ops listed = [i]) (h : StepU P md ops Q W0 n listed a K i) : wpU P md ops Q W0 (n + 1) listed a K :=
 ⟨fun h0 => (by rw [hr] at h0; cases h0), fun j hj => by
   rw [hr] at hj
   cases List.mem_singleton.1 hj
   exact h⟩
theorem wpU_2 {i j n : Nat} {listed : Array Bool} {a : Act} {K : List (Nat × Obj)} (hr : Region.ready md ops listed = [i, j]) (h : StepU P md ops Q W0 n listed a K i) (h' : StepU P md ops Q W0 n listed a K j) : wpU P md ops Q W0 (n + 1) listed a K :=
 ⟨fun h0 => (by rw [hr] at h0; cases h0), fun k hk => by
   rw [hr] at hk
   rcases List.mem_cons.1 hk with rfl | hk
   · exact h
   · cases List.mem_singleton.1 hk
     exact h'⟩
theorem wpU_done {listed : Array Bool} {a : Act} {K : List (Nat × Obj)} (hr : Region.ready md ops listed = []) (h : ∀ w, KS W0 K w → Q .normal a w) : ∀ n, wpU P md ops Q W0 n listed a K
 | 0 => ⟨hr, h⟩
 | _ + 1 => ⟨fun _ => h, by rw [hr]; simp⟩
theorem wp_region_U {id : Nat} {a : Act} {w : World} (K : List (Nat × Obj)) (hm : P.follows .mixedOrders = true) (hK : KS W0 K w)
   (h : wpU P .any ops Q W0 ops.size (Array.replicate ops.size false) a K) : (Code.region id ops true).wp P Q a w :=
 wp_region_any hm (wpU_sound _ _ _ _ h _ hK.drew)

theorem run_storeVar_mid {g off : Nat} {cs : Array Value} {t ty : TypeId} {v : Value} (w : World) (hg : w.heap[g]? = some (.cells cs t (0, 0))) (hi : (P.info? ty).map (·.size) = some v.cells.size)
   (hfit : off + v.cells.size ≤ cs.size) (h1 : ∀ x ∈ v.cells.toList, x.oneCell' = true) :
   (storeVar ty ⟨g, off, none⟩ v).run P w = .ok () (w.setRow g (cs.toList.take off ++ v.cells.toList ++ cs.toList.drop (off + v.cells.toList.length)).toArray) := by
 have hst := run_storeCells_at P g off t v.cells.toList 0 cs w hg (by simpa using hfit) h1
 cases hq : P.info? ty with
 | none => simp [hq] at hi
 | some i =>
   have hs : i.size = v.cells.size := by simpa [hq] using hi
   simp only [Nat.add_zero] at hst
   simp [storeVar, Sem.run_bind, Go.sizeOf, typeInfo, hq, hs, hst]
theorem KS.setRow {K K' : List (Nat × Obj)} {w : World} {g : Nat} {cs cs' : Array Value} {t : TypeId} (h : KS W0 K w) (hB : W0.B ≤ g) (hg : w.heap[g]? = some (.cells cs t (0, 0)))
   (hK : ∀ p ∈ K', p = (g, .cells cs' t (0, 0)) ∨ (p ∈ K ∧ p.1 ≠ g)) : KS W0 K' (w.setRow g cs') :=
 ⟨below_setRow h.1 hB _, fun p hp => by
   rcases hK p hp with rfl | ⟨hp, hne⟩
   · exact setRow_heap w g cs cs' t _ hg
   · rw [setRow_other w g p.1 cs' hne]; exact h.2 p hp⟩
theorem st_row {o : Oper} {a : Act} {K K' : List (Nat × Obj)} {ty t : TypeId} {x y : Operand} {g off : Nat} {cs cs' : Array Value} {v : Value} (ho : o.op = .store ty x y) (hx : a.eval x = .pointer (some ⟨g, off, none⟩)) (hv : a.eval y = v)
   (hm : (g, .cells cs t (0, 0)) ∈ K) (hB : W0.B ≤ g) (hi : (P.info? ty).map (·.size) = some v.cells.size)
   (hfit : off + v.cells.size ≤ cs.size) (h1 : ∀ x ∈ v.cells.toList, x.oneCell' = true)
   (hcs : cs' = (cs.toList.take off ++ v.cells.toList ++ cs.toList.drop (off + v.cells.toList.length)).toArray)
   (hK : ∀ p ∈ K', p = (g, .cells cs' t (0, 0)) ∨ (p ∈ K ∧ p.1 ≠ g)) : ∀ w, KS W0 K w → ∃ w', (execOp a.eval o).run P w = .ok .skip w' ∧ KS W0 K' w' := by
 intro w hw
 have hg := hw.2 _ hm
 subst hcs
 refine ⟨_, ?_, hw.setRow hB hg hK⟩
 have hr := run_storeVar_mid (P := P) (ty := ty) (v := v) w hg hi hfit h1
 simp only [execOp, ho, hx, hv, Instr.storeAt, Instr.sureAddr, Sem.run_bind, Sem.run_pure, Result.andThen_ok, hr]
def aggD (d : TypeDesc) : Bool := match d with | .struct _ | .array _ _ => true | _ => false
theorem run_loadVar_mid {g off n : Nat} {cs : Array Value} {t ty : TypeId} {d : TypeDesc} (w : World) (hg : w.heap[g]? = some (.cells cs t (0, 0)))
   (hu : P.underlying ty = some d) (hd : aggD d = true) (hi : (P.info? ty).map (·.size) = some n) (hfit : off + n ≤ cs.size) :
   (loadVar ty ⟨g, off, none⟩).run P w = .ok (.agg ((cs.toList.drop off).take n).toArray) w := by
 have hlen : ((cs.toList.drop off).take n).length = n := by simp; omega
 have hl : (loadCells ⟨g, off, none⟩ ((cs.toList.drop off).take n).length).run P w = .ok ((cs.toList.drop off).take n).toArray w :=
   run_loadCells_list (P := P) w ⟨g, off, none⟩ _ (fun j v hv => by
     have hadd : (⟨g, off, none⟩ : Addr).add j = ⟨g, off + j, none⟩ := by unfold Addr.add; split <;> simp_all
     rw [hadd, cell_of_row w g (off + j) cs t (0, 0) hg]
     obtain ⟨hj, hv⟩ := List.getElem?_eq_some_iff.1 hv
     rw [hlen] at hj
     rw [List.getElem_take, List.getElem_drop] at hv
     rw [Array.getElem?_eq_getElem Tw.om, ← hv]
     simp)
 rw [hlen] at hl
 cases hq : P.info? ty with
 | none => simp [hq] at hi
 | some i =>
   have hs : i.size = n := by simpa [hq] using hi
   have hagg : (isAgg ty).run P w = .ok true w := by
     unfold isAgg
     rw [Sem.run_bind, run_underlying hu w]
     unfold aggD at hd
     cases d <;> simp_all
   simp [loadVar, Sem.run_bind, hagg, Go.sizeOf, typeInfo, hq, hs, hl]
theorem yb_load {o : Oper} {a : Act} {K : List (Nat × Obj)} {ty t : TypeId} {x : Operand} {g off n : Nat} {cs vs : Array Value} {d : TypeDesc} (ho : o.op = .load ty x) (hx : a.eval x = .pointer (some ⟨g, off, none⟩))
   (hm : (g, .cells cs t (0, 0)) ∈ K) (hu : P.underlying ty = some d) (hd : aggD d = true) (hi : (P.info? ty).map (·.size) = some n) (hfit : off + n ≤ cs.size)
   (hvs : vs = ((cs.toList.drop off).take n).toArray) :
   ∀ w, KS W0 K w → ∀ K' : Act → World → Prop, (∀ w', Below w.heap.size w w' → K' (a.put o.dst (.agg vs)) w') → Oper.wp P o a w K' (fun _ _ _ => False) := by
 intro w hw K' hk
 have hr := run_loadVar_mid (P := P) (ty := ty) w (hw.2 _ hm) hu hd hi hfit
 unfold Oper.wp execOp
 simp only [ho, hx, Instr.loadAt, Instr.sureAddr, Sem.run_bind, Sem.run_pure, Result.andThen_ok, hr]
 subst hvs
 exact hk w (Below.refl _ _)

theorem wpList_ld {ops : Array Oper} {rest : List Oper} {o : Oper} {a : Act} {w : World} {Q : Exit → Act → World → Prop} (hgd : o.guard = none) {ty t : TypeId} {x : Operand} {g off n : Nat} {cs vs : Array Value} {d : TypeDesc} (ho : o.op = .load ty x)
   (hx : a.eval x = .pointer (some ⟨g, off, none⟩)) (hg : w.heap[g]? = some (.cells cs t (0, 0))) (hu : P.underlying ty = some d) (hd : aggD d = true)
   (hi : (P.info? ty).map (·.size) = some n) (hfit : off + n ≤ cs.size) (hvs : vs = ((cs.toList.drop off).take n).toArray)
   (h : wpList P ops Q rest (a.put o.dst (.agg vs)) w) : wpList P ops Q (o :: rest) a w :=
 wpList_plain hgd fun _ hK => by
   have hr := run_loadVar_mid (P := P) (ty := ty) w hg hu hd hi hfit
   unfold Oper.wp execOp
   simp only [ho, hx, Instr.loadAt, Instr.sureAddr, Sem.run_bind, Sem.run_pure, Result.andThen_ok, hr]
   subst hvs
   exact hK _ _ h
theorem wpList_stm {ops : Array Oper} {rest : List Oper} {o : Oper} {a : Act} {w : World} {Q : Exit → Act → World → Prop} (hgd : o.guard = none) {ty t : TypeId} {x y : Operand} {g off : Nat} {cs cs' : Array Value} {v : Value} (ho : o.op = .store ty x y)
   (hx : a.eval x = .pointer (some ⟨g, off, none⟩)) (hv : a.eval y = v) (hg : w.heap[g]? = some (.cells cs t (0, 0))) (hi : (P.info? ty).map (·.size) = some v.cells.size)
   (hfit : off + v.cells.size ≤ cs.size) (h1 : ∀ x ∈ v.cells.toList, x.oneCell' = true)
   (hcs : cs' = (cs.toList.take off ++ v.cells.toList ++ cs.toList.drop (off + v.cells.toList.length)).toArray)
   (h : wpList P ops Q rest (a.put o.dst undef) (w.setRow g cs')) : wpList P ops Q (o :: rest) a w :=
 wpList_plain hgd fun _ hK => by
   have hr := run_storeVar_mid (P := P) (ty := ty) (v := v) w hg hi hfit h1
   unfold Oper.wp execOp
   simp only [ho, hx, hv, Instr.storeAt, Instr.sureAddr, Sem.run_bind, Sem.run_pure, Result.andThen_ok, hr]
   subst hcs
   exact hK _ _ h

theorem run_loadVar_all {g : Nat} {cs : Array Value} {t ty : TypeId} {d : TypeDesc} (w : World) (hg : w.heap[g]? = some (.cells cs t (0, 0)))
   (hu : P.underlying ty = some d) (hd : aggD d = true) (hi : (P.info? ty).map (·.size) = some cs.size) : (loadVar ty ⟨g, 0, none⟩).run P w = .ok (.agg cs) w := by
 have h := run_loadVar_mid (P := P) (ty := ty) (off := 0) w hg hu hd hi Tw.om
 have e : ((cs.toList.drop 0).take cs.size).toArray = cs := by
   rw [List.drop_zero, List.take_of_length_le (by simp)]
 rw [e] at h
 exact h
theorem res_cell {fn : Func} {p : Tmp} {ty : TypeId} (h : fn.results = #[.cell p ty]) {tmps : Array Value} {w : World} {g : Nat} {t : TypeId} {cs : Array Value} {d : TypeDesc}
   (hp : tmps.getD p undef = .pointer (some ⟨g, 0, none⟩)) (hg : w.heap[g]? = some (.cells cs t (0, 0)))
   (hu : P.underlying ty = some d) (hd : aggD d = true) (hi : (P.info? ty).map (·.size) = some cs.size) :
   (results fn tmps).run P w = .ok (.agg cs) w := by
 have hp' : tmps[p]?.getD undef = .pointer (some ⟨g, 0, none⟩) := by simpa using hp
 simp [results, h, hp', asAddr, run_loadVar_all w hg hu hd hi]
theorem res_cell_tmp {fn : Func} {p q : Tmp} {ty : TypeId} (h : fn.results = #[.cell p ty, .tmp q]) {tmps : Array Value} {w : World} {g : Nat} {t : TypeId} {cs : Array Value} {d : TypeDesc}
   (hp : tmps.getD p undef = .pointer (some ⟨g, 0, none⟩)) (hg : w.heap[g]? = some (.cells cs t (0, 0)))
   (hu : P.underlying ty = some d) (hd : aggD d = true) (hi : (P.info? ty).map (·.size) = some cs.size) :
   (results fn tmps).run P w = .ok (.tuple #[.agg cs, tmps.getD q undef]) w := by
 have hp' : tmps[p]?.getD undef = .pointer (some ⟨g, 0, none⟩) := by simpa using hp
 simp [results, h, hp', asAddr, run_loadVar_all w hg hu hd hi]
theorem res_tmp_cell {fn : Func} {p q : Tmp} {ty : TypeId} (h : fn.results = #[.tmp q, .cell p ty]) {tmps : Array Value} {w : World} {g : Nat} {t : TypeId} {cs : Array Value} {d : TypeDesc}
   (hp : tmps.getD p undef = .pointer (some ⟨g, 0, none⟩)) (hg : w.heap[g]? = some (.cells cs t (0, 0)))
   (hu : P.underlying ty = some d) (hd : aggD d = true) (hi : (P.info? ty).map (·.size) = some cs.size) :
   (results fn tmps).run P w = .ok (.tuple #[tmps.getD q undef, .agg cs]) w := by
 have hp' : tmps[p]?.getD undef = .pointer (some ⟨g, 0, none⟩) := by simpa using hp
 simp [results, h, hp', asAddr, run_loadVar_all w hg hu hd hi]
theorem res_cell_cell {fn : Func} {p q : Tmp} {ty uy : TypeId} (h : fn.results = #[.cell p ty, .cell q uy]) {tmps : Array Value} {w : World} {g g' : Nat} {t t' : TypeId} {cs cs' : Array Value} {d d' : TypeDesc}
   (hp : tmps.getD p undef = .pointer (some ⟨g, 0, none⟩)) (hg : w.heap[g]? = some (.cells cs t (0, 0)))
   (hu : P.underlying ty = some d) (hd : aggD d = true) (hi : (P.info? ty).map (·.size) = some cs.size)
   (hq : tmps.getD q undef = .pointer (some ⟨g', 0, none⟩)) (hg' : w.heap[g']? = some (.cells cs' t' (0, 0)))
   (hu' : P.underlying uy = some d') (hd' : aggD d' = true) (hi' : (P.info? uy).map (·.size) = some cs'.size) :
   (results fn tmps).run P w = .ok (.tuple #[.agg cs, .agg cs']) w := by
 have hp' : tmps[p]?.getD undef = .pointer (some ⟨g, 0, none⟩) := by simpa using hp
 have hq' : tmps[q]?.getD undef = .pointer (some ⟨g', 0, none⟩) := by simpa using hq
 simp [results, h, hp', hq', asAddr, run_loadVar_all w hg hu hd hi, run_loadVar_all w hg' hu' hd' hi']

theorem step_copy_at {o : Oper} {a : Act} {w : World} {K : Act → World → Prop} {E : Prop} (hgd : o.guard = none) (d s : Operand) (dT sT : TypeId)
   (ho : o.op = .call { callee := .builtin .copy, args := #[d, s], argTypes := #[dT, sT] }) (elem : TypeId) (hu : P.underlying dT = some (.slice elem)) (hsz : (P.info? elem).map (·.size) = some 1)
   (g off dLen dCap : Nat) (ad : Addr) (sLen sCap : Nat) (hd : a.eval d = .slice (some ⟨g, off, none⟩) dLen dCap) (hs : a.eval s = .slice (some ad) sLen sCap)
   (cur : Array Value) (t : TypeId) (hg : w.heap[g]? = some (.cells cur t (0, 0))) (cs : List Value) (hn : cs.length = Nat.min sLen dLen)
   (hsrc : ∀ j v, cs[j]? = some v → w.cell? (ad.add j) = some v) (hfit : off + cs.length ≤ cur.size) (h1 : ∀ v ∈ cs, v.oneCell' = true)
   (h : K (a.put o.dst (goInt cs.length)) (w.setRow g (splice cur.toList off cs).toArray)) :
   if Region.wanted o (yielded ops a.tmps) = true then Oper.wp P o a w K Q else E := by
 have hw : Region.wanted o (yielded ops a.tmps) = true := by simp [Region.wanted, hgd]
 rw [if_pos hw]
 have hrun := run_copy_row (P := P) w dT sT o.type elem g off dLen dCap ad sLen sCap cur t cs hu hsz hg hn hsrc hfit h1
 unfold Oper.wp
 simp [execOp, ho, resolve, invoke, builtin, hd, hs, hrun, Result.andThen]
 exact h

theorem yb_pure {o : Oper} {a : Act} {K : List (Nat × Obj)} {v : Value} (h : ∀ w, (execOp a.eval o).run P w = .ok (.value v) w) :
   ∀ w, KS W0 K w → ∀ K' : Act → World → Prop, (∀ w', Below w.heap.size w w' → K' (a.put o.dst v) w') → Oper.wp P o a w K' (fun _ _ _ => False) := by
 intro w _ K' hk
 unfold Oper.wp
 rw [h w]
 exact hk w (Below.refl _ _)
theorem yb_call {o : Oper} {a : Act} {K : List (Nat × Obj)} {v : Value} {f : FuncId} {args : Array Value} (hf : ∀ w, (execOp a.eval o).run P w = .ok (.enter f args) w)
   (h : ∀ w, KS W0 K w → Calls P f args w fun e w' => e = .returned v ∧ Below w.heap.size w w') :
   ∀ w, KS W0 K w → ∀ K' : Act → World → Prop, (∀ w', Below w.heap.size w w' → K' (a.put o.dst v) w') → Oper.wp P o a w K' (fun _ _ _ => False) := by
 intro w hw K' hk
 unfold Oper.wp
 rw [hf w]
 refine (h w hw).mono fun e w' ⟨he, hb⟩ => ?_
 subst he
 exact hk w' hb
end
end Tw
namespace Go.Proofs.YtalmflgkbmnghaaGreatDoor
open Go.RowKit Tw
section
variable {P : Program} {W0 : Base}
variable {ops : Array Oper} {md : Region.Mode} {Q : Exit → Act → World → Prop}
theorem wanted_no {o : Oper} {y : Nat → Option Bool} (h : o.guard = none) : Region.wanted o y = true := by simp [Region.wanted, h]
def freeP (md : Region.Mode) (ops : Array Oper) (listed : Array Bool) (i : Nat) : Bool :=
 Region.noSelect ops && (Region.free md ops listed i && ((Region.ready md ops listed).contains i && closedB md ops listed))
theorem run_bin {o : Oper} {a : Act} {v vx vy : Value} {op : BinOp} {xT : TypeId} {x y : Operand} {d : TypeId}
   (ho : o.op = .binOp op xT x y d) (hx : a.eval x = vx) (hy : a.eval y = vy)
   (h : ∀ w, (do eqGuard op xT x y vx vy; binOp op xT vx vy : Sem Value).run P w = .ok v w) : ∀ w, (execOp a.eval o).run P w = .ok (.value v) w := by
 intro w
 have h0 := h w
 unfold execOp
 rw [ho]
 simp only [hx, hy]
 rw [Sem.run_bind, h0]
 rfl
end
end Go.Proofs.YtalmflgkbmnghaaGreatDoor
/- The law of regions over known blocks (Rg, Yb) once more, for values of new blocks other than pointers (slices of parts). Nothing of the program. -/
namespace Tw
open Go Go.RowKit Go.Proofs.YtalmflgkbmnghaaGreatDoor
section
variable {P : Program} {ops : Array Oper} {Q : Exit → Act → World → Prop} {md : Region.Mode} {W0 : Base}
def AV (P : Program) (ops : Array Oper) (o : Oper) (obj : Obj) (mk : Nat → Value) (a : Act) : Prop :=
 Region.wanted o (yielded ops a.tmps) = true ∧ ∀ w, (execOp a.eval o).run P w = .ok (.value (mk w.heap.size)) (w.alloc obj)

theorem AV.of_same {o : Oper} {obj : Obj} {mk : Nat → Value} {a a' : Act} (hy : AV P ops o obj mk a) (he : execOp a'.eval o = execOp a.eval o)
   (hw : Region.wanted o (yielded ops a'.tmps) = Region.wanted o (yielded ops a.tmps)) : AV P ops o obj mk a' := by
 unfold AV at *
 rw [he, hw]
 exact hy

def GV (P : Program) (ops : Array Oper) (W0 : Base) (K : List (Nat × Obj)) (G : Value → List (Nat × Obj) → Prop) (o : Oper) (a : Act) : Prop :=
 Region.wanted o (yielded ops a.tmps) = true ∧ ∀ w, KS W0 K w → Oto P o a.eval w (fun v w' => ∃ K', KS W0 K' w' ∧ G v K')
theorem oto_of_run {P : Program} {o : Oper} {ρ : Operand → Value} {w w' : World} {v : Value} {R : Value → World → Prop} (h : (execOp ρ o).run P w = .ok (.value v) w') (hR : R v w') : Oto P o ρ w R := by
 unfold Oto
 rw [h]
 exact hR
theorem oto_same {P : Program} {o : Oper} {ρ ρ' : Operand → Value} {w : World} {R : Value → World → Prop} (he : execOp ρ' o = execOp ρ o) (h : Oto P o ρ w R) : Oto P o ρ' w R := by
 unfold Oto at *
 rw [he]
 exact h
theorem YB.sub {K K' : List (Nat × Obj)} {o : Oper} {v : Value} {a : Act} (hy : YB P ops W0 K o v a) (hs : ∀ p ∈ K, p ∈ K') : YB P ops W0 K' o v a :=
 hy.imp (fun h => ⟨h.1, fun w hw => h.2 w (hw.sub hs)⟩) id
def wpV (P : Program) (md : Region.Mode) (ops : Array Oper) (Q : Exit → Act → World → Prop) (W0 : Base) : Nat → Array Bool → Act → List (Nat × Obj) → Prop
 | 0, listed, a, K => Region.ready md ops listed = [] ∧ ∀ w, KS W0 K w → Q .normal a w
 | n + 1, listed, a, K =>
   (Region.ready md ops listed = [] → ∀ w, KS W0 K w → Q .normal a w) ∧
   ∀ i ∈ Region.ready md ops listed, ∃ o, ops[i]? = some o ∧
     ((∃ v, YB P ops W0 K o v a ∧ wpV P md ops Q W0 n (listed.setIfInBounds i true) (a.put o.dst v) K) ∨
      (∃ obj, ∃ mk : Nat → Value, AV P ops o obj mk a ∧ ∀ g, W0.B ≤ g → (∀ p ∈ K, p.1 ≠ g) → wpV P md ops Q W0 n (listed.setIfInBounds i true) (a.put o.dst (mk g)) ((g, obj) :: K)) ∨
      (isStore o = true ∧ ∃ K', ST P ops W0 K K' o a ∧ wpV P md ops Q W0 n (listed.setIfInBounds i true) (a.put o.dst undef) K') ∨
      (∃ G : Value → List (Nat × Obj) → Prop, (isStore o = true ∨ ∀ v K', G v K' → ∀ p ∈ K, p ∈ K') ∧ GV P ops W0 K G o a ∧ ∀ v K', G v K' → wpV P md ops Q W0 n (listed.setIfInBounds i true) (a.put o.dst v) K'))

theorem wpV_sound : ∀ (n : Nat) (listed : Array Bool) (a : Act) (K : List (Nat × Obj)), wpV P md ops Q W0 n listed a K → ∀ w, KS W0 K w → wpAny P md ops Q n listed a w
 | 0, _, _, _, h, w, hw => ⟨h.1, h.2 w hw⟩
 | n + 1, listed, a, K, h, w, hw => by
   refine ⟨fun hr => h.1 hr w hw, fun i hi => ?_⟩
   obtain ⟨o, ho, hc⟩ := h.2 i hi
   refine wpOp_step ho fun K' hK' => ?_
   rcases hc with ⟨v, hy, hu⟩ | ⟨obj, mk, hal, hu⟩ | ⟨_, K2, hst, hu⟩ | ⟨G, _, hgv, hu⟩
   · rcases hy with ⟨hwn, hto⟩ | ⟨hwn, rfl⟩
     · rw [if_pos hwn]
       exact (hto w hw).wp fun u w' ⟨hu', hb⟩ => by subst hu'; exact hK' _ _ (wpV_sound n _ _ _ hu w' (hw.below hb))
     · rw [if_neg (by rw [hwn]; decide)]
       exact hK' _ _ (wpV_sound n _ _ _ hu w hw)
   · rw [if_pos hal.1]
     unfold Oper.wp
     rw [hal.2 w]
     refine hK' _ _ (wpV_sound n _ _ _ (hu w.heap.size hw.size (fun p hp e => ?_)) _ (hw.alloc obj))
     have := lt_of_block (hw.2 p hp)
     omega
   · rw [if_pos hst.1]
     obtain ⟨w', hrun, hw'⟩ := hst.2 w hw
     unfold Oper.wp
     rw [hrun]
     exact hK' _ _ (wpV_sound n _ _ _ hu w' hw')
   · rw [if_pos hgv.1]
     exact (hgv.2 w hw).wp fun v w' ⟨K2, hw', hG⟩ => hK' _ _ (wpV_sound n _ _ _ (hu v K2 hG) w' hw')


theorem wpV_first {i : Nat} {oi : Oper} {v : Value} (hi : ops[i]? = some oi) (hsel : ∀ (j : Nat) (o : Oper) cs b, ops[j]? = some o → o.op ≠ .select cs b) :
   ∀ (n : Nat) (listed : Array Bool) (a : Act) (K : List (Nat × Obj)), closed md ops listed →
     (∀ j oj, ops[j]? = some oj → j ≠ i → listed.getD j true = false → (∀ e ∈ oj.after, Region.binds md e = true → e.on ≠ i) → oi.apart ops oj = true) →
     i ∈ Region.ready md ops listed → ((∀ K', YB P ops W0 K' oi v a) ∨ (YB P ops W0 K oi v a ∧ ∀ j o, ops[j]? = some o → isStore o = true → ∃ m, waits md ops m j i = true)) →
     wpV P md ops Q W0 n (listed.setIfInBounds i true) (a.put oi.dst v) K → wpV P md ops Q W0 (n + 1) listed a K := by
 intro n
 induction n with
 | zero =>
   intro listed a K _ _ hr hy H
   refine ⟨fun h => (by rw [h] at hr; cases hr), fun j hj => ?_⟩
   by_cases hji : j = i
   · subst hji
     exact ⟨oi, hi, .inl ⟨v, hy.elim (fun h => h K) (fun h => h.1), H⟩⟩
   · have := ready_mono hj hji
     rw [H.1] at this
     cases this
 | succ n ih =>
   intro listed a K hcl hfree hr hy H
   refine ⟨fun h => (by rw [h] at hr; cases hr), fun j hj => ?_⟩
   by_cases hji : j = i
   · subst hji
     exact ⟨oi, hi, .inl ⟨v, hy.elim (fun h => h K) (fun h => h.1), H⟩⟩
   · obtain ⟨oj, hoj, hc⟩ := H.2 j (ready_mono hj hji)
     obtain ⟨hjun, oj', hoj', hall⟩ := mem_ready.1 hj
     rw [hoj] at hoj'
     cases hoj'
     have hiun := (mem_ready.1 hr).1
     have hnot : ∀ e ∈ oj.after, Region.binds md e = true → e.on ≠ i := fun e he hb heq => by
       have h1 := hall e he hb
       rw [heq, unlisted_false hiun] at h1
       cases h1
     have hap := hfree j oj hoj hji hjun hnot
     obtain ⟨h1, h2, h3⟩ := Oper.apart_spec hap
     have hfree' : ∀ k ok, ops[k]? = some ok → k ≠ i → (listed.setIfInBounds j true).getD k true = false →
         (∀ e ∈ ok.after, Region.binds md e = true → e.on ≠ i) → oi.apart ops ok = true := fun k ok hk hki hun hno => by
       refine hfree k ok hk hki ?_ hno
       by_cases hjk : j = k
       · subst hjk; exact hjun
       · rw [getD_set_ne true hjk] at hun; exact hun
     have hsi : ∀ cs b, oi.op ≠ .select cs b := fun cs b => hsel i oi cs b hi
     have hsj : ∀ cs b, oj.op ≠ .select cs b := fun cs b => hsel j oj cs b hoj
     have keep : ∀ K' u, YB P ops W0 K' oi v a → YB P ops W0 K' oi v (a.put oj.dst u) := fun K' u h => h.of_same (execOp_put oi hsi a oj.dst u h3) (wanted_put oi a oj.dst u h3)
     have eqe : execOp (a.put oi.dst v).eval oj = execOp a.eval oj := execOp_put oj hsj a oi.dst v h1
     have eqw : Region.wanted oj (yielded ops (a.put oi.dst v).tmps) = Region.wanted oj (yielded ops a.tmps) := wanted_put oj a oi.dst v h1
     refine ⟨oj, hoj, ?_⟩
     rcases hc with ⟨u, hyj, hu⟩ | ⟨obj, mk, hal, hu⟩ | ⟨hs, K2, hst2, hu⟩ | ⟨G, hs, hg2, hu⟩
     · refine .inl ⟨u, hyj.of_same eqe.symm eqw.symm, ih _ _ _ (closed_set hcl hj) hfree' (ready_mono hr (Ne.symm hji)) (hy.imp (fun h K' => keep K' u (h K')) (fun h => ⟨keep K u h.1, h.2⟩)) ?_⟩
       rw [Array.setIfInBounds_comm _ _ hji, ← Act.put_comm a v u h2]
       exact hu
     · refine .inr (.inl ⟨obj, mk, hal.of_same eqe.symm eqw.symm, fun g hg hgk => ih _ _ _ (closed_set hcl hj) hfree' (ready_mono hr (Ne.symm hji)) (hy.imp (fun h K' => keep K' _ (h K')) (fun h => ⟨(keep K _ h.1).more, h.2⟩)) ?_⟩)
       rw [Array.setIfInBounds_comm _ _ hji, ← Act.put_comm a v _ h2]
       exact hu g hg hgk
     · rcases hy with hy | ⟨hy, hwait⟩
       · refine .inr (.inr (.inl ⟨hs, K2, ⟨by rw [← eqw]; exact hst2.1, fun w hw => by rw [← eqe]; exact hst2.2 w hw⟩, ih _ _ _ (closed_set hcl hj) hfree' (ready_mono hr (Ne.symm hji)) (.inl fun K' => keep K' _ (hy K')) ?_⟩))
         rw [Array.setIfInBounds_comm _ _ hji, ← Act.put_comm a v _ h2]
         exact hu
       · obtain ⟨m, hm⟩ := hwait j oj hoj hs
         exact (not_waits hcl (unlisted_false hiun) m j oj hoj hm hall).elim
     · rcases hy with hy | ⟨hy, hwait⟩
       · refine .inr (.inr (.inr ⟨G, hs, ⟨by rw [← eqw]; exact hg2.1, fun w hw => oto_same eqe.symm (hg2.2 w hw)⟩, fun u K2 hG => ih _ _ _ (closed_set hcl hj) hfree' (ready_mono hr (Ne.symm hji)) (.inl fun K' => keep K' _ (hy K')) ?_⟩))
         rw [Array.setIfInBounds_comm _ _ hji, ← Act.put_comm a v _ h2]
         exact hu u K2 hG
       · rcases hs with hs | hm
         · obtain ⟨m, hm⟩ := hwait j oj hoj hs
           exact (not_waits hcl (unlisted_false hiun) m j oj hoj hm hall).elim
         · refine .inr (.inr (.inr ⟨G, .inr hm, ⟨by rw [← eqw]; exact hg2.1, fun w hw => oto_same eqe.symm (hg2.2 w hw)⟩, fun u K2 hG => ih _ _ _ (closed_set hcl hj) hfree' (ready_mono hr (Ne.symm hji)) (.inr ⟨keep K2 _ (hy.sub (hm u K2 hG)), hwait⟩) ?_⟩))
           rw [Array.setIfInBounds_comm _ _ hji, ← Act.put_comm a v _ h2]
           exact hu u K2 hG


theorem wpV_val {i : Nat} {oi : Oper} {v : Value} {d n : Nat} {listed : Array Bool} {a : Act} {K : List (Nat × Obj)} (hi : ops[i]? = some oi) (hd : oi.dst = some d) (hlt : Nat.blt d a.tmps.size = true)
   (hf : freeAll md ops listed i = true) (hw : Region.wanted oi (yielded ops a.tmps) = true)
   (hy : ∀ w, KS W0 K w → ∀ K' : Act → World → Prop, (∀ w', Below w.heap.size w w' → K' (a.put oi.dst v) w') → Oper.wp P oi a w K' (fun _ _ _ => False))
   (h : wpV P md ops Q W0 n (listed.setIfInBounds i true) (a.put oi.dst v) K) : wpV P md ops Q W0 (n + 1) listed a K := by
 unfold freeAll at hf
 simp only [Bool.and_eq_true] at hf
 obtain ⟨h1, h2, h3, h4, h5⟩ := hf
 exact wpV_first hi (Region.noSelect_spec h1) n listed a K (closed_of h4) (Region.free_spec hi h2) (by simpa using h3)
   (.inr ⟨.inl ⟨hw, fun w hk => Oto.of_wp hd (Nat.le_of_ble_eq_true hlt) (hy w hk)⟩, storesWait_spec h5⟩) h
theorem wpV_not {i : Nat} {oi : Oper} {n : Nat} {listed : Array Bool} {a : Act} {K : List (Nat × Obj)} (hi : ops[i]? = some oi)
   (hf : freeAll md ops listed i = true) (hw : Region.wanted oi (yielded ops a.tmps) = false)
   (h : wpV P md ops Q W0 n (listed.setIfInBounds i true) (a.put oi.dst undef) K) : wpV P md ops Q W0 (n + 1) listed a K := by
 unfold freeAll at hf
 simp only [Bool.and_eq_true] at hf
 obtain ⟨h1, h2, h3, h4, h5⟩ := hf
 exact wpV_first hi (Region.noSelect_spec h1) n listed a K (closed_of h4) (Region.free_spec hi h2) (by simpa using h3)
   (.inl fun _ => .inr ⟨hw, rfl⟩) h
theorem wpV_alloc {i : Nat} {oi : Oper} {obj : Obj} (mk : Nat → Value) {n : Nat} {listed : Array Bool} {a : Act} {K : List (Nat × Obj)} (hi : ops[i]? = some oi) (hr : Region.ready md ops listed = [i])
   (hw : Region.wanted oi (yielded ops a.tmps) = true) (hal : ∀ w, (execOp a.eval oi).run P w = .ok (.value (mk w.heap.size)) (w.alloc obj))
   (h : ∀ g, W0.B ≤ g → (∀ p ∈ K, p.1 ≠ g) → wpV P md ops Q W0 n (listed.setIfInBounds i true) (a.put oi.dst (mk g)) ((g, obj) :: K)) : wpV P md ops Q W0 (n + 1) listed a K :=
 ⟨fun h0 => (by rw [hr] at h0; cases h0), fun j hj => by
   rw [hr] at hj
   cases List.mem_singleton.1 hj
   exact ⟨oi, hi, .inr (.inl ⟨obj, mk, ⟨hw, hal⟩, h⟩)⟩⟩
theorem wpV_store {i : Nat} {oi : Oper} {n : Nat} {listed : Array Bool} {a : Act} {K K' : List (Nat × Obj)} (hi : ops[i]? = some oi) (hr : Region.ready md ops listed = [i])
   (hs : isStore oi = true) (hw : Region.wanted oi (yielded ops a.tmps) = true) (hst : ∀ w, KS W0 K w → ∃ w', (execOp a.eval oi).run P w = .ok .skip w' ∧ KS W0 K' w')
   (h : wpV P md ops Q W0 n (listed.setIfInBounds i true) (a.put oi.dst undef) K') : wpV P md ops Q W0 (n + 1) listed a K :=
 ⟨fun h0 => (by rw [hr] at h0; cases h0), fun j hj => by
   rw [hr] at hj
   cases List.mem_singleton.1 hj
   exact ⟨oi, hi, .inr (.inr (.inl ⟨hs, K', ⟨hw, hst⟩, h⟩))⟩⟩
def StepV (P : Program) (md : Region.Mode) (ops : Array Oper) (Q : Exit → Act → World → Prop) (W0 : Base) (n : Nat) (listed : Array Bool) (a : Act) (K : List (Nat × Obj)) (i : Nat) : Prop :=
 ∃ o, ops[i]? = some o ∧
     ((∃ v, YB P ops W0 K o v a ∧ wpV P md ops Q W0 n (listed.setIfInBounds i true) (a.put o.dst v) K) ∨
      (∃ obj, ∃ mk : Nat → Value, AV P ops o obj mk a ∧ ∀ g, W0.B ≤ g → (∀ p ∈ K, p.1 ≠ g) → wpV P md ops Q W0 n (listed.setIfInBounds i true) (a.put o.dst (mk g)) ((g, obj) :: K)) ∨
      (isStore o = true ∧ ∃ K', ST P ops W0 K K' o a ∧ wpV P md ops Q W0 n (listed.setIfInBounds i true) (a.put o.dst undef) K') ∨
      (∃ G : Value → List (Nat × Obj) → Prop, (isStore o = true ∨ ∀ v K', G v K' → ∀ p ∈ K, p ∈ K') ∧ GV P ops W0 K G o a ∧ ∀ v K', G v K' → wpV P md ops Q W0 n (listed.setIfInBounds i true) (a.put o.dst v) K'))
theorem stepV_val {i : Nat} {oi : Oper} {v : Value} {d n : Nat} {listed : Array Bool} {a : Act} {K : List (Nat × Obj)} (hi : ops[i]? = some oi) (hd : oi.dst = some d) (hlt : Nat.blt d a.tmps.size = true)
   (hw : Region.wanted oi (yielded ops a.tmps) = true)
   (hy : ∀ w, KS W0 K w → ∀ K' : Act → World → Prop, (∀ w', Below w.heap.size w w' → K' (a.put oi.dst v) w') → Oper.wp P oi a w K' (fun _ _ _ => False))
   (h : wpV P md ops Q W0 n (listed.setIfInBounds i true) (a.put oi.dst v) K) : StepV P md ops Q W0 n listed a K i :=
 ⟨oi, hi, .inl ⟨v, .inl ⟨hw, fun w hk => Oto.of_wp hd (Nat.le_of_ble_eq_true hlt) (hy w hk)⟩, h⟩⟩
theorem stepV_store {i : Nat} {oi : Oper} {n : Nat} {listed : Array Bool} {a : Act} {K K' : List (Nat × Obj)} (hi : ops[i]? = some oi)
   (hs : isStore oi = true) (hw : Region.wanted oi (yielded ops a.tmps) = true) (hst : ∀ w, KS W0 K w → ∃ w', (execOp a.eval oi).run P w = .ok .skip w' ∧ KS W0 K' w')
   (h : wpV P md ops Q W0 n (listed.setIfInBounds i true) (a.put oi.dst undef) K') : StepV P md ops Q W0 n listed a K i :=
 ⟨oi, hi, .inr (.inr (.inl ⟨hs, K', ⟨hw, hst⟩, h⟩))⟩
theorem stepV_alloc {i : Nat} {oi : Oper} {obj : Obj} (mk : Nat → Value) {n : Nat} {listed : Array Bool} {a : Act} {K : List (Nat × Obj)} (hi : ops[i]? = some oi)
   (hw : Region.wanted oi (yielded ops a.tmps) = true) (hal : ∀ w, (execOp a.eval oi).run P w = .ok (.value (mk w.heap.size)) (w.alloc obj))
   (h : ∀ g, W0.B ≤ g → (∀ p ∈ K, p.1 ≠ g) → wpV P md ops Q W0 n (listed.setIfInBounds i true) (a.put oi.dst (mk g)) ((g, obj) :: K)) : StepV P md ops Q W0 n listed a K i :=
 ⟨oi, hi, .inr (.inl ⟨obj, mk, ⟨hw, hal⟩, h⟩)⟩
theorem wpV_2 {i j n : Nat} {listed : Array Bool} {a : Act} {K : List (Nat × Obj)} (hr : Region.ready md ops listed = [i, j]) (h : StepV P md ops Q W0 n listed a K i) (h' : StepV P md ops Q W0 n listed a K j) : wpV P md ops Q W0 (n + 1) listed a K :=
 ⟨fun h0 => (by rw [hr] at h0; cases h0), fun k hk => by
   rw [hr] at hk
   rcases List.mem_cons.1 hk with rfl | hk
   · exact h
   · cases List.mem_singleton.1 hk
     exact h'⟩
theorem wpV_done {listed : Array Bool} {a : Act} {K : List (Nat × Obj)} (hr : Region.ready md ops listed = []) (h : ∀ w, KS W0 K w → Q .normal a w) : ∀ n, wpV P md ops Q W0 n listed a K
 | 0 => ⟨hr, h⟩
 | _ + 1 => ⟨fun _ => h, by rw [hr]; simp⟩
theorem wp_region_V {id : Nat} {a : Act} {w : World} (K : List (Nat × Obj)) (hm : P.follows .mixedOrders = true) (hK : KS W0 K w)
   (h : wpV P .any ops Q W0 ops.size (Array.replicate ops.size false) a K) : (Code.region id ops true).wp P Q a w :=
 wp_region_any hm (wpV_sound _ _ _ _ h _ hK.drew)

theorem wpV_v {md : Region.Mode} {ops : Array Oper} {Q : Exit → Act → World → Prop} {i : Nat} {oi : Oper} {v : Value} {d n : Nat} {listed : Array Bool} {tm : Array Value} {df : List Deferred} {K : List (Nat × Obj)} (hi : ops[i]? = some oi) (hd : oi.dst = some d) (hlt : Nat.blt d tm.size = true)
   (hf : freeAll md ops listed i = true) (hw : Region.wanted oi (yielded ops tm) = true)
   (hy : ∀ w, KS W0 K w → ∀ K' : Act → World → Prop, (∀ w', Below w.heap.size w w' → K' (Act.put ⟨tm, df⟩ oi.dst v) w') → Oper.wp P oi ⟨tm, df⟩ w K' (fun _ _ _ => False))
   {T : Array Value} (hT : tm.setIfInBounds d v = T)
   (h : wpV P md ops Q W0 n (listed.setIfInBounds i true) ⟨T, df⟩ K) : wpV P md ops Q W0 (n + 1) listed ⟨tm, df⟩ K := by
 refine wpV_val hi hd hlt hf hw hy ?_
 rw [hd]
 subst hT
 exact h
theorem wpV_s {i : Nat} {oi : Oper} {n : Nat} {listed : Array Bool} {tm : Array Value} {df : List Deferred} {K : List (Nat × Obj)} (K' : List (Nat × Obj)) (hi : ops[i]? = some oi) (hr : Region.ready md ops listed = [i]) (hd : oi.dst = none) (hg : oi.guard = none)
   (hs : isStore oi = true) (hst : ∀ w, KS W0 K w → ∃ w', (execOp (Act.eval ⟨tm, df⟩) oi).run P w = .ok .skip w' ∧ KS W0 K' w')
   (h : wpV P md ops Q W0 n (listed.setIfInBounds i true) ⟨tm, df⟩ K') : wpV P md ops Q W0 (n + 1) listed ⟨tm, df⟩ K := by
 refine wpV_store hi hr hs (wanted_no hg) hst ?_
 rw [hd]
 exact h
theorem wpV_p {i : Nat} {oi : Oper} {v : Value} {d n : Nat} {listed : Array Bool} {tm : Array Value} {df : List Deferred} {K : List (Nat × Obj)} (hi : ops[i]? = some oi) (hd : oi.dst = some d) (hlt : Nat.blt d tm.size = true)
   (hf : freeP md ops listed i = true) (hw : Region.wanted oi (yielded ops tm) = true)
   (hy : ∀ w, (execOp (Act.eval ⟨tm, df⟩) oi).run P w = .ok (.value v) w)
   {T : Array Value} (hT : tm.setIfInBounds d v = T)
   (h : wpV P md ops Q W0 n (listed.setIfInBounds i true) ⟨T, df⟩ K) : wpV P md ops Q W0 (n + 1) listed ⟨tm, df⟩ K := by
 unfold freeP at hf
 simp only [Bool.and_eq_true] at hf
 obtain ⟨h1, h2, h3, h4⟩ := hf
 refine wpV_first (v := v) hi (Region.noSelect_spec h1) n listed _ K (closed_of h4) (Region.free_spec hi h2) (by simpa using h3)
   (.inl fun K' => .inl ⟨hw, fun w hk => Oto.of_wp hd (Nat.le_of_ble_eq_true hlt) (yb_pure (K := K') hy w hk)⟩) ?_
 rw [hd]
 subst hT
 exact h
theorem stepV_v {i : Nat} {oi : Oper} {v : Value} {d n : Nat} {listed : Array Bool} {tm : Array Value} {df : List Deferred} {K : List (Nat × Obj)} (hi : ops[i]? = some oi) (hd : oi.dst = some d) (hlt : Nat.blt d tm.size = true) (hg : oi.guard = none)
   (hy : ∀ w, KS W0 K w → ∀ K' : Act → World → Prop, (∀ w', Below w.heap.size w w' → K' (Act.put ⟨tm, df⟩ oi.dst v) w') → Oper.wp P oi ⟨tm, df⟩ w K' (fun _ _ _ => False))
   {T : Array Value} (hT : tm.setIfInBounds d v = T)
   (h : wpV P md ops Q W0 n (listed.setIfInBounds i true) ⟨T, df⟩ K) : StepV P md ops Q W0 n listed ⟨tm, df⟩ K i := by
 refine stepV_val hi hd hlt (wanted_no hg) hy ?_
 rw [hd]
 subst hT
 exact h
theorem stepV_s {i : Nat} {oi : Oper} {n : Nat} {listed : Array Bool} {tm : Array Value} {df : List Deferred} {K : List (Nat × Obj)} (K' : List (Nat × Obj)) (hi : ops[i]? = some oi) (hd : oi.dst = none) (hg : oi.guard = none)
   (hs : isStore oi = true) (hst : ∀ w, KS W0 K w → ∃ w', (execOp (Act.eval ⟨tm, df⟩) oi).run P w = .ok .skip w' ∧ KS W0 K' w')
   (h : wpV P md ops Q W0 n (listed.setIfInBounds i true) ⟨tm, df⟩ K') : StepV P md ops Q W0 n listed ⟨tm, df⟩ K i := by
 refine stepV_store hi hs (wanted_no hg) hst ?_
 rw [hd]
 exact h
theorem wpV_n {i : Nat} {oi : Oper} {d n : Nat} {listed : Array Bool} {tm : Array Value} {df : List Deferred} {K : List (Nat × Obj)} (hi : ops[i]? = some oi) (hd : oi.dst = some d)
   (hf : freeAll md ops listed i = true) (hw : Region.wanted oi (yielded ops tm) = false)
   {T : Array Value} (hT : tm.setIfInBounds d undef = T)
   (h : wpV P md ops Q W0 n (listed.setIfInBounds i true) ⟨T, df⟩ K) : wpV P md ops Q W0 (n + 1) listed ⟨tm, df⟩ K := by
 refine wpV_not hi hf hw ?_
 rw [hd]
 subst hT
 exact h

theorem wpV_ns {i : Nat} {oi : Oper} {d : Nat} {obi : Obj} {n : Nat} {listed : Array Bool} {tm : Array Value} {df : List Deferred} {K : List (Nat × Obj)} {T : Nat → Array Value} (mk : Nat → Value)
   (hi : ops[i]? = some oi) (hdi : oi.dst = some d) (hgi : oi.guard = none)
   (hr : Region.ready md ops listed = [i])
   (hai : ∀ w, (execOp (Act.eval ⟨tm, df⟩) oi).run P w = .ok (.value (mk w.heap.size)) (w.alloc obi))
   (hT : ∀ g, (tm.setIfInBounds d (mk g)) = T g)
   (h : ∀ g, W0.B ≤ g → (∀ p ∈ K, p.1 ≠ g) → wpV P md ops Q W0 n (listed.setIfInBounds i true) ⟨T g, df⟩ ((g, obi) :: K)) :
   wpV P md ops Q W0 (n + 1) listed ⟨tm, df⟩ K := by
 refine wpV_alloc mk hi hr (wanted_no hgi) hai (fun g hg hf => ?_)
 rw [hdi]
 simp only [Act.put]
 rw [hT g]
 exact h g hg hf
theorem wpV_c {i : Nat} {oi : Oper} {d n : Nat} {listed : Array Bool} {tm : Array Value} {df : List Deferred} {K : List (Nat × Obj)} {T : Value → Array Value} {f : FuncId} {args : Array Value} (G : Value → List (Nat × Obj) → Prop)
   (hi : ops[i]? = some oi) (hdi : oi.dst = some d) (hr : Region.ready md ops listed = [i]) (hw : Region.wanted oi (yielded ops tm) = true)
   (hf : ∀ w, (execOp (Act.eval ⟨tm, df⟩) oi).run P w = .ok (.enter f args) w)
   (hc : ∀ w, KS W0 K w → Calls P f args w fun e w' => ∃ v K', e = .returned v ∧ KS W0 K' w' ∧ G v K') (hm : ∀ v K', G v K' → ∀ p ∈ K, p ∈ K')
   (hT : ∀ v, tm.setIfInBounds d v = T v)
   (h : ∀ v K', G v K' → wpV P md ops Q W0 n (listed.setIfInBounds i true) ⟨T v, df⟩ K') : wpV P md ops Q W0 (n + 1) listed ⟨tm, df⟩ K :=
 ⟨fun h0 => (by rw [hr] at h0; cases h0), fun j hj => by
   rw [hr] at hj
   cases List.mem_singleton.1 hj
   refine ⟨oi, hi, .inr (.inr (.inr ⟨G, .inr hm, ⟨hw, fun w hK => ?_⟩, fun v K' hG => ?_⟩))⟩
   · unfold Oto
     rw [hf w]
     exact (hc w hK).mono fun e w' ⟨v, K', he, hk, hG⟩ => ⟨v, he, K', hk, hG⟩
   · rw [hdi]
     simp only [Act.put]
     rw [hT v]
     exact h v K' hG⟩
theorem vv {i : Nat} {oi : Oper} {v : Value} {d n : Nat} {listed : Array Bool} {tm : Array Value} {df : List Deferred} {K : List (Nat × Obj)} {T : Array Value} (hi : ops[i]? = some oi) (hd : oi.dst = some d) (hw : Region.wanted oi (yielded ops tm) = true)
   (hy : ∀ w, KS W0 K w → ∀ K' : Act → World → Prop, (∀ w', Below w.heap.size w w' → K' (Act.put ⟨tm, df⟩ oi.dst v) w') → Oper.wp P oi ⟨tm, df⟩ w K' (fun _ _ _ => False))
   (h : wpV P md ops Q W0 n (listed.setIfInBounds i true) ⟨T, df⟩ K) (hlt : Nat.blt d tm.size = true := by kernel_rfl) (hf : freeAll md ops listed i = true := by kernel_rfl) (hT : tm.setIfInBounds d v = T := by simp only [List.setIfInBounds_toArray, List.set_cons_succ, List.set_cons_zero] <;> rfl) : wpV P md ops Q W0 (n + 1) listed ⟨tm, df⟩ K := wpV_v hi hd hlt hf hw hy hT h
theorem vp {i : Nat} {oi : Oper} {v : Value} {d n : Nat} {listed : Array Bool} {tm : Array Value} {df : List Deferred} {K : List (Nat × Obj)} {T : Array Value} (hi : ops[i]? = some oi) (hd : oi.dst = some d) (hw : Region.wanted oi (yielded ops tm) = true)
   (hy : ∀ w, (execOp (Act.eval ⟨tm, df⟩) oi).run P w = .ok (.value v) w)
   (h : wpV P md ops Q W0 n (listed.setIfInBounds i true) ⟨T, df⟩ K) (hlt : Nat.blt d tm.size = true := by kernel_rfl) (hf : freeP md ops listed i = true := by kernel_rfl) (hT : tm.setIfInBounds d v = T := by simp only [List.setIfInBounds_toArray, List.set_cons_succ, List.set_cons_zero] <;> rfl) : wpV P md ops Q W0 (n + 1) listed ⟨tm, df⟩ K := wpV_p hi hd hlt hf hw hy hT h
theorem vm {i : Nat} {oi : Oper} {v : Value} {d n : Nat} {listed : Array Bool} {tm : Array Value} {df : List Deferred} {K : List (Nat × Obj)} {T : Array Value} (hi : ops[i]? = some oi) (hd : oi.dst = some d) (hw : Region.wanted oi (yielded ops tm) = true)
   (h : wpV P md ops Q W0 n (listed.setIfInBounds i true) ⟨T, df⟩ K) (hy : ∀ w, (execOp (Act.eval ⟨tm, df⟩) oi).run P w = .ok (.value v) w := by intro _; kernel_rfl) (hlt : Nat.blt d tm.size = true := by kernel_rfl) (hf : freeP md ops listed i = true := by kernel_rfl) (hT : tm.setIfInBounds d v = T := by simp only [List.setIfInBounds_toArray, List.set_cons_succ, List.set_cons_zero] <;> rfl) : wpV P md ops Q W0 (n + 1) listed ⟨tm, df⟩ K := wpV_p hi hd hlt hf hw hy hT h
theorem vn {i : Nat} {oi : Oper} {d n : Nat} {listed : Array Bool} {tm : Array Value} {df : List Deferred} {K : List (Nat × Obj)} {T : Array Value} (hi : ops[i]? = some oi) (hd : oi.dst = some d)
   (h : wpV P md ops Q W0 n (listed.setIfInBounds i true) ⟨T, df⟩ K) (hf : freeAll md ops listed i = true := by kernel_rfl) (hw : Region.wanted oi (yielded ops tm) = false := by kernel_rfl) (hT : tm.setIfInBounds d undef = T := by simp only [List.setIfInBounds_toArray, List.set_cons_succ, List.set_cons_zero] <;> rfl) : wpV P md ops Q W0 (n + 1) listed ⟨tm, df⟩ K := wpV_n hi hd hf hw hT h
end
end Tw
/- The law of regions over known blocks for statements that do not draw their order. Nothing of the program. -/
namespace Tw
open Go Go.RowKit Go.Proofs.YtalmflgkbmnghaaGreatDoor
section
variable {P : Program} {ops : Array Oper} {Q : Exit → Act → World → Prop} {W0 : Base}
structure wpL (P : Program) (ops : Array Oper) (Q : Exit → Act → World → Prop) (W0 : Base) (rest : List Oper) (a : Act) (K : List (Nat × Obj)) : Prop where
 of : ∀ w, KS W0 K w → wpList P ops Q rest a w
theorem wp_region_L {id : Nat} {l : List Oper} {a : Act} {w : World} (K : List (Nat × Obj)) (hK : KS W0 K w) (h : wpL P l.toArray Q W0 l a K) : (Code.region id l.toArray false).wp P Q a w :=
 wp_region_lit (h.of w hK)
theorem wpL_v {rest : List Oper} {oi : Oper} {v : Value} {d : Nat} {tm : Array Value} {df : List Deferred} {K : List (Nat × Obj)} (hd : oi.dst = some d) (hlt : Nat.blt d tm.size = true) (hw : Region.wanted oi (yielded ops tm) = true)
   (hy : ∀ w, KS W0 K w → ∀ K' : Act → World → Prop, (∀ w', Below w.heap.size w w' → K' (Act.put ⟨tm, df⟩ oi.dst v) w') → Oper.wp P oi ⟨tm, df⟩ w K' (fun _ _ _ => False))
   {T : Array Value} (hT : tm.setIfInBounds d v = T) (h : wpL P ops Q W0 rest ⟨T, df⟩ K) : wpL P ops Q W0 (oi :: rest) ⟨tm, df⟩ K := by
 refine ⟨fun w hK => ?_⟩
 refine wpList_step fun K' hK' => ?_
 rw [if_pos hw]
 exact (Oto.of_wp (a := ⟨tm, df⟩) hd (Nat.le_of_ble_eq_true hlt) (hy w hK)).wp fun u w' ⟨hu, hb⟩ => by
   subst hu
   refine hK' _ _ ?_
   rw [hd]
   subst hT
   exact h.of w' (hK.below hb)
theorem wpL_p {rest : List Oper} {oi : Oper} {v : Value} {d : Nat} {tm : Array Value} {df : List Deferred} {K : List (Nat × Obj)} (hd : oi.dst = some d) (hlt : Nat.blt d tm.size = true) (hw : Region.wanted oi (yielded ops tm) = true)
   (hy : ∀ w, (execOp (Act.eval ⟨tm, df⟩) oi).run P w = .ok (.value v) w)
   {T : Array Value} (hT : tm.setIfInBounds d v = T) (h : wpL P ops Q W0 rest ⟨T, df⟩ K) : wpL P ops Q W0 (oi :: rest) ⟨tm, df⟩ K :=
 wpL_v hd hlt hw (yb_pure hy) hT h
theorem wpL_n {rest : List Oper} {oi : Oper} {d : Nat} {tm : Array Value} {df : List Deferred} {K : List (Nat × Obj)} (hd : oi.dst = some d) (hw : Region.wanted oi (yielded ops tm) = false)
   {T : Array Value} (hT : tm.setIfInBounds d undef = T) (h : wpL P ops Q W0 rest ⟨T, df⟩ K) : wpL P ops Q W0 (oi :: rest) ⟨tm, df⟩ K := by
 refine ⟨fun w hK => ?_⟩
 refine wpList_step fun K' hK' => ?_
 rw [if_neg (by rw [hw]; decide)]
 refine hK' _ _ ?_
 rw [hd]
 subst hT
 exact h.of w hK
theorem wpL_new {rest : List Oper} {oi : Oper} {d : Nat} {obi : Obj} {tm : Array Value} {df : List Deferred} {K : List (Nat × Obj)} {T : Nat → Array Value} (mk : Nat → Value)
   (hdi : oi.dst = some d) (hgi : oi.guard = none)
   (hai : ∀ w, (execOp (Act.eval ⟨tm, df⟩) oi).run P w = .ok (.value (mk w.heap.size)) (w.alloc obi))
   (hT : ∀ g, (tm.setIfInBounds d (mk g)) = T g)
   (h : ∀ g, W0.B ≤ g → (∀ p ∈ K, p.1 ≠ g) → wpL P ops Q W0 rest ⟨T g, df⟩ ((g, obi) :: K)) : wpL P ops Q W0 (oi :: rest) ⟨tm, df⟩ K := by
 refine ⟨fun w hK => ?_⟩
 refine wpList_step fun K' hK' => ?_
 rw [if_pos (wanted_no hgi)]
 unfold Oper.wp
 rw [hai w]
 refine hK' _ _ ?_
 rw [hdi]
 simp only [Act.put]
 rw [hT w.heap.size]
 exact (h w.heap.size hK.size (fun p hp => by have := lt_of_block (hK.2 p hp); omega)).of _ (hK.alloc obi)
theorem wpL_s {rest : List Oper} {oi : Oper} {tm : Array Value} {df : List Deferred} {K : List (Nat × Obj)} (K' : List (Nat × Obj)) (hd : oi.dst = none) (hg : oi.guard = none)
   (hst : ∀ w, KS W0 K w → ∃ w', (execOp (Act.eval ⟨tm, df⟩) oi).run P w = .ok .skip w' ∧ KS W0 K' w')
   (h : wpL P ops Q W0 rest ⟨tm, df⟩ K') : wpL P ops Q W0 (oi :: rest) ⟨tm, df⟩ K := by
 refine ⟨fun w hK => ?_⟩
 obtain ⟨w', hrun, hw'⟩ := hst w hK
 refine wpList_step fun K2 hK2 => ?_
 rw [if_pos (wanted_no hg)]
 unfold Oper.wp
 rw [hrun]
 refine hK2 _ _ ?_
 rw [hd]
 exact h.of w' hw'
theorem wpL_done {a : Act} {K : List (Nat × Obj)} (h : ∀ w, KS W0 K w → Q .normal a w) : wpL P ops Q W0 [] a K := ⟨fun w hK => wpList_nil (h w hK)⟩
theorem wpL_c {rest : List Oper} {oi : Oper} {d : Nat} {tm : Array Value} {df : List Deferred} {K : List (Nat × Obj)} {T : Value → Array Value} {f : FuncId} {args : Array Value} (G : Value → List (Nat × Obj) → Prop)
   (hdi : oi.dst = some d) (hw : Region.wanted oi (yielded ops tm) = true)
   (hf : ∀ w, (execOp (Act.eval ⟨tm, df⟩) oi).run P w = .ok (.enter f args) w)
   (hc : ∀ w, KS W0 K w → Calls P f args w fun e w' => ∃ v K', e = .returned v ∧ KS W0 K' w' ∧ G v K')
   (hT : ∀ v, tm.setIfInBounds d v = T v)
   (h : ∀ v K', G v K' → wpL P ops Q W0 rest ⟨T v, df⟩ K') : wpL P ops Q W0 (oi :: rest) ⟨tm, df⟩ K := by
 refine ⟨fun w hK => ?_⟩
 refine wpList_step fun K2 hK2 => ?_
 rw [if_pos hw]
 unfold Oper.wp
 rw [hf w]
 refine (hc w hK).mono fun e w' ⟨v, K', he, hk, hG⟩ => ?_
 subst he
 refine hK2 _ _ ?_
 rw [hdi]
 simp only [Act.put]
 rw [hT v]
 exact (h v K' hG).of w' hk
theorem lv {rest : List Oper} {oi : Oper} {v : Value} {d : Nat} {tm : Array Value} {df : List Deferred} {K : List (Nat × Obj)} {T : Array Value} (hd : oi.dst = some d) (hw : Region.wanted oi (yielded ops tm) = true)
   (hy : ∀ w, KS W0 K w → ∀ K' : Act → World → Prop, (∀ w', Below w.heap.size w w' → K' (Act.put ⟨tm, df⟩ oi.dst v) w') → Oper.wp P oi ⟨tm, df⟩ w K' (fun _ _ _ => False))
   (h : wpL P ops Q W0 rest ⟨T, df⟩ K) (hlt : Nat.blt d tm.size = true := by kernel_rfl) (hT : tm.setIfInBounds d v = T := by simp only [List.setIfInBounds_toArray, List.set_cons_succ, List.set_cons_zero] <;> rfl) : wpL P ops Q W0 (oi :: rest) ⟨tm, df⟩ K := wpL_v hd hlt hw hy hT h
theorem lp {rest : List Oper} {oi : Oper} {v : Value} {d : Nat} {tm : Array Value} {df : List Deferred} {K : List (Nat × Obj)} {T : Array Value} (hd : oi.dst = some d) (hw : Region.wanted oi (yielded ops tm) = true)
   (hy : ∀ w, (execOp (Act.eval ⟨tm, df⟩) oi).run P w = .ok (.value v) w)
   (h : wpL P ops Q W0 rest ⟨T, df⟩ K) (hlt : Nat.blt d tm.size = true := by kernel_rfl) (hT : tm.setIfInBounds d v = T := by simp only [List.setIfInBounds_toArray, List.set_cons_succ, List.set_cons_zero] <;> rfl) : wpL P ops Q W0 (oi :: rest) ⟨tm, df⟩ K := wpL_p hd hlt hw hy hT h
theorem lm {rest : List Oper} {oi : Oper} {v : Value} {d : Nat} {tm : Array Value} {df : List Deferred} {K : List (Nat × Obj)} {T : Array Value} (hd : oi.dst = some d) (hw : Region.wanted oi (yielded ops tm) = true)
   (h : wpL P ops Q W0 rest ⟨T, df⟩ K) (hy : ∀ w, (execOp (Act.eval ⟨tm, df⟩) oi).run P w = .ok (.value v) w := by intro _; kernel_rfl) (hlt : Nat.blt d tm.size = true := by kernel_rfl) (hT : tm.setIfInBounds d v = T := by simp only [List.setIfInBounds_toArray, List.set_cons_succ, List.set_cons_zero] <;> rfl) : wpL P ops Q W0 (oi :: rest) ⟨tm, df⟩ K := wpL_p hd hlt hw hy hT h
theorem ln {rest : List Oper} {oi : Oper} {d : Nat} {tm : Array Value} {df : List Deferred} {K : List (Nat × Obj)} {T : Array Value} (hd : oi.dst = some d)
   (h : wpL P ops Q W0 rest ⟨T, df⟩ K) (hw : Region.wanted oi (yielded ops tm) = false := by kernel_rfl) (hT : tm.setIfInBounds d undef = T := by simp only [List.setIfInBounds_toArray, List.set_cons_succ, List.set_cons_zero] <;> rfl) : wpL P ops Q W0 (oi :: rest) ⟨tm, df⟩ K := wpL_n hd hw hT h
theorem mm {rest : List Oper} {oi : Oper} {d : Nat} {tm : Array Value} {df : List Deferred} {K : List (Nat × Obj)} {T : Array Value} (v : Value) (h : wpL P ops Q W0 rest ⟨T, df⟩ K) (hd : oi.dst = some d := by exact rfl) (hw : Region.wanted oi (yielded ops tm) = true := by exact rfl) (hy : ∀ w, (execOp (Act.eval ⟨tm, df⟩) oi).run P w = .ok (.value v) w := by intro _; kernel_rfl) (hlt : Nat.blt d tm.size = true := by kernel_rfl) (hT : tm.setIfInBounds d v = T := by simp only [List.setIfInBounds_toArray, List.set_cons_succ, List.set_cons_zero] <;> rfl) : wpL P ops Q W0 (oi :: rest) ⟨tm, df⟩ K := lm hd hw h hy hlt hT
end
end Tw
