import Derived.Test.YtjbbeolapaaiaaaDoorG03
import Derived.Test.YtjbbeolapaaiaaaDoorG04
import Derived.Test.YtjbbeolapaaiaaaDoorG05
import Derived.Test.YtjbbeolapaaiaaaDoorG00
/- Part of the proof: IA, IS, IU, HS0, HQ, HT, Ht, HV, IO, IB, IC, ID, IE. -/
set_option linter.unusedVariables false
set_option linter.unusedSimpArgs false
set_option linter.unusedSectionVars false
namespace Go.Proofs.YtjbbeolapaaiaaaDoor
open Go Go.RowKit Tw
-- replacing a part of a list by the same boxes in order
theorem filt_mid {l M : List Bx} {a b : Nat} (hab : a ≤ b) (z : Bx) (h : M.filter (eqv z) = ((l.take b).drop a).filter (eqv z)) : (l.take a ++ M ++ l.drop b).filter (eqv z) = l.filter (eqv z) := by
  have e : l = l.take a ++ ((l.take b).drop a ++ l.drop b) := by
    have h1 : (l.take b).take a ++ (l.take b).drop a = l.take b := List.take_append_drop a (l.take b)
    rw [List.take_take, Nat.min_eq_left hab] at h1
    rw [← List.append_assoc, h1, List.take_append_drop]
  conv => rhs; rw [e]
  rw [List.append_assoc, List.filter_append, List.filter_append, List.filter_append, List.filter_append, h]
theorem eqv_not {x y z : Bx} (hb : before y x = true) (hx : eqv z x = true) : eqv z y = false := by
  unfold eqv at *
  simp only [Bool.and_eq_true, Bool.not_eq_true', Bool.and_eq_false_iff, Bool.not_eq_false'] at *
  rw [nbefore_iff, nbefore_iff] at hx
  rw [before_iff] at hb
  rw [before_iff, before_iff]
  omega
theorem filt_swap {A B : List Bx} (h : ∀ x ∈ A, ∀ y ∈ B, before y x = true) (z : Bx) : (B ++ A).filter (eqv z) = (A ++ B).filter (eqv z) := by
  rw [List.filter_append, List.filter_append]
  cases hA : A.filter (eqv z) with
  | nil => simp
  | cons x r =>
    have hx : x ∈ A.filter (eqv z) := by rw [hA]; exact .head _
    have hB : B.filter (eqv z) = [] := by
      rw [List.filter_eq_nil_iff]
      intro y hy
      rw [Bool.not_eq_true]
      exact eqv_not (h x (List.mem_filter.1 hx).1 y hy) (List.mem_filter.1 hx).2
    rw [hB]; simp
theorem sorted_app {A B : List Bx} (hA : SortedX A) (hB : SortedX B) (h : ∀ x ∈ A, ∀ y ∈ B, before y x = false) : SortedX (A ++ B) := by
  unfold SortedX at *
  rw [List.pairwise_append]
  exact ⟨hA, hB, h⟩
theorem merge_is {A1 A2 B1 B2 : List Bx} (hA : SortedX (A1 ++ A2)) (hB : SortedX (B1 ++ B2)) (h1 : ∀ x ∈ A2, ∀ y ∈ B1, before y x = true) (h2 : ∀ x ∈ A1, ∀ y ∈ B2, before y x = false) :
    orderX (A1 ++ B1) ++ orderX (A2 ++ B2) = orderX ((A1 ++ A2) ++ (B1 ++ B2)) := by
  unfold SortedX at hA hB
  rw [List.pairwise_append] at hA hB
  refine order_is (sorted_app (order_sorted _) (order_sorted _) fun x hx y hy => ?_) fun z => ?_
  · rw [order_mem] at hx hy
    rcases List.mem_append.1 hx with hx | hx <;> rcases List.mem_append.1 hy with hy | hy
    · exact hA.2.2 x hx y hy
    · exact h2 x hx y hy
    · exact before_as (h1 y hy x hx)
    · exact hB.2.2 x hx y hy
  · rw [List.filter_append, order_filter, order_filter]
    have hs := filt_swap h1 z
    simp only [List.filter_append] at hs ⊢
    rw [List.append_assoc, ← List.append_assoc (B1.filter _), hs]
    simp only [List.append_assoc]
theorem order_order (A B : List Bx) : orderX (orderX A ++ orderX B) = orderX (A ++ B) := order_is (order_sorted _) fun z => by
  rw [order_filter, List.filter_append, List.filter_append, order_filter, order_filter]
theorem one_ahead {x : Bx} {B1 B2 : List Bx} (hB : SortedX (B1 ++ B2)) (h1 : ∀ y ∈ B1, before y x = true) (h2 : ∀ y ∈ B2, before y x = false) : B1 ++ x :: B2 = orderX (x :: (B1 ++ B2)) := by
  have h := merge_is (A1 := []) (A2 := [x]) (B1 := B1) (B2 := B2) (by unfold SortedX; simp) hB (by intro y hy; cases List.mem_singleton.1 hy; exact h1) (by intro y hy; cases hy)
  have hs : SortedX B1 ∧ SortedX B2 := by unfold SortedX at *; rw [List.pairwise_append] at hB; exact ⟨hB.1, hB.2.1⟩
  have e2 : orderX ([x] ++ B2) = x :: B2 := order_idem (by unfold SortedX at *; rw [List.singleton_append, List.pairwise_cons]; exact ⟨h2, hs.2⟩)
  rw [List.nil_append, order_idem hs.1, e2] at h
  exact h
theorem one_behind {x : Bx} {A1 A2 : List Bx} (hA : SortedX (A1 ++ A2)) (h1 : ∀ y ∈ A1, before x y = false) (h2 : ∀ y ∈ A2, before x y = true) : A1 ++ x :: A2 = orderX ((A1 ++ A2) ++ [x]) := by
  rw [order_snoc, order_idem hA, insB_split h1 h2]
-- exchanging ranges
def SwI (Z1 U Z2 V Z3 : List Bx) (i : Nat) : List Bx := Z1 ++ (V.take i ++ U.drop i) ++ Z2 ++ (U.take i ++ V.drop i) ++ Z3
theorem swI_zero (Z1 U Z2 V Z3 : List Bx) : SwI Z1 U Z2 V Z3 0 = Z1 ++ U ++ Z2 ++ V ++ Z3 := by unfold SwI; simp
theorem swI_end {Z1 U Z2 V Z3 : List Bx} {i : Nat} (hU : U.length ≤ i) (hV : V.length ≤ i) : SwI Z1 U Z2 V Z3 i = Z1 ++ V ++ Z2 ++ U ++ Z3 := by
  unfold SwI
  rw [List.take_of_length_le hV, List.take_of_length_le hU, List.drop_eq_nil_of_le hU, List.drop_eq_nil_of_le hV]
  simp
theorem swI_len {Z1 U Z2 V Z3 : List Bx} {i : Nat} (h : U.length = V.length) : (SwI Z1 U Z2 V Z3 i).length = (Z1 ++ U ++ Z2 ++ V ++ Z3).length := by
  unfold SwI
  simp only [List.length_append, List.length_take, List.length_drop]
  omega
theorem swI_step {Z1 U Z2 V Z3 : List Bx} {i a b : Nat} {x y : Bx} (hU : U.length = V.length) (hi : i < U.length) (ha : a = Z1.length) (hb : b = Z1.length + U.length + Z2.length) (hx : (SwI Z1 U Z2 V Z3 i)[a + i]? = some x) (hy : (SwI Z1 U Z2 V Z3 i)[b + i]? = some y) :
    ((SwI Z1 U Z2 V Z3 i).set (a + i) y).set (b + i) x = SwI Z1 U Z2 V Z3 (i + 1) := by
  have hV : i < V.length := by omega
  have e : SwI Z1 U Z2 V Z3 i = (Z1 ++ V.take i) ++ U[i] :: ((U.drop (i + 1) ++ Z2 ++ U.take i) ++ V[i] :: (V.drop (i + 1) ++ Z3)) := by
    unfold SwI
    rw [List.drop_eq_getElem_cons hi, List.drop_eq_getElem_cons hV]
    simp only [List.append_assoc, List.cons_append]
  have l1 : (Z1 ++ V.take i).length = a + i := by rw [List.length_append, List.length_take]; omega
  have l2 : (U.drop (i + 1) ++ Z2 ++ U.take i).length = b - a - 1 := by simp only [List.length_append, List.length_take, List.length_drop]; omega
  rw [e] at hx hy ⊢
  rw [List.getElem?_append_right (by omega), l1, Nat.sub_self] at hx
  rw [List.getElem?_append_right (by omega), l1, show b + i - (a + i) = (b - a - 1) + 1 from by omega, List.getElem?_cons_succ, List.getElem?_append_right (by omega), l2, Nat.sub_self] at hy
  cases hx; cases hy
  rw [List.set_append_right _ _ (by omega), l1, Nat.sub_self, List.set_cons_zero, List.set_append_right _ _ (by omega), l1, show b + i - (a + i) = (b - a - 1) + 1 from by omega, List.set_cons_succ, List.set_append_right _ _ (by omega), l2, Nat.sub_self, List.set_cons_zero]
  unfold SwI
  rw [List.take_succ_eq_append_getElem hV, List.take_succ_eq_append_getElem hi]
  simp only [List.append_assoc, List.cons_append, List.nil_append]
theorem sorted_get {A : List Bx} (h : SortedX A) {i j : Nat} {x y : Bx} (hij : i ≤ j) (hx : A[i]? = some x) (hy : A[j]? = some y) : before y x = false := by
  unfold SortedX at h
  rcases Nat.lt_or_eq_of_le hij with hlt | rfl
  · obtain ⟨h1, rfl⟩ := List.getElem?_eq_some_iff.1 hx
    obtain ⟨h2, rfl⟩ := List.getElem?_eq_some_iff.1 hy
    exact List.pairwise_iff_getElem.1 h i j h1 h2 hlt
  · rw [hx] at hy; cases hy; exact before_ir x
theorem mem_take_at {A : List Bx} {i : Nat} {x : Bx} (h : x ∈ A.take i) : ∃ k, k < i ∧ A[k]? = some x := by
  obtain ⟨k, hk, hx⟩ := List.mem_iff_getElem.1 h
  rw [List.length_take] at hk
  rw [List.getElem_take] at hx
  exact ⟨k, by omega, by rw [← hx]; exact List.getElem?_eq_getElem _⟩
theorem mem_drop_at {A : List Bx} {i : Nat} {x : Bx} (h : x ∈ A.drop i) : ∃ k, i ≤ k ∧ A[k]? = some x := by
  obtain ⟨k, hk, hx⟩ := List.mem_iff_getElem.1 h
  rw [List.length_drop] at hk
  rw [List.getElem_drop] at hx
  exact ⟨i + k, by omega, by rw [← hx]; exact List.getElem?_eq_getElem _⟩
theorem before_mono {x x' y y' : Bx} (h : before y x = true) (h1 : before x' x = false) (h2 : before y y' = false) : before y' x' = true := by
  rw [nbefore_iff] at h1 h2
  rw [before_iff] at *
  omega
theorem all_low {A B : List Bx} {i j : Nat} (hA : SortedX A) (hB : SortedX B) (h : i = 0 ∨ B.length ≤ j ∨ ∃ x y, A[i - 1]? = some x ∧ B[j]? = some y ∧ before y x = false) : ∀ x ∈ A.take i, ∀ y ∈ B.drop j, before y x = false := by
  intro x hx y hy
  obtain ⟨k, hk, hkx⟩ := mem_take_at hx
  obtain ⟨t, ht, hty⟩ := mem_drop_at hy
  rcases h with rfl | h | ⟨x0, y0, h1, h2, h3⟩
  · omega
  · have := (List.getElem?_eq_some_iff.1 hty).1; omega
  · exact before_le (before_le (sorted_get hA (by omega) hkx h1) h3) (sorted_get hB ht h2 hty)
theorem all_high {A B : List Bx} {i j : Nat} (hA : SortedX A) (hB : SortedX B) (h : A.length ≤ i ∨ j = 0 ∨ ∃ x y, A[i]? = some x ∧ B[j - 1]? = some y ∧ before y x = true) : ∀ x ∈ A.drop i, ∀ y ∈ B.take j, before y x = true := by
  intro x hx y hy
  obtain ⟨k, hk, hkx⟩ := mem_drop_at hx
  obtain ⟨t, ht, hty⟩ := mem_take_at hy
  rcases h with h | rfl | ⟨x0, y0, h1, h2, h3⟩
  · have := (List.getElem?_eq_some_iff.1 hkx).1; omega
  · omega
  · exact before_mono h3 (sorted_get hA hk h1 hkx) (sorted_get hB (by omega) hty h2)
theorem zA {Z1 A B Z3 : List Bx} {c : Nat} {x : Bx} (h : (Z1 ++ A ++ B ++ Z3)[c]? = some x) (h1 : Z1.length ≤ c) (h2 : c < Z1.length + A.length) : A[c - Z1.length]? = some x := by
  rw [List.append_assoc, List.append_assoc, List.getElem?_append_right h1, List.getElem?_append_left (by omega)] at h
  exact h
theorem zB {Z1 A B Z3 : List Bx} {c : Nat} {x : Bx} (h : (Z1 ++ A ++ B ++ Z3)[c]? = some x) (h1 : Z1.length + A.length ≤ c) (h2 : c < Z1.length + A.length + B.length) : B[c - (Z1.length + A.length)]? = some x := by
  rw [List.append_assoc, List.getElem?_append_right (by rw [List.length_append]; exact h1), List.length_append, List.getElem?_append_left (by omega)] at h
  exact h
-- a box that moves through a list, to the right and to the left
def ShR (Z1 B Z3 : List Bx) (x : Bx) (k : Nat) : List Bx := Z1 ++ B.take k ++ x :: (B.drop k ++ Z3)
theorem shR_zero (Z1 B Z3 : List Bx) (x : Bx) : ShR Z1 B Z3 x 0 = Z1 ++ [x] ++ B ++ Z3 := by unfold ShR; simp
theorem shR_len (Z1 B Z3 : List Bx) (x : Bx) (k : Nat) : (ShR Z1 B Z3 x k).length = (Z1 ++ [x] ++ B ++ Z3).length := by
  unfold ShR
  simp only [List.length_append, List.length_take, List.length_cons, List.length_drop, List.length_nil]
  omega
theorem shR_step {Z1 B Z3 : List Bx} {x u v : Bx} {k c : Nat} (hk : k < B.length) (hc : c = Z1.length + k) (hu : (ShR Z1 B Z3 x k)[c]? = some u) (hv : (ShR Z1 B Z3 x k)[c + 1]? = some v) : ((ShR Z1 B Z3 x k).set c v).set (c + 1) u = ShR Z1 B Z3 x (k + 1) := by
  have l1 : (Z1 ++ B.take k).length = c := by rw [List.length_append, List.length_take]; omega
  have e : ShR Z1 B Z3 x k = (Z1 ++ B.take k) ++ x :: B[k] :: (B.drop (k + 1) ++ Z3) := by
    unfold ShR
    rw [List.drop_eq_getElem_cons hk]
    rfl
  rw [e] at hu hv ⊢
  rw [List.getElem?_append_right (by omega), l1, Nat.sub_self] at hu
  rw [List.getElem?_append_right (by omega), l1, show c + 1 - c = 1 from by omega] at hv
  cases hu; cases hv
  rw [List.set_append_right _ _ (by omega), l1, Nat.sub_self, List.set_cons_zero, List.set_append_right _ _ (by omega), l1, show c + 1 - c = 1 from by omega, List.set_cons_succ, List.set_cons_zero]
  unfold ShR
  rw [List.take_succ_eq_append_getElem hk]
  simp only [List.append_assoc, List.cons_append, List.nil_append]
def ShL (Z1 A Z3 : List Bx) (x : Bx) (k : Nat) : List Bx := Z1 ++ A.take k ++ x :: (A.drop k ++ Z3)
theorem shL_len (Z1 A Z3 : List Bx) (x : Bx) (k : Nat) : (ShL Z1 A Z3 x k).length = (Z1 ++ A ++ [x] ++ Z3).length := by
  unfold ShL
  simp only [List.length_append, List.length_take, List.length_cons, List.length_drop, List.length_nil]
  omega
theorem shL_full (Z1 A Z3 : List Bx) (x : Bx) : ShL Z1 A Z3 x A.length = Z1 ++ A ++ [x] ++ Z3 := by unfold ShL; simp
theorem shL_step {Z1 A Z3 : List Bx} {x u v : Bx} {k c : Nat} (hk : 0 < k) (hk2 : k ≤ A.length) (hc : c = Z1.length + k) (hu : (ShL Z1 A Z3 x k)[c]? = some u) (hv : (ShL Z1 A Z3 x k)[c - 1]? = some v) : ((ShL Z1 A Z3 x k).set c v).set (c - 1) u = ShL Z1 A Z3 x (k - 1) := by
  obtain ⟨q, rfl⟩ : ∃ q, k = q + 1 := ⟨k - 1, by omega⟩
  have l1 : (Z1 ++ A.take q).length = c - 1 := by rw [List.length_append, List.length_take]; omega
  have e : ShL Z1 A Z3 x (q + 1) = (Z1 ++ A.take q) ++ A[q] :: x :: (A.drop (q + 1) ++ Z3) := by
    unfold ShL
    rw [List.take_succ_eq_append_getElem (by omega)]
    simp only [List.append_assoc, List.cons_append, List.nil_append]
  rw [e] at hu hv ⊢
  rw [List.getElem?_append_right (by omega), l1, show c - (c - 1) = 1 from by omega] at hu
  rw [List.getElem?_append_right (by omega), l1, Nat.sub_self] at hv
  cases hu; cases hv
  rw [List.set_append_right _ _ (by omega), l1, show c - (c - 1) = 1 from by omega, List.set_cons_succ, List.set_cons_zero, List.set_append_right _ _ (by omega), l1, Nat.sub_self, List.set_cons_zero]
  unfold ShL
  rw [Nat.add_sub_cancel, show A.drop q = A[q] :: A.drop (q + 1) from List.drop_eq_getElem_cons (by omega)]
  rfl
theorem sym_one {Z1 B Z3 : List Bx} {x : Bx} {j : Nat} (hB : SortedX B) (hlo : ∀ y ∈ B.take j, before y x = true) (hhi : ∀ y ∈ B.drop j, before y x = false) : ShR Z1 B Z3 x j = Z1 ++ orderX ([x] ++ B) ++ Z3 := by
  have h := one_ahead (x := x) (B1 := B.take j) (B2 := B.drop j) (by rw [List.take_append_drop]; exact hB) hlo hhi
  rw [List.take_append_drop] at h
  rw [List.singleton_append, ← h]
  unfold ShR; simp
theorem sym_last {Z1 A Z3 : List Bx} {x : Bx} {j : Nat} (hA : SortedX A) (hlo : ∀ y ∈ A.take j, before x y = false) (hhi : ∀ y ∈ A.drop j, before x y = true) : ShL Z1 A Z3 x j = Z1 ++ orderX (A ++ [x]) ++ Z3 := by
  have h := one_behind (x := x) (A1 := A.take j) (A2 := A.drop j) (by rw [List.take_append_drop]; exact hA) hlo hhi
  rw [List.take_append_drop] at h
  rw [← h]
  unfold ShL; simp
theorem sym_rest {A B : List Bx} {i j : Nat} (hA : SortedX A) (hB : SortedX B) (h1 : ∀ x ∈ A.drop i, ∀ y ∈ B.take j, before y x = true) (h2 : ∀ x ∈ A.take i, ∀ y ∈ B.drop j, before y x = false) : orderX (A.take i ++ B.take j) ++ orderX (A.drop i ++ B.drop j) = orderX (A ++ B) := by
  have h := merge_is (A1 := A.take i) (A2 := A.drop i) (B1 := B.take j) (B2 := B.drop j) (by rw [List.take_append_drop]; exact hA) (by rw [List.take_append_drop]; exact hB) h1 h2
  rwa [List.take_append_drop, List.take_append_drop] at h
theorem sorted_take {A : List Bx} (h : SortedX A) (i : Nat) : SortedX (A.take i) := by unfold SortedX at *; exact List.Pairwise.sublist (List.take_sublist _ _) h
theorem sorted_drop {A : List Bx} (h : SortedX A) (i : Nat) : SortedX (A.drop i) := by unfold SortedX at *; exact List.Pairwise.sublist (List.drop_sublist _ _) h
theorem one_of {A : List Bx} (h : A.length = 1) : ∃ x, A = [x] := by
  rcases A with _ | ⟨x, _ | ⟨y, A⟩⟩
  · simp at h
  · exact ⟨x, rfl⟩
  · simp at h
-- how a list is cut
theorem cut3 {l : List Bx} {a m b : Nat} (h1 : a ≤ m) (h2 : m ≤ b) : l = l.take a ++ (l.take m).drop a ++ (l.take b).drop m ++ l.drop b := by
  have e1 : (l.take m) = l.take a ++ (l.take m).drop a := by
    conv => lhs; rw [← List.take_append_drop a (l.take m)]
    rw [List.take_take, Nat.min_eq_left h1]
  have e2 : (l.take b) = l.take m ++ (l.take b).drop m := by
    conv => lhs; rw [← List.take_append_drop m (l.take b)]
    rw [List.take_take, Nat.min_eq_left h2]
  rw [← e1, ← e2, List.take_append_drop]
end Go.Proofs.YtjbbeolapaaiaaaDoor
namespace Go.Proofs.YtjbbeolapaaiaaaDoor
open Go Go.RowKit Tw
theorem sorted_l {A B : List Bx} (h : SortedX (A ++ B)) : SortedX A := by
  unfold SortedX at *; exact (List.pairwise_append.1 h).1
theorem sorted_r {A B : List Bx} (h : SortedX (A ++ B)) : SortedX B := by
  unfold SortedX at *; exact (List.pairwise_append.1 h).2.1
theorem len0 {A : List Bx} (h : A.length = 0) : A = [] := List.eq_nil_of_length_eq_zero h
theorem rot_skip (Z T : List Bx) {A B : List Bx} (h : A.length = 0 ∨ B.length = 0) : Z ++ A ++ B ++ T = Z ++ B ++ A ++ T := by
  rcases h with h | h <;> rw [len0 h] <;> simp
theorem order_id {A : List Bx} (h : SortedX A) : orderX A = A := (order_is h fun _ => rfl).symm
theorem sym_skip {A B : List Bx} (hA : SortedX A) (hB : SortedX B) (h : A.length = 0 ∨ B.length = 0) : orderX (A ++ B) = A ++ B := by
  rcases h with h | h <;> rw [len0 h]
  · rw [List.nil_append]; exact order_id hB
  · rw [List.append_nil]; exact order_id hA
theorem sym_cut {Z1 A B Z3 : List Bx} {a m b mid s s0 r0 : Nat} (ha : a = Z1.length) (hm : m = Z1.length + A.length) (hb : b = Z1.length + A.length + B.length) (sA : SortedX A) (sB : SortedX B)
    (hs : (a ≤ s0 ∧ r0 ≤ m ∧ (s0 = a ∨ s0 + b = mid + m) ∧ (r0 = m ∨ r0 = mid) ∧ mid + m ≤ b + s0 ∧ r0 ≤ mid)) (hs1 : s0 ≤ s) (hs2 : s ≤ r0)
    (hlo : s = s0 ∨ (s0 < s ∧ ∃ x y, (Z1 ++ A ++ B ++ Z3)[s - 1]? = some x ∧ (Z1 ++ A ++ B ++ Z3)[mid + m - 1 - (s - 1)]? = some y ∧ before y x = false))
    (hhi : s = r0 ∨ (s < r0 ∧ ∃ x y, (Z1 ++ A ++ B ++ Z3)[s]? = some x ∧ (Z1 ++ A ++ B ++ Z3)[mid + m - 1 - s]? = some y ∧ before y x = true)) :
    ∃ A1 A2 B1 B2, A = A1 ++ A2 ∧ B = B1 ++ B2 ∧ A1.length = s - a ∧ B1.length = mid - s ∧ orderX (A1 ++ B1) ++ orderX (A2 ++ B2) = orderX (A ++ B) := by
  refine ⟨A.take (s - a), A.drop (s - a), B.take (mid - s), B.drop (mid - s), (List.take_append_drop ..).symm, (List.take_append_drop ..).symm, by rw [List.length_take]; omega, by rw [List.length_take]; omega, sym_rest sA sB (all_high sA sB ?_) (all_low sA sB ?_)⟩
  · rcases hhi with h | ⟨h, x, y, hx, hy, hbb⟩
    · rcases hs.2.2.2.1 with h2 | h2
      · exact .inl (by omega)
      · exact .inr (.inl (by omega))
    · have h1 := zA hx (by omega) (by omega)
      have h2 := zB hy (by omega) (by omega)
      rw [show s - Z1.length = s - a by omega] at h1
      rw [show mid + m - 1 - s - (Z1.length + A.length) = mid - s - 1 by omega] at h2
      exact .inr (.inr ⟨x, y, h1, h2, hbb⟩)
  · rcases hlo with h | ⟨h, x, y, hx, hy, hbb⟩
    · rcases hs.2.2.1 with h2 | h2
      · exact .inl (by omega)
      · exact .inr (.inl (by omega))
    · have h1 := zA hx (by omega) (by omega)
      have h2 := zB hy (by omega) (by omega)
      rw [show s - 1 - Z1.length = s - a - 1 by omega] at h1
      rw [show mid + m - 1 - (s - 1) - (Z1.length + A.length) = mid - s by omega] at h2
      exact .inr (.inr ⟨x, y, h1, h2, hbb⟩)
theorem one_sorted (x : Bx) : SortedX [x] := by unfold SortedX; simp
theorem one_cut {Z1 B Z3 : List Bx} {x : Bx} {a m b i : Nat} (ha : a = Z1.length) (hm : m = Z1.length + 1) (hb : b = Z1.length + 1 + B.length) (sB : SortedX B) (h1 : m ≤ i) (h2 : i ≤ b)
    (hlo : i = m ∨ (m < i ∧ ∃ z y, (Z1 ++ [x] ++ B ++ Z3)[a]? = some z ∧ (Z1 ++ [x] ++ B ++ Z3)[i - 1]? = some y ∧ before y z = true))
    (hhi : i = b ∨ (i < b ∧ ∃ z y, (Z1 ++ [x] ++ B ++ Z3)[a]? = some z ∧ (Z1 ++ [x] ++ B ++ Z3)[i]? = some y ∧ before y z = false)) :
    ShR Z1 B Z3 x (i - m) = Z1 ++ orderX ([x] ++ B) ++ Z3 := by
  refine sym_one sB (fun y hy => all_high (A := [x]) (B := B) (i := 0) (j := i - m) (one_sorted x) sB ?_ x (by simp) y hy) (fun y hy => all_low (A := [x]) (B := B) (i := 1) (j := i - m) (one_sorted x) sB ?_ x (by simp) y hy)
  · rcases hlo with h | ⟨h, z, y, hz, hy, hbb⟩
    · exact .inr (.inl (by omega))
    · have k1 := zA hz (by omega) (by simp; omega)
      have k2 := zB hy (by simp; omega) (by simp; omega)
      rw [show a - Z1.length = 0 by omega] at k1
      rw [show i - 1 - (Z1.length + [x].length) = i - m - 1 by simp; omega] at k2
      exact .inr (.inr ⟨z, y, k1, k2, hbb⟩)
  · rcases hhi with h | ⟨h, z, y, hz, hy, hbb⟩
    · exact .inr (.inl (by omega))
    · have k1 := zA hz (by omega) (by simp; omega)
      have k2 := zB hy (by simp; omega) (by simp; omega)
      rw [show a - Z1.length = 0 by omega] at k1
      rw [show i - (Z1.length + [x].length) = i - m by simp; omega] at k2
      exact .inr (.inr ⟨z, y, k1, k2, hbb⟩)
theorem last_cut {Z1 A Z3 : List Bx} {x : Bx} {a m i : Nat} (ha : a = Z1.length) (hm : m = Z1.length + A.length) (sA : SortedX A) (h1 : a ≤ i) (h2 : i ≤ m)
    (hlo : i = a ∨ (a < i ∧ ∃ z y, (Z1 ++ A ++ [x] ++ Z3)[i - 1]? = some z ∧ (Z1 ++ A ++ [x] ++ Z3)[m]? = some y ∧ before y z = false))
    (hhi : i = m ∨ (i < m ∧ ∃ z y, (Z1 ++ A ++ [x] ++ Z3)[i]? = some z ∧ (Z1 ++ A ++ [x] ++ Z3)[m]? = some y ∧ before y z = true)) :
    ShL Z1 A Z3 x (i - a) = Z1 ++ orderX (A ++ [x]) ++ Z3 := by
  refine sym_last sA (fun y hy => all_low (A := A) (B := [x]) (i := i - a) (j := 0) sA (one_sorted x) ?_ y hy x (by simp)) (fun y hy => all_high (A := A) (B := [x]) (i := i - a) (j := 1) sA (one_sorted x) ?_ y hy x (by simp))
  · rcases hlo with h | ⟨h, z, y, hz, hy, hbb⟩
    · exact .inl (by omega)
    · have k1 := zA hz (by omega) (by omega)
      have k2 := zB hy (by omega) (by simp; omega)
      rw [show i - 1 - Z1.length = i - a - 1 by omega] at k1
      rw [show m - (Z1.length + A.length) = 0 by omega] at k2
      exact .inr (.inr ⟨z, y, k1, k2, hbb⟩)
  · rcases hhi with h | ⟨h, z, y, hz, hy, hbb⟩
    · exact .inl (by omega)
    · have k1 := zA hz (by omega) (by omega)
      have k2 := zB hy (by omega) (by simp; omega)
      rw [show i - Z1.length = i - a by omega] at k1
      rw [show m - (Z1.length + A.length) = 0 by omega] at k2
      exact .inr (.inr ⟨z, y, k1, k2, hbb⟩)
end Go.Proofs.YtjbbeolapaaiaaaDoor
namespace Go.Proofs.YtjbbeolapaaiaaaDoor
open Go Go.RowKit Tw
inductive Bl (s : Nat) : List Bx → Prop
  | last (X : List Bx) : X.length ≤ s → SortedX X → Bl s X
  | more (X Y : List Bx) : X.length = s → SortedX X → Bl s Y → Bl s (X ++ Y)
inductive Fu (s : Nat) : List Bx → Prop
  | nil : Fu s []
  | snoc (P X : List Bx) : Fu s P → X.length = s → SortedX X → Fu s (P ++ X)
theorem Fu.bl {s : Nat} {P Q : List Bx} (h : Fu s P) (hQ : Bl s Q) : Bl s (P ++ Q) := by
  induction h generalizing Q with
  | nil => exact hQ
  | snoc P X _ hX sX ih => rw [List.append_assoc]; exact ih (.more _ _ hX sX hQ)
theorem Bl.small {s : Nat} {Q : List Bx} (h : Bl s Q) (hs : Q.length ≤ s) : SortedX Q := by
  cases h with
  | last _ _ h => exact h
  | more X Y hX sX hY =>
    rw [List.length_append] at hs
    rw [len0 (show Y.length = 0 by omega), List.append_nil]; exact sX
theorem Bl.two {s : Nat} {Q : List Bx} (h : Bl s Q) (h0 : 0 < s) (hs : 2 * s ≤ Q.length) : ∃ X1 X2 Q2, Q = X1 ++ X2 ++ Q2 ∧ X1.length = s ∧ X2.length = s ∧ SortedX X1 ∧ SortedX X2 ∧ Bl s Q2 := by
  cases h with
  | last _ h _ => omega
  | more X Y hX sX hY =>
    rw [List.length_append] at hs
    cases hY with
    | last _ h sY => exact ⟨X, Y, [], (List.append_nil _).symm, hX, by omega, sX, sY, .last _ (Nat.zero_le _) (by unfold SortedX; exact List.Pairwise.nil)⟩
    | more X2 Y2 h2 s2 hY2 => exact ⟨X, X2, Y2, (List.append_assoc ..).symm, hX, h2, sX, s2, hY2⟩
theorem Bl.rest {s : Nat} {Q : List Bx} (h : Bl s Q) (h1 : s < Q.length) (h2 : Q.length < 2 * s) : ∃ X1 X2, Q = X1 ++ X2 ∧ X1.length = s ∧ SortedX X1 ∧ SortedX X2 := by
  cases h with
  | last _ h _ => omega
  | more X Y hX sX hY =>
    rw [List.length_append] at h1 h2
    exact ⟨X, Y, rfl, hX, sX, hY.small (by omega)⟩
theorem ins_pq {P Q : List Bx} {a b : Nat} (k : Nat) (ha : P.length = a) (hb : b = a + k) : (P ++ Q).take a ++ orderX (((P ++ Q).take b).drop a) ++ (P ++ Q).drop b = P ++ orderX (Q.take k) ++ Q.drop k := by
  subst ha; subst hb
  simp [List.take_append, List.drop_append]
theorem ins_all {P Q : List Bx} {a n : Nat} (ha : P.length = a) (hn : P.length + Q.length = n) : (P ++ Q).take a ++ orderX (((P ++ Q).take n).drop a) ++ (P ++ Q).drop n = P ++ orderX Q := by
  rw [ins_pq Q.length ha (by omega), List.take_length, List.drop_length, List.append_nil]
theorem filt_pq (P Q : List Bx) (k : Nat) (z : Bx) : (P ++ orderX (Q.take k) ++ Q.drop k).filter (eqv z) = (P ++ Q).filter (eqv z) := by
  simp only [List.filter_append, order_filter, List.append_assoc]
  rw [← List.filter_append, List.take_append_drop]
theorem filt_two (P X Y Z : List Bx) (z : Bx) : (P ++ orderX (X ++ Y) ++ Z).filter (eqv z) = (P ++ (X ++ Y ++ Z)).filter (eqv z) := by
  simp only [List.filter_append, order_filter, List.append_assoc]
end Go.Proofs.YtjbbeolapaaiaaaDoor
namespace Go.Proofs.YtjbbeolapaaiaaaDoor
open Go Go.RowKit Tw
theorem run_min {P : Program} {o : Oper} {a : Act} {T : TypeId} {x y : Operand} {k : IntKind} {m n z : Int} (ho : o.op = .call { callee := .builtin .min, args := #[x, y], argTypes := #[T, T] }) (hx : a.eval x = .int k m) (hy : a.eval y = .int k n) (h : (if n < m then n else m) = z) (w : World) : (execOp a.eval o).run P w = .ok (.value (.int k z)) w := by
  subst h
  unfold execOp
  rw [ho]
  simp [resolve, invoke, builtin, Builtin.min_, Builtin.min2, hx, hy]
theorem run_max {P : Program} {o : Oper} {a : Act} {T : TypeId} {x y : Operand} {k : IntKind} {m n z : Int} (ho : o.op = .call { callee := .builtin .max, args := #[x, y], argTypes := #[T, T] }) (hx : a.eval x = .int k m) (hy : a.eval y = .int k n) (h : (if n > m then n else m) = z) (w : World) : (execOp a.eval o).run P w = .ok (.value (.int k z)) w := by
  subst h
  unfold execOp
  rw [ho]
  simp [resolve, invoke, builtin, Builtin.max_, Builtin.max2, hx, hy]
theorem min_ex (m n : Int) : ∃ z : Int, (if n < m then n else m) = z ∧ z ≤ m ∧ z ≤ n ∧ (z = m ∨ z = n) := ⟨_, rfl, by split <;> omega, by split <;> omega, by split <;> omega⟩
theorem max_ex (m n : Int) : ∃ z : Int, (if n > m then n else m) = z ∧ m ≤ z ∧ n ≤ z ∧ (z = m ∨ z = n) := ⟨_, rfl, by split <;> omega, by split <;> omega, by split <;> omega⟩
theorem min_nat (m n : Nat) : ∃ z : Nat, (if (n : Int) < (m : Int) then (n : Int) else (m : Int)) = (z : Int) ∧ z ≤ m ∧ z ≤ n ∧ (z = m ∨ z = n) := by
  rcases Nat.lt_or_ge n m with h | h
  · exact ⟨n, if_pos (by omega), by omega, by omega, .inr rfl⟩
  · exact ⟨m, if_neg (by omega), by omega, by omega, .inl rfl⟩
instance : DecidableEq Sm := fun a b => decidable_of_iff (a.n = b.n ∧ a.h = b.h ∧ a.k = b.k ∧ a.r = b.r ∧ a.d = b.d) (by cases a; cases b; simp)
theorem eql_sm {a b : Sm} {e : Bool} {px py : Operand} (h : decide (a = b) = e) (w : World) : (do eqGuard .eql 47 px py (smV a) (smV b); binOp .eql 47 (smV a) (smV b) : Sem Value).run Tryd.prog w = .ok (.bool e) w := by
  subst h
  obtain ⟨a1, a2, a3, a4, a5⟩ := a
  obtain ⟨b1, b2, b3, b4, b5⟩ := b
  unfold smV smC
  go_simp
  have e1 : ((a1 : Int) = (b1 : Int)) = (a1 = b1) := by apply propext; omega
  have e2 : ((a2 : Int) = (b2 : Int)) = (a2 = b2) := by apply propext; omega
  have e4 : ((a4 : Int) = (b4 : Int)) = (a4 = b4) := by apply propext; omega
  have e5 : ((a5 : Int) = (b5 : Int)) = (a5 = b5) := by apply propext; omega
  simp only [e1, e2, e4, e5, Sm.mk.injEq]
  by_cases h1 : a1 = b1 <;> by_cases h2 : a2 = b2 <;> by_cases h3 : a3 = b3 <;> by_cases h4 : a4 = b4 <;> by_cases h5 : a5 = b5 <;> simp [h1, h2, h3, h4, h5]
theorem neq_sm {a b : Sm} {e : Bool} {px py : Operand} (h : decide (a = b) = e) (w : World) : (do eqGuard .neq 47 px py (smV a) (smV b); binOp .neq 47 (smV a) (smV b) : Sem Value).run Tryd.prog w = .ok (.bool (!e)) w := by
  subst h
  obtain ⟨a1, a2, a3, a4, a5⟩ := a
  obtain ⟨b1, b2, b3, b4, b5⟩ := b
  unfold smV smC
  go_simp
  have e1 : ((a1 : Int) = (b1 : Int)) = (a1 = b1) := by apply propext; omega
  have e2 : ((a2 : Int) = (b2 : Int)) = (a2 = b2) := by apply propext; omega
  have e4 : ((a4 : Int) = (b4 : Int)) = (a4 = b4) := by apply propext; omega
  have e5 : ((a5 : Int) = (b5 : Int)) = (a5 = b5) := by apply propext; omega
  simp only [e1, e2, e4, e5, Sm.mk.injEq]
  by_cases h1 : a1 = b1 <;> by_cases h2 : a2 = b2 <;> by_cases h3 : a3 = b3 <;> by_cases h4 : a4 = b4 <;> by_cases h5 : a5 = b5 <;> simp [h1, h2, h3, h4, h5]
theorem valid_one {b : Bx} (h : rightX b = false) : validV [b] = .tuple #[.int .i64 0, .int .i64 60] := by
  unfold validV
  rw [if_neg (by simp), firstBad_some (k := 0) (by simp) (fun j hj => absurd hj (Nat.not_lt_zero _)) (bad_right rfl h)]
  rfl
theorem total_one {b : Bx} (h : rightX b = false) : totalX [b] = sm0 := add_wrong h
theorem made_size (n : Nat) (x : Sk) : (madeX n x).size = 20 ∨ (madeX n x).size = 40 := by
  unfold madeX
  dsimp only
  split
  · exact .inr rfl
  · exact .inl rfl
section
variable {b : Bx}
theorem wr1 (h : rul1 b = false) : rightX b = false := by unfold rightX; simp [h]
theorem wr2 (h : rul2 b = false) : rightX b = false := by unfold rightX; simp [h]
theorem wr3 (h : rul3 b = false) : rightX b = false := by unfold rightX; simp [h]
theorem wr4 (h : rul4 b = false) : rightX b = false := by unfold rightX; simp [h]
theorem wr5 (h : rul5 b = false) : rightX b = false := by unfold rightX; simp [h]
theorem wr6 (h : rulW 20 32000 b = false) : rightX b = false := by unfold rightX; simp [h]
theorem wr7 (h : rulW 40 40000 b = false) : rightX b = false := by unfold rightX; simp [h]
theorem wr8 (h : rul8 b = false) : rightX b = false := by unfold rightX; simp [h]
theorem wr10 (h : rul10 b = false) : rightX b = false := by unfold rightX; simp [h]
end
end Go.Proofs.YtjbbeolapaaiaaaDoor
namespace Go.Proofs.YtjbbeolapaaiaaaDoor
open Go Go.RowKit Tw
theorem made_calls (n : Nat) (x : Sk) : ∃ L D : Nat, (madeX n x).load = (L : Int) ∧ (madeX n x).dis = (D : Int) ∧ L < D ∧ D ≤ 19 := by
  refine ⟨x.load % 19, x.load % 19 + 1 + x.stay % (19 - x.load % 19), rfl, rfl, by omega, ?_⟩
  have := Nat.mod_lt x.stay (show 0 < 19 - x.load % 19 by omega)
  omega
set_option maxRecDepth 100000 in
set_option maxHeartbeats 40000000 in
theorem BoxStays_law (w : World) (hE : Env w) (x : Sk) (hx : skOk x) : Calls Tryd.prog 6 #[(.agg (skC x).toArray)] w fun e w' => e = .returned (.bool true) ∧ Below w.heap.size w w' := by
  have HE := Lib.hid hE
  clear hE
  obtain ⟨L, D, hL, hD, hLD, hD2⟩ := made_calls 0 x
  go_enter Tryd.func6, Tryd.ntmps6
  refine wp_seq ?_
  refine wp_region_L (W0 := w) [] (KS.start w) ?_
  refine wpL_new (fun g => .pointer (some ⟨g, 0, none⟩)) (obi := .cells (skC x).toArray 31 (0, 0)) rfl rfl (fun _ => by kernel_rfl) (fun _ => by simp only [List.setIfInBounds_toArray, List.set_cons_succ, List.set_cons_zero] <;> rfl) fun g1 Bg1 Fg1 => ?_
  refine lm (v := .bool false) rfl rfl ?_
  refine wpL_done (fun W1 hW1 => ?_)
  refine (show Code.wp _ _ _ _ _ from ?_)
  refine wp_seq ?_
  refine wp_region_L (W0 := w) [(g1, .cells (skC x).toArray 31 (0, 0))] (hW1) ?_
  refine lv (v := (.agg (skC x).toArray)) rfl rfl (yb_load (n := 6) (off := 0) rfl (by kernel_rfl) (.head _) Tryd.underlying31 rfl (by kernel_rfl) (by first | (simp; done) | exact Nat.le_of_ble_eq_true rfl) (by kernel_rfl)) ?_
  refine lv (v := bxV (madeX 0 x)) rfl rfl (yb_call (f := 17) (args := #[.int .i64 0, (.agg (skC x).toArray)]) (fun _ => by kernel_rfl) fun W hW => Made_any 0 x (by omega) hx W) ?_
  refine wpL_new (fun g => .pointer (some ⟨g, 0, none⟩)) (obi := .cells (bxC bx0) 26 (0, 0)) rfl rfl (fun _ => by kernel_rfl) (fun _ => by simp only [List.setIfInBounds_toArray, List.set_cons_succ, List.set_cons_zero] <;> rfl) fun g2 Bg2 Fg2 => ?_
  obtain dj3_0 : g1 ≠ g2 := by simpa only [dj_app_l, dj_app_r, dj_cons_l, dj_cons_r, dj_nil_l, dj_nil_r, dk_app, dk_cons, dk_nil, and_true, true_and, and_assoc] using (show Dk g2 [(g1, .cells (skC x).toArray 31 (0, 0))] from Fg2)
  refine wpL_s [(g2, .cells (bxC (madeX 0 x)) 26 (0, 0)), (g1, .cells (skC x).toArray 31 (0, 0))] rfl rfl (st_bx (b := (madeX 0 x)) rfl (by kernel_rfl) (by kernel_rfl) (.head _) rfl Bg2 (by kernel_rfl) (List.forall_mem_cons.2 ⟨.inl rfl, (List.forall_mem_cons.2 ⟨.inr ⟨(.tail _ (.head _)), (by first | assumption | exact Ne.symm (by assumption))⟩, (List.forall_mem_nil _)⟩)⟩)) ?_
  refine wpL_done (fun W2 hW2 => ?_)
  refine (show Code.wp _ _ _ _ _ from ?_)
  refine wp_seq ?_
  refine wp_region_L (W0 := w) [(g2, .cells (bxC (madeX 0 x)) 26 (0, 0)), (g1, .cells (skC x).toArray 31 (0, 0))] (hW2) ?_
  refine lm (v := .int .i64 0) rfl rfl ?_
  refine wpL_done (fun W3 hW3 => ?_)
  refine (show Code.wp _ _ _ _ _ from ?_)
  refine wp_seq ?_
  refine wp_seq ?_
  refine wp_region_L (W0 := w) [(g2, .cells (bxC (madeX 0 x)) 26 (0, 0)), (g1, .cells (skC x).toArray 31 (0, 0))] (hW3) ?_
  refine lm (v := .int .i64 (-2)) rfl rfl ?_
  refine wpL_done (fun W4 hW4 => ?_)
  refine (show Code.wp _ _ _ _ _ from ?_)
  refine wp_block ?_
  go_loopw [4, 5] (fun u4 u5 wr => ∃ (c n : Int), (-2 ≤ c ∧ c ≤ 25) ∧ ((c ≤ (L : Int) → n = 0) ∧ ((L : Int) ≤ c ∧ c ≤ (D : Int) → n = c - L) ∧ ((D : Int) ≤ c → n = (D : Int) - L)) ∧ u4 = .int .i64 n ∧ u5 = .int .i64 c ∧ KS w [(g2, .cells (bxC (madeX 0 x)) 26 (0, 0)), (g1, .cells (skC x).toArray 31 (0, 0))] wr) (fun _ u5 _ => (25 - intOf u5).toNat)
  case atStart => exact ⟨-2, 0, (by omega), (by omega), rfl, rfl, (hW4.sub (fun p hp => by first | exact hp | (simp only [List.mem_cons, List.mem_append, List.nil_append, List.not_mem_nil, or_assoc, or_false, false_or] at hp ⊢ <;> grind)))⟩
  case round =>
    obtain ⟨c, n, hc, hn, rfl, rfl, hL5⟩ := hrel
    refine wp_seq ?_
    refine wp_seq ?_
    refine wp_region_L (W0 := w) [(g2, .cells (bxC (madeX 0 x)) 26 (0, 0)), (g1, .cells (skC x).toArray 31 (0, 0))] (hL5) ?_
    refine lm (v := .int .i64 c) rfl rfl ?_
    refine lp (v := .bool (decide (c < 25))) rfl rfl (run_bin rfl (vx := (.int .i64 c)) (vy := (.int .i64 25)) (by kernel_rfl) (by kernel_rfl) fun w => bi_lss rfl w) ?_
    refine wpL_done (fun W6 hW6 => ?_)
    refine (show Code.wp _ _ _ _ _ from ?_)
    cases hd1 : (decide (c < 25)) with
    | false =>
      have h1 : ¬ (c < 25) := of_decide_eq_false hd1
      clear hd1
      refine wp_cond_false rfl ?_
      refine wp_exit ?_
      refine (show Code.wp _ _ _ _ _ from ?_)
      refine wp_seq ?_
      refine wp_region_L (W0 := w) [(g2, .cells (bxC (madeX 0 x)) 26 (0, 0)), (g1, .cells (skC x).toArray 31 (0, 0))] (hW6) ?_
      refine lm (v := .int .i64 n) rfl rfl ?_
      refine lm (v := .pointer (some ⟨g2, 6, none⟩)) rfl rfl ?_
      refine lv (v := .int .i64 ((madeX 0 x).dis)) rfl rfl (yb_cell (off := 6) rfl (by kernel_rfl) (.head _) Tryd.underlying3 rfl (by kernel_rfl)) ?_
      refine lm (v := .pointer (some ⟨g2, 5, none⟩)) rfl rfl ?_
      refine lv (v := .int .i64 ((madeX 0 x).load)) rfl rfl (yb_cell (off := 5) rfl (by kernel_rfl) (.head _) Tryd.underlying3 rfl (by kernel_rfl)) ?_
      refine lp (v := .int .i64 (((madeX 0 x).dis) - ((madeX 0 x).load))) rfl rfl (run_bin rfl (vx := (.int .i64 ((madeX 0 x).dis))) (vy := (.int .i64 ((madeX 0 x).load))) (by kernel_rfl) (by kernel_rfl) fun w => bi_sub (z := (((madeX 0 x).dis) - ((madeX 0 x).load))) rfl (wi_i64 (by omega)) w) ?_
      refine lp (v := .bool (decide (n = (((madeX 0 x).dis) - ((madeX 0 x).load))))) rfl rfl (run_bin rfl (vx := (.int .i64 n)) (vy := (.int .i64 (((madeX 0 x).dis) - ((madeX 0 x).load)))) (by kernel_rfl) (by kernel_rfl) fun w => bi_eql rfl w) ?_
      refine lm (v := .bool (decide (n = (((madeX 0 x).dis) - ((madeX 0 x).load))))) rfl rfl ?_
      cases hd2 : (decide (n = (((madeX 0 x).dis) - ((madeX 0 x).load)))) with
      | false =>
        have h2 : ¬ (n = (((madeX 0 x).dis) - ((madeX 0 x).load))) := of_decide_eq_false hd2
        clear hd2
        rw [hL, hD] at h2
        refine ln rfl ?_
        refine ln rfl ?_
        refine lm (v := .bool false) rfl rfl ?_
        refine lm (v := .bool false) rfl rfl ?_
        refine ln rfl ?_
        refine lm (v := .bool false) rfl rfl ?_
        refine lm (v := .bool false) rfl rfl ?_
        refine wpL_done (fun W7 hW7 => ?_)
        refine (show Code.wp _ _ _ _ _ from ?_)
        refine wp_ret ?_
        exfalso
        omega
      | true =>
        have h2 : n = (((madeX 0 x).dis) - ((madeX 0 x).load)) := of_decide_eq_true hd2
        clear hd2
        rw [hL, hD] at h2
        refine lm (v := .int .i64 n) rfl rfl ?_
        refine lp (v := .bool (decide (0 < n))) rfl rfl (run_bin rfl (vx := (.int .i64 n)) (vy := (.int .i64 0)) (by kernel_rfl) (by kernel_rfl) fun w => bi_gtr rfl w) ?_
        refine lm (v := .bool (decide (0 < n))) rfl rfl ?_
        refine lm (v := .bool (decide (0 < n))) rfl rfl ?_
        cases hd3 : (decide (0 < n)) with
        | false =>
          have h3 : ¬ (0 < n) := of_decide_eq_false hd3
          clear hd3
          refine ln rfl ?_
          refine lm (v := .bool false) rfl rfl ?_
          refine lm (v := .bool false) rfl rfl ?_
          refine wpL_done (fun W8 hW8 => ?_)
          refine (show Code.wp _ _ _ _ _ from ?_)
          refine wp_ret ?_
          exfalso
          omega
        | true =>
          have h3 : 0 < n := of_decide_eq_true hd3
          clear hd3
          refine lv (v := .bool true) rfl rfl (yb_call (f := 12) (args := #[]) (fun _ => by kernel_rfl) fun W hW => awake_any W (HE.out.keep hW.1)) ?_
          refine lm (v := .bool true) rfl rfl ?_
          refine lm (v := .bool true) rfl rfl ?_
          refine wpL_done (fun W9 hW9 => ?_)
          refine (show Code.wp _ _ _ _ _ from ?_)
          refine wp_ret ?_
          try simp only [inBlock_ret, then_ret]
          refine bodyPost_ret (v := .bool true) ?_ rfl ?_
          · kernel_rfl
          · exact ⟨rfl, hW9.1⟩
    | true =>
      have h1 : c < 25 := of_decide_eq_true hd1
      clear hd1
      refine wp_cond_true rfl ?_
      refine wp_skip ?_
      refine (show Code.wp _ _ _ _ _ from ?_)
      refine wp_seq ?_
      refine wp_block ?_
      refine wp_seq ?_
      refine wp_region_L (W0 := w) [(g2, .cells (bxC (madeX 0 x)) 26 (0, 0)), (g1, .cells (skC x).toArray 31 (0, 0))] (hW6) ?_
      refine lv (v := bxV (madeX 0 x)) rfl rfl (yb_load (n := 9) (off := 0) rfl (by kernel_rfl) (.head _) Tryd.underlying26 rfl (by kernel_rfl) (Nat.le_refl 9) (by kernel_rfl)) ?_
      refine lm (v := .int .i64 c) rfl rfl ?_
      refine lv (v := .bool (aboardX (madeX 0 x) c)) rfl rfl (yb_call (f := 23) (args := #[bxV (madeX 0 x), .int .i64 c]) (fun _ => by kernel_rfl) fun W hW => Aboard_any (madeX 0 x) c W) ?_
      refine wpL_done (fun W10 hW10 => ?_)
      refine (show Code.wp _ _ _ _ _ from ?_)
      cases h4 : (aboardX (madeX 0 x) c) with
      | false =>
        have ha : ¬ ((L : Int) ≤ c ∧ c < (D : Int)) := by rw [← hL, ← hD]; simpa [aboardX] using h4
        refine wp_cond_false rfl ?_
        refine wp_skip ?_
        refine (show Code.wp _ _ _ _ _ from ?_)
        refine wp_region_L (W0 := w) [(g2, .cells (bxC (madeX 0 x)) 26 (0, 0)), (g1, .cells (skC x).toArray 31 (0, 0))] (hW10) ?_
        refine lm (v := .int .i64 c) rfl rfl ?_
        refine lp (v := .int .i64 (c + 1)) rfl rfl (run_bin rfl (vx := (.int .i64 c)) (vy := (.int .i64 1)) (by kernel_rfl) (by kernel_rfl) fun w => bi_add (z := (c + 1)) rfl (wi_i64 (by omega)) w) ?_
        refine lm (v := .int .i64 (c + 1)) rfl rfl ?_
        refine wpL_done (fun W11 hW11 => ?_)
        go_roundw
        case rel =>
          repeat apply Exists.intro
          exact ⟨⟨c + 1, n, (by omega), (by omega), rfl, rfl, (hW11.sub (fun p hp => by first | exact hp | (simp only [List.mem_cons, List.mem_append, List.nil_append, List.not_mem_nil, or_assoc, or_false, false_or] at hp ⊢ <;> grind)))⟩, rfl⟩
        case measure => (show (25 - intOf (.int .i64 (c + 1))).toNat < (25 - intOf (.int .i64 c)).toNat); simp only [intOf]; omega
      | true =>
        have ha : ((L : Int) ≤ c ∧ c < (D : Int)) := by rw [← hL, ← hD]; simpa [aboardX] using h4
        refine wp_cond_true rfl ?_
        refine wp_seq ?_
        refine wp_region_L (W0 := w) [(g2, .cells (bxC (madeX 0 x)) 26 (0, 0)), (g1, .cells (skC x).toArray 31 (0, 0))] (hW10) ?_
        refine lm (v := .int .i64 n) rfl rfl ?_
        refine lp (v := .int .i64 (n + 1)) rfl rfl (run_bin rfl (vx := (.int .i64 n)) (vy := (.int .i64 1)) (by kernel_rfl) (by kernel_rfl) fun w => bi_add (z := (n + 1)) rfl (wi_i64 (by omega)) w) ?_
        refine lm (v := .int .i64 (n + 1)) rfl rfl ?_
        refine wpL_done (fun W12 hW12 => ?_)
        refine (show Code.wp _ _ _ _ _ from ?_)
        refine wp_seq ?_
        refine wp_region_L (W0 := w) [(g2, .cells (bxC (madeX 0 x)) 26 (0, 0)), (g1, .cells (skC x).toArray 31 (0, 0))] (hW12) ?_
        refine lm (v := .int .i64 c) rfl rfl ?_
        refine lm (v := .pointer (some ⟨g2, 5, none⟩)) rfl rfl ?_
        refine lv (v := .int .i64 ((madeX 0 x).load)) rfl rfl (yb_cell (off := 5) rfl (by kernel_rfl) (.head _) Tryd.underlying3 rfl (by kernel_rfl)) ?_
        refine lp (v := .bool (decide (c < ((madeX 0 x).load)))) rfl rfl (run_bin rfl (vx := (.int .i64 c)) (vy := (.int .i64 ((madeX 0 x).load))) (by kernel_rfl) (by kernel_rfl) fun w => bi_lss rfl w) ?_
        refine lm (v := .bool (decide (c < ((madeX 0 x).load)))) rfl rfl ?_
        cases hd5 : (decide (c < ((madeX 0 x).load))) with
        | false =>
          have h5 : ¬ (c < ((madeX 0 x).load)) := of_decide_eq_false hd5
          clear hd5
          rw [hL] at h5
          refine lm (v := .int .i64 c) rfl rfl ?_
          refine lm (v := .pointer (some ⟨g2, 6, none⟩)) rfl rfl ?_
          refine lv (v := .int .i64 ((madeX 0 x).dis)) rfl rfl (yb_cell (off := 6) rfl (by kernel_rfl) (.head _) Tryd.underlying3 rfl (by kernel_rfl)) ?_
          refine lp (v := .bool (!(decide (c < ((madeX 0 x).dis))))) rfl rfl (run_bin rfl (vx := (.int .i64 c)) (vy := (.int .i64 ((madeX 0 x).dis))) (by kernel_rfl) (by kernel_rfl) fun w => bi_geq rfl w) ?_
          refine lm (v := .bool (!(decide (c < ((madeX 0 x).dis))))) rfl rfl ?_
          refine wpL_done (fun W13 hW13 => ?_)
          refine (show Code.wp _ _ _ _ _ from ?_)
          cases hd6 : (decide (c < ((madeX 0 x).dis))) with
          | false =>
            have h6 : ¬ (c < ((madeX 0 x).dis)) := of_decide_eq_false hd6
            clear hd6
            rw [hD] at h6
            refine wp_cond_true rfl ?_
            refine wp_seq ?_
            refine wp_region_L (W0 := w) [(g2, .cells (bxC (madeX 0 x)) 26 (0, 0)), (g1, .cells (skC x).toArray 31 (0, 0))] (hW13) ?_
            refine lm (v := .bool false) rfl rfl ?_
            refine wpL_done (fun W14 hW14 => ?_)
            refine (show Code.wp _ _ _ _ _ from ?_)
            refine wp_ret ?_
            exfalso
            omega
          | true =>
            have h6 : c < ((madeX 0 x).dis) := of_decide_eq_true hd6
            clear hd6
            rw [hD] at h6
            refine wp_cond_false rfl ?_
            refine wp_skip ?_
            refine (show Code.wp _ _ _ _ _ from ?_)
            refine wp_region_L (W0 := w) [(g2, .cells (bxC (madeX 0 x)) 26 (0, 0)), (g1, .cells (skC x).toArray 31 (0, 0))] (hW13) ?_
            refine lm (v := .int .i64 c) rfl rfl ?_
            refine lp (v := .int .i64 (c + 1)) rfl rfl (run_bin rfl (vx := (.int .i64 c)) (vy := (.int .i64 1)) (by kernel_rfl) (by kernel_rfl) fun w => bi_add (z := (c + 1)) rfl (wi_i64 (by omega)) w) ?_
            refine lm (v := .int .i64 (c + 1)) rfl rfl ?_
            refine wpL_done (fun W15 hW15 => ?_)
            go_roundw
            case rel =>
              repeat apply Exists.intro
              exact ⟨⟨c + 1, (n + 1), (by omega), (by omega), rfl, rfl, (hW15.sub (fun p hp => by first | exact hp | (simp only [List.mem_cons, List.mem_append, List.nil_append, List.not_mem_nil, or_assoc, or_false, false_or] at hp ⊢ <;> grind)))⟩, rfl⟩
            case measure => (show (25 - intOf (.int .i64 (c + 1))).toNat < (25 - intOf (.int .i64 c)).toNat); simp only [intOf]; omega
        | true =>
          have h5 : c < ((madeX 0 x).load) := of_decide_eq_true hd5
          clear hd5
          rw [hL] at h5
          refine ln rfl ?_
          refine ln rfl ?_
          refine ln rfl ?_
          refine ln rfl ?_
          refine lm (v := .bool true) rfl rfl ?_
          refine wpL_done (fun W16 hW16 => ?_)
          refine (show Code.wp _ _ _ _ _ from ?_)
          refine wp_cond_true rfl ?_
          refine wp_seq ?_
          refine wp_region_L (W0 := w) [(g2, .cells (bxC (madeX 0 x)) 26 (0, 0)), (g1, .cells (skC x).toArray 31 (0, 0))] (hW16) ?_
          refine lm (v := .bool false) rfl rfl ?_
          refine wpL_done (fun W17 hW17 => ?_)
          refine (show Code.wp _ _ _ _ _ from ?_)
          refine wp_ret ?_
          exfalso
          omega
end Go.Proofs.YtjbbeolapaaiaaaDoor
namespace Go.Proofs.YtjbbeolapaaiaaaDoor
open Go Go.RowKit Tw
theorem fitF_app (l m : List UInt8) : ∀ i, fitF i (l ++ m) = (fitF i l && fitF (i + l.length) m) := by
  induction l with
  | nil => intro i; simp [fitF]
  | cons b l ih => intro i; simp only [List.cons_append, fitF, ih, List.length_cons, Bool.and_assoc]; rw [show i + 1 + l.length = i + (l.length + 1) from by omega]
theorem judge_chk {p : List UInt8} (h : fitB p 10 = true) : judgeN (p ++ [UInt8.ofNat (chkN p)]) = 0 := by
  have hl := fit_len h
  have hf := fit_fit h
  have hc := chkN_le p
  have e : (UInt8.ofNat (chkN p)).toNat = chkN p := by rw [UInt8.toNat_ofNat']; omega
  have h1 : fitB (p ++ [UInt8.ofNat (chkN p)]) 11 = true := by
    have hm : mayB 10 (UInt8.ofNat (chkN p)) = true := by
      unfold mayB isDig
      rw [if_neg (by omega), if_neg (by omega), e]
      simp
      omega
    unfold fitB
    rw [fitF_app, hf, hl]
    simp [fitF, hl, hm]
  have h2 : agrB (p ++ [UInt8.ofNat (chkN p)]) = true := by
    unfold agrB
    rw [List.take_left' hl, List.getD_eq_getElem?_getD, List.getElem?_append_right (by omega), hl]
    simp [e]
  unfold judgeN
  rw [if_pos h1, if_pos h2]
theorem made_right {n : Nat} {x : Sk} (hx : skOk x) : rightX (madeX n x) = true := by
  obtain ⟨x1, x2, x3, x4, x5, x6⟩ := hx
  obtain ⟨L, D, hL, hD, hLD, hD2⟩ := made_calls n x
  have hms := made_size n x
  have r1 : rul1 (madeX n x) = true := by
    show (decide (1 ≤ (((1 + n % 65536 : Nat)) : Int)) && decide ((((1 + n % 65536 : Nat)) : Int) ≤ 999999)) = true
    have := Nat.mod_lt n (show 0 < 65536 by omega)
    simp
    omega
  have r2 : rul2 (madeX n x) = true := by
    show (decide (numX x = []) || decide (judgeN (numX x) = 0)) = true
    unfold numX
    split
    · rw [judge_chk (pay_fit x6)]; simp
    · rfl
  have r3 : rul3 (madeX n x) = true := by unfold rul3; rcases hms with h | h <;> simp [h]
  have r4 : rul4 (madeX n x) = true := by
    show (!(decide (x.kind % 2 = 1) && decide (x.kind &&& 2 = 2)) || decide ((if x.kind % 2 = 1 then 40 else 20) = 40)) = true
    by_cases h : x.kind % 2 = 1 <;> simp [h]
  have hk : (madeX n x).kilos = ((1 + x.kilos * 125 : Nat) : Int) := rfl
  have r5 : rul5 (madeX n x) = true := by unfold rul5; rw [hk]; simp; omega
  have r6 : rulW 20 32000 (madeX n x) = true := by unfold rulW; rw [hk]; simp; omega
  have r7 : rulW 40 40000 (madeX n x) = true := by unfold rulW; rw [hk]; simp; omega
  have r8 : rul8 (madeX n x) = true := by unfold rul8; rw [hL, hD]; simp; omega
  have r9 : rul9 (madeX n x) = true := by unfold rul9; rw [hD]; simp; omega
  have r10 : rul10 (madeX n x) = true := by
    show decide (x.cls % 10 ≤ 9) = true
    simp; omega
  unfold rightX
  simp [r1, r2, r3, r4, r5, r6, r7, r8, r9, r10]
theorem made_code {n : Nat} {x : Sk} : codeOk (madeX n x) = true := by
  show (decide ((if x.kind % 2 = 1 then 40 else 20) = 20) && !(decide (x.kind % 2 = 1) && decide (x.kind &&& 2 = 2)) || decide ((if x.kind % 2 = 1 then 40 else 20) = 40)) = true
  by_cases h : x.kind % 2 = 1 <;> simp [h]
end Go.Proofs.YtjbbeolapaaiaaaDoor
/- Cutting slices; records of a list that is read. Over any program. -/
namespace Tw
open Go Go.RowKit Go.Proofs.YtjbbeolapaaiaaaDoor
section
variable {P : Program} {T E : TypeId}
theorem addr_zero (p : Option Addr) : p.map (fun a => a.add 0) = p := by cases p <;> rfl
theorem run_slt {o : Oper} {a : Act} {p : Option Addr} {n c j sz : Nat} {x z : Operand} {kd : IntKind} (ho : o.op = .slice T x none (some z) none) (hT : P.underlying T = some (.slice E)) (hsz : (P.info? E).map (·.size) = some sz) (hx : a.eval x = .slice p n c) (hz : a.eval z = .int kd ((j : Nat) : Int)) (hj : j ≤ c) (w : World) : (execOp a.eval o).run P w = .ok (.value (.slice p j c)) w := by
  have e2 := fun q => sl_bound (P := P) (k := kd) (c := q) hj w
  unfold execOp
  cases hq : P.info? E with
  | none => simp [hq] at hsz
  | some i =>
    have hs : i.size = sz := by simpa [hq] using hsz
    simp [ho, hx, hz, Instr.sliceAt, Instr.slice, Instr.sliceBounds, run_underlying hT, e2, Go.sizeOf, typeInfo, hq, hs]
    intro _
    have := addr_zero p
    simpa using this
def cutQ (p : Option Addr) (c i sz : Nat) : Option Addr := if c = i then p else p.map fun a => a.add (i * sz)
theorem run_slm {o : Oper} {a : Act} {p : Option Addr} {n c i j sz : Nat} {x y z : Operand} {k1 k2 : IntKind} (ho : o.op = .slice T x (some y) (some z) none) (hT : P.underlying T = some (.slice E)) (hsz : (P.info? E).map (·.size) = some sz) (hx : a.eval x = .slice p n c) (hy : a.eval y = .int k1 ((i : Nat) : Int)) (hz : a.eval z = .int k2 ((j : Nat) : Int)) (hij : i ≤ j) (hj : j ≤ c) (w : World) : (execOp a.eval o).run P w = .ok (.value (.slice (cutQ p c i sz) (j - i) (c - i))) w := by
  have e1 := fun q => sl_bound (P := P) (k := k1) (c := q) hij w
  have e2 := fun q => sl_bound (P := P) (k := k2) (c := q) hj w
  unfold execOp cutQ
  cases hq : P.info? E with
  | none => simp [hq] at hsz
  | some q =>
    have hs : q.size = sz := by simpa [hq] using hsz
    simp [ho, hx, hy, hz, Instr.sliceAt, Instr.slice, Instr.sliceBounds, run_underlying hT, e1, e2, Go.sizeOf, typeInfo, hq, hs]
end
section
variable {α : Type} {cells : α → List Value} {sz : Nat}
theorem flat_len (hc : ∀ y, (cells y).length = sz) (l : List α) : (l.flatMap cells).length = l.length * sz := by
  induction l with
  | nil => simp
  | cons b l ih => rw [List.flatMap_cons, List.length_append, hc, ih, List.length_cons, Nat.succ_mul, Nat.add_comm]
theorem flat_take (hc : ∀ y, (cells y).length = sz) (l : List α) (k : Nat) : (l.flatMap cells).take (k * sz) = (l.take k).flatMap cells := by
  rcases Nat.le_total k l.length with hk | hk
  · conv => lhs; rw [← List.take_append_drop k l, List.flatMap_append]
    exact List.take_left' (by rw [flat_len hc, List.length_take, Nat.min_eq_left hk])
  · rw [List.take_of_length_le hk, List.take_of_length_le (by rw [flat_len hc]; exact Nat.mul_le_mul_right _ hk)]
theorem flat_drop (hc : ∀ y, (cells y).length = sz) (l : List α) (k : Nat) : (l.flatMap cells).drop (k * sz) = (l.drop k).flatMap cells := by
  rcases Nat.le_total k l.length with hk | hk
  · conv => lhs; rw [← List.take_append_drop k l, List.flatMap_append]
    exact List.drop_left' (by rw [flat_len hc, List.length_take, Nat.min_eq_left hk])
  · rw [List.drop_eq_nil_of_le hk, List.drop_eq_nil_of_le (by rw [flat_len hc]; exact Nat.mul_le_mul_right _ hk)]; rfl
theorem flat_get (hc : ∀ y, (cells y).length = sz) {l : List α} {k j : Nat} {b : α} {v : Value} (h : l[k]? = some b) (hv : (cells b)[j]? = some v) : (l.flatMap cells)[k * sz + j]? = some v := by
  obtain ⟨hk, rfl⟩ := List.getElem?_eq_some_iff.1 h
  rw [← List.getElem?_drop, flat_drop hc, List.drop_eq_getElem_cons hk, List.flatMap_cons, List.getElem?_append_left (List.getElem?_eq_some_iff.1 hv).1]
  exact hv
theorem rec_at {W : World} {p : Option Addr} {l : List α} {k : Nat} (hc : ∀ y, (cells y).length = sz) (hz : 0 < sz) (h : SLV W p (l.flatMap cells)) (hk : k < l.length) :
    ∃ b g off, l[k]? = some b ∧ p = some ⟨g, off, none⟩ ∧ g < W.heap.size ∧ ∀ (j : Nat) (v : Value), (cells b)[j]? = some v → W.cell? ⟨g, off + k * sz + j, none⟩ = some v := by
  have hy : l[k]? = some l[k] := List.getElem?_eq_getElem hk
  rcases h with h | ⟨g, off, rfl, hlt, hcel⟩
  · have := flat_len hc l
    rw [h] at this
    have h2 : 0 < l.length * sz := Nat.mul_pos (by omega) hz
    simp at this; omega
  · exact ⟨_, g, off, hy, rfl, hlt, fun j v hv => by rw [Nat.add_assoc]; exact hcel _ v (flat_get hc hy hv)⟩
theorem slv_prefix {W : World} {p : Option Addr} {xs : List Value} (n : Nat) (h : SLV W p xs) : SLV W p (xs.take n) := by
  rcases h with h | ⟨g, off, rfl, hlt, hc⟩
  · left; rw [h]; simp
  · right; refine ⟨g, off, rfl, hlt, fun i u hu => hc i u ?_⟩
    rw [List.getElem?_take] at hu
    split at hu
    · exact hu
    · cases hu
theorem slv_cut {W : World} {p : Option Addr} {xs : List Value} {c i sz : Nat} (h : SLV W p xs) (hx : xs.length ≤ c * sz) : SLV W (cutQ p c i sz) (xs.drop (i * sz)) := by
  rcases h with h | ⟨g, off, rfl, hlt, hc⟩
  · left; rw [h]; simp
  · unfold cutQ
    split
    · rename_i he
      left; rw [List.drop_eq_nil_of_le (by rw [← he]; exact hx)]
    · right
      refine ⟨g, off + i * sz, by rw [Option.map_some, addr_add], hlt, fun j u hu => ?_⟩
      rw [List.getElem?_drop] at hu
      rw [Nat.add_assoc]; exact hc _ u hu
end
end Tw
namespace Go.Proofs.YtjbbeolapaaiaaaDoor
open Go Go.RowKit Tw
def skcs (l : List Sk) : List Value := l.flatMap skC
theorem skC_len (x : Sk) : (skC x).length = 6 := rfl
def loadX : Nat → List Sk → List Bx
  | _, [] => []
  | i, x :: l => madeX i x :: loadX (i + 1) l
def loadedX (l : List Sk) : List Bx := loadX 0 (l.take 60)
theorem loadX_len : ∀ (i : Nat) (l : List Sk), (loadX i l).length = l.length
  | _, [] => rfl
  | i, x :: l => by simp [loadX, loadX_len (i + 1) l]
theorem loadX_snoc (x : Sk) : ∀ (i : Nat) (l : List Sk), loadX i (l ++ [x]) = loadX i l ++ [madeX (i + l.length) x]
  | _, [] => rfl
  | i, y :: l => by
    show madeX i y :: loadX (i + 1) (l ++ [x]) = _
    rw [loadX_snoc x (i + 1) l]
    simp [loadX, Nat.add_assoc, Nat.add_comm 1]
theorem loadX_take {l : List Sk} {k : Nat} {x : Sk} (h : l[k]? = some x) : loadX 0 (l.take (k + 1)) = loadX 0 (l.take k) ++ [madeX k x] := by
  obtain ⟨hk, rfl⟩ := List.getElem?_eq_some_iff.1 h
  rw [List.take_succ_eq_append_getElem hk, loadX_snoc, List.length_take, Nat.min_eq_left (by omega), Nat.zero_add]
theorem loadX_right : ∀ {i : Nat} {l : List Sk}, (∀ x ∈ l, skOk x) → ∀ b ∈ loadX i l, rightX b = true
  | _, [], _, _, h => by cases h
  | i, x :: l, hl, b, h => by
    rcases List.mem_cons.1 h with rfl | h
    · exact made_right (hl x (.head _))
    · exact loadX_right (fun y hy => hl y (.tail _ hy)) b h
theorem loaded_len (l : List Sk) : (loadedX l).length ≤ 60 := by unfold loadedX; rw [loadX_len, List.length_take]; omega
theorem loaded_right {l : List Sk} (hl : ∀ x ∈ l, skOk x) : ∀ b ∈ loadedX l, rightX b = true := loadX_right fun x hx => hl x (List.mem_of_mem_take hx)
theorem slv_pre {W : World} {p : Option Addr} {l : List Sk} (n : Nat) (h : SLV W p (l.flatMap skC)) : SLV W p ((l.take n).flatMap skC) := by
  rw [← flat_take skC_len]
  exact slv_prefix _ h
theorem sk_one (x : Sk) : ∀ v ∈ (Value.agg (skC x).toArray).cells.toList, v.oneCell' = true := by
  intro v hv
  have hv2 : v ∈ skC x := hv
  unfold skC at hv2
  simp only [List.mem_cons, List.not_mem_nil, or_false] at hv2
  rcases hv2 with rfl | rfl | rfl | rfl | rfl | rfl <;> rfl
theorem bs_cut {W0 : Base} {T : List (Nat × Obj)} {p : Option Addr} {l : List Bx} (c i : Nat) (h : BS W0 p l T) (hc : l.length ≤ c) : BS W0 (cutQ p c i 9) (l.drop i) T := fun W hW => by
  rw [← bcs_drop]
  exact slv_cut (h W hW) (by rw [bcs_len]; exact Nat.mul_le_mul_right _ hc)
theorem sum_is {a b : Sm} (h : a = b) : Ending.returned (smV a) = .returned (smV b) := by rw [h]
theorem sumv_is {v : Value} {b : Sm} (h : v = smV b) : Ending.returned v = .returned (smV b) := by rw [h]
theorem loaded_out {w w' : World} {v : Value} {l : List Sk} {m k : Nat} (hk : k = m) (hm : m ≤ l.length ∧ m ≤ 60) (hm2 : m = l.length ∨ m = 60) (h : OutV w w' 26 9 v k (bcs (loadX 0 ((l.take m).take k)))) : OutV w w' 26 9 v (loadedX l).length (bcs (loadedX l)) := by
  have e : loadX 0 ((l.take m).take k) = loadedX l := by
    subst hk
    rw [List.take_take, Nat.min_self]
    unfold loadedX
    congr 1
    rcases hm2 with e | e
    · subst e; rw [List.take_of_length_le (Nat.le_refl _), List.take_of_length_le hm.2]
    · rw [e]
  have e2 : (loadedX l).length = k := by rw [← e, loadX_len, List.length_take, List.length_take]; omega
  rw [e2, ← e]
  exact h
set_option maxRecDepth 100000 in
set_option maxHeartbeats 4000000 in
theorem Loaded_any (l : List Sk) (p : Option Addr) (c : Nat) (hok : ∀ x ∈ l, skOk x) (hlen : l.length ≤ 9223372036854775807) (hcap : l.length ≤ c) (w : World) (hp : SLV w p (l.flatMap skC)) : Calls Tryd.prog 24 #[.slice p l.length c] w fun e w' => ∃ v, e = .returned v ∧ OutV w w' 26 9 v (loadedX l).length (bcs (loadedX l)) ∧ Below w.heap.size w w' := by
  have HP := Lib.hid hp
  clear hp
  go_enter Tryd.func24, Tryd.ntmps24
  refine wp_seq ?_
  refine wp_region_L (W0 := w) [] (KS.start w) ?_
  refine lm (v := .slice none 0 0) rfl rfl ?_
  refine wpL_done (fun W1 hW1 => ?_)
  refine (show Code.wp _ _ _ _ _ from ?_)
  refine wp_seq ?_
  refine wp_region_L (W0 := w) [] (hW1) ?_
  refine lm (v := .slice none 0 0) rfl rfl ?_
  refine wpL_done (fun W2 hW2 => ?_)
  refine (show Code.wp _ _ _ _ _ from ?_)
  refine wp_seq ?_
  refine wp_seq ?_
  refine wp_region_L (W0 := w) [] (hW2) ?_
  refine lm (v := .slice p l.length c) rfl rfl ?_
  refine lm (v := .slice p l.length c) rfl rfl ?_
  refine lp (v := .int .i64 ((l.length : Nat) : Int)) rfl rfl (run_lenL (p := p) (cap := c) (n := l.length) rfl Tryd.underlying44 (by kernel_rfl)) ?_
  obtain ⟨m1, hm1, hx1, hy1, hz1⟩ := min_nat l.length 60
  refine lp (v := .int .i64 ((m1 : Nat) : Int)) rfl rfl (run_min rfl (by kernel_rfl) (by kernel_rfl) hm1) ?_
  refine lp (v := .slice p m1 c) rfl rfl (run_slt (p := p) (n := l.length) (c := c) (j := m1) (kd := .i64) (sz := 6) rfl Tryd.underlying44 (by kernel_rfl) (by kernel_rfl) (by kernel_rfl) (by first | omega | assumption)) ?_
  refine lp (v := .int .i64 ((m1 : Nat) : Int)) rfl rfl (run_lenL (p := p) (cap := c) (n := m1) rfl Tryd.underlying44 (by kernel_rfl)) ?_
  refine lm (v := .int .i64 0) rfl rfl ?_
  refine wpL_done (fun W3 hW3 => ?_)
  refine (show Code.wp _ _ _ _ _ from ?_)
  refine wp_block ?_
  have hml : (l.take m1).length = m1 := by rw [List.length_take]; omega
  go_loopw [3, 12] (fun u3 u12 wr => ∃ (k : Nat) (vo : Value) (Ko : List (Nat × Obj)), (k ≤ m1) ∧ (OwnL w 26 9 vo k (bcs (loadX 0 ((l.take m1).take k))) Ko) ∧ vo = u3 ∧ u12 = .int .i64 ((k : Nat) : Int) ∧ KS w Ko wr) (fun _ u12 _ => m1 - (intOf u12).toNat)
  case atStart => exact ⟨0, (.slice none 0 0), [], (Nat.zero_le _), (OwnL.nil _ _ _), rfl, rfl, (hW3.sub (fun p hp => by first | exact hp | (simp only [List.mem_cons, List.mem_append, List.nil_append, List.not_mem_nil, or_assoc, or_false, false_or] at hp ⊢ <;> grind)))⟩
  case round =>
    obtain ⟨k, vo, Ko, hk, hO, rfl, rfl, hL4⟩ := hrel
    refine wp_seq ?_
    refine wp_region_L (W0 := w) Ko (hL4) ?_
    refine lp (v := .bool (decide (k < m1))) rfl rfl (run_bin rfl (vx := (.int .i64 ((k : Nat) : Int))) (vy := (.int .i64 ((m1 : Nat) : Int))) (by kernel_rfl) (by kernel_rfl) fun w => bn_lss rfl w) ?_
    refine wpL_done (fun W5 hW5 => ?_)
    refine (show Code.wp _ _ _ _ _ from ?_)
    refine wp_seq ?_
    cases hd1 : (decide (k < m1)) with
    | false =>
      have h1 : ¬ (k < m1) := of_decide_eq_false hd1
      clear hd1
      refine wp_cond_false rfl ?_
      refine wp_exit ?_
      refine (show Code.wp _ _ _ _ _ from ?_)
      refine wp_seq ?_
      refine wp_region_L (W0 := w) Ko (hW5) ?_
      refine lm (v := vo) rfl rfl ?_
      refine lm (v := vo) rfl rfl ?_
      refine wpL_done (fun W6 hW6 => ?_)
      refine (show Code.wp _ _ _ _ _ from ?_)
      refine wp_ret ?_
      try simp only [inBlock_ret, then_ret]
      refine bodyPost_ret (v := vo) ?_ rfl ?_
      · kernel_rfl
      · exact ⟨_, rfl, loaded_out (l := l) (m := m1) (k := k) (by omega) (by omega) (by omega) (hO.out (fun p hp => by simp only [List.mem_cons, List.mem_append, List.nil_append, List.not_mem_nil, or_assoc, or_false, false_or, hp, true_or, or_true]) hW6), hW6.1⟩
    | true =>
      have h1 : k < m1 := of_decide_eq_true hd1
      clear hd1
      refine wp_cond_true rfl ?_
      refine wp_skip ?_
      refine (show Code.wp _ _ _ _ _ from ?_)
      refine wp_seq ?_
      refine wp_block ?_
      refine wp_seq ?_
      refine wp_region_L (W0 := w) Ko (hW5) ?_
      refine lm (v := .int .i64 ((k : Nat) : Int)) rfl rfl ?_
      obtain ⟨x3, g3_, f3, hy3, hp3, lt3, hc3⟩ := rec_at skC_len (by omega) (slv_pre m1 HP.out) (show k < (l.take m1).length by first | omega | (simp only [List.length_take]; omega))
      refine lp (v := .pointer (some ⟨g3_, f3 + k * 6, none⟩)) rfl rfl (run_idxQ (p := p) (cap := c) (n := m1) (j := .i64) (k := k) (sz := 6) rfl Tryd.underlying44 (by kernel_rfl) (by kernel_rfl) hp3 (by kernel_rfl) (by omega)) ?_
      refine lv (v := (.agg (skC x3).toArray)) rfl rfl (yb_olds (off := f3 + k * 6) (cs := skC x3) rfl (by kernel_rfl) hc3 lt3 Tryd.underlying31 rfl (by kernel_rfl)) ?_
      refine wpL_new (fun g => .pointer (some ⟨g, 0, none⟩)) (obi := .cells #[.int .u8 0, .int .u8 0, .int .u8 0, .int .u8 0, .int .u8 0, .int .u8 0] 31 (0, 0)) rfl rfl (fun _ => by kernel_rfl) (fun _ => by simp only [List.setIfInBounds_toArray, List.set_cons_succ, List.set_cons_zero] <;> rfl) fun g4 Bg4 Fg4 => ?_
      obtain dj5_0 : Dk g4 Ko := by simpa only [dj_app_l, dj_app_r, dj_cons_l, dj_cons_r, dj_nil_l, dj_nil_r, dk_app, dk_cons, dk_nil, and_true, true_and, and_assoc] using (show Dk g4 Ko from Fg4)
      refine lm (v := .int .i64 ((k : Nat) : Int)) rfl rfl ?_
      refine wpL_s ((g4, .cells (skC x3).toArray 31 (0, 0)) :: Ko) rfl rfl (st_row (off := 0) (v := .agg (skC x3).toArray) rfl (by kernel_rfl) (by kernel_rfl) (.head _) Bg4 (by kernel_rfl) (Nat.le_refl 6) (sk_one x3) (by kernel_rfl) (List.forall_mem_cons.2 ⟨.inl rfl, (fun p hp => .inr ⟨(.tail _ hp), ((show Dk g4 Ko from (by (try simp only [dj_app_l, dj_app_r, dj_cons_l, dj_cons_r, dj_nil_l, dj_nil_r, dk_app, dk_cons, dk_nil, and_true, true_and, and_assoc]); repeat' (first | trivial | assumption | exact Dj.symm (by assumption) | exact Ne.symm (by assumption) | apply And.intro))) _ hp)⟩)⟩)) ?_
      refine wpL_done (fun W7 hW7 => ?_)
      refine (show Code.wp _ _ _ _ _ from ?_)
      refine wp_region_L (W0 := w) ((g4, .cells (skC x3).toArray 31 (0, 0)) :: Ko) (hW7) ?_
      refine lm (v := vo) rfl rfl ?_
      refine lm (v := .int .i64 ((k : Nat) : Int)) rfl rfl ?_
      refine lv (v := (.agg (skC x3).toArray)) rfl rfl (yb_load (n := 6) (off := 0) rfl (by kernel_rfl) (.head _) Tryd.underlying31 rfl (by kernel_rfl) (by first | (simp; done) | exact Nat.le_of_ble_eq_true rfl) (by kernel_rfl)) ?_
      refine lv (v := bxV (madeX k x3)) rfl rfl (yb_call (f := 17) (args := #[.int .i64 ((k : Nat) : Int), (.agg (skC x3).toArray)]) (fun _ => by kernel_rfl) fun W hW => Made_any k x3 (by omega) (hok _ (List.mem_of_mem_take (List.mem_of_getElem? hy3))) W) ?_
      refine wpL_new (fun g => .slice (some ⟨g, 0, none⟩) 1 1) (obi := .cells ((bcs [(madeX k x3)]).toArray) 26 (0, 0)) rfl rfl (fun _ => by kernel_rfl) (fun _ => by simp only [List.setIfInBounds_toArray, List.set_cons_succ, List.set_cons_zero] <;> rfl) fun g6 Bg6 Fg6 => ?_
      obtain ⟨dj7_0, dj7_1⟩ : g4 ≠ g6 ∧ Dk g6 Ko := by simpa only [dj_app_l, dj_app_r, dj_cons_l, dj_cons_r, dj_nil_l, dj_nil_r, dk_app, dk_cons, dk_nil, and_true, true_and, and_assoc] using (show Dk g6 ((g4, .cells (skC x3).toArray 31 (0, 0)) :: Ko) from Fg6)
      refine wpL_g (AppO w 26 9 [(g4, .cells (skC x3).toArray 31 (0, 0))] (k + 1) ((bcs (loadX 0 ((l.take m1).take k))) ++ (bcs [(madeX k x3)]))) rfl rfl (app_own el_bx (m := 1) (c := 1) (news := (bcs [(madeX k x3)])) rfl (by kernel_rfl) (by kernel_rfl) (.head _) hO (fun p hp => by simp only [List.mem_cons, List.mem_append, List.nil_append, List.not_mem_nil, or_assoc, or_false, false_or, hp, or_true, true_or]) (fun p hp => ⟨by simp only [List.mem_cons, List.mem_append, List.nil_append, List.not_mem_nil, or_assoc, or_false, false_or] at hp ⊢ <;> grind, (show Dj [(g4, .cells (skC x3).toArray 31 (0, 0))] Ko from (by (try simp only [dj_app_l, dj_app_r, dj_cons_l, dj_cons_r, dj_nil_l, dj_nil_r, dk_app, dk_cons, dk_nil, and_true, true_and, and_assoc]); repeat' (first | trivial | assumption | exact Dj.symm (by assumption) | exact Ne.symm (by assumption) | apply And.intro))) p hp⟩) (by rw [bcs_len]; rfl) (bcs_onec _) (by omega) (by omega) (by omega)) (fun _ => by simp only [List.setIfInBounds_toArray, List.set_cons_succ, List.set_cons_zero] <;> rfl) ?_
      rintro v8 K9 ⟨Kl8, O8, N8, rfl⟩
      replace O8 : OwnL w 26 9 v8 (k + 1) (bcs ((loadX 0 ((l.take m1).take k)) ++ [(madeX k x3)])) Kl8 := by rw [bcs_app]; exact O8
      obtain dj9_0 : Dk g4 Kl8 := by simpa only [dj_app_l, dj_app_r, dj_cons_l, dj_cons_r, dj_nil_l, dj_nil_r, dk_app, dk_cons, dk_nil, and_true, true_and, and_assoc] using (show Dj [(g4, .cells (skC x3).toArray 31 (0, 0))] Kl8 from N8)
      refine lm (v := v8) rfl rfl ?_
      refine wpL_done (fun W8 hW8 => ?_)
      refine (show Code.wp _ _ _ _ _ from ?_)
      refine wp_region_L (W0 := w) ((g4, .cells (skC x3).toArray 31 (0, 0)) :: Kl8) (hW8) ?_
      refine lp (v := .int .i64 (((k + 1) : Nat) : Int)) rfl rfl (run_bin rfl (vx := (.int .i64 ((k : Nat) : Int))) (vy := (.int .i64 ((1 : Nat) : Int))) (by kernel_rfl) (by kernel_rfl) fun w => bn_add (z := (k + 1)) rfl (wr_i64 (by omega)) w) ?_
      refine lm (v := .int .i64 (((k + 1) : Nat) : Int)) rfl rfl ?_
      refine wpL_done (fun W9 hW9 => ?_)
      go_roundw
      case rel =>
        repeat apply Exists.intro
        exact ⟨⟨k + 1, v8, Kl8, (by omega), (by rw [loadX_take hy3]; exact O8), rfl, rfl, (hW9.sub (fun p hp => by first | exact hp | (simp only [List.mem_cons, List.mem_append, List.nil_append, List.not_mem_nil, or_assoc, or_false, false_or] at hp ⊢ <;> grind)))⟩, rfl⟩
      case measure => (show m1 - (intOf (.int .i64 (((k + 1) : Nat) : Int))).toNat < m1 - (intOf (.int .i64 ((k : Nat) : Int))).toNat); simp only [intOf]; omega
theorem sm_one (x : Sm) : ∀ v ∈ (smV x).cells.toList, v.oneCell' = true := by
  intro v hv
  have hv2 : v ∈ (smC x).toList := hv
  unfold smC at hv2
  simp only [List.mem_cons, List.not_mem_nil, or_false] at hv2
  rcases hv2 with rfl | rfl | rfl | rfl | rfl <;> rfl
set_option maxRecDepth 100000 in
set_option maxHeartbeats 4000000 in
theorem plus_any (a b : Sm) (ha : SmOk 1000000 a) (hb : SmOk 1000000 b) (w : World) : Calls Tryd.prog 25 #[smV a, smV b] w fun e w' => e = .returned (smV (plusX a b)) ∧ Below w.heap.size w w' := by
  obtain ⟨a1, a2, a3, a4, a5, a6⟩ := ha
  obtain ⟨b1, b2, b3, b4, b5, b6⟩ := hb
  go_enter Tryd.func25, Tryd.ntmps25
  refine wp_seq ?_
  refine wp_region_L (W0 := w) [] (KS.start w) ?_
  refine wpL_new (fun g => .pointer (some ⟨g, 0, none⟩)) (obi := .cells (smC a) 47 (0, 0)) rfl rfl (fun _ => by kernel_rfl) (fun _ => by simp only [List.setIfInBounds_toArray, List.set_cons_succ, List.set_cons_zero] <;> rfl) fun g1 Bg1 Fg1 => ?_
  refine wpL_new (fun g => .pointer (some ⟨g, 0, none⟩)) (obi := .cells (smC b) 47 (0, 0)) rfl rfl (fun _ => by kernel_rfl) (fun _ => by simp only [List.setIfInBounds_toArray, List.set_cons_succ, List.set_cons_zero] <;> rfl) fun g2 Bg2 Fg2 => ?_
  obtain dj3_0 : g1 ≠ g2 := by simpa only [dj_app_l, dj_app_r, dj_cons_l, dj_cons_r, dj_nil_l, dj_nil_r, dk_app, dk_cons, dk_nil, and_true, true_and, and_assoc] using (show Dk g2 [(g1, .cells (smC a) 47 (0, 0))] from Fg2)
  refine wpL_new (fun g => .pointer (some ⟨g, 0, none⟩)) (obi := .cells #[.int .i64 0, .int .i64 0, .int .i64 0, .int .i64 0, .int .i64 0] 47 (0, 0)) rfl rfl (fun _ => by kernel_rfl) (fun _ => by simp only [List.setIfInBounds_toArray, List.set_cons_succ, List.set_cons_zero] <;> rfl) fun g4 Bg4 Fg4 => ?_
  obtain ⟨dj5_0, dj5_1⟩ : g2 ≠ g4 ∧ g1 ≠ g4 := by simpa only [dj_app_l, dj_app_r, dj_cons_l, dj_cons_r, dj_nil_l, dj_nil_r, dk_app, dk_cons, dk_nil, and_true, true_and, and_assoc] using (show Dk g4 [(g2, .cells (smC b) 47 (0, 0)), (g1, .cells (smC a) 47 (0, 0))] from Fg4)
  refine wpL_done (fun W1 hW1 => ?_)
  refine (show Code.wp _ _ _ _ _ from ?_)
  refine wp_seq ?_
  refine wp_region_L (W0 := w) [(g4, .cells #[.int .i64 0, .int .i64 0, .int .i64 0, .int .i64 0, .int .i64 0] 47 (0, 0)), (g2, .cells (smC b) 47 (0, 0)), (g1, .cells (smC a) 47 (0, 0))] (hW1) ?_
  refine lm (v := .pointer (some ⟨g1, 0, none⟩)) rfl rfl ?_
  refine lv (v := .int .i64 ((a.n : Nat) : Int)) rfl rfl (yb_cell (off := 0) rfl (by kernel_rfl) (.tail _ (.tail _ (.head _))) Tryd.underlying3 rfl (by kernel_rfl)) ?_
  refine lm (v := .pointer (some ⟨g2, 0, none⟩)) rfl rfl ?_
  refine lv (v := .int .i64 ((b.n : Nat) : Int)) rfl rfl (yb_cell (off := 0) rfl (by kernel_rfl) (.tail _ (.head _)) Tryd.underlying3 rfl (by kernel_rfl)) ?_
  refine lp (v := .int .i64 (((a.n + b.n) : Nat) : Int)) rfl rfl (run_bin rfl (vx := (.int .i64 ((a.n : Nat) : Int))) (vy := (.int .i64 ((b.n : Nat) : Int))) (by kernel_rfl) (by kernel_rfl) fun w => bn_add (z := (a.n + b.n)) rfl (wr_i64 (by omega)) w) ?_
  refine lm (v := .pointer (some ⟨g1, 1, none⟩)) rfl rfl ?_
  refine lv (v := .int .i64 ((a.h : Nat) : Int)) rfl rfl (yb_cell (off := 1) rfl (by kernel_rfl) (.tail _ (.tail _ (.head _))) Tryd.underlying3 rfl (by kernel_rfl)) ?_
  refine lm (v := .pointer (some ⟨g2, 1, none⟩)) rfl rfl ?_
  refine lv (v := .int .i64 ((b.h : Nat) : Int)) rfl rfl (yb_cell (off := 1) rfl (by kernel_rfl) (.tail _ (.head _)) Tryd.underlying3 rfl (by kernel_rfl)) ?_
  refine lp (v := .int .i64 (((a.h + b.h) : Nat) : Int)) rfl rfl (run_bin rfl (vx := (.int .i64 ((a.h : Nat) : Int))) (vy := (.int .i64 ((b.h : Nat) : Int))) (by kernel_rfl) (by kernel_rfl) fun w => bn_add (z := (a.h + b.h)) rfl (wr_i64 (by omega)) w) ?_
  refine lm (v := .pointer (some ⟨g1, 2, none⟩)) rfl rfl ?_
  refine lv (v := .int .i64 a.k) rfl rfl (yb_cell (off := 2) rfl (by kernel_rfl) (.tail _ (.tail _ (.head _))) Tryd.underlying3 rfl (by kernel_rfl)) ?_
  refine lm (v := .pointer (some ⟨g2, 2, none⟩)) rfl rfl ?_
  refine lv (v := .int .i64 b.k) rfl rfl (yb_cell (off := 2) rfl (by kernel_rfl) (.tail _ (.head _)) Tryd.underlying3 rfl (by kernel_rfl)) ?_
  refine lp (v := .int .i64 (a.k + b.k)) rfl rfl (run_bin rfl (vx := (.int .i64 a.k)) (vy := (.int .i64 b.k)) (by kernel_rfl) (by kernel_rfl) fun w => bi_add (z := (a.k + b.k)) rfl (wi_i64 (by omega)) w) ?_
  refine lm (v := .pointer (some ⟨g1, 3, none⟩)) rfl rfl ?_
  refine lv (v := .int .i64 ((a.r : Nat) : Int)) rfl rfl (yb_cell (off := 3) rfl (by kernel_rfl) (.tail _ (.tail _ (.head _))) Tryd.underlying3 rfl (by kernel_rfl)) ?_
  refine lm (v := .pointer (some ⟨g2, 3, none⟩)) rfl rfl ?_
  refine lv (v := .int .i64 ((b.r : Nat) : Int)) rfl rfl (yb_cell (off := 3) rfl (by kernel_rfl) (.tail _ (.head _)) Tryd.underlying3 rfl (by kernel_rfl)) ?_
  refine lp (v := .int .i64 (((a.r + b.r) : Nat) : Int)) rfl rfl (run_bin rfl (vx := (.int .i64 ((a.r : Nat) : Int))) (vy := (.int .i64 ((b.r : Nat) : Int))) (by kernel_rfl) (by kernel_rfl) fun w => bn_add (z := (a.r + b.r)) rfl (wr_i64 (by omega)) w) ?_
  refine lm (v := .pointer (some ⟨g1, 4, none⟩)) rfl rfl ?_
  refine lv (v := .int .i64 ((a.d : Nat) : Int)) rfl rfl (yb_cell (off := 4) rfl (by kernel_rfl) (.tail _ (.tail _ (.head _))) Tryd.underlying3 rfl (by kernel_rfl)) ?_
  refine lm (v := .pointer (some ⟨g2, 4, none⟩)) rfl rfl ?_
  refine lv (v := .int .i64 ((b.d : Nat) : Int)) rfl rfl (yb_cell (off := 4) rfl (by kernel_rfl) (.tail _ (.head _)) Tryd.underlying3 rfl (by kernel_rfl)) ?_
  refine lp (v := .int .i64 (((a.d + b.d) : Nat) : Int)) rfl rfl (run_bin rfl (vx := (.int .i64 ((a.d : Nat) : Int))) (vy := (.int .i64 ((b.d : Nat) : Int))) (by kernel_rfl) (by kernel_rfl) fun w => bn_add (z := (a.d + b.d)) rfl (wr_i64 (by omega)) w) ?_
  refine lm (v := .agg #[.int .i64 (((a.n + b.n) : Nat) : Int), .int .i64 (((a.h + b.h) : Nat) : Int), .int .i64 (a.k + b.k), .int .i64 (((a.r + b.r) : Nat) : Int), .int .i64 (((a.d + b.d) : Nat) : Int)]) rfl rfl ?_
  refine wpL_s [(g4, .cells #[.int .i64 (((a.n + b.n) : Nat) : Int), .int .i64 (((a.h + b.h) : Nat) : Int), .int .i64 (a.k + b.k), .int .i64 (((a.r + b.r) : Nat) : Int), .int .i64 (((a.d + b.d) : Nat) : Int)] 47 (0, 0)), (g2, .cells (smC b) 47 (0, 0)), (g1, .cells (smC a) 47 (0, 0))] rfl rfl (st_row (off := 0) (v := .agg #[.int .i64 (((a.n + b.n) : Nat) : Int), .int .i64 (((a.h + b.h) : Nat) : Int), .int .i64 (a.k + b.k), .int .i64 (((a.r + b.r) : Nat) : Int), .int .i64 (((a.d + b.d) : Nat) : Int)]) rfl (by kernel_rfl) (by kernel_rfl) (.head _) Bg4 (by kernel_rfl) (by first | (simp [Value.cells]; done) | exact Nat.le_of_ble_eq_true rfl) (by intro v hv; simp [Value.cells, strV] at hv; first | (subst hv; rfl) | (rcases hv with rfl | rfl | rfl | rfl | rfl <;> rfl)) (by kernel_rfl) (List.forall_mem_cons.2 ⟨.inl rfl, (List.forall_mem_cons.2 ⟨.inr ⟨(.tail _ (.head _)), (by first | assumption | exact Ne.symm (by assumption))⟩, (List.forall_mem_cons.2 ⟨.inr ⟨(.tail _ (.tail _ (.head _))), (by first | assumption | exact Ne.symm (by assumption))⟩, (List.forall_mem_nil _)⟩)⟩)⟩)) ?_
  refine wpL_done (fun W2 hW2 => ?_)
  refine (show Code.wp _ _ _ _ _ from ?_)
  refine wp_ret ?_
  try simp only [inBlock_ret, then_ret]
  refine bodyPost_ret (v := .agg #[.int .i64 (((a.n + b.n) : Nat) : Int), .int .i64 (((a.h + b.h) : Nat) : Int), .int .i64 (a.k + b.k), .int .i64 (((a.r + b.r) : Nat) : Int), .int .i64 (((a.d + b.d) : Nat) : Int)]) ?_ rfl ?_
  · exact (res_cell (p := 4) rfl rfl (hW2.2 _ (.head _)) Tryd.underlying47 rfl (by kernel_rfl))
  · exact ⟨(sumv_is (by simp [smV, smC, plusX])), hW2.1⟩
end Go.Proofs.YtjbbeolapaaiaaaDoor
namespace Go.Proofs.YtjbbeolapaaiaaaDoor
open Go Go.RowKit Tw
def DId (l : List Bx) : Prop := l.Pairwise fun a b => a.id ≠ b.id
theorem insB_perm (x : Bx) (l : List Bx) : (insB x l).Perm (x :: l) := by
  induction l with
  | nil => exact List.Perm.refl _
  | cons y l ih =>
    unfold insB
    split
    · first | exact List.Perm.refl _ | exact (List.Perm.cons y ih).trans (List.Perm.swap x y l)
    · first | exact List.Perm.refl _ | exact (List.Perm.cons y ih).trans (List.Perm.swap x y l)
theorem loadX_id : ∀ {i : Nat} {l : List Sk} {k : Nat} {b : Bx}, i + l.length ≤ 60000 → (loadX i l)[k]? = some b → b.id = ((i + k + 1 : Nat) : Int)
  | _, [], _, _, _, h => by simp [loadX] at h
  | i, x :: l, 0, b, hi, h => by
    rw [List.length_cons] at hi
    have h2 : madeX i x = b := by simpa [loadX] using h
    subst h2
    show (((1 + i % 65536 : Nat)) : Int) = _
    rw [Nat.mod_eq_of_lt (by omega)]
    omega
  | i, x :: l, k + 1, b, hi, h => by
    rw [List.length_cons] at hi
    have h2 := loadX_id (i := i + 1) (l := l) (k := k) (b := b) (by omega) (by simpa [loadX] using h)
    omega
theorem loaded_id {l : List Sk} {k : Nat} {b : Bx} (h : (loadedX l)[k]? = some b) : b.id = ((k + 1 : Nat) : Int) := by
  unfold loadedX at h
  have := loadX_id (by rw [List.length_take]; omega) h
  omega
theorem loaded_did (l : List Sk) : DId (loadedX l) := by
  unfold DId
  rw [List.pairwise_iff_getElem]
  intro i j hi hj hij
  have h1 := loaded_id (List.getElem?_eq_getElem hi)
  have h2 := loaded_id (List.getElem?_eq_getElem hj)
  omega
theorem eqv_id {a b : Bx} (h : eqv a b = true) : a.id = b.id := by
  unfold eqv at h
  simp only [Bool.and_eq_true, Bool.not_eq_true'] at h
  obtain ⟨h1, h2⟩ := h
  rw [nbefore_iff] at h1 h2
  omega
theorem perm_small {A B : List Bx} (h : A.Perm B) (h1 : B.length ≤ 1) : A = B := by
  match B, h1 with
  | [], _ => exact h.eq_nil
  | [b], _ => exact List.perm_singleton.1 h
theorem class_small {l : List Bx} (h : DId l) (z : Bx) : (l.filter (eqv z)).length ≤ 1 := by
  have hf : (l.filter (eqv z)).Pairwise fun a b => a.id ≠ b.id := List.Pairwise.sublist List.filter_sublist h
  match hm : l.filter (eqv z) with
  | [] => simp
  | [a] => simp
  | a :: b :: t =>
    rw [hm] at hf
    have ha : a ∈ l.filter (eqv z) := by rw [hm]; simp
    have hb : b ∈ l.filter (eqv z) := by rw [hm]; simp
    have h1 := eqv_id (List.mem_filter.1 ha).2
    have h2 := eqv_id (List.mem_filter.1 hb).2
    have h3 := (List.pairwise_cons.1 hf).1 b (by simp)
    exact absurd (h1.symm.trans h2) h3
theorem order_perm_eq {m l : List Bx} (h : m.Perm l) (hl : DId l) : orderX m = orderX l :=
  order_is (order_sorted m) fun z => by
    rw [order_filter]
    exact perm_small (h.filter _) (class_small hl z)
theorem order_again (l : List Bx) : orderX (orderX l) = orderX l := order_id (order_sorted l)
theorem swap_perm {l : List Bx} {a b : Nat} {x y : Bx} (hx : l[a]? = some x) (hy : l[b]? = some y) : ((l.set a y).set b x).Perm l := by
  obtain ⟨ha, rfl⟩ := List.getElem?_eq_some_iff.1 hx
  obtain ⟨hb, rfl⟩ := List.getElem?_eq_some_iff.1 hy
  exact List.set_set_perm ha hb
theorem perm_at {m l : List Bx} {k : Nat} {b : Bx} (h : ∀ z, z ∈ m → z ∈ l) (hb : m[k]? = some b)   : ∃ j : Nat, l[j]? = some b := by
  obtain ⟨j, hj, he⟩ := List.mem_iff_getElem.1 (h b (List.mem_of_getElem? hb))
  exact ⟨j, by rw [← he]; exact List.getElem?_eq_getElem hj⟩
theorem out_at {xl : List Bx} {l0 : List Sk} {k : Nat} {b : Bx} (hp : xl.Perm (loadedX l0)) (hb : (orderX xl)[k]? = some b) : ∃ ib : Nat, b.id = (ib : Int) ∧ 1 ≤ ib ∧ ib ≤ (loadedX l0).length ∧ (loadedX l0)[ib - 1]? = some b := by
  obtain ⟨j, hj⟩ := perm_at (fun z hz => hp.mem_iff.1 (order_mem.1 hz)) hb
  have hlt := (List.getElem?_eq_some_iff.1 hj).1
  exact ⟨j + 1, loaded_id hj, by omega, by omega, hj⟩
theorem fold_pm : ∀ (l acc : List Bx), (l.foldl (fun acc x => insB x acc) acc).Perm (l ++ acc)
  | [], acc => List.Perm.refl _
  | x :: l, acc => (fold_pm l (insB x acc)).trans ((List.Perm.append_left l (insB_perm x acc)).trans List.perm_middle)
theorem order_pm (l : List Bx) : (orderX l).Perm l := by
  have h := fold_pm l []
  rwa [List.append_nil] at h
def Cnt (m : List Bx) (k : Nat) (sl : List Nat) : Prop := ∀ i v, sl[i]? = some v → v = 0 ∨ ∃ q b, q < k ∧ m[q]? = some b ∧ b.id = ((i : Nat) : Int)
theorem cnt_start (m : List Bx) (n : Nat) : Cnt m 0 (List.replicate n 0) := fun i v h => by
  left
  obtain ⟨_, h2⟩ := List.getElem?_eq_some_iff.1 h
  rw [List.getElem_replicate] at h2
  exact h2.symm
theorem did_out {xl : List Bx} {l0 : List Sk} (hp : xl.Perm (loadedX l0)) : DId (orderX xl) := by
  unfold DId
  refine (((order_pm xl).trans hp).symm.pairwise ?_ (fun {a b} h e => h e.symm))
  exact loaded_did l0
theorem cnt_zero {xl : List Bx} {l0 : List Sk} {k ib v : Nat} {b : Bx} {sl : List Nat} (hS : Cnt (orderX xl) k sl) (hp : xl.Perm (loadedX l0)) (hb : (orderX xl)[k]? = some b) (hi : b.id = (ib : Int)) (hv : sl[ib]? = some v) : v = 0 := by
  rcases hS ib v hv with h | ⟨q, c, hq, hc, hci⟩
  · exact h
  · obtain ⟨h1, e1⟩ := List.getElem?_eq_some_iff.1 hb
    obtain ⟨h2, e2⟩ := List.getElem?_eq_some_iff.1 hc
    have hd := did_out hp
    unfold DId at hd
    rw [List.pairwise_iff_getElem] at hd
    have h3 := hd q k h2 h1 hq
    rw [e1, e2] at h3
    exact absurd (hci.trans hi.symm) h3
theorem cnt_step {m : List Bx} {k ib v : Nat} {b : Bx} {sl : List Nat} (hS : Cnt m k sl) (hb : m[k]? = some b) (hi : b.id = (ib : Int)) : Cnt m (k + 1) (sl.set ib v) := fun i u h => by
  rw [List.getElem?_set] at h
  split at h
  · next e => subst e; exact .inr ⟨k, b, by omega, hb, hi⟩
  · rcases hS i u h with h | ⟨q, c, hq, hc, hci⟩
    · exact .inl h
    · exact .inr ⟨q, c, by omega, hc, hci⟩
theorem out_next {xl : List Bx} {k : Nat} {a b : Bx} (ha : (orderX xl)[k - 1]? = some a) (hb : (orderX xl)[k]? = some b) : b.dis < a.dis ∨ a.dis = b.dis ∧ (b.kilos < a.kilos ∨ a.kilos = b.kilos ∧ a.id ≤ b.id) := by
  have h := sorted_get (order_sorted xl) (Nat.sub_le k 1) ha hb
  rw [nbefore_iff] at h
  omega
def u8C (n : Nat) : List Value := [.int .u8 ((n : Nat) : Int)]
theorem u8C_len (n : Nat) : (u8C n).length = 1 := rfl
end Go.Proofs.YtjbbeolapaaiaaaDoor
namespace Go.Proofs.YtjbbeolapaaiaaaDoor
open Go Go.RowKit Tw
set_option maxRecDepth 100000 in
set_option maxHeartbeats 4000000 in
theorem swap_any {W0 : Base} {K : List (Nat × Obj)} {g n cap : Nat} {cur : Array Value} (Z1 U Z2 V Z3 : List Bx) (hn : (Z1 ++ U ++ Z2 ++ V ++ Z3).length = n) (hn2 : n ≤ 4000000000) (a b m : Nat) (ha : a = Z1.length) (hU : U.length = m) (hV : V.length = m) (hb : b = Z1.length + U.length + Z2.length) (hr : RowX cur (Z1 ++ U ++ Z2 ++ V ++ Z3)) (hB : W0.B ≤ g) (hg : ∀ q ∈ K, q.1 ≠ g) (w : World) (hw : KS W0 ((g, .cells cur 26 (0, 0)) :: K) w) :
    Calls Tryd.prog 79 #[.slice (some ⟨g, 0, none⟩) n cap, .int .i64 ((a : Nat) : Int), .int .i64 ((b : Nat) : Int), .int .i64 ((m : Nat) : Int), .func (.func 48) #[] #[]] w fun e w' => ∃ v K', e = .returned v ∧ KS W0 K' w' ∧ (v = .tuple #[] ∧ ∃ cur', RowX cur' (Z1 ++ V ++ Z2 ++ U ++ Z3) ∧ cur'.size = cur.size ∧ K' = (g, .cells cur' 26 (0, 0)) :: K) := by
  have hlens : Z1.length + U.length + Z2.length + V.length + Z3.length = n := by rw [← hn]; simp only [List.length_append]
  have hr0 : RowX cur (SwI Z1 U Z2 V Z3 0) := by rw [swI_zero]; exact hr
  clear hr
  go_enter Tryd.func79, Tryd.ntmps79
  refine wp_seq ?_
  refine wp_region_L (W0 := W0) ((g, .cells cur 26 (0, 0)) :: K) (hw) ?_
  refine lm (v := .int .i64 0) rfl rfl ?_
  refine wpL_done (fun W1 hW1 => ?_)
  refine (show Code.wp _ _ _ _ _ from ?_)
  refine wp_block ?_
  go_loopw [10] (fun u10 wr => ∃ (i : Nat) (cur1 : Array Value), (i ≤ m) ∧ (RowX cur1 (SwI Z1 U Z2 V Z3 i)) ∧ (cur1.size = cur.size) ∧ u10 = .int .i64 ((i : Nat) : Int) ∧ KS W0 ((g, .cells cur1 26 (0, 0)) :: K) wr) (fun u10 _ => m - (intOf u10).toNat)
  case atStart => exact ⟨0, cur, (Nat.zero_le _), hr0, rfl, rfl, hW1⟩
  case round =>
    obtain ⟨i, cur1, hi, hr1, hz, rfl, hL2⟩ := hrel
    have hl2 : (SwI Z1 U Z2 V Z3 i).length = n := (swI_len (by omega)).trans hn
    refine wp_seq ?_
    refine wp_seq ?_
    refine wp_region_L (W0 := W0) ((g, .cells cur1 26 (0, 0)) :: K) (hL2) ?_
    refine lm (v := .int .i64 ((i : Nat) : Int)) rfl rfl ?_
    refine lm (v := .int .i64 ((m : Nat) : Int)) rfl rfl ?_
    refine lp (v := .bool (decide (i < m))) rfl rfl (run_bin rfl (vx := (.int .i64 ((i : Nat) : Int))) (vy := (.int .i64 ((m : Nat) : Int))) (by kernel_rfl) (by kernel_rfl) fun w => bn_lss rfl w) ?_
    refine wpL_done (fun W3 hW3 => ?_)
    refine (show Code.wp _ _ _ _ _ from ?_)
    cases hd1 : (decide (i < m)) with
    | false =>
      have h1 : ¬ (i < m) := of_decide_eq_false hd1
      clear hd1
      refine wp_cond_false rfl ?_
      refine wp_exit ?_
      simp only [exit_then, exit_in, exit_out]
      refine bodyPost_end (v := .tuple #[]) (results_none rfl _ _ _) rfl ?_
      exact ⟨_, _, rfl, hW3.sub (List.forall_mem_cons.2 ⟨(.head _), fun p hp => (.tail _ hp)⟩), rfl, _, (by rw [← swI_end (i := i) (by omega) (by omega)]; exact hr1), hz, rfl⟩
    | true =>
      have h1 : i < m := of_decide_eq_true hd1
      clear hd1
      refine wp_cond_true rfl ?_
      refine wp_skip ?_
      refine (show Code.wp _ _ _ _ _ from ?_)
      refine wp_seq ?_
      refine wp_block ?_
      refine wp_region_V (W0 := W0) ((g, .cells cur1 26 (0, 0)) :: K) (by kernel_rfl) (hW3) ?_
      refine vm (i := 0) (v := .slice (some ⟨g, 0, none⟩) n cap) rfl rfl rfl ?_
      refine vm (i := 1) (v := .int .i64 ((a : Nat) : Int)) rfl rfl rfl ?_
      refine vm (i := 2) (v := .int .i64 ((i : Nat) : Int)) rfl rfl rfl ?_
      refine vp (i := 3) (v := .int .i64 (((a + i) : Nat) : Int)) rfl rfl rfl (run_bin rfl (vx := (.int .i64 ((a : Nat) : Int))) (vy := (.int .i64 ((i : Nat) : Int))) (by kernel_rfl) (by kernel_rfl) fun w => bn_add (z := (a + i)) rfl (wr_i64 (by omega)) w) ?_
      refine vm (i := 4) (v := .slice (some ⟨g, 0, none⟩) n cap) rfl rfl rfl ?_
      refine vm (i := 5) (v := .int .i64 ((b : Nat) : Int)) rfl rfl rfl ?_
      refine vm (i := 6) (v := .int .i64 ((i : Nat) : Int)) rfl rfl rfl ?_
      refine vp (i := 7) (v := .int .i64 (((b + i) : Nat) : Int)) rfl rfl rfl (run_bin rfl (vx := (.int .i64 ((b : Nat) : Int))) (vy := (.int .i64 ((i : Nat) : Int))) (by kernel_rfl) (by kernel_rfl) fun w => bn_add (z := (b + i)) rfl (wr_i64 (by omega)) w) ?_
      refine vm (i := 8) (v := .slice (some ⟨g, 0, none⟩) n cap) rfl rfl rfl ?_
      refine vm (i := 9) (v := .int .i64 ((b : Nat) : Int)) rfl rfl rfl ?_
      refine vm (i := 10) (v := .int .i64 ((i : Nat) : Int)) rfl rfl rfl ?_
      refine vp (i := 11) (v := .int .i64 (((b + i) : Nat) : Int)) rfl rfl rfl (run_bin rfl (vx := (.int .i64 ((b : Nat) : Int))) (vy := (.int .i64 ((i : Nat) : Int))) (by kernel_rfl) (by kernel_rfl) fun w => bn_add (z := (b + i)) rfl (wr_i64 (by omega)) w) ?_
      refine vp (i := 12) (v := .pointer (some ⟨g, 0 + (b + i) * 9, none⟩)) rfl rfl rfl (run_idxL (j := .i64) (n := n) (cap := cap) (b := g) (off := 0) (k := (b + i)) (sz := 9) rfl Tryd.underlying22 (by kernel_rfl) (by kernel_rfl) (by kernel_rfl) (by omega)) ?_
      obtain ⟨b1, hy1⟩ : ∃ bz, ((SwI Z1 U Z2 V Z3 i) : List Bx)[(b + i)]? = some bz := ⟨_, List.getElem?_eq_getElem (by first | omega | (simp only [List.length_set]; omega))⟩
      refine vv (i := 13) (v := bxV b1) rfl rfl rfl (yb_cells (off := 0 + (b + i) * 9) (cur := cur1) (cs := (bxC b1).toList) rfl (by kernel_rfl) (.head _) (RowX.get hr1 hy1) Tryd.underlying26 rfl (by kernel_rfl)) ?_
      refine vm (i := 14) (v := .slice (some ⟨g, 0, none⟩) n cap) rfl rfl rfl ?_
      refine vm (i := 15) (v := .int .i64 ((a : Nat) : Int)) rfl rfl rfl ?_
      refine vm (i := 16) (v := .int .i64 ((i : Nat) : Int)) rfl rfl rfl ?_
      refine vp (i := 17) (v := .int .i64 (((a + i) : Nat) : Int)) rfl rfl rfl (run_bin rfl (vx := (.int .i64 ((a : Nat) : Int))) (vy := (.int .i64 ((i : Nat) : Int))) (by kernel_rfl) (by kernel_rfl) fun w => bn_add (z := (a + i)) rfl (wr_i64 (by omega)) w) ?_
      refine vp (i := 18) (v := .pointer (some ⟨g, 0 + (a + i) * 9, none⟩)) rfl rfl rfl (run_idxL (j := .i64) (n := n) (cap := cap) (b := g) (off := 0) (k := (a + i)) (sz := 9) rfl Tryd.underlying22 (by kernel_rfl) (by kernel_rfl) (by kernel_rfl) (by omega)) ?_
      obtain ⟨b2, hy2⟩ : ∃ bz, ((SwI Z1 U Z2 V Z3 i) : List Bx)[(a + i)]? = some bz := ⟨_, List.getElem?_eq_getElem (by first | omega | (simp only [List.length_set]; omega))⟩
      refine vv (i := 19) (v := bxV b2) rfl rfl rfl (yb_cells (off := 0 + (a + i) * 9) (cur := cur1) (cs := (bxC b2).toList) rfl (by kernel_rfl) (.head _) (RowX.get hr1 hy2) Tryd.underlying26 rfl (by kernel_rfl)) ?_
      refine vp (i := 20) (v := .pointer (some ⟨g, 0 + (a + i) * 9, none⟩)) rfl rfl rfl (run_idxL (j := .i64) (n := n) (cap := cap) (b := g) (off := 0) (k := (a + i)) (sz := 9) rfl Tryd.underlying22 (by kernel_rfl) (by kernel_rfl) (by kernel_rfl) (by omega)) ?_
      have R3 := RowX.put (b := b1) hr1 (show (a + i) < (SwI Z1 U Z2 V Z3 i).length by first | omega | (simp only [List.length_set]; omega))
      have Q3 := put_size (b := b1) hr1 (show (a + i) < (SwI Z1 U Z2 V Z3 i).length by first | omega | (simp only [List.length_set]; omega))
      refine wpV_s ((g, .cells (putR cur1 (a + i) b1) 26 (0, 0)) :: K) (i := 21) rfl (by kernel_rfl) rfl rfl rfl (st_rec (k := (a + i)) (b := b1) rfl (by kernel_rfl) (by kernel_rfl) (.head _) hB (by kernel_rfl) hr1 (by first | omega | (simp only [List.length_set]; omega)) (List.forall_mem_cons.2 ⟨.inl rfl, (fun p hp => .inr ⟨(.tail _ hp), (hg _ hp)⟩)⟩)) ?_
      refine vp (i := 22) (v := .pointer (some ⟨g, 0 + (b + i) * 9, none⟩)) rfl rfl rfl (run_idxL (j := .i64) (n := n) (cap := cap) (b := g) (off := 0) (k := (b + i)) (sz := 9) rfl Tryd.underlying22 (by kernel_rfl) (by kernel_rfl) (by kernel_rfl) (by omega)) ?_
      have R4 := RowX.put (b := b2) R3 (show (b + i) < ((SwI Z1 U Z2 V Z3 i).set (a + i) b1).length by first | omega | (simp only [List.length_set]; omega))
      have Q4 := put_size (b := b2) R3 (show (b + i) < ((SwI Z1 U Z2 V Z3 i).set (a + i) b1).length by first | omega | (simp only [List.length_set]; omega))
      refine wpV_s ((g, .cells (putR (putR cur1 (a + i) b1) (b + i) b2) 26 (0, 0)) :: K) (i := 23) rfl (by kernel_rfl) rfl rfl rfl (st_rec (k := (b + i)) (b := b2) rfl (by kernel_rfl) (by kernel_rfl) (.head _) hB (by kernel_rfl) R3 (by first | omega | (simp only [List.length_set]; omega)) (List.forall_mem_cons.2 ⟨.inl rfl, (fun p hp => .inr ⟨(.tail _ hp), (hg _ hp)⟩)⟩)) ?_
      refine wpV_done (by kernel_rfl) (fun W4 hW4 => ?_) _
      refine (show Code.wp _ _ _ _ _ from ?_)
      refine wp_region_L (W0 := W0) ((g, .cells (putR (putR cur1 (a + i) b1) (b + i) b2) 26 (0, 0)) :: K) (hW4) ?_
      refine lm (v := .int .i64 ((i : Nat) : Int)) rfl rfl ?_
      refine lp (v := .int .i64 (((i + 1) : Nat) : Int)) rfl rfl (run_bin rfl (vx := (.int .i64 ((i : Nat) : Int))) (vy := (.int .i64 ((1 : Nat) : Int))) (by kernel_rfl) (by kernel_rfl) fun w => bn_add (z := (i + 1)) rfl (wr_i64 (by omega)) w) ?_
      refine lm (v := .int .i64 (((i + 1) : Nat) : Int)) rfl rfl ?_
      refine wpL_done (fun W5 hW5 => ?_)
      have hstep := swI_step (i := i) (by omega) (by omega) ha hb hy2 hy1
      go_roundw
      case rel =>
        repeat apply Exists.intro
        exact ⟨⟨i + 1, (putR (putR cur1 (a + i) b1) (b + i) b2), (by omega), (by have h := R4; rw [hstep] at h; exact h), (by omega), rfl, hW5⟩, rfl⟩
      case measure => (show m - (intOf (.int .i64 (((i + 1) : Nat) : Int))).toNat < m - (intOf (.int .i64 ((i : Nat) : Int))).toNat); simp only [intOf]; omega
theorem at_x (Z1 P X Y S Z3 : List Bx) (j : Nat) : Z1 ++ P ++ X ++ Y ++ S ++ Z3 = (Z1 ++ P) ++ X.take j ++ X.drop j ++ Y ++ (S ++ Z3) := by
  conv => lhs; rw [← List.take_append_drop j X]
  simp only [List.append_assoc]
theorem at_y (Z1 P X Y S Z3 : List Bx) (j : Nat) : Z1 ++ P ++ X ++ Y ++ S ++ Z3 = (Z1 ++ P) ++ X ++ Y.take j ++ Y.drop j ++ (S ++ Z3) := by
  conv => lhs; rw [← List.take_append_drop j Y]
  simp only [List.append_assoc]
set_option maxRecDepth 100000 in
set_option maxHeartbeats 4000000 in
theorem rot_any {W0 : Base} {K : List (Nat × Obj)} {g n cap : Nat} {cur : Array Value} (Z1 X0 Y0 Z3 : List Bx) (hn : (Z1 ++ X0 ++ Y0 ++ Z3).length = n) (hn2 : n ≤ 4000000000) (a m b : Nat) (ha : a = Z1.length) (hm : m = Z1.length + X0.length) (hb : b = Z1.length + X0.length + Y0.length) (hX : 0 < X0.length) (hY : 0 < Y0.length) (hr : RowX cur (Z1 ++ X0 ++ Y0 ++ Z3)) (hB : W0.B ≤ g) (hg : ∀ q ∈ K, q.1 ≠ g) (w : World) (hw : KS W0 ((g, .cells cur 26 (0, 0)) :: K) w) :
    Calls Tryd.prog 78 #[.slice (some ⟨g, 0, none⟩) n cap, .int .i64 ((a : Nat) : Int), .int .i64 ((m : Nat) : Int), .int .i64 ((b : Nat) : Int), .func (.func 48) #[] #[]] w fun e w' => ∃ v K', e = .returned v ∧ KS W0 K' w' ∧ (v = .tuple #[] ∧ ∃ cur', RowX cur' (Z1 ++ Y0 ++ X0 ++ Z3) ∧ cur'.size = cur.size ∧ K' = (g, .cells cur' 26 (0, 0)) :: K) := by
  have hlens : Z1.length + X0.length + Y0.length + Z3.length = n := by rw [← hn]; simp only [List.length_append]
  have hr0 : RowX cur (Z1 ++ [] ++ X0 ++ Y0 ++ [] ++ Z3) := by simpa using hr
  clear hr
  go_enter Tryd.func78, Tryd.ntmps78
  refine wp_seq ?_
  refine wp_region_L (W0 := W0) ((g, .cells cur 26 (0, 0)) :: K) (hw) ?_
  refine lm (v := .int .i64 ((m : Nat) : Int)) rfl rfl ?_
  refine lm (v := .int .i64 ((a : Nat) : Int)) rfl rfl ?_
  refine lp (v := .int .i64 ((X0.length : Nat) : Int)) rfl rfl (run_bin rfl (vx := (.int .i64 ((m : Nat) : Int))) (vy := (.int .i64 ((a : Nat) : Int))) (by kernel_rfl) (by kernel_rfl) fun w => bn_sub (z := X0.length) (show m - a = X0.length by omega) (by omega) (wr_i64 (by omega)) w) ?_
  refine lm (v := .int .i64 ((X0.length : Nat) : Int)) rfl rfl ?_
  refine wpL_done (fun W1 hW1 => ?_)
  refine (show Code.wp _ _ _ _ _ from ?_)
  refine wp_seq ?_
  refine wp_region_L (W0 := W0) ((g, .cells cur 26 (0, 0)) :: K) (hW1) ?_
  refine lm (v := .int .i64 ((b : Nat) : Int)) rfl rfl ?_
  refine lm (v := .int .i64 ((m : Nat) : Int)) rfl rfl ?_
  refine lp (v := .int .i64 ((Y0.length : Nat) : Int)) rfl rfl (run_bin rfl (vx := (.int .i64 ((b : Nat) : Int))) (vy := (.int .i64 ((m : Nat) : Int))) (by kernel_rfl) (by kernel_rfl) fun w => bn_sub (z := Y0.length) (show b - m = Y0.length by omega) (by omega) (wr_i64 (by omega)) w) ?_
  refine lm (v := .int .i64 ((Y0.length : Nat) : Int)) rfl rfl ?_
  refine wpL_done (fun W2 hW2 => ?_)
  refine (show Code.wp _ _ _ _ _ from ?_)
  refine wp_seq ?_
  refine wp_block ?_
  go_loopw [10, 11] (fun u10 u11 wr => ∃ (i j : Nat) (P X Y S : List Bx) (cur1 : Array Value), (0 < i ∧ 0 < j ∧ i + j ≤ n) ∧ (X.length = i) ∧ (Y.length = j) ∧ (Z1.length + P.length + i = m) ∧ (P ++ (Y ++ X) ++ S = Y0 ++ X0) ∧ (RowX cur1 (Z1 ++ P ++ X ++ Y ++ S ++ Z3)) ∧ (cur1.size = cur.size) ∧ u10 = .int .i64 ((i : Nat) : Int) ∧ u11 = .int .i64 ((j : Nat) : Int) ∧ KS W0 ((g, .cells cur1 26 (0, 0)) :: K) wr) (fun u10 u11 _ => ((intOf u10).toNat + (intOf u11).toNat))
  case atStart => exact ⟨X0.length, Y0.length, [], X0, Y0, [], cur, (by omega), rfl, rfl, (by simp only [List.length_nil]; omega), (by simp), hr0, rfl, rfl, rfl, hW2⟩
  case round =>
    obtain ⟨i, j, P, X, Y, S, cur1, hij, hXl, hYl, hPl, htgt, hr1, hz, rfl, rfl, hL3⟩ := hrel
    have hlt := congrArg List.length htgt
    simp only [List.length_append] at hlt
    have hl2 : (Z1 ++ P ++ X ++ Y ++ S ++ Z3).length = n := by simp only [List.length_append]; omega
    refine wp_seq ?_
    refine wp_seq ?_
    refine wp_region_L (W0 := W0) ((g, .cells cur1 26 (0, 0)) :: K) (hL3) ?_
    refine lm (v := .int .i64 ((i : Nat) : Int)) rfl rfl ?_
    refine lm (v := .int .i64 ((j : Nat) : Int)) rfl rfl ?_
    refine lp (v := .bool (!(decide (i = j)))) rfl rfl (run_bin rfl (vx := (.int .i64 ((i : Nat) : Int))) (vy := (.int .i64 ((j : Nat) : Int))) (by kernel_rfl) (by kernel_rfl) fun w => bn_neq rfl w) ?_
    refine wpL_done (fun W4 hW4 => ?_)
    refine (show Code.wp _ _ _ _ _ from ?_)
    cases hd1 : (decide (i = j)) with
    | false =>
      have h1 : ¬ (i = j) := of_decide_eq_false hd1
      clear hd1
      refine wp_cond_true rfl ?_
      refine wp_skip ?_
      refine (show Code.wp _ _ _ _ _ from ?_)
      refine wp_block ?_
      refine wp_seq ?_
      refine wp_region_L (W0 := W0) ((g, .cells cur1 26 (0, 0)) :: K) (hW4) ?_
      refine lm (v := .int .i64 ((i : Nat) : Int)) rfl rfl ?_
      refine lm (v := .int .i64 ((j : Nat) : Int)) rfl rfl ?_
      refine lp (v := .bool (decide (j < i))) rfl rfl (run_bin rfl (vx := (.int .i64 ((i : Nat) : Int))) (vy := (.int .i64 ((j : Nat) : Int))) (by kernel_rfl) (by kernel_rfl) fun w => bn_gtr rfl w) ?_
      refine wpL_done (fun W5 hW5 => ?_)
      refine (show Code.wp _ _ _ _ _ from ?_)
      cases hd2 : (decide (j < i)) with
      | false =>
        have h2 : ¬ (j < i) := of_decide_eq_false hd2
        clear hd2
        refine wp_cond_false rfl ?_
        refine wp_seq ?_
        refine wp_region_L (W0 := W0) ((g, .cells cur1 26 (0, 0)) :: K) (hW5) ?_
        refine lm (v := .slice (some ⟨g, 0, none⟩) n cap) rfl rfl ?_
        refine lm (v := .int .i64 ((m : Nat) : Int)) rfl rfl ?_
        refine lm (v := .int .i64 ((i : Nat) : Int)) rfl rfl ?_
        refine lp (v := .int .i64 (((m - i) : Nat) : Int)) rfl rfl (run_bin rfl (vx := (.int .i64 ((m : Nat) : Int))) (vy := (.int .i64 ((i : Nat) : Int))) (by kernel_rfl) (by kernel_rfl) fun w => bn_sub (z := (m - i)) rfl (by omega) (wr_i64 (by omega)) w) ?_
        refine lm (v := .int .i64 ((m : Nat) : Int)) rfl rfl ?_
        refine lm (v := .int .i64 ((j : Nat) : Int)) rfl rfl ?_
        refine lp (v := .int .i64 (((m + j) : Nat) : Int)) rfl rfl (run_bin rfl (vx := (.int .i64 ((m : Nat) : Int))) (vy := (.int .i64 ((j : Nat) : Int))) (by kernel_rfl) (by kernel_rfl) fun w => bn_add (z := (m + j)) rfl (wr_i64 (by omega)) w) ?_
        refine lm (v := .int .i64 ((i : Nat) : Int)) rfl rfl ?_
        refine lp (v := .int .i64 ((((m + j) - i) : Nat) : Int)) rfl rfl (run_bin rfl (vx := (.int .i64 (((m + j) : Nat) : Int))) (vy := (.int .i64 ((i : Nat) : Int))) (by kernel_rfl) (by kernel_rfl) fun w => bn_sub (z := ((m + j) - i)) rfl (by omega) (wr_i64 (by omega)) w) ?_
        refine lm (v := .int .i64 ((i : Nat) : Int)) rfl rfl ?_
        refine lm (v := .func (.func 48) #[] #[]) rfl rfl ?_
        have hsw1 : (Z1 ++ P ++ X ++ Y ++ S ++ Z3) = Z1 ++ P ++ X ++ (Y.take (j - i)) ++ (Y.drop (j - i)) ++ (S ++ Z3) := (at_y ..)
        refine wpL_c (f := 79) (args := #[.slice (some ⟨g, 0, none⟩) n cap, .int .i64 (((m - i) : Nat) : Int), .int .i64 ((((m + j) - i) : Nat) : Int), .int .i64 ((i : Nat) : Int), .func (.func 48) #[] #[]]) (fun v K9 => v = .tuple #[] ∧ ∃ cur', RowX cur' (Z1 ++ P ++ (Y.drop (j - i)) ++ (Y.take (j - i)) ++ X ++ (S ++ Z3)) ∧ cur'.size = cur1.size ∧ K9 = ((g, .cells cur' 26 (0, 0)) :: K)) rfl (by kernel_rfl) (fun _ => (by kernel_rfl)) (fun W hW => swap_any (K := K) (cap := cap) (Z1 ++ P) X (Y.take (j - i)) (Y.drop (j - i)) (S ++ Z3) (by rw [← hsw1]; omega) (by omega) (m - i) ((m + j) - i) i (by rw [List.length_append]; omega) (by omega) (by rw [List.length_drop]; omega) (by simp only [List.length_append, List.length_take, List.length_drop]; omega) (by rw [← hsw1]; exact hr1) hB (fun q hq => (hg _ hq)) W (hW.sub (List.forall_mem_cons.2 ⟨(.head _), (fun p hp => (.tail _ hp))⟩))) (fun _ => by simp only [List.setIfInBounds_toArray, List.set_cons_succ, List.set_cons_zero] <;> rfl) ?_
        rintro v K9 ⟨rfl, cu2, R2, Q2, rfl⟩
        refine wpL_done (fun W6 hW6 => ?_)
        refine (show Code.wp _ _ _ _ _ from ?_)
        refine wp_region_L (W0 := W0) ((g, .cells cu2 26 (0, 0)) :: K) (hW6) ?_
        refine lm (v := .int .i64 ((j : Nat) : Int)) rfl rfl ?_
        refine lm (v := .int .i64 ((i : Nat) : Int)) rfl rfl ?_
        refine lp (v := .int .i64 (((j - i) : Nat) : Int)) rfl rfl (run_bin rfl (vx := (.int .i64 ((j : Nat) : Int))) (vy := (.int .i64 ((i : Nat) : Int))) (by kernel_rfl) (by kernel_rfl) fun w => bn_sub (z := (j - i)) rfl (by omega) (wr_i64 (by omega)) w) ?_
        refine lm (v := .int .i64 (((j - i) : Nat) : Int)) rfl rfl ?_
        refine wpL_done (fun W7 hW7 => ?_)
        go_roundw
        case rel =>
          repeat apply Exists.intro
          exact ⟨⟨i, j - i, P, (Y.drop (j - i)), (Y.take (j - i)), X ++ S, cu2, (by omega), (by rw [List.length_drop]; omega), (by rw [List.length_take]; omega), (by omega), (by rw [List.take_append_drop, ← htgt]; simp only [List.append_assoc, List.append_nil, List.nil_append]), (by have h := R2; simp only [List.append_assoc, List.append_nil, List.nil_append] at h ⊢; exact h), (by omega), rfl, rfl, hW7⟩, rfl⟩
        case measure => (show ((intOf (.int .i64 ((i : Nat) : Int))).toNat + (intOf (.int .i64 (((j - i) : Nat) : Int))).toNat) < ((intOf (.int .i64 ((i : Nat) : Int))).toNat + (intOf (.int .i64 ((j : Nat) : Int))).toNat)); simp only [intOf]; omega
      | true =>
        have h2 : j < i := of_decide_eq_true hd2
        clear hd2
        refine wp_cond_true rfl ?_
        refine wp_seq ?_
        refine wp_region_L (W0 := W0) ((g, .cells cur1 26 (0, 0)) :: K) (hW5) ?_
        refine lm (v := .slice (some ⟨g, 0, none⟩) n cap) rfl rfl ?_
        refine lm (v := .int .i64 ((m : Nat) : Int)) rfl rfl ?_
        refine lm (v := .int .i64 ((i : Nat) : Int)) rfl rfl ?_
        refine lp (v := .int .i64 (((m - i) : Nat) : Int)) rfl rfl (run_bin rfl (vx := (.int .i64 ((m : Nat) : Int))) (vy := (.int .i64 ((i : Nat) : Int))) (by kernel_rfl) (by kernel_rfl) fun w => bn_sub (z := (m - i)) rfl (by omega) (wr_i64 (by omega)) w) ?_
        refine lm (v := .int .i64 ((m : Nat) : Int)) rfl rfl ?_
        refine lm (v := .int .i64 ((j : Nat) : Int)) rfl rfl ?_
        refine lm (v := .func (.func 48) #[] #[]) rfl rfl ?_
        have hsw3 : (Z1 ++ P ++ X ++ Y ++ S ++ Z3) = Z1 ++ P ++ (X.take j) ++ (X.drop j) ++ Y ++ (S ++ Z3) := (at_x ..)
        refine wpL_c (f := 79) (args := #[.slice (some ⟨g, 0, none⟩) n cap, .int .i64 (((m - i) : Nat) : Int), .int .i64 ((m : Nat) : Int), .int .i64 ((j : Nat) : Int), .func (.func 48) #[] #[]]) (fun v K9 => v = .tuple #[] ∧ ∃ cur', RowX cur' (Z1 ++ P ++ Y ++ (X.drop j) ++ (X.take j) ++ (S ++ Z3)) ∧ cur'.size = cur1.size ∧ K9 = ((g, .cells cur' 26 (0, 0)) :: K)) rfl (by kernel_rfl) (fun _ => (by kernel_rfl)) (fun W hW => swap_any (K := K) (cap := cap) (Z1 ++ P) (X.take j) (X.drop j) Y (S ++ Z3) (by rw [← hsw3]; omega) (by omega) (m - i) m j (by rw [List.length_append]; omega) (by rw [List.length_take]; omega) (by omega) (by simp only [List.length_append, List.length_take, List.length_drop]; omega) (by rw [← hsw3]; exact hr1) hB (fun q hq => (hg _ hq)) W (hW.sub (List.forall_mem_cons.2 ⟨(.head _), (fun p hp => (.tail _ hp))⟩))) (fun _ => by simp only [List.setIfInBounds_toArray, List.set_cons_succ, List.set_cons_zero] <;> rfl) ?_
        rintro v K9 ⟨rfl, cu4, R4, Q4, rfl⟩
        refine wpL_done (fun W8 hW8 => ?_)
        refine (show Code.wp _ _ _ _ _ from ?_)
        refine wp_region_L (W0 := W0) ((g, .cells cu4 26 (0, 0)) :: K) (hW8) ?_
        refine lm (v := .int .i64 ((i : Nat) : Int)) rfl rfl ?_
        refine lm (v := .int .i64 ((j : Nat) : Int)) rfl rfl ?_
        refine lp (v := .int .i64 (((i - j) : Nat) : Int)) rfl rfl (run_bin rfl (vx := (.int .i64 ((i : Nat) : Int))) (vy := (.int .i64 ((j : Nat) : Int))) (by kernel_rfl) (by kernel_rfl) fun w => bn_sub (z := (i - j)) rfl (by omega) (wr_i64 (by omega)) w) ?_
        refine lm (v := .int .i64 (((i - j) : Nat) : Int)) rfl rfl ?_
        refine wpL_done (fun W9 hW9 => ?_)
        go_roundw
        case rel =>
          repeat apply Exists.intro
          exact ⟨⟨i - j, j, P ++ Y, (X.drop j), (X.take j), S, cu4, (by omega), (by rw [List.length_drop]; omega), (by rw [List.length_take]; omega), (by rw [List.length_append]; omega), (by rw [List.take_append_drop, ← htgt]; simp only [List.append_assoc, List.append_nil, List.nil_append]), (by have h := R4; simp only [List.append_assoc, List.append_nil, List.nil_append] at h ⊢; exact h), (by omega), rfl, rfl, hW9⟩, rfl⟩
        case measure => (show ((intOf (.int .i64 (((i - j) : Nat) : Int))).toNat + (intOf (.int .i64 ((j : Nat) : Int))).toNat) < ((intOf (.int .i64 ((i : Nat) : Int))).toNat + (intOf (.int .i64 ((j : Nat) : Int))).toNat)); simp only [intOf]; omega
    | true =>
      have h1 : i = j := of_decide_eq_true hd1
      clear hd1
      refine wp_cond_false rfl ?_
      refine wp_exit ?_
      refine (show Code.wp _ _ _ _ _ from ?_)
      refine wp_region_L (W0 := W0) ((g, .cells cur1 26 (0, 0)) :: K) (hW4) ?_
      refine lm (v := .slice (some ⟨g, 0, none⟩) n cap) rfl rfl ?_
      refine lm (v := .int .i64 ((m : Nat) : Int)) rfl rfl ?_
      refine lm (v := .int .i64 ((i : Nat) : Int)) rfl rfl ?_
      refine lp (v := .int .i64 (((m - i) : Nat) : Int)) rfl rfl (run_bin rfl (vx := (.int .i64 ((m : Nat) : Int))) (vy := (.int .i64 ((i : Nat) : Int))) (by kernel_rfl) (by kernel_rfl) fun w => bn_sub (z := (m - i)) rfl (by omega) (wr_i64 (by omega)) w) ?_
      refine lm (v := .int .i64 ((m : Nat) : Int)) rfl rfl ?_
      refine lm (v := .int .i64 ((i : Nat) : Int)) rfl rfl ?_
      refine lm (v := .func (.func 48) #[] #[]) rfl rfl ?_
      have hsw5 : (Z1 ++ P ++ X ++ Y ++ S ++ Z3) = Z1 ++ P ++ X ++ [] ++ Y ++ (S ++ Z3) := (by simp only [List.append_assoc, List.append_nil, List.nil_append])
      refine wpL_c (f := 79) (args := #[.slice (some ⟨g, 0, none⟩) n cap, .int .i64 (((m - i) : Nat) : Int), .int .i64 ((m : Nat) : Int), .int .i64 ((i : Nat) : Int), .func (.func 48) #[] #[]]) (fun v K9 => v = .tuple #[] ∧ ∃ cur', RowX cur' (Z1 ++ P ++ Y ++ [] ++ X ++ (S ++ Z3)) ∧ cur'.size = cur1.size ∧ K9 = ((g, .cells cur' 26 (0, 0)) :: K)) rfl (by kernel_rfl) (fun _ => (by kernel_rfl)) (fun W hW => swap_any (K := K) (cap := cap) (Z1 ++ P) X [] Y (S ++ Z3) (by rw [← hsw5]; omega) (by omega) (m - i) m i (by rw [List.length_append]; omega) (by omega) (by omega) (by simp only [List.length_append, List.length_nil]; omega) (by rw [← hsw5]; exact hr1) hB (fun q hq => (hg _ hq)) W (hW.sub (List.forall_mem_cons.2 ⟨(.head _), (fun p hp => (.tail _ hp))⟩))) (fun _ => by simp only [List.setIfInBounds_toArray, List.set_cons_succ, List.set_cons_zero] <;> rfl) ?_
      rintro v K9 ⟨rfl, cu6, R6, Q6, rfl⟩
      refine wpL_done (fun W10 hW10 => ?_)
      refine bodyPost_end (v := .tuple #[]) (results_none rfl _ _ _) rfl ?_
      exact ⟨_, _, rfl, hW10.sub (List.forall_mem_cons.2 ⟨(.head _), fun p hp => (.tail _ hp)⟩), rfl, _, (by have h := R6; have e : Z1 ++ Y0 ++ X0 ++ Z3 = Z1 ++ P ++ Y ++ [] ++ X ++ (S ++ Z3) := (by rw [List.append_assoc Z1 Y0 X0, ← htgt]; simp only [List.append_assoc, List.append_nil, List.nil_append]); rw [e]; exact h), (by omega), rfl⟩
end Go.Proofs.YtjbbeolapaaiaaaDoor
namespace Go.Proofs.YtjbbeolapaaiaaaDoor
open Go Go.RowKit Tw
def SymAt (W0 : Base) (K : List (Nat × Obj)) (g n cap d : Nat) : Prop := ∀ (cur : Array Value) (Z1 A B Z3 : List Bx) (_ : (Z1 ++ A ++ B ++ Z3).length = n) (_ : A.length + B.length ≤ d) (_ : 0 < A.length) (_ : 0 < B.length) (_ : SortedX A) (_ : SortedX B) (a m b : Nat) (_ : a = Z1.length) (_ : m = Z1.length + A.length) (_ : b = Z1.length + A.length + B.length) (_ : RowX cur (Z1 ++ A ++ B ++ Z3)) (w : World) (_ : KS W0 ((g, .cells cur 26 (0, 0)) :: K) w),
    Calls Tryd.prog 72 #[.slice (some ⟨g, 0, none⟩) n cap, .int .i64 ((a : Nat) : Int), .int .i64 ((m : Nat) : Int), .int .i64 ((b : Nat) : Int), .func (.func 48) #[] #[]] w fun e w' => ∃ v K', e = .returned v ∧ KS W0 K' w' ∧ (v = .tuple #[] ∧ ∃ cur', RowX cur' (Z1 ++ orderX (A ++ B) ++ Z3) ∧ cur'.size = cur.size ∧ K' = (g, .cells cur' 26 (0, 0)) :: K)
set_option maxRecDepth 100000 in
set_option maxHeartbeats 4000000 in
theorem sym_step {W0 : Base} {K : List (Nat × Obj)} {g n cap d : Nat} (hn2 : n ≤ 4000000000) (hB : W0.B ≤ g) (hg : ∀ q ∈ K, q.1 ≠ g) (IH : SymAt W0 K g n cap d) : SymAt W0 K g n cap (d + 1) := by
  intro cur Z1 A B Z3 hn hd hA0 hB0 sA sB a m b ha hm hb hr0 w hw
  have hlens : Z1.length + A.length + B.length + Z3.length = n := by rw [← hn]; simp only [List.length_append]
  obtain ⟨mid, hmid⟩ : ∃ mid, (a + b) / 2 = mid := ⟨_, rfl⟩
  go_enter Tryd.func72, Tryd.ntmps72
  refine wp_seq ?_
  refine wp_seq ?_
  refine wp_region_L (W0 := W0) ((g, .cells cur 26 (0, 0)) :: K) (hw) ?_
  refine lm (v := .int .i64 ((m : Nat) : Int)) rfl rfl ?_
  refine lm (v := .int .i64 ((a : Nat) : Int)) rfl rfl ?_
  refine lp (v := .int .i64 (((m - a) : Nat) : Int)) rfl rfl (run_bin rfl (vx := (.int .i64 ((m : Nat) : Int))) (vy := (.int .i64 ((a : Nat) : Int))) (by kernel_rfl) (by kernel_rfl) fun w => bn_sub (z := (m - a)) rfl (by omega) (wr_i64 (by omega)) w) ?_
  refine lp (v := .bool (decide ((m - a) = 1))) rfl rfl (run_bin rfl (vx := (.int .i64 (((m - a) : Nat) : Int))) (vy := (.int .i64 ((1 : Nat) : Int))) (by kernel_rfl) (by kernel_rfl) fun w => bn_eql rfl w) ?_
  refine wpL_done (fun W1 hW1 => ?_)
  refine (show Code.wp _ _ _ _ _ from ?_)
  cases hd1 : (decide ((m - a) = 1)) with
  | false =>
    have h1 : ¬ ((m - a) = 1) := of_decide_eq_false hd1
    clear hd1
    refine wp_cond_false rfl ?_
    refine wp_skip ?_
    refine (show Code.wp _ _ _ _ _ from ?_)
    refine wp_seq ?_
    refine wp_seq ?_
    refine wp_region_L (W0 := W0) ((g, .cells cur 26 (0, 0)) :: K) (hW1) ?_
    refine lm (v := .int .i64 ((b : Nat) : Int)) rfl rfl ?_
    refine lm (v := .int .i64 ((m : Nat) : Int)) rfl rfl ?_
    refine lp (v := .int .i64 (((b - m) : Nat) : Int)) rfl rfl (run_bin rfl (vx := (.int .i64 ((b : Nat) : Int))) (vy := (.int .i64 ((m : Nat) : Int))) (by kernel_rfl) (by kernel_rfl) fun w => bn_sub (z := (b - m)) rfl (by omega) (wr_i64 (by omega)) w) ?_
    refine lp (v := .bool (decide ((b - m) = 1))) rfl rfl (run_bin rfl (vx := (.int .i64 (((b - m) : Nat) : Int))) (vy := (.int .i64 ((1 : Nat) : Int))) (by kernel_rfl) (by kernel_rfl) fun w => bn_eql rfl w) ?_
    refine wpL_done (fun W2 hW2 => ?_)
    refine (show Code.wp _ _ _ _ _ from ?_)
    cases hd2 : (decide ((b - m) = 1)) with
    | false =>
      have h2 : ¬ ((b - m) = 1) := of_decide_eq_false hd2
      clear hd2
      refine wp_cond_false rfl ?_
      refine wp_skip ?_
      refine (show Code.wp _ _ _ _ _ from ?_)
      refine wp_seq ?_
      refine wp_region_L (W0 := W0) ((g, .cells cur 26 (0, 0)) :: K) (hW2) ?_
      refine lm (v := .int .i64 ((a : Nat) : Int)) rfl rfl ?_
      refine lm (v := .int .i64 ((b : Nat) : Int)) rfl rfl ?_
      refine lp (v := .int .i64 (((a + b) : Nat) : Int)) rfl rfl (run_bin rfl (vx := (.int .i64 ((a : Nat) : Int))) (vy := (.int .i64 ((b : Nat) : Int))) (by kernel_rfl) (by kernel_rfl) fun w => bn_add (z := (a + b)) rfl (wr_i64 (by omega)) w) ?_
      refine lp (v := .int .u64 (((a + b) : Nat) : Int)) rfl rfl (run_conv rfl (vx := (.int .i64 (((a + b) : Nat) : Int))) (by kernel_rfl) fun w => cv_int Tryd.underlying3 Tryd.underlying106 (wr_u64 (by omega)) w) ?_
      refine lp (v := .int .u64 ((mid : Nat) : Int)) rfl rfl (run_bin rfl (vx := (.int .u64 (((a + b) : Nat) : Int))) (vy := (.int .u64 ((1 : Nat) : Int))) (by kernel_rfl) (by kernel_rfl) fun w => bn_shr (z := mid) (show (a + b) / 2 ^ 1 = mid by omega) (by first | omega | decide | (simp only [IntKind.bits]; omega)) w) ?_
      refine lp (v := .int .i64 ((mid : Nat) : Int)) rfl rfl (run_conv rfl (vx := (.int .u64 ((mid : Nat) : Int))) (by kernel_rfl) fun w => cv_int Tryd.underlying106 Tryd.underlying3 (wr_i64 (by omega)) w) ?_
      refine lm (v := .int .i64 ((mid : Nat) : Int)) rfl rfl ?_
      refine wpL_done (fun W3 hW3 => ?_)
      refine (show Code.wp _ _ _ _ _ from ?_)
      refine wp_seq ?_
      refine wp_region_L (W0 := W0) ((g, .cells cur 26 (0, 0)) :: K) (hW3) ?_
      refine lm (v := .int .i64 ((mid : Nat) : Int)) rfl rfl ?_
      refine lm (v := .int .i64 ((m : Nat) : Int)) rfl rfl ?_
      refine lp (v := .int .i64 (((mid + m) : Nat) : Int)) rfl rfl (run_bin rfl (vx := (.int .i64 ((mid : Nat) : Int))) (vy := (.int .i64 ((m : Nat) : Int))) (by kernel_rfl) (by kernel_rfl) fun w => bn_add (z := (mid + m)) rfl (wr_i64 (by omega)) w) ?_
      refine lm (v := .int .i64 (((mid + m) : Nat) : Int)) rfl rfl ?_
      refine wpL_done (fun W4 hW4 => ?_)
      refine (show Code.wp _ _ _ _ _ from ?_)
      refine wp_seq ?_
      refine wp_region_L (W0 := W0) ((g, .cells cur 26 (0, 0)) :: K) (hW4) ?_
      refine lm (v := .int .i64 0) rfl rfl ?_
      refine lm (v := .int .i64 0) rfl rfl ?_
      refine wpL_done (fun W5 hW5 => ?_)
      refine (show Code.wp _ _ _ _ _ from ?_)
      refine wp_joins (fun az wz => ∃ (s0 r0 : Nat), (a ≤ s0 ∧ r0 ≤ m ∧ (s0 = a ∨ s0 + b = mid + m) ∧ (r0 = m ∨ r0 = mid) ∧ mid + m ≤ b + s0 ∧ r0 ≤ mid) ∧ (s0 ≤ r0) ∧ JoinR (fun zq => List.toArray ((.slice (some ⟨g, 0, none⟩) n cap) :: (.int .i64 ((a : Nat) : Int)) :: (.int .i64 ((m : Nat) : Int)) :: (.int .i64 ((b : Nat) : Int)) :: (.func (.func 48) #[] #[]) :: undef :: undef :: undef :: undef :: undef :: undef :: undef :: undef :: undef :: undef :: undef :: undef :: undef :: (.int .i64 ((mid : Nat) : Int)) :: (.int .i64 (((mid + m) : Nat) : Int)) :: (.int .i64 ((s0 : Nat) : Int)) :: (.int .i64 ((r0 : Nat) : Int)) :: undef :: undef :: undef :: (.int .i64 ((m : Nat) : Int)) :: (.int .i64 ((a : Nat) : Int)) :: (.int .i64 (((m - a) : Nat) : Int)) :: (.bool false) :: undef :: undef :: undef :: undef :: undef :: undef :: undef :: undef :: undef :: undef :: undef :: undef :: undef :: undef :: undef :: undef :: undef :: undef :: undef :: undef :: undef :: undef :: undef :: undef :: undef :: undef :: undef :: undef :: undef :: undef :: undef :: undef :: undef :: undef :: undef :: undef :: undef :: undef :: undef :: undef :: undef :: undef :: undef :: undef :: undef :: undef :: undef :: undef :: (.int .i64 ((b : Nat) : Int)) :: (.int .i64 ((m : Nat) : Int)) :: (.int .i64 (((b - m) : Nat) : Int)) :: (.bool false) :: undef :: undef :: undef :: undef :: undef :: undef :: undef :: undef :: undef :: undef :: undef :: undef :: undef :: undef :: undef :: undef :: undef :: undef :: undef :: undef :: undef :: undef :: undef :: undef :: undef :: undef :: undef :: undef :: undef :: undef :: undef :: undef :: undef :: undef :: undef :: undef :: undef :: undef :: undef :: undef :: undef :: undef :: undef :: undef :: undef :: undef :: undef :: undef :: (.int .i64 ((a : Nat) : Int)) :: (.int .i64 ((b : Nat) : Int)) :: (.int .i64 (((a + b) : Nat) : Int)) :: (.int .u64 (((a + b) : Nat) : Int)) :: (.int .u64 ((mid : Nat) : Int)) :: (.int .i64 ((mid : Nat) : Int)) :: (.int .i64 ((mid : Nat) : Int)) :: (.int .i64 ((m : Nat) : Int)) :: (.int .i64 (((mid + m) : Nat) : Int)) :: zq 138 :: zq 139 :: zq 140 :: zq 141 :: zq 142 :: zq 143 :: zq 144 :: zq 145 :: zq 146 :: undef :: undef :: undef :: undef :: undef :: undef :: undef :: undef :: undef :: undef :: undef :: undef :: undef :: undef :: undef :: undef :: undef :: undef :: undef :: undef :: undef :: undef :: undef :: undef :: undef :: undef :: undef :: undef :: undef :: undef :: undef :: undef :: undef :: undef :: undef :: undef :: undef :: undef :: undef :: undef :: undef :: undef :: undef :: undef :: undef :: undef :: undef :: undef :: undef :: undef :: undef :: undef :: undef :: undef :: undef :: undef :: undef :: undef :: undef :: undef :: undef :: undef :: undef :: undef :: undef :: undef :: undef :: undef :: undef :: undef :: undef :: undef :: undef :: [])) W0 ((g, .cells cur 26 (0, 0)) :: K) az wz) 1 ?_ ?_
      · refine (show Code.wp _ _ _ _ _ from ?_)
        refine wp_seq ?_
        refine wp_region_L (W0 := W0) ((g, .cells cur 26 (0, 0)) :: K) (hW5) ?_
        refine lm (v := .int .i64 ((m : Nat) : Int)) rfl rfl ?_
        refine lm (v := .int .i64 ((mid : Nat) : Int)) rfl rfl ?_
        refine lp (v := .bool (decide (mid < m))) rfl rfl (run_bin rfl (vx := (.int .i64 ((m : Nat) : Int))) (vy := (.int .i64 ((mid : Nat) : Int))) (by kernel_rfl) (by kernel_rfl) fun w => bn_gtr rfl w) ?_
        refine wpL_done (fun W6 hW6 => ?_)
        refine (show Code.wp _ _ _ _ _ from ?_)
        cases hd3 : (decide (mid < m)) with
        | false =>
          have h3 : ¬ (mid < m) := of_decide_eq_false hd3
          clear hd3
          refine wp_cond_false rfl ?_
          refine wp_seq ?_
          refine wp_region_L (W0 := W0) ((g, .cells cur 26 (0, 0)) :: K) (hW6) ?_
          refine lm (v := .int .i64 ((a : Nat) : Int)) rfl rfl ?_
          refine lm (v := .int .i64 ((a : Nat) : Int)) rfl rfl ?_
          refine wpL_done (fun W7 hW7 => ?_)
          refine (show Code.wp _ _ _ _ _ from ?_)
          refine wp_region_L (W0 := W0) ((g, .cells cur 26 (0, 0)) :: K) (hW7) ?_
          refine lm (v := .int .i64 ((m : Nat) : Int)) rfl rfl ?_
          refine lm (v := .int .i64 ((m : Nat) : Int)) rfl rfl ?_
          refine wpL_done (fun W8 hW8 => ?_)
          exact ⟨a, m, (by omega), (by omega), join_mk (by kernel_rfl) hW8⟩
        | true =>
          have h3 : mid < m := of_decide_eq_true hd3
          clear hd3
          refine wp_cond_true rfl ?_
          refine wp_seq ?_
          refine wp_region_L (W0 := W0) ((g, .cells cur 26 (0, 0)) :: K) (hW6) ?_
          refine lm (v := .int .i64 (((mid + m) : Nat) : Int)) rfl rfl ?_
          refine lm (v := .int .i64 ((b : Nat) : Int)) rfl rfl ?_
          refine lp (v := .int .i64 ((((mid + m) - b) : Nat) : Int)) rfl rfl (run_bin rfl (vx := (.int .i64 (((mid + m) : Nat) : Int))) (vy := (.int .i64 ((b : Nat) : Int))) (by kernel_rfl) (by kernel_rfl) fun w => bn_sub (z := ((mid + m) - b)) rfl (by omega) (wr_i64 (by omega)) w) ?_
          refine lm (v := .int .i64 ((((mid + m) - b) : Nat) : Int)) rfl rfl ?_
          refine wpL_done (fun W9 hW9 => ?_)
          refine (show Code.wp _ _ _ _ _ from ?_)
          refine wp_region_L (W0 := W0) ((g, .cells cur 26 (0, 0)) :: K) (hW9) ?_
          refine lm (v := .int .i64 ((mid : Nat) : Int)) rfl rfl ?_
          refine lm (v := .int .i64 ((mid : Nat) : Int)) rfl rfl ?_
          refine wpL_done (fun W10 hW10 => ?_)
          exact ⟨((mid + m) - b), mid, (by omega), (by omega), join_mk (by kernel_rfl) hW10⟩
      · rintro a1 W1j ⟨s0, r0, hs, hs0, ⟨zx1, rfl⟩, hW1j⟩
        dsimp only [cutT]
        refine wp_seq ?_
        refine wp_region_L (W0 := W0) ((g, .cells cur 26 (0, 0)) :: K) (hW1j) ?_
        refine lm (v := .int .i64 (((mid + m) : Nat) : Int)) rfl rfl ?_
        refine lp (v := .int .i64 ((((mid + m) - 1) : Nat) : Int)) rfl rfl (run_bin rfl (vx := (.int .i64 (((mid + m) : Nat) : Int))) (vy := (.int .i64 ((1 : Nat) : Int))) (by kernel_rfl) (by kernel_rfl) fun w => bn_sub (z := ((mid + m) - 1)) rfl (by omega) (wr_i64 (by omega)) w) ?_
        refine lm (v := .int .i64 ((((mid + m) - 1) : Nat) : Int)) rfl rfl ?_
        refine wpL_done (fun W11 hW11 => ?_)
        refine (show Code.wp _ _ _ _ _ from ?_)
        refine wp_seq ?_
        refine wp_block ?_
        go_loopw [20, 21] (fun u20 u21 wr => ∃ (s r : Nat), (s0 ≤ s ∧ s ≤ r ∧ r ≤ r0) ∧ (s = s0 ∨ (s0 < s ∧ ∃ z y, (Z1 ++ A ++ B ++ Z3)[s - 1]? = some z ∧ (Z1 ++ A ++ B ++ Z3)[mid + m - 1 - (s - 1)]? = some y ∧ before y z = false)) ∧ (r = r0 ∨ (r < r0 ∧ ∃ z y, (Z1 ++ A ++ B ++ Z3)[r]? = some z ∧ (Z1 ++ A ++ B ++ Z3)[mid + m - 1 - r]? = some y ∧ before y z = true)) ∧ u20 = .int .i64 ((s : Nat) : Int) ∧ u21 = .int .i64 ((r : Nat) : Int) ∧ KS W0 ((g, .cells cur 26 (0, 0)) :: K) wr) (fun u20 u21 _ => ((intOf u21).toNat - (intOf u20).toNat))
        case atStart => exact ⟨s0, r0, (by omega), (.inl rfl), (.inl rfl), rfl, rfl, hW11⟩
        case round =>
          obtain ⟨s, r, hsr, hlo, hhi, rfl, rfl, hL12⟩ := hrel
          obtain ⟨c, hc⟩ : ∃ c, (s + r) / 2 = c := ⟨_, rfl⟩
          refine wp_seq ?_
          refine wp_seq ?_
          refine wp_region_L (W0 := W0) ((g, .cells cur 26 (0, 0)) :: K) (hL12) ?_
          refine lm (v := .int .i64 ((s : Nat) : Int)) rfl rfl ?_
          refine lm (v := .int .i64 ((r : Nat) : Int)) rfl rfl ?_
          refine lp (v := .bool (decide (s < r))) rfl rfl (run_bin rfl (vx := (.int .i64 ((s : Nat) : Int))) (vy := (.int .i64 ((r : Nat) : Int))) (by kernel_rfl) (by kernel_rfl) fun w => bn_lss rfl w) ?_
          refine wpL_done (fun W13 hW13 => ?_)
          refine (show Code.wp _ _ _ _ _ from ?_)
          cases hd4 : (decide (s < r)) with
          | false =>
            have h4 : ¬ (s < r) := of_decide_eq_false hd4
            clear hd4
            refine wp_cond_false rfl ?_
            refine wp_exit ?_
            refine (show Code.wp _ _ _ _ _ from ?_)
            refine wp_seq ?_
            refine wp_region_L (W0 := W0) ((g, .cells cur 26 (0, 0)) :: K) (hW13) ?_
            refine lm (v := .int .i64 (((mid + m) : Nat) : Int)) rfl rfl ?_
            refine lm (v := .int .i64 ((s : Nat) : Int)) rfl rfl ?_
            refine lp (v := .int .i64 ((((mid + m) - s) : Nat) : Int)) rfl rfl (run_bin rfl (vx := (.int .i64 (((mid + m) : Nat) : Int))) (vy := (.int .i64 ((s : Nat) : Int))) (by kernel_rfl) (by kernel_rfl) fun w => bn_sub (z := ((mid + m) - s)) rfl (by omega) (wr_i64 (by omega)) w) ?_
            refine lm (v := .int .i64 ((((mid + m) - s) : Nat) : Int)) rfl rfl ?_
            refine wpL_done (fun W14 hW14 => ?_)
            refine (show Code.wp _ _ _ _ _ from ?_)
            obtain ⟨A1, A2, B1, B2, hA12, hB12, hA1, hB1, hR⟩ := sym_cut (s := s) ha hm hb sA sB hs hsr.1 (by omega) hlo (have e : r = s := (by omega); by rw [e] at hhi; exact hhi)
            have hlA := congrArg List.length hA12
            have hlB := congrArg List.length hB12
            simp only [List.length_append] at hlA hlB
            have sAA := sA
            rw [hA12] at sAA
            have sBB := sB
            rw [hB12] at sBB
            have hr4 : RowX cur ((Z1 ++ A1) ++ A2 ++ B1 ++ (B2 ++ Z3)) := by have h := hr0; rw [hA12, hB12] at h; simpa only [List.append_assoc] using h
            refine wp_joins (fun az wz => ∃ (cu4 : Array Value), (RowX cu4 ((Z1 ++ A1) ++ B1 ++ A2 ++ (B2 ++ Z3))) ∧ (cu4.size = cur.size) ∧ JoinR (fun zq => List.toArray ((.slice (some ⟨g, 0, none⟩) n cap) :: (.int .i64 ((a : Nat) : Int)) :: (.int .i64 ((m : Nat) : Int)) :: (.int .i64 ((b : Nat) : Int)) :: (.func (.func 48) #[] #[]) :: undef :: undef :: undef :: undef :: undef :: undef :: undef :: undef :: undef :: undef :: undef :: undef :: undef :: (.int .i64 ((mid : Nat) : Int)) :: (.int .i64 (((mid + m) : Nat) : Int)) :: (.int .i64 ((s : Nat) : Int)) :: (.int .i64 ((r : Nat) : Int)) :: (.int .i64 ((((mid + m) - 1) : Nat) : Int)) :: zq 23 :: (.int .i64 ((((mid + m) - s) : Nat) : Int)) :: (.int .i64 ((m : Nat) : Int)) :: (.int .i64 ((a : Nat) : Int)) :: (.int .i64 (((m - a) : Nat) : Int)) :: (.bool false) :: undef :: undef :: undef :: undef :: undef :: undef :: undef :: undef :: undef :: undef :: undef :: undef :: undef :: undef :: undef :: undef :: undef :: undef :: undef :: undef :: undef :: undef :: undef :: undef :: undef :: undef :: undef :: undef :: undef :: undef :: undef :: undef :: undef :: undef :: undef :: undef :: undef :: undef :: undef :: undef :: undef :: undef :: undef :: undef :: undef :: undef :: undef :: undef :: (.int .i64 ((b : Nat) : Int)) :: (.int .i64 ((m : Nat) : Int)) :: (.int .i64 (((b - m) : Nat) : Int)) :: (.bool false) :: undef :: undef :: undef :: undef :: undef :: undef :: undef :: undef :: undef :: undef :: undef :: undef :: undef :: undef :: undef :: undef :: undef :: undef :: undef :: undef :: undef :: undef :: undef :: undef :: undef :: undef :: undef :: undef :: undef :: undef :: undef :: undef :: undef :: undef :: undef :: undef :: undef :: undef :: undef :: undef :: undef :: undef :: undef :: undef :: undef :: undef :: undef :: undef :: (.int .i64 ((a : Nat) : Int)) :: (.int .i64 ((b : Nat) : Int)) :: (.int .i64 (((a + b) : Nat) : Int)) :: (.int .u64 (((a + b) : Nat) : Int)) :: (.int .u64 ((mid : Nat) : Int)) :: (.int .i64 ((mid : Nat) : Int)) :: (.int .i64 ((mid : Nat) : Int)) :: (.int .i64 ((m : Nat) : Int)) :: (.int .i64 (((mid + m) : Nat) : Int)) :: (zx1 138) :: (zx1 139) :: (zx1 140) :: (zx1 141) :: (zx1 142) :: (zx1 143) :: (zx1 144) :: (zx1 145) :: (zx1 146) :: (.int .i64 (((mid + m) : Nat) : Int)) :: (.int .i64 ((((mid + m) - 1) : Nat) : Int)) :: (.int .i64 ((s : Nat) : Int)) :: (.int .i64 ((r : Nat) : Int)) :: (.bool false) :: zq 152 :: zq 153 :: zq 154 :: zq 155 :: zq 156 :: zq 157 :: zq 158 :: zq 159 :: zq 160 :: zq 161 :: zq 162 :: zq 163 :: zq 164 :: zq 165 :: zq 166 :: zq 167 :: zq 168 :: zq 169 :: zq 170 :: zq 171 :: zq 172 :: zq 173 :: zq 174 :: (.int .i64 (((mid + m) : Nat) : Int)) :: (.int .i64 ((s : Nat) : Int)) :: (.int .i64 ((((mid + m) - s) : Nat) : Int)) :: zq 178 :: zq 179 :: zq 180 :: zq 181 :: zq 182 :: zq 183 :: zq 184 :: zq 185 :: zq 186 :: zq 187 :: zq 188 :: zq 189 :: zq 190 :: zq 191 :: undef :: undef :: undef :: undef :: undef :: undef :: undef :: undef :: undef :: undef :: undef :: undef :: undef :: undef :: undef :: undef :: undef :: undef :: undef :: undef :: undef :: undef :: undef :: undef :: undef :: undef :: undef :: undef :: [])) W0 ((g, .cells cu4 26 (0, 0)) :: K) az wz) 1 ?_ ?_
            · refine (show Code.wp _ _ _ _ _ from ?_)
              refine wp_seq ?_
              refine wp_region_L (W0 := W0) ((g, .cells cur 26 (0, 0)) :: K) (hW14) ?_
              refine lm (v := .int .i64 ((s : Nat) : Int)) rfl rfl ?_
              refine lm (v := .int .i64 ((m : Nat) : Int)) rfl rfl ?_
              refine lp (v := .bool (decide (s < m))) rfl rfl (run_bin rfl (vx := (.int .i64 ((s : Nat) : Int))) (vy := (.int .i64 ((m : Nat) : Int))) (by kernel_rfl) (by kernel_rfl) fun w => bn_lss rfl w) ?_
              refine lm (v := .bool (decide (s < m))) rfl rfl ?_
              cases hd5 : (decide (s < m)) with
              | false =>
                have h5 : ¬ (s < m) := of_decide_eq_false hd5
                clear hd5
                refine ln rfl ?_
                refine ln rfl ?_
                refine ln rfl ?_
                refine lm (v := .bool false) rfl rfl ?_
                refine wpL_done (fun W15 hW15 => ?_)
                refine (show Code.wp _ _ _ _ _ from ?_)
                refine wp_cond_false rfl ?_
                refine wp_skip ?_
                exact ⟨cur, (by rw [← rot_skip (Z1 ++ A1) (B2 ++ Z3) (A := A2) (B := B1) (by omega)]; exact hr4), rfl, join_mk (by kernel_rfl) hW15⟩
              | true =>
                have h5 : s < m := of_decide_eq_true hd5
                clear hd5
                refine lm (v := .int .i64 ((m : Nat) : Int)) rfl rfl ?_
                refine lm (v := .int .i64 ((((mid + m) - s) : Nat) : Int)) rfl rfl ?_
                refine lp (v := .bool (decide (m < ((mid + m) - s)))) rfl rfl (run_bin rfl (vx := (.int .i64 ((m : Nat) : Int))) (vy := (.int .i64 ((((mid + m) - s) : Nat) : Int))) (by kernel_rfl) (by kernel_rfl) fun w => bn_lss rfl w) ?_
                refine lm (v := .bool (decide (m < ((mid + m) - s)))) rfl rfl ?_
                refine wpL_done (fun W16 hW16 => ?_)
                refine (show Code.wp _ _ _ _ _ from ?_)
                cases hd6 : (decide (m < ((mid + m) - s))) with
                | false =>
                  have h6 : ¬ (m < ((mid + m) - s)) := of_decide_eq_false hd6
                  clear hd6
                  refine wp_cond_false rfl ?_
                  refine wp_skip ?_
                  exact ⟨cur, (by rw [← rot_skip (Z1 ++ A1) (B2 ++ Z3) (A := A2) (B := B1) (by omega)]; exact hr4), rfl, join_mk (by kernel_rfl) hW16⟩
                | true =>
                  have h6 : m < ((mid + m) - s) := of_decide_eq_true hd6
                  clear hd6
                  refine wp_cond_true rfl ?_
                  refine wp_region_L (W0 := W0) ((g, .cells cur 26 (0, 0)) :: K) (hW16) ?_
                  refine lm (v := .slice (some ⟨g, 0, none⟩) n cap) rfl rfl ?_
                  refine lm (v := .int .i64 ((s : Nat) : Int)) rfl rfl ?_
                  refine lm (v := .int .i64 ((m : Nat) : Int)) rfl rfl ?_
                  refine lm (v := .int .i64 ((((mid + m) - s) : Nat) : Int)) rfl rfl ?_
                  refine lm (v := .func (.func 48) #[] #[]) rfl rfl ?_
                  refine wpL_c (f := 78) (args := #[.slice (some ⟨g, 0, none⟩) n cap, .int .i64 ((s : Nat) : Int), .int .i64 ((m : Nat) : Int), .int .i64 ((((mid + m) - s) : Nat) : Int), .func (.func 48) #[] #[]]) (fun v K9 => v = .tuple #[] ∧ ∃ cur', RowX cur' ((Z1 ++ A1) ++ B1 ++ A2 ++ (B2 ++ Z3)) ∧ cur'.size = cur.size ∧ K9 = ((g, .cells cur' 26 (0, 0)) :: K)) rfl (by kernel_rfl) (fun _ => (by kernel_rfl)) (fun W hW => rot_any (K := K) (cap := cap) (Z1 ++ A1) A2 B1 (B2 ++ Z3) (by first | omega | (simp only [List.length_append, order_len]; omega)) (by omega) s m ((mid + m) - s) (by first | omega | (simp only [List.length_append, order_len]; omega)) (by first | omega | (simp only [List.length_append, order_len]; omega)) (by first | omega | (simp only [List.length_append, order_len]; omega)) (by omega) (by omega) hr4 hB (fun q hq => (hg _ hq)) W (hW.sub (List.forall_mem_cons.2 ⟨(.head _), (fun p hp => (.tail _ hp))⟩))) (fun _ => by simp only [List.setIfInBounds_toArray, List.set_cons_succ, List.set_cons_zero] <;> rfl) ?_
                  rintro v K9 ⟨rfl, cu1, R1, Q1, rfl⟩
                  refine wpL_done (fun W17 hW17 => ?_)
                  exact ⟨cu1, R1, (by omega), join_mk (by kernel_rfl) hW17⟩
            · rintro a2 W2j ⟨cu4, hr5, hz5, ⟨zx2, rfl⟩, hW2j⟩
              dsimp only [cutT]
              refine wp_joins (fun az wz => ∃ (cu5 : Array Value), (RowX cu5 ((Z1 ++ orderX (A1 ++ B1)) ++ A2 ++ B2 ++ Z3)) ∧ (cu5.size = cur.size) ∧ JoinR (fun zq => List.toArray ((.slice (some ⟨g, 0, none⟩) n cap) :: (.int .i64 ((a : Nat) : Int)) :: (.int .i64 ((m : Nat) : Int)) :: (.int .i64 ((b : Nat) : Int)) :: (.func (.func 48) #[] #[]) :: undef :: undef :: undef :: undef :: undef :: undef :: undef :: undef :: undef :: undef :: undef :: undef :: undef :: (.int .i64 ((mid : Nat) : Int)) :: (.int .i64 (((mid + m) : Nat) : Int)) :: (.int .i64 ((s : Nat) : Int)) :: (.int .i64 ((r : Nat) : Int)) :: (.int .i64 ((((mid + m) - 1) : Nat) : Int)) :: (zx2 23) :: (.int .i64 ((((mid + m) - s) : Nat) : Int)) :: (.int .i64 ((m : Nat) : Int)) :: (.int .i64 ((a : Nat) : Int)) :: (.int .i64 (((m - a) : Nat) : Int)) :: (.bool false) :: undef :: undef :: undef :: undef :: undef :: undef :: undef :: undef :: undef :: undef :: undef :: undef :: undef :: undef :: undef :: undef :: undef :: undef :: undef :: undef :: undef :: undef :: undef :: undef :: undef :: undef :: undef :: undef :: undef :: undef :: undef :: undef :: undef :: undef :: undef :: undef :: undef :: undef :: undef :: undef :: undef :: undef :: undef :: undef :: undef :: undef :: undef :: undef :: (.int .i64 ((b : Nat) : Int)) :: (.int .i64 ((m : Nat) : Int)) :: (.int .i64 (((b - m) : Nat) : Int)) :: (.bool false) :: undef :: undef :: undef :: undef :: undef :: undef :: undef :: undef :: undef :: undef :: undef :: undef :: undef :: undef :: undef :: undef :: undef :: undef :: undef :: undef :: undef :: undef :: undef :: undef :: undef :: undef :: undef :: undef :: undef :: undef :: undef :: undef :: undef :: undef :: undef :: undef :: undef :: undef :: undef :: undef :: undef :: undef :: undef :: undef :: undef :: undef :: undef :: undef :: (.int .i64 ((a : Nat) : Int)) :: (.int .i64 ((b : Nat) : Int)) :: (.int .i64 (((a + b) : Nat) : Int)) :: (.int .u64 (((a + b) : Nat) : Int)) :: (.int .u64 ((mid : Nat) : Int)) :: (.int .i64 ((mid : Nat) : Int)) :: (.int .i64 ((mid : Nat) : Int)) :: (.int .i64 ((m : Nat) : Int)) :: (.int .i64 (((mid + m) : Nat) : Int)) :: (zx1 138) :: (zx1 139) :: (zx1 140) :: (zx1 141) :: (zx1 142) :: (zx1 143) :: (zx1 144) :: (zx1 145) :: (zx1 146) :: (.int .i64 (((mid + m) : Nat) : Int)) :: (.int .i64 ((((mid + m) - 1) : Nat) : Int)) :: (.int .i64 ((s : Nat) : Int)) :: (.int .i64 ((r : Nat) : Int)) :: (.bool false) :: (zx2 152) :: (zx2 153) :: (zx2 154) :: (zx2 155) :: (zx2 156) :: (zx2 157) :: (zx2 158) :: (zx2 159) :: (zx2 160) :: (zx2 161) :: (zx2 162) :: (zx2 163) :: (zx2 164) :: (zx2 165) :: (zx2 166) :: (zx2 167) :: (zx2 168) :: (zx2 169) :: (zx2 170) :: (zx2 171) :: (zx2 172) :: (zx2 173) :: (zx2 174) :: (.int .i64 (((mid + m) : Nat) : Int)) :: (.int .i64 ((s : Nat) : Int)) :: (.int .i64 ((((mid + m) - s) : Nat) : Int)) :: (zx2 178) :: (zx2 179) :: (zx2 180) :: (zx2 181) :: (zx2 182) :: (zx2 183) :: (zx2 184) :: (zx2 185) :: (zx2 186) :: (zx2 187) :: (zx2 188) :: (zx2 189) :: (zx2 190) :: (zx2 191) :: zq 192 :: zq 193 :: zq 194 :: zq 195 :: zq 196 :: zq 197 :: zq 198 :: zq 199 :: zq 200 :: zq 201 :: zq 202 :: zq 203 :: zq 204 :: zq 205 :: undef :: undef :: undef :: undef :: undef :: undef :: undef :: undef :: undef :: undef :: undef :: undef :: undef :: undef :: [])) W0 ((g, .cells cu5 26 (0, 0)) :: K) az wz) 1 ?_ ?_
              · refine (show Code.wp _ _ _ _ _ from ?_)
                refine wp_seq ?_
                refine wp_region_L (W0 := W0) ((g, .cells cu4 26 (0, 0)) :: K) (hW2j) ?_
                refine lm (v := .int .i64 ((a : Nat) : Int)) rfl rfl ?_
                refine lm (v := .int .i64 ((s : Nat) : Int)) rfl rfl ?_
                refine lp (v := .bool (decide (a < s))) rfl rfl (run_bin rfl (vx := (.int .i64 ((a : Nat) : Int))) (vy := (.int .i64 ((s : Nat) : Int))) (by kernel_rfl) (by kernel_rfl) fun w => bn_lss rfl w) ?_
                refine lm (v := .bool (decide (a < s))) rfl rfl ?_
                cases hd7 : (decide (a < s)) with
                | false =>
                  have h7 : ¬ (a < s) := of_decide_eq_false hd7
                  clear hd7
                  refine ln rfl ?_
                  refine ln rfl ?_
                  refine ln rfl ?_
                  refine lm (v := .bool false) rfl rfl ?_
                  refine wpL_done (fun W18 hW18 => ?_)
                  refine (show Code.wp _ _ _ _ _ from ?_)
                  refine wp_cond_false rfl ?_
                  refine wp_skip ?_
                  exact ⟨cu4, (by rw [sym_skip (sorted_l sAA) (sorted_l sBB) (by omega)]; have h := hr5; simpa only [List.append_assoc] using h), hz5, join_mk (by kernel_rfl) hW18⟩
                | true =>
                  have h7 : a < s := of_decide_eq_true hd7
                  clear hd7
                  refine lm (v := .int .i64 ((s : Nat) : Int)) rfl rfl ?_
                  refine lm (v := .int .i64 ((mid : Nat) : Int)) rfl rfl ?_
                  refine lp (v := .bool (decide (s < mid))) rfl rfl (run_bin rfl (vx := (.int .i64 ((s : Nat) : Int))) (vy := (.int .i64 ((mid : Nat) : Int))) (by kernel_rfl) (by kernel_rfl) fun w => bn_lss rfl w) ?_
                  refine lm (v := .bool (decide (s < mid))) rfl rfl ?_
                  refine wpL_done (fun W19 hW19 => ?_)
                  refine (show Code.wp _ _ _ _ _ from ?_)
                  cases hd8 : (decide (s < mid)) with
                  | false =>
                    have h8 : ¬ (s < mid) := of_decide_eq_false hd8
                    clear hd8
                    refine wp_cond_false rfl ?_
                    refine wp_skip ?_
                    exact ⟨cu4, (by rw [sym_skip (sorted_l sAA) (sorted_l sBB) (by omega)]; have h := hr5; simpa only [List.append_assoc] using h), hz5, join_mk (by kernel_rfl) hW19⟩
                  | true =>
                    have h8 : s < mid := of_decide_eq_true hd8
                    clear hd8
                    refine wp_cond_true rfl ?_
                    refine wp_region_L (W0 := W0) ((g, .cells cu4 26 (0, 0)) :: K) (hW19) ?_
                    refine lm (v := .slice (some ⟨g, 0, none⟩) n cap) rfl rfl ?_
                    refine lm (v := .int .i64 ((a : Nat) : Int)) rfl rfl ?_
                    refine lm (v := .int .i64 ((s : Nat) : Int)) rfl rfl ?_
                    refine lm (v := .int .i64 ((mid : Nat) : Int)) rfl rfl ?_
                    refine lm (v := .func (.func 48) #[] #[]) rfl rfl ?_
                    refine wpL_c (f := 72) (args := #[.slice (some ⟨g, 0, none⟩) n cap, .int .i64 ((a : Nat) : Int), .int .i64 ((s : Nat) : Int), .int .i64 ((mid : Nat) : Int), .func (.func 48) #[] #[]]) (fun v K9 => v = .tuple #[] ∧ ∃ cur', RowX cur' (Z1 ++ orderX (A1 ++ B1) ++ (A2 ++ (B2 ++ Z3))) ∧ cur'.size = cu4.size ∧ K9 = ((g, .cells cur' 26 (0, 0)) :: K)) rfl (by kernel_rfl) (fun _ => (by kernel_rfl)) (fun W hW => IH cu4 Z1 A1 B1 (A2 ++ (B2 ++ Z3)) (by first | omega | (simp only [List.length_append, order_len]; omega)) (by omega) (by omega) (by omega) (sorted_l sAA) (sorted_l sBB) a s mid (by first | omega | (simp only [List.length_append, order_len]; omega)) (by first | omega | (simp only [List.length_append, order_len]; omega)) (by first | omega | (simp only [List.length_append, order_len]; omega)) (by have h := hr5; simpa only [List.append_assoc] using h) W (hW.sub (List.forall_mem_cons.2 ⟨(.head _), (fun p hp => (.tail _ hp))⟩))) (fun _ => by simp only [List.setIfInBounds_toArray, List.set_cons_succ, List.set_cons_zero] <;> rfl) ?_
                    rintro v K9 ⟨rfl, cu2, R2, Q2, rfl⟩
                    refine wpL_done (fun W20 hW20 => ?_)
                    exact ⟨cu2, (by have h := R2; simpa only [List.append_assoc] using h), (by omega), join_mk (by kernel_rfl) hW20⟩
              · rintro a3 W3j ⟨cu5, hr6, hz6, ⟨zx3, rfl⟩, hW3j⟩
                dsimp only [cutT]
                refine wp_seq ?_
                refine wp_region_L (W0 := W0) ((g, .cells cu5 26 (0, 0)) :: K) (hW3j) ?_
                refine lm (v := .int .i64 ((mid : Nat) : Int)) rfl rfl ?_
                refine lm (v := .int .i64 ((((mid + m) - s) : Nat) : Int)) rfl rfl ?_
                refine lp (v := .bool (decide (mid < ((mid + m) - s)))) rfl rfl (run_bin rfl (vx := (.int .i64 ((mid : Nat) : Int))) (vy := (.int .i64 ((((mid + m) - s) : Nat) : Int))) (by kernel_rfl) (by kernel_rfl) fun w => bn_lss rfl w) ?_
                refine lm (v := .bool (decide (mid < ((mid + m) - s)))) rfl rfl ?_
                cases hd9 : (decide (mid < ((mid + m) - s))) with
                | false =>
                  have h9 : ¬ (mid < ((mid + m) - s)) := of_decide_eq_false hd9
                  clear hd9
                  refine ln rfl ?_
                  refine ln rfl ?_
                  refine ln rfl ?_
                  refine lm (v := .bool false) rfl rfl ?_
                  refine wpL_done (fun W21 hW21 => ?_)
                  refine (show Code.wp _ _ _ _ _ from ?_)
                  refine wp_cond_false rfl ?_
                  refine wp_skip ?_
                  refine bodyPost_end (v := .tuple #[]) (results_none rfl _ _ _) rfl ?_
                  exact ⟨_, _, rfl, hW21.sub (List.forall_mem_cons.2 ⟨(.head _), fun p hp => (.tail _ hp)⟩), rfl, _, (by rw [← hR, sym_skip (sorted_r sAA) (sorted_r sBB) (by omega)]; have h := hr6; simpa only [List.append_assoc] using h), hz6, rfl⟩
                | true =>
                  have h9 : mid < ((mid + m) - s) := of_decide_eq_true hd9
                  clear hd9
                  refine lm (v := .int .i64 ((((mid + m) - s) : Nat) : Int)) rfl rfl ?_
                  refine lm (v := .int .i64 ((b : Nat) : Int)) rfl rfl ?_
                  refine lp (v := .bool (decide (((mid + m) - s) < b))) rfl rfl (run_bin rfl (vx := (.int .i64 ((((mid + m) - s) : Nat) : Int))) (vy := (.int .i64 ((b : Nat) : Int))) (by kernel_rfl) (by kernel_rfl) fun w => bn_lss rfl w) ?_
                  refine lm (v := .bool (decide (((mid + m) - s) < b))) rfl rfl ?_
                  refine wpL_done (fun W22 hW22 => ?_)
                  refine (show Code.wp _ _ _ _ _ from ?_)
                  cases hd10 : (decide (((mid + m) - s) < b)) with
                  | false =>
                    have h10 : ¬ (((mid + m) - s) < b) := of_decide_eq_false hd10
                    clear hd10
                    refine wp_cond_false rfl ?_
                    refine wp_skip ?_
                    refine bodyPost_end (v := .tuple #[]) (results_none rfl _ _ _) rfl ?_
                    exact ⟨_, _, rfl, hW22.sub (List.forall_mem_cons.2 ⟨(.head _), fun p hp => (.tail _ hp)⟩), rfl, _, (by rw [← hR, sym_skip (sorted_r sAA) (sorted_r sBB) (by omega)]; have h := hr6; simpa only [List.append_assoc] using h), hz6, rfl⟩
                  | true =>
                    have h10 : ((mid + m) - s) < b := of_decide_eq_true hd10
                    clear hd10
                    refine wp_cond_true rfl ?_
                    refine wp_region_L (W0 := W0) ((g, .cells cu5 26 (0, 0)) :: K) (hW22) ?_
                    refine lm (v := .slice (some ⟨g, 0, none⟩) n cap) rfl rfl ?_
                    refine lm (v := .int .i64 ((mid : Nat) : Int)) rfl rfl ?_
                    refine lm (v := .int .i64 ((((mid + m) - s) : Nat) : Int)) rfl rfl ?_
                    refine lm (v := .int .i64 ((b : Nat) : Int)) rfl rfl ?_
                    refine lm (v := .func (.func 48) #[] #[]) rfl rfl ?_
                    refine wpL_c (f := 72) (args := #[.slice (some ⟨g, 0, none⟩) n cap, .int .i64 ((mid : Nat) : Int), .int .i64 ((((mid + m) - s) : Nat) : Int), .int .i64 ((b : Nat) : Int), .func (.func 48) #[] #[]]) (fun v K9 => v = .tuple #[] ∧ ∃ cur', RowX cur' ((Z1 ++ orderX (A1 ++ B1)) ++ orderX (A2 ++ B2) ++ Z3) ∧ cur'.size = cu5.size ∧ K9 = ((g, .cells cur' 26 (0, 0)) :: K)) rfl (by kernel_rfl) (fun _ => (by kernel_rfl)) (fun W hW => IH cu5 (Z1 ++ orderX (A1 ++ B1)) A2 B2 Z3 (by first | omega | (simp only [List.length_append, order_len]; omega)) (by omega) (by omega) (by omega) (sorted_r sAA) (sorted_r sBB) mid ((mid + m) - s) b (by first | omega | (simp only [List.length_append, order_len]; omega)) (by first | omega | (simp only [List.length_append, order_len]; omega)) (by first | omega | (simp only [List.length_append, order_len]; omega)) (by have h := hr6; simpa only [List.append_assoc] using h) W (hW.sub (List.forall_mem_cons.2 ⟨(.head _), (fun p hp => (.tail _ hp))⟩))) (fun _ => by simp only [List.setIfInBounds_toArray, List.set_cons_succ, List.set_cons_zero] <;> rfl) ?_
                    rintro v K9 ⟨rfl, cu3, R3, Q3, rfl⟩
                    refine wpL_done (fun W23 hW23 => ?_)
                    refine bodyPost_end (v := .tuple #[]) (results_none rfl _ _ _) rfl ?_
                    exact ⟨_, _, rfl, hW23.sub (List.forall_mem_cons.2 ⟨(.head _), fun p hp => (.tail _ hp)⟩), rfl, _, (by rw [← hR]; have h := R3; simpa only [List.append_assoc] using h), (by omega), rfl⟩
          | true =>
            have h4 : s < r := of_decide_eq_true hd4
            clear hd4
            refine wp_cond_true rfl ?_
            refine wp_skip ?_
            refine (show Code.wp _ _ _ _ _ from ?_)
            refine wp_block ?_
            refine wp_seq ?_
            refine wp_region_L (W0 := W0) ((g, .cells cur 26 (0, 0)) :: K) (hW13) ?_
            refine lm (v := .int .i64 ((s : Nat) : Int)) rfl rfl ?_
            refine lm (v := .int .i64 ((r : Nat) : Int)) rfl rfl ?_
            refine lp (v := .int .i64 (((s + r) : Nat) : Int)) rfl rfl (run_bin rfl (vx := (.int .i64 ((s : Nat) : Int))) (vy := (.int .i64 ((r : Nat) : Int))) (by kernel_rfl) (by kernel_rfl) fun w => bn_add (z := (s + r)) rfl (wr_i64 (by omega)) w) ?_
            refine lp (v := .int .u64 (((s + r) : Nat) : Int)) rfl rfl (run_conv rfl (vx := (.int .i64 (((s + r) : Nat) : Int))) (by kernel_rfl) fun w => cv_int Tryd.underlying3 Tryd.underlying106 (wr_u64 (by omega)) w) ?_
            refine lp (v := .int .u64 ((c : Nat) : Int)) rfl rfl (run_bin rfl (vx := (.int .u64 (((s + r) : Nat) : Int))) (vy := (.int .u64 ((1 : Nat) : Int))) (by kernel_rfl) (by kernel_rfl) fun w => bn_shr (z := c) (show (s + r) / 2 ^ 1 = c by omega) (by first | omega | decide | (simp only [IntKind.bits]; omega)) w) ?_
            refine lp (v := .int .i64 ((c : Nat) : Int)) rfl rfl (run_conv rfl (vx := (.int .u64 ((c : Nat) : Int))) (by kernel_rfl) fun w => cv_int Tryd.underlying106 Tryd.underlying3 (wr_i64 (by omega)) w) ?_
            refine lm (v := .int .i64 ((c : Nat) : Int)) rfl rfl ?_
            refine wpL_done (fun W24 hW24 => ?_)
            refine (show Code.wp _ _ _ _ _ from ?_)
            refine wp_seq ?_
            refine wp_region_V (W0 := W0) ((g, .cells cur 26 (0, 0)) :: K) (by kernel_rfl) (hW24) ?_
            refine vm (i := 0) (v := .func (.func 48) #[] #[]) rfl rfl rfl ?_
            refine vm (i := 1) (v := .slice (some ⟨g, 0, none⟩) n cap) rfl rfl rfl ?_
            refine vm (i := 2) (v := .int .i64 ((((mid + m) - 1) : Nat) : Int)) rfl rfl rfl ?_
            refine vm (i := 3) (v := .int .i64 ((c : Nat) : Int)) rfl rfl rfl ?_
            refine vp (i := 4) (v := .int .i64 (((((mid + m) - 1) - c) : Nat) : Int)) rfl rfl rfl (run_bin rfl (vx := (.int .i64 ((((mid + m) - 1) : Nat) : Int))) (vy := (.int .i64 ((c : Nat) : Int))) (by kernel_rfl) (by kernel_rfl) fun w => bn_sub (z := (((mid + m) - 1) - c)) rfl (by omega) (wr_i64 (by omega)) w) ?_
            refine vp (i := 5) (v := .pointer (some ⟨g, 0 + (((mid + m) - 1) - c) * 9, none⟩)) rfl rfl rfl (run_idxL (j := .i64) (n := n) (cap := cap) (b := g) (off := 0) (k := (((mid + m) - 1) - c)) (sz := 9) rfl Tryd.underlying22 (by kernel_rfl) (by kernel_rfl) (by kernel_rfl) (by omega)) ?_
            obtain ⟨b4, hy4⟩ : ∃ bz, ((Z1 ++ A ++ B ++ Z3) : List Bx)[(((mid + m) - 1) - c)]? = some bz := ⟨_, List.getElem?_eq_getElem (by first | omega | (simp only [List.length_set]; omega))⟩
            refine vv (i := 6) (v := bxV b4) rfl rfl rfl (yb_cells (off := 0 + (((mid + m) - 1) - c) * 9) (cur := cur) (cs := (bxC b4).toList) rfl (by kernel_rfl) (.head _) (RowX.get hr0 hy4) Tryd.underlying26 rfl (by kernel_rfl)) ?_
            refine vm (i := 7) (v := .slice (some ⟨g, 0, none⟩) n cap) rfl rfl rfl ?_
            refine vm (i := 8) (v := .int .i64 ((c : Nat) : Int)) rfl rfl rfl ?_
            refine vp (i := 9) (v := .pointer (some ⟨g, 0 + c * 9, none⟩)) rfl rfl rfl (run_idxL (j := .i64) (n := n) (cap := cap) (b := g) (off := 0) (k := c) (sz := 9) rfl Tryd.underlying22 (by kernel_rfl) (by kernel_rfl) (by kernel_rfl) (by omega)) ?_
            obtain ⟨b5, hy5⟩ : ∃ bz, ((Z1 ++ A ++ B ++ Z3) : List Bx)[c]? = some bz := ⟨_, List.getElem?_eq_getElem (by first | omega | (simp only [List.length_set]; omega))⟩
            refine vv (i := 10) (v := bxV b5) rfl rfl rfl (yb_cells (off := 0 + c * 9) (cur := cur) (cs := (bxC b5).toList) rfl (by kernel_rfl) (.head _) (RowX.get hr0 hy5) Tryd.underlying26 rfl (by kernel_rfl)) ?_
            refine vv (i := 11) (v := .int .i64 (cmpX b4 b5)) rfl rfl rfl (yb_call (f := 48) (args := #[bxV b4, bxV b5]) (fun _ => by kernel_rfl) fun W hW => compare_any b4 b5 W) ?_
            refine vp (i := 12) (v := .bool (decide ((cmpX b4 b5) < 0))) rfl rfl rfl (run_bin rfl (vx := (.int .i64 (cmpX b4 b5))) (vy := (.int .i64 0)) (by kernel_rfl) (by kernel_rfl) fun w => bi_lss rfl w) ?_
            refine vp (i := 13) (v := .bool (!(decide ((cmpX b4 b5) < 0)))) rfl rfl rfl (run_un rfl (by kernel_rfl) fun w => un_not w) ?_
            refine wpV_done (by kernel_rfl) (fun W25 hW25 => ?_) _
            refine (show Code.wp _ _ _ _ _ from ?_)
            cases hd11 : (decide ((cmpX b4 b5) < 0)) with
            | false =>
              have h11 : ¬ ((cmpX b4 b5) < 0) := of_decide_eq_false hd11
              clear hd11
              refine wp_cond_true rfl ?_
              refine wp_region_L (W0 := W0) ((g, .cells cur 26 (0, 0)) :: K) (hW25) ?_
              refine lm (v := .int .i64 ((c : Nat) : Int)) rfl rfl ?_
              refine lp (v := .int .i64 (((c + 1) : Nat) : Int)) rfl rfl (run_bin rfl (vx := (.int .i64 ((c : Nat) : Int))) (vy := (.int .i64 ((1 : Nat) : Int))) (by kernel_rfl) (by kernel_rfl) fun w => bn_add (z := (c + 1)) rfl (wr_i64 (by omega)) w) ?_
              refine lm (v := .int .i64 (((c + 1) : Nat) : Int)) rfl rfl ?_
              refine wpL_done (fun W26 hW26 => ?_)
              go_roundw
              case rel =>
                repeat apply Exists.intro
                exact ⟨⟨c + 1, r, (by omega), (.inr ⟨by omega, _, _, by rw [Nat.add_sub_cancel]; exact hy5, by rw [Nat.add_sub_cancel]; exact hy4, cmpX_no h11⟩), hhi, rfl, rfl, hW26⟩, rfl⟩
              case measure => (show ((intOf (.int .i64 ((r : Nat) : Int))).toNat - (intOf (.int .i64 (((c + 1) : Nat) : Int))).toNat) < ((intOf (.int .i64 ((r : Nat) : Int))).toNat - (intOf (.int .i64 ((s : Nat) : Int))).toNat)); simp only [intOf]; omega
            | true =>
              have h11 : (cmpX b4 b5) < 0 := of_decide_eq_true hd11
              clear hd11
              refine wp_cond_false rfl ?_
              refine wp_region_L (W0 := W0) ((g, .cells cur 26 (0, 0)) :: K) (hW25) ?_
              refine lm (v := .int .i64 ((c : Nat) : Int)) rfl rfl ?_
              refine lm (v := .int .i64 ((c : Nat) : Int)) rfl rfl ?_
              refine wpL_done (fun W27 hW27 => ?_)
              go_roundw
              case rel =>
                repeat apply Exists.intro
                exact ⟨⟨s, c, (by omega), hlo, (.inr ⟨by omega, _, _, hy5, hy4, cmpX_yes h11⟩), rfl, rfl, hW27⟩, rfl⟩
              case measure => (show ((intOf (.int .i64 ((c : Nat) : Int))).toNat - (intOf (.int .i64 ((s : Nat) : Int))).toNat) < ((intOf (.int .i64 ((r : Nat) : Int))).toNat - (intOf (.int .i64 ((s : Nat) : Int))).toNat)); simp only [intOf]; omega
    | true =>
      have h2 : (b - m) = 1 := of_decide_eq_true hd2
      clear hd2
      obtain ⟨x, rfl⟩ := one_of (show B.length = 1 by omega)
      simp only [List.length_cons, List.length_nil, Nat.zero_add] at hm hb hlens hd
      refine wp_cond_true rfl ?_
      refine wp_seq ?_
      refine wp_region_L (W0 := W0) ((g, .cells cur 26 (0, 0)) :: K) (hW2) ?_
      refine lm (v := .int .i64 ((a : Nat) : Int)) rfl rfl ?_
      refine lm (v := .int .i64 ((a : Nat) : Int)) rfl rfl ?_
      refine wpL_done (fun W28 hW28 => ?_)
      refine (show Code.wp _ _ _ _ _ from ?_)
      refine wp_seq ?_
      refine wp_region_L (W0 := W0) ((g, .cells cur 26 (0, 0)) :: K) (hW28) ?_
      refine lm (v := .int .i64 ((m : Nat) : Int)) rfl rfl ?_
      refine lm (v := .int .i64 ((m : Nat) : Int)) rfl rfl ?_
      refine wpL_done (fun W29 hW29 => ?_)
      refine (show Code.wp _ _ _ _ _ from ?_)
      refine wp_seq ?_
      refine wp_block ?_
      go_loopw [14, 15] (fun u14 u15 wr => ∃ (i j : Nat), (a ≤ i ∧ i ≤ j ∧ j ≤ m) ∧ (i = a ∨ (a < i ∧ ∃ z y, (Z1 ++ A ++ [x] ++ Z3)[i - 1]? = some z ∧ (Z1 ++ A ++ [x] ++ Z3)[m]? = some y ∧ before y z = false)) ∧ (j = m ∨ (j < m ∧ ∃ z y, (Z1 ++ A ++ [x] ++ Z3)[j]? = some z ∧ (Z1 ++ A ++ [x] ++ Z3)[m]? = some y ∧ before y z = true)) ∧ u14 = .int .i64 ((i : Nat) : Int) ∧ u15 = .int .i64 ((j : Nat) : Int) ∧ KS W0 ((g, .cells cur 26 (0, 0)) :: K) wr) (fun u14 u15 _ => ((intOf u15).toNat - (intOf u14).toNat))
      case atStart => exact ⟨a, m, (by omega), (.inl rfl), (.inl rfl), rfl, rfl, hW29⟩
      case round =>
        obtain ⟨i, j, hij, hlo, hhi, rfl, rfl, hL30⟩ := hrel
        obtain ⟨c, hc⟩ : ∃ c, (i + j) / 2 = c := ⟨_, rfl⟩
        refine wp_seq ?_
        refine wp_seq ?_
        refine wp_region_L (W0 := W0) ((g, .cells cur 26 (0, 0)) :: K) (hL30) ?_
        refine lm (v := .int .i64 ((i : Nat) : Int)) rfl rfl ?_
        refine lm (v := .int .i64 ((j : Nat) : Int)) rfl rfl ?_
        refine lp (v := .bool (decide (i < j))) rfl rfl (run_bin rfl (vx := (.int .i64 ((i : Nat) : Int))) (vy := (.int .i64 ((j : Nat) : Int))) (by kernel_rfl) (by kernel_rfl) fun w => bn_lss rfl w) ?_
        refine wpL_done (fun W31 hW31 => ?_)
        refine (show Code.wp _ _ _ _ _ from ?_)
        cases hd12 : (decide (i < j)) with
        | false =>
          have h12 : ¬ (i < j) := of_decide_eq_false hd12
          clear hd12
          refine wp_cond_false rfl ?_
          refine wp_exit ?_
          refine (show Code.wp _ _ _ _ _ from ?_)
          refine wp_seq ?_
          refine wp_seq ?_
          refine wp_region_L (W0 := W0) ((g, .cells cur 26 (0, 0)) :: K) (hW31) ?_
          refine lm (v := .int .i64 ((m : Nat) : Int)) rfl rfl ?_
          refine lm (v := .int .i64 ((m : Nat) : Int)) rfl rfl ?_
          refine wpL_done (fun W32 hW32 => ?_)
          refine (show Code.wp _ _ _ _ _ from ?_)
          refine wp_block ?_
          have hcut := last_cut (x := x) (i := i) ha hm sA (by omega) (by omega) hlo (have e : j = i := (by omega); by rw [e] at hhi; exact hhi)
          go_loopw [17] (fun u17 wr => ∃ (c1 : Nat) (cur1 : Array Value), (i ≤ c1 ∧ c1 ≤ m) ∧ (RowX cur1 (ShL Z1 A Z3 x (c1 - a))) ∧ (cur1.size = cur.size) ∧ u17 = .int .i64 ((c1 : Nat) : Int) ∧ KS W0 ((g, .cells cur1 26 (0, 0)) :: K) wr) (fun u17 _ => (intOf u17).toNat)
          case atStart => exact ⟨m, cur, (by omega), (by rw [show m - a = A.length by omega, shL_full]; exact hr0), rfl, rfl, hW32⟩
          case round =>
            obtain ⟨c1, cur1, hc1, hr1, hz, rfl, hL33⟩ := hrel
            have hl2 : (ShL Z1 A Z3 x (c1 - a)).length = n := (shL_len ..).trans hn
            refine wp_seq ?_
            refine wp_seq ?_
            refine wp_region_L (W0 := W0) ((g, .cells cur1 26 (0, 0)) :: K) (hL33) ?_
            refine lm (v := .int .i64 ((c1 : Nat) : Int)) rfl rfl ?_
            refine lm (v := .int .i64 ((i : Nat) : Int)) rfl rfl ?_
            refine lp (v := .bool (decide (i < c1))) rfl rfl (run_bin rfl (vx := (.int .i64 ((c1 : Nat) : Int))) (vy := (.int .i64 ((i : Nat) : Int))) (by kernel_rfl) (by kernel_rfl) fun w => bn_gtr rfl w) ?_
            refine wpL_done (fun W34 hW34 => ?_)
            refine (show Code.wp _ _ _ _ _ from ?_)
            cases hd13 : (decide (i < c1)) with
            | false =>
              have h13 : ¬ (i < c1) := of_decide_eq_false hd13
              clear hd13
              refine wp_cond_false rfl ?_
              refine wp_exit ?_
              refine (show Code.wp _ _ _ _ _ from ?_)
              refine wp_ret ?_
              try simp only [inBlock_ret, then_ret]
              refine bodyPost_ret (v := .tuple #[]) ?_ rfl ?_
              · kernel_rfl
              exact ⟨_, _, rfl, hW34.sub (List.forall_mem_cons.2 ⟨(.head _), fun p hp => (.tail _ hp)⟩), rfl, _, (by rw [← hcut, show i - a = c1 - a by omega]; exact hr1), hz, rfl⟩
            | true =>
              have h13 : i < c1 := of_decide_eq_true hd13
              clear hd13
              refine wp_cond_true rfl ?_
              refine wp_skip ?_
              refine (show Code.wp _ _ _ _ _ from ?_)
              refine wp_seq ?_
              refine wp_block ?_
              refine wp_region_V (W0 := W0) ((g, .cells cur1 26 (0, 0)) :: K) (by kernel_rfl) (hW34) ?_
              refine vm (i := 0) (v := .slice (some ⟨g, 0, none⟩) n cap) rfl rfl rfl ?_
              refine vm (i := 1) (v := .int .i64 ((c1 : Nat) : Int)) rfl rfl rfl ?_
              refine vm (i := 2) (v := .slice (some ⟨g, 0, none⟩) n cap) rfl rfl rfl ?_
              refine vm (i := 3) (v := .int .i64 ((c1 : Nat) : Int)) rfl rfl rfl ?_
              refine vp (i := 4) (v := .int .i64 (((c1 - 1) : Nat) : Int)) rfl rfl rfl (run_bin rfl (vx := (.int .i64 ((c1 : Nat) : Int))) (vy := (.int .i64 ((1 : Nat) : Int))) (by kernel_rfl) (by kernel_rfl) fun w => bn_sub (z := (c1 - 1)) rfl (by omega) (wr_i64 (by omega)) w) ?_
              refine vm (i := 5) (v := .slice (some ⟨g, 0, none⟩) n cap) rfl rfl rfl ?_
              refine vm (i := 6) (v := .int .i64 ((c1 : Nat) : Int)) rfl rfl rfl ?_
              refine vp (i := 7) (v := .int .i64 (((c1 - 1) : Nat) : Int)) rfl rfl rfl (run_bin rfl (vx := (.int .i64 ((c1 : Nat) : Int))) (vy := (.int .i64 ((1 : Nat) : Int))) (by kernel_rfl) (by kernel_rfl) fun w => bn_sub (z := (c1 - 1)) rfl (by omega) (wr_i64 (by omega)) w) ?_
              refine vp (i := 8) (v := .pointer (some ⟨g, 0 + (c1 - 1) * 9, none⟩)) rfl rfl rfl (run_idxL (j := .i64) (n := n) (cap := cap) (b := g) (off := 0) (k := (c1 - 1)) (sz := 9) rfl Tryd.underlying22 (by kernel_rfl) (by kernel_rfl) (by kernel_rfl) (by omega)) ?_
              obtain ⟨b6, hy6⟩ : ∃ bz, ((ShL Z1 A Z3 x (c1 - a)) : List Bx)[(c1 - 1)]? = some bz := ⟨_, List.getElem?_eq_getElem (by first | omega | (simp only [List.length_set]; omega))⟩
              refine vv (i := 9) (v := bxV b6) rfl rfl rfl (yb_cells (off := 0 + (c1 - 1) * 9) (cur := cur1) (cs := (bxC b6).toList) rfl (by kernel_rfl) (.head _) (RowX.get hr1 hy6) Tryd.underlying26 rfl (by kernel_rfl)) ?_
              refine vm (i := 10) (v := .slice (some ⟨g, 0, none⟩) n cap) rfl rfl rfl ?_
              refine vm (i := 11) (v := .int .i64 ((c1 : Nat) : Int)) rfl rfl rfl ?_
              refine vp (i := 12) (v := .pointer (some ⟨g, 0 + c1 * 9, none⟩)) rfl rfl rfl (run_idxL (j := .i64) (n := n) (cap := cap) (b := g) (off := 0) (k := c1) (sz := 9) rfl Tryd.underlying22 (by kernel_rfl) (by kernel_rfl) (by kernel_rfl) (by omega)) ?_
              obtain ⟨b7, hy7⟩ : ∃ bz, ((ShL Z1 A Z3 x (c1 - a)) : List Bx)[c1]? = some bz := ⟨_, List.getElem?_eq_getElem (by first | omega | (simp only [List.length_set]; omega))⟩
              refine vv (i := 13) (v := bxV b7) rfl rfl rfl (yb_cells (off := 0 + c1 * 9) (cur := cur1) (cs := (bxC b7).toList) rfl (by kernel_rfl) (.head _) (RowX.get hr1 hy7) Tryd.underlying26 rfl (by kernel_rfl)) ?_
              refine vp (i := 14) (v := .pointer (some ⟨g, 0 + c1 * 9, none⟩)) rfl rfl rfl (run_idxL (j := .i64) (n := n) (cap := cap) (b := g) (off := 0) (k := c1) (sz := 9) rfl Tryd.underlying22 (by kernel_rfl) (by kernel_rfl) (by kernel_rfl) (by omega)) ?_
              have R8 := RowX.put (b := b6) hr1 (show c1 < (ShL Z1 A Z3 x (c1 - a)).length by first | omega | (simp only [List.length_set]; omega))
              have Q8 := put_size (b := b6) hr1 (show c1 < (ShL Z1 A Z3 x (c1 - a)).length by first | omega | (simp only [List.length_set]; omega))
              refine wpV_s ((g, .cells (putR cur1 c1 b6) 26 (0, 0)) :: K) (i := 15) rfl (by kernel_rfl) rfl rfl rfl (st_rec (k := c1) (b := b6) rfl (by kernel_rfl) (by kernel_rfl) (.head _) hB (by kernel_rfl) hr1 (by first | omega | (simp only [List.length_set]; omega)) (List.forall_mem_cons.2 ⟨.inl rfl, (fun p hp => .inr ⟨(.tail _ hp), (hg _ hp)⟩)⟩)) ?_
              refine vp (i := 16) (v := .pointer (some ⟨g, 0 + (c1 - 1) * 9, none⟩)) rfl rfl rfl (run_idxL (j := .i64) (n := n) (cap := cap) (b := g) (off := 0) (k := (c1 - 1)) (sz := 9) rfl Tryd.underlying22 (by kernel_rfl) (by kernel_rfl) (by kernel_rfl) (by omega)) ?_
              have R9 := RowX.put (b := b7) R8 (show (c1 - 1) < ((ShL Z1 A Z3 x (c1 - a)).set c1 b6).length by first | omega | (simp only [List.length_set]; omega))
              have Q9 := put_size (b := b7) R8 (show (c1 - 1) < ((ShL Z1 A Z3 x (c1 - a)).set c1 b6).length by first | omega | (simp only [List.length_set]; omega))
              refine wpV_s ((g, .cells (putR (putR cur1 c1 b6) (c1 - 1) b7) 26 (0, 0)) :: K) (i := 17) rfl (by kernel_rfl) rfl rfl rfl (st_rec (k := (c1 - 1)) (b := b7) rfl (by kernel_rfl) (by kernel_rfl) (.head _) hB (by kernel_rfl) R8 (by first | omega | (simp only [List.length_set]; omega)) (List.forall_mem_cons.2 ⟨.inl rfl, (fun p hp => .inr ⟨(.tail _ hp), (hg _ hp)⟩)⟩)) ?_
              refine wpV_done (by kernel_rfl) (fun W35 hW35 => ?_) _
              refine (show Code.wp _ _ _ _ _ from ?_)
              refine wp_region_L (W0 := W0) ((g, .cells (putR (putR cur1 c1 b6) (c1 - 1) b7) 26 (0, 0)) :: K) (hW35) ?_
              refine lm (v := .int .i64 ((c1 : Nat) : Int)) rfl rfl ?_
              refine lp (v := .int .i64 (((c1 - 1) : Nat) : Int)) rfl rfl (run_bin rfl (vx := (.int .i64 ((c1 : Nat) : Int))) (vy := (.int .i64 ((1 : Nat) : Int))) (by kernel_rfl) (by kernel_rfl) fun w => bn_sub (z := (c1 - 1)) rfl (by omega) (wr_i64 (by omega)) w) ?_
              refine lm (v := .int .i64 (((c1 - 1) : Nat) : Int)) rfl rfl ?_
              refine wpL_done (fun W36 hW36 => ?_)
              have hstep := shL_step (k := c1 - a) (c := c1) (by omega) (by omega) (by omega) hy7 hy6
              go_roundw
              case rel =>
                repeat apply Exists.intro
                exact ⟨⟨c1 - 1, (putR (putR cur1 c1 b6) (c1 - 1) b7), (by omega), (by have h := R9; rw [hstep, show c1 - a - 1 = c1 - 1 - a by omega] at h; exact h), (by omega), rfl, hW36⟩, rfl⟩
              case measure => (show (intOf (.int .i64 (((c1 - 1) : Nat) : Int))).toNat < (intOf (.int .i64 ((c1 : Nat) : Int))).toNat); simp only [intOf]; omega
        | true =>
          have h12 : i < j := of_decide_eq_true hd12
          clear hd12
          refine wp_cond_true rfl ?_
          refine wp_skip ?_
          refine (show Code.wp _ _ _ _ _ from ?_)
          refine wp_block ?_
          refine wp_seq ?_
          refine wp_region_L (W0 := W0) ((g, .cells cur 26 (0, 0)) :: K) (hW31) ?_
          refine lm (v := .int .i64 ((i : Nat) : Int)) rfl rfl ?_
          refine lm (v := .int .i64 ((j : Nat) : Int)) rfl rfl ?_
          refine lp (v := .int .i64 (((i + j) : Nat) : Int)) rfl rfl (run_bin rfl (vx := (.int .i64 ((i : Nat) : Int))) (vy := (.int .i64 ((j : Nat) : Int))) (by kernel_rfl) (by kernel_rfl) fun w => bn_add (z := (i + j)) rfl (wr_i64 (by omega)) w) ?_
          refine lp (v := .int .u64 (((i + j) : Nat) : Int)) rfl rfl (run_conv rfl (vx := (.int .i64 (((i + j) : Nat) : Int))) (by kernel_rfl) fun w => cv_int Tryd.underlying3 Tryd.underlying106 (wr_u64 (by omega)) w) ?_
          refine lp (v := .int .u64 ((c : Nat) : Int)) rfl rfl (run_bin rfl (vx := (.int .u64 (((i + j) : Nat) : Int))) (vy := (.int .u64 ((1 : Nat) : Int))) (by kernel_rfl) (by kernel_rfl) fun w => bn_shr (z := c) (show (i + j) / 2 ^ 1 = c by omega) (by first | omega | decide | (simp only [IntKind.bits]; omega)) w) ?_
          refine lp (v := .int .i64 ((c : Nat) : Int)) rfl rfl (run_conv rfl (vx := (.int .u64 ((c : Nat) : Int))) (by kernel_rfl) fun w => cv_int Tryd.underlying106 Tryd.underlying3 (wr_i64 (by omega)) w) ?_
          refine lm (v := .int .i64 ((c : Nat) : Int)) rfl rfl ?_
          refine wpL_done (fun W37 hW37 => ?_)
          refine (show Code.wp _ _ _ _ _ from ?_)
          refine wp_seq ?_
          refine wp_region_V (W0 := W0) ((g, .cells cur 26 (0, 0)) :: K) (by kernel_rfl) (hW37) ?_
          refine vm (i := 0) (v := .func (.func 48) #[] #[]) rfl rfl rfl ?_
          refine vm (i := 1) (v := .slice (some ⟨g, 0, none⟩) n cap) rfl rfl rfl ?_
          refine vm (i := 2) (v := .int .i64 ((m : Nat) : Int)) rfl rfl rfl ?_
          refine vp (i := 3) (v := .pointer (some ⟨g, 0 + m * 9, none⟩)) rfl rfl rfl (run_idxL (j := .i64) (n := n) (cap := cap) (b := g) (off := 0) (k := m) (sz := 9) rfl Tryd.underlying22 (by kernel_rfl) (by kernel_rfl) (by kernel_rfl) (by omega)) ?_
          obtain ⟨b10, hy10⟩ : ∃ bz, ((Z1 ++ A ++ [x] ++ Z3) : List Bx)[m]? = some bz := ⟨_, List.getElem?_eq_getElem (by first | omega | (simp only [List.length_set]; omega))⟩
          refine vv (i := 4) (v := bxV b10) rfl rfl rfl (yb_cells (off := 0 + m * 9) (cur := cur) (cs := (bxC b10).toList) rfl (by kernel_rfl) (.head _) (RowX.get hr0 hy10) Tryd.underlying26 rfl (by kernel_rfl)) ?_
          refine vm (i := 5) (v := .slice (some ⟨g, 0, none⟩) n cap) rfl rfl rfl ?_
          refine vm (i := 6) (v := .int .i64 ((c : Nat) : Int)) rfl rfl rfl ?_
          refine vp (i := 7) (v := .pointer (some ⟨g, 0 + c * 9, none⟩)) rfl rfl rfl (run_idxL (j := .i64) (n := n) (cap := cap) (b := g) (off := 0) (k := c) (sz := 9) rfl Tryd.underlying22 (by kernel_rfl) (by kernel_rfl) (by kernel_rfl) (by omega)) ?_
          obtain ⟨b11, hy11⟩ : ∃ bz, ((Z1 ++ A ++ [x] ++ Z3) : List Bx)[c]? = some bz := ⟨_, List.getElem?_eq_getElem (by first | omega | (simp only [List.length_set]; omega))⟩
          refine vv (i := 8) (v := bxV b11) rfl rfl rfl (yb_cells (off := 0 + c * 9) (cur := cur) (cs := (bxC b11).toList) rfl (by kernel_rfl) (.head _) (RowX.get hr0 hy11) Tryd.underlying26 rfl (by kernel_rfl)) ?_
          refine vv (i := 9) (v := .int .i64 (cmpX b10 b11)) rfl rfl rfl (yb_call (f := 48) (args := #[bxV b10, bxV b11]) (fun _ => by kernel_rfl) fun W hW => compare_any b10 b11 W) ?_
          refine vp (i := 10) (v := .bool (decide ((cmpX b10 b11) < 0))) rfl rfl rfl (run_bin rfl (vx := (.int .i64 (cmpX b10 b11))) (vy := (.int .i64 0)) (by kernel_rfl) (by kernel_rfl) fun w => bi_lss rfl w) ?_
          refine vp (i := 11) (v := .bool (!(decide ((cmpX b10 b11) < 0)))) rfl rfl rfl (run_un rfl (by kernel_rfl) fun w => un_not w) ?_
          refine wpV_done (by kernel_rfl) (fun W38 hW38 => ?_) _
          refine (show Code.wp _ _ _ _ _ from ?_)
          cases hd14 : (decide ((cmpX b10 b11) < 0)) with
          | false =>
            have h14 : ¬ ((cmpX b10 b11) < 0) := of_decide_eq_false hd14
            clear hd14
            refine wp_cond_true rfl ?_
            refine wp_region_L (W0 := W0) ((g, .cells cur 26 (0, 0)) :: K) (hW38) ?_
            refine lm (v := .int .i64 ((c : Nat) : Int)) rfl rfl ?_
            refine lp (v := .int .i64 (((c + 1) : Nat) : Int)) rfl rfl (run_bin rfl (vx := (.int .i64 ((c : Nat) : Int))) (vy := (.int .i64 ((1 : Nat) : Int))) (by kernel_rfl) (by kernel_rfl) fun w => bn_add (z := (c + 1)) rfl (wr_i64 (by omega)) w) ?_
            refine lm (v := .int .i64 (((c + 1) : Nat) : Int)) rfl rfl ?_
            refine wpL_done (fun W39 hW39 => ?_)
            go_roundw
            case rel =>
              repeat apply Exists.intro
              exact ⟨⟨c + 1, j, (by omega), (.inr ⟨by omega, _, _, by rw [Nat.add_sub_cancel]; exact hy11, hy10, cmpX_no h14⟩), hhi, rfl, rfl, hW39⟩, rfl⟩
            case measure => (show ((intOf (.int .i64 ((j : Nat) : Int))).toNat - (intOf (.int .i64 (((c + 1) : Nat) : Int))).toNat) < ((intOf (.int .i64 ((j : Nat) : Int))).toNat - (intOf (.int .i64 ((i : Nat) : Int))).toNat)); simp only [intOf]; omega
          | true =>
            have h14 : (cmpX b10 b11) < 0 := of_decide_eq_true hd14
            clear hd14
            refine wp_cond_false rfl ?_
            refine wp_region_L (W0 := W0) ((g, .cells cur 26 (0, 0)) :: K) (hW38) ?_
            refine lm (v := .int .i64 ((c : Nat) : Int)) rfl rfl ?_
            refine lm (v := .int .i64 ((c : Nat) : Int)) rfl rfl ?_
            refine wpL_done (fun W40 hW40 => ?_)
            go_roundw
            case rel =>
              repeat apply Exists.intro
              exact ⟨⟨i, c, (by omega), hlo, (.inr ⟨by omega, _, _, hy11, hy10, cmpX_yes h14⟩), rfl, rfl, hW40⟩, rfl⟩
            case measure => (show ((intOf (.int .i64 ((c : Nat) : Int))).toNat - (intOf (.int .i64 ((i : Nat) : Int))).toNat) < ((intOf (.int .i64 ((j : Nat) : Int))).toNat - (intOf (.int .i64 ((i : Nat) : Int))).toNat)); simp only [intOf]; omega
  | true =>
    have h1 : (m - a) = 1 := of_decide_eq_true hd1
    clear hd1
    obtain ⟨x, rfl⟩ := one_of (show A.length = 1 by omega)
    simp only [List.length_cons, List.length_nil, Nat.zero_add] at hm hb hlens hd
    refine wp_cond_true rfl ?_
    refine wp_seq ?_
    refine wp_region_L (W0 := W0) ((g, .cells cur 26 (0, 0)) :: K) (hW1) ?_
    refine lm (v := .int .i64 ((m : Nat) : Int)) rfl rfl ?_
    refine lm (v := .int .i64 ((m : Nat) : Int)) rfl rfl ?_
    refine wpL_done (fun W41 hW41 => ?_)
    refine (show Code.wp _ _ _ _ _ from ?_)
    refine wp_seq ?_
    refine wp_region_L (W0 := W0) ((g, .cells cur 26 (0, 0)) :: K) (hW41) ?_
    refine lm (v := .int .i64 ((b : Nat) : Int)) rfl rfl ?_
    refine lm (v := .int .i64 ((b : Nat) : Int)) rfl rfl ?_
    refine wpL_done (fun W42 hW42 => ?_)
    refine (show Code.wp _ _ _ _ _ from ?_)
    refine wp_seq ?_
    refine wp_block ?_
    go_loopw [10, 11] (fun u10 u11 wr => ∃ (i j : Nat), (m ≤ i ∧ i ≤ j ∧ j ≤ b) ∧ (i = m ∨ (m < i ∧ ∃ z y, (Z1 ++ [x] ++ B ++ Z3)[a]? = some z ∧ (Z1 ++ [x] ++ B ++ Z3)[i - 1]? = some y ∧ before y z = true)) ∧ (j = b ∨ (j < b ∧ ∃ z y, (Z1 ++ [x] ++ B ++ Z3)[a]? = some z ∧ (Z1 ++ [x] ++ B ++ Z3)[j]? = some y ∧ before y z = false)) ∧ u10 = .int .i64 ((i : Nat) : Int) ∧ u11 = .int .i64 ((j : Nat) : Int) ∧ KS W0 ((g, .cells cur 26 (0, 0)) :: K) wr) (fun u10 u11 _ => ((intOf u11).toNat - (intOf u10).toNat))
    case atStart => exact ⟨m, b, (by omega), (.inl rfl), (.inl rfl), rfl, rfl, hW42⟩
    case round =>
      obtain ⟨i, j, hij, hlo, hhi, rfl, rfl, hL43⟩ := hrel
      obtain ⟨c, hc⟩ : ∃ c, (i + j) / 2 = c := ⟨_, rfl⟩
      refine wp_seq ?_
      refine wp_seq ?_
      refine wp_region_L (W0 := W0) ((g, .cells cur 26 (0, 0)) :: K) (hL43) ?_
      refine lm (v := .int .i64 ((i : Nat) : Int)) rfl rfl ?_
      refine lm (v := .int .i64 ((j : Nat) : Int)) rfl rfl ?_
      refine lp (v := .bool (decide (i < j))) rfl rfl (run_bin rfl (vx := (.int .i64 ((i : Nat) : Int))) (vy := (.int .i64 ((j : Nat) : Int))) (by kernel_rfl) (by kernel_rfl) fun w => bn_lss rfl w) ?_
      refine wpL_done (fun W44 hW44 => ?_)
      refine (show Code.wp _ _ _ _ _ from ?_)
      cases hd15 : (decide (i < j)) with
      | false =>
        have h15 : ¬ (i < j) := of_decide_eq_false hd15
        clear hd15
        refine wp_cond_false rfl ?_
        refine wp_exit ?_
        refine (show Code.wp _ _ _ _ _ from ?_)
        refine wp_seq ?_
        refine wp_seq ?_
        refine wp_region_L (W0 := W0) ((g, .cells cur 26 (0, 0)) :: K) (hW44) ?_
        refine lm (v := .int .i64 ((a : Nat) : Int)) rfl rfl ?_
        refine lm (v := .int .i64 ((a : Nat) : Int)) rfl rfl ?_
        refine wpL_done (fun W45 hW45 => ?_)
        refine (show Code.wp _ _ _ _ _ from ?_)
        refine wp_block ?_
        have hcut := one_cut (x := x) (i := i) ha hm hb sB (by omega) (by omega) hlo (have e : j = i := (by omega); by rw [e] at hhi; exact hhi)
        go_loopw [13] (fun u13 wr => ∃ (c1 : Nat) (cur1 : Array Value), (a ≤ c1 ∧ c1 + 1 ≤ i) ∧ (RowX cur1 (ShR Z1 B Z3 x (c1 - a))) ∧ (cur1.size = cur.size) ∧ u13 = .int .i64 ((c1 : Nat) : Int) ∧ KS W0 ((g, .cells cur1 26 (0, 0)) :: K) wr) (fun u13 _ => i - (intOf u13).toNat)
        case atStart => exact ⟨a, cur, (by omega), (by rw [Nat.sub_self, shR_zero]; exact hr0), rfl, rfl, hW45⟩
        case round =>
          obtain ⟨c1, cur1, hc1, hr1, hz, rfl, hL46⟩ := hrel
          have hl2 : (ShR Z1 B Z3 x (c1 - a)).length = n := (shR_len ..).trans hn
          refine wp_seq ?_
          refine wp_seq ?_
          refine wp_region_L (W0 := W0) ((g, .cells cur1 26 (0, 0)) :: K) (hL46) ?_
          refine lm (v := .int .i64 ((c1 : Nat) : Int)) rfl rfl ?_
          refine lm (v := .int .i64 ((i : Nat) : Int)) rfl rfl ?_
          refine lp (v := .int .i64 (((i - 1) : Nat) : Int)) rfl rfl (run_bin rfl (vx := (.int .i64 ((i : Nat) : Int))) (vy := (.int .i64 ((1 : Nat) : Int))) (by kernel_rfl) (by kernel_rfl) fun w => bn_sub (z := (i - 1)) rfl (by omega) (wr_i64 (by omega)) w) ?_
          refine lp (v := .bool (decide (c1 < (i - 1)))) rfl rfl (run_bin rfl (vx := (.int .i64 ((c1 : Nat) : Int))) (vy := (.int .i64 (((i - 1) : Nat) : Int))) (by kernel_rfl) (by kernel_rfl) fun w => bn_lss rfl w) ?_
          refine wpL_done (fun W47 hW47 => ?_)
          refine (show Code.wp _ _ _ _ _ from ?_)
          cases hd16 : (decide (c1 < (i - 1))) with
          | false =>
            have h16 : ¬ (c1 < (i - 1)) := of_decide_eq_false hd16
            clear hd16
            refine wp_cond_false rfl ?_
            refine wp_exit ?_
            refine (show Code.wp _ _ _ _ _ from ?_)
            refine wp_ret ?_
            try simp only [inBlock_ret, then_ret]
            refine bodyPost_ret (v := .tuple #[]) ?_ rfl ?_
            · kernel_rfl
            exact ⟨_, _, rfl, hW47.sub (List.forall_mem_cons.2 ⟨(.head _), fun p hp => (.tail _ hp)⟩), rfl, _, (by rw [← hcut, show i - m = c1 - a by omega]; exact hr1), hz, rfl⟩
          | true =>
            have h16 : c1 < (i - 1) := of_decide_eq_true hd16
            clear hd16
            refine wp_cond_true rfl ?_
            refine wp_skip ?_
            refine (show Code.wp _ _ _ _ _ from ?_)
            refine wp_seq ?_
            refine wp_block ?_
            refine wp_region_V (W0 := W0) ((g, .cells cur1 26 (0, 0)) :: K) (by kernel_rfl) (hW47) ?_
            refine vm (i := 0) (v := .slice (some ⟨g, 0, none⟩) n cap) rfl rfl rfl ?_
            refine vm (i := 1) (v := .int .i64 ((c1 : Nat) : Int)) rfl rfl rfl ?_
            refine vm (i := 2) (v := .slice (some ⟨g, 0, none⟩) n cap) rfl rfl rfl ?_
            refine vm (i := 3) (v := .int .i64 ((c1 : Nat) : Int)) rfl rfl rfl ?_
            refine vp (i := 4) (v := .int .i64 (((c1 + 1) : Nat) : Int)) rfl rfl rfl (run_bin rfl (vx := (.int .i64 ((c1 : Nat) : Int))) (vy := (.int .i64 ((1 : Nat) : Int))) (by kernel_rfl) (by kernel_rfl) fun w => bn_add (z := (c1 + 1)) rfl (wr_i64 (by omega)) w) ?_
            refine vm (i := 5) (v := .slice (some ⟨g, 0, none⟩) n cap) rfl rfl rfl ?_
            refine vm (i := 6) (v := .int .i64 ((c1 : Nat) : Int)) rfl rfl rfl ?_
            refine vp (i := 7) (v := .int .i64 (((c1 + 1) : Nat) : Int)) rfl rfl rfl (run_bin rfl (vx := (.int .i64 ((c1 : Nat) : Int))) (vy := (.int .i64 ((1 : Nat) : Int))) (by kernel_rfl) (by kernel_rfl) fun w => bn_add (z := (c1 + 1)) rfl (wr_i64 (by omega)) w) ?_
            refine vp (i := 8) (v := .pointer (some ⟨g, 0 + (c1 + 1) * 9, none⟩)) rfl rfl rfl (run_idxL (j := .i64) (n := n) (cap := cap) (b := g) (off := 0) (k := (c1 + 1)) (sz := 9) rfl Tryd.underlying22 (by kernel_rfl) (by kernel_rfl) (by kernel_rfl) (by omega)) ?_
            obtain ⟨b12, hy12⟩ : ∃ bz, ((ShR Z1 B Z3 x (c1 - a)) : List Bx)[(c1 + 1)]? = some bz := ⟨_, List.getElem?_eq_getElem (by first | omega | (simp only [List.length_set]; omega))⟩
            refine vv (i := 9) (v := bxV b12) rfl rfl rfl (yb_cells (off := 0 + (c1 + 1) * 9) (cur := cur1) (cs := (bxC b12).toList) rfl (by kernel_rfl) (.head _) (RowX.get hr1 hy12) Tryd.underlying26 rfl (by kernel_rfl)) ?_
            refine vm (i := 10) (v := .slice (some ⟨g, 0, none⟩) n cap) rfl rfl rfl ?_
            refine vm (i := 11) (v := .int .i64 ((c1 : Nat) : Int)) rfl rfl rfl ?_
            refine vp (i := 12) (v := .pointer (some ⟨g, 0 + c1 * 9, none⟩)) rfl rfl rfl (run_idxL (j := .i64) (n := n) (cap := cap) (b := g) (off := 0) (k := c1) (sz := 9) rfl Tryd.underlying22 (by kernel_rfl) (by kernel_rfl) (by kernel_rfl) (by omega)) ?_
            obtain ⟨b13, hy13⟩ : ∃ bz, ((ShR Z1 B Z3 x (c1 - a)) : List Bx)[c1]? = some bz := ⟨_, List.getElem?_eq_getElem (by first | omega | (simp only [List.length_set]; omega))⟩
            refine vv (i := 13) (v := bxV b13) rfl rfl rfl (yb_cells (off := 0 + c1 * 9) (cur := cur1) (cs := (bxC b13).toList) rfl (by kernel_rfl) (.head _) (RowX.get hr1 hy13) Tryd.underlying26 rfl (by kernel_rfl)) ?_
            refine vp (i := 14) (v := .pointer (some ⟨g, 0 + c1 * 9, none⟩)) rfl rfl rfl (run_idxL (j := .i64) (n := n) (cap := cap) (b := g) (off := 0) (k := c1) (sz := 9) rfl Tryd.underlying22 (by kernel_rfl) (by kernel_rfl) (by kernel_rfl) (by omega)) ?_
            have R14 := RowX.put (b := b12) hr1 (show c1 < (ShR Z1 B Z3 x (c1 - a)).length by first | omega | (simp only [List.length_set]; omega))
            have Q14 := put_size (b := b12) hr1 (show c1 < (ShR Z1 B Z3 x (c1 - a)).length by first | omega | (simp only [List.length_set]; omega))
            refine wpV_s ((g, .cells (putR cur1 c1 b12) 26 (0, 0)) :: K) (i := 15) rfl (by kernel_rfl) rfl rfl rfl (st_rec (k := c1) (b := b12) rfl (by kernel_rfl) (by kernel_rfl) (.head _) hB (by kernel_rfl) hr1 (by first | omega | (simp only [List.length_set]; omega)) (List.forall_mem_cons.2 ⟨.inl rfl, (fun p hp => .inr ⟨(.tail _ hp), (hg _ hp)⟩)⟩)) ?_
            refine vp (i := 16) (v := .pointer (some ⟨g, 0 + (c1 + 1) * 9, none⟩)) rfl rfl rfl (run_idxL (j := .i64) (n := n) (cap := cap) (b := g) (off := 0) (k := (c1 + 1)) (sz := 9) rfl Tryd.underlying22 (by kernel_rfl) (by kernel_rfl) (by kernel_rfl) (by omega)) ?_
            have R15 := RowX.put (b := b13) R14 (show (c1 + 1) < ((ShR Z1 B Z3 x (c1 - a)).set c1 b12).length by first | omega | (simp only [List.length_set]; omega))
            have Q15 := put_size (b := b13) R14 (show (c1 + 1) < ((ShR Z1 B Z3 x (c1 - a)).set c1 b12).length by first | omega | (simp only [List.length_set]; omega))
            refine wpV_s ((g, .cells (putR (putR cur1 c1 b12) (c1 + 1) b13) 26 (0, 0)) :: K) (i := 17) rfl (by kernel_rfl) rfl rfl rfl (st_rec (k := (c1 + 1)) (b := b13) rfl (by kernel_rfl) (by kernel_rfl) (.head _) hB (by kernel_rfl) R14 (by first | omega | (simp only [List.length_set]; omega)) (List.forall_mem_cons.2 ⟨.inl rfl, (fun p hp => .inr ⟨(.tail _ hp), (hg _ hp)⟩)⟩)) ?_
            refine wpV_done (by kernel_rfl) (fun W48 hW48 => ?_) _
            refine (show Code.wp _ _ _ _ _ from ?_)
            refine wp_region_L (W0 := W0) ((g, .cells (putR (putR cur1 c1 b12) (c1 + 1) b13) 26 (0, 0)) :: K) (hW48) ?_
            refine lm (v := .int .i64 ((c1 : Nat) : Int)) rfl rfl ?_
            refine lp (v := .int .i64 (((c1 + 1) : Nat) : Int)) rfl rfl (run_bin rfl (vx := (.int .i64 ((c1 : Nat) : Int))) (vy := (.int .i64 ((1 : Nat) : Int))) (by kernel_rfl) (by kernel_rfl) fun w => bn_add (z := (c1 + 1)) rfl (wr_i64 (by omega)) w) ?_
            refine lm (v := .int .i64 (((c1 + 1) : Nat) : Int)) rfl rfl ?_
            refine wpL_done (fun W49 hW49 => ?_)
            have hstep := shR_step (k := c1 - a) (c := c1) (by omega) (by omega) hy13 hy12
            go_roundw
            case rel =>
              repeat apply Exists.intro
              exact ⟨⟨c1 + 1, (putR (putR cur1 c1 b12) (c1 + 1) b13), (by omega), (by have h := R15; rw [hstep, show c1 - a + 1 = c1 + 1 - a by omega] at h; exact h), (by omega), rfl, hW49⟩, rfl⟩
            case measure => (show i - (intOf (.int .i64 (((c1 + 1) : Nat) : Int))).toNat < i - (intOf (.int .i64 ((c1 : Nat) : Int))).toNat); simp only [intOf]; omega
      | true =>
        have h15 : i < j := of_decide_eq_true hd15
        clear hd15
        refine wp_cond_true rfl ?_
        refine wp_skip ?_
        refine (show Code.wp _ _ _ _ _ from ?_)
        refine wp_block ?_
        refine wp_seq ?_
        refine wp_region_L (W0 := W0) ((g, .cells cur 26 (0, 0)) :: K) (hW44) ?_
        refine lm (v := .int .i64 ((i : Nat) : Int)) rfl rfl ?_
        refine lm (v := .int .i64 ((j : Nat) : Int)) rfl rfl ?_
        refine lp (v := .int .i64 (((i + j) : Nat) : Int)) rfl rfl (run_bin rfl (vx := (.int .i64 ((i : Nat) : Int))) (vy := (.int .i64 ((j : Nat) : Int))) (by kernel_rfl) (by kernel_rfl) fun w => bn_add (z := (i + j)) rfl (wr_i64 (by omega)) w) ?_
        refine lp (v := .int .u64 (((i + j) : Nat) : Int)) rfl rfl (run_conv rfl (vx := (.int .i64 (((i + j) : Nat) : Int))) (by kernel_rfl) fun w => cv_int Tryd.underlying3 Tryd.underlying106 (wr_u64 (by omega)) w) ?_
        refine lp (v := .int .u64 ((c : Nat) : Int)) rfl rfl (run_bin rfl (vx := (.int .u64 (((i + j) : Nat) : Int))) (vy := (.int .u64 ((1 : Nat) : Int))) (by kernel_rfl) (by kernel_rfl) fun w => bn_shr (z := c) (show (i + j) / 2 ^ 1 = c by omega) (by first | omega | decide | (simp only [IntKind.bits]; omega)) w) ?_
        refine lp (v := .int .i64 ((c : Nat) : Int)) rfl rfl (run_conv rfl (vx := (.int .u64 ((c : Nat) : Int))) (by kernel_rfl) fun w => cv_int Tryd.underlying106 Tryd.underlying3 (wr_i64 (by omega)) w) ?_
        refine lm (v := .int .i64 ((c : Nat) : Int)) rfl rfl ?_
        refine wpL_done (fun W50 hW50 => ?_)
        refine (show Code.wp _ _ _ _ _ from ?_)
        refine wp_seq ?_
        refine wp_region_V (W0 := W0) ((g, .cells cur 26 (0, 0)) :: K) (by kernel_rfl) (hW50) ?_
        refine vm (i := 0) (v := .func (.func 48) #[] #[]) rfl rfl rfl ?_
        refine vm (i := 1) (v := .slice (some ⟨g, 0, none⟩) n cap) rfl rfl rfl ?_
        refine vm (i := 2) (v := .int .i64 ((c : Nat) : Int)) rfl rfl rfl ?_
        refine vp (i := 3) (v := .pointer (some ⟨g, 0 + c * 9, none⟩)) rfl rfl rfl (run_idxL (j := .i64) (n := n) (cap := cap) (b := g) (off := 0) (k := c) (sz := 9) rfl Tryd.underlying22 (by kernel_rfl) (by kernel_rfl) (by kernel_rfl) (by omega)) ?_
        obtain ⟨b16, hy16⟩ : ∃ bz, ((Z1 ++ [x] ++ B ++ Z3) : List Bx)[c]? = some bz := ⟨_, List.getElem?_eq_getElem (by first | omega | (simp only [List.length_set]; omega))⟩
        refine vv (i := 4) (v := bxV b16) rfl rfl rfl (yb_cells (off := 0 + c * 9) (cur := cur) (cs := (bxC b16).toList) rfl (by kernel_rfl) (.head _) (RowX.get hr0 hy16) Tryd.underlying26 rfl (by kernel_rfl)) ?_
        refine vm (i := 5) (v := .slice (some ⟨g, 0, none⟩) n cap) rfl rfl rfl ?_
        refine vm (i := 6) (v := .int .i64 ((a : Nat) : Int)) rfl rfl rfl ?_
        refine vp (i := 7) (v := .pointer (some ⟨g, 0 + a * 9, none⟩)) rfl rfl rfl (run_idxL (j := .i64) (n := n) (cap := cap) (b := g) (off := 0) (k := a) (sz := 9) rfl Tryd.underlying22 (by kernel_rfl) (by kernel_rfl) (by kernel_rfl) (by omega)) ?_
        obtain ⟨b17, hy17⟩ : ∃ bz, ((Z1 ++ [x] ++ B ++ Z3) : List Bx)[a]? = some bz := ⟨_, List.getElem?_eq_getElem (by first | omega | (simp only [List.length_set]; omega))⟩
        refine vv (i := 8) (v := bxV b17) rfl rfl rfl (yb_cells (off := 0 + a * 9) (cur := cur) (cs := (bxC b17).toList) rfl (by kernel_rfl) (.head _) (RowX.get hr0 hy17) Tryd.underlying26 rfl (by kernel_rfl)) ?_
        refine vv (i := 9) (v := .int .i64 (cmpX b16 b17)) rfl rfl rfl (yb_call (f := 48) (args := #[bxV b16, bxV b17]) (fun _ => by kernel_rfl) fun W hW => compare_any b16 b17 W) ?_
        refine vp (i := 10) (v := .bool (decide ((cmpX b16 b17) < 0))) rfl rfl rfl (run_bin rfl (vx := (.int .i64 (cmpX b16 b17))) (vy := (.int .i64 0)) (by kernel_rfl) (by kernel_rfl) fun w => bi_lss rfl w) ?_
        refine wpV_done (by kernel_rfl) (fun W51 hW51 => ?_) _
        refine (show Code.wp _ _ _ _ _ from ?_)
        cases hd17 : (decide ((cmpX b16 b17) < 0)) with
        | false =>
          have h17 : ¬ ((cmpX b16 b17) < 0) := of_decide_eq_false hd17
          clear hd17
          refine wp_cond_false rfl ?_
          refine wp_region_L (W0 := W0) ((g, .cells cur 26 (0, 0)) :: K) (hW51) ?_
          refine lm (v := .int .i64 ((c : Nat) : Int)) rfl rfl ?_
          refine lm (v := .int .i64 ((c : Nat) : Int)) rfl rfl ?_
          refine wpL_done (fun W52 hW52 => ?_)
          go_roundw
          case rel =>
            repeat apply Exists.intro
            exact ⟨⟨i, c, (by omega), hlo, (.inr ⟨by omega, _, _, hy17, hy16, cmpX_no h17⟩), rfl, rfl, hW52⟩, rfl⟩
          case measure => (show ((intOf (.int .i64 ((c : Nat) : Int))).toNat - (intOf (.int .i64 ((i : Nat) : Int))).toNat) < ((intOf (.int .i64 ((j : Nat) : Int))).toNat - (intOf (.int .i64 ((i : Nat) : Int))).toNat)); simp only [intOf]; omega
        | true =>
          have h17 : (cmpX b16 b17) < 0 := of_decide_eq_true hd17
          clear hd17
          refine wp_cond_true rfl ?_
          refine wp_region_L (W0 := W0) ((g, .cells cur 26 (0, 0)) :: K) (hW51) ?_
          refine lm (v := .int .i64 ((c : Nat) : Int)) rfl rfl ?_
          refine lp (v := .int .i64 (((c + 1) : Nat) : Int)) rfl rfl (run_bin rfl (vx := (.int .i64 ((c : Nat) : Int))) (vy := (.int .i64 ((1 : Nat) : Int))) (by kernel_rfl) (by kernel_rfl) fun w => bn_add (z := (c + 1)) rfl (wr_i64 (by omega)) w) ?_
          refine lm (v := .int .i64 (((c + 1) : Nat) : Int)) rfl rfl ?_
          refine wpL_done (fun W53 hW53 => ?_)
          go_roundw
          case rel =>
            repeat apply Exists.intro
            exact ⟨⟨c + 1, j, (by omega), (.inr ⟨by omega, _, _, hy17, by rw [Nat.add_sub_cancel]; exact hy16, cmpX_yes h17⟩), hhi, rfl, rfl, hW53⟩, rfl⟩
          case measure => (show ((intOf (.int .i64 ((j : Nat) : Int))).toNat - (intOf (.int .i64 (((c + 1) : Nat) : Int))).toNat) < ((intOf (.int .i64 ((j : Nat) : Int))).toNat - (intOf (.int .i64 ((i : Nat) : Int))).toNat)); simp only [intOf]; omega
theorem sym_all {W0 : Base} {K : List (Nat × Obj)} {g n cap : Nat} (hn2 : n ≤ 4000000000) (hB : W0.B ≤ g) (hg : ∀ q ∈ K, q.1 ≠ g) (d : Nat) : SymAt W0 K g n cap d := by
  induction d with
  | zero => intro cur Z1 A B Z3 hn hd hA0 hB0; omega
  | succ d IH => exact sym_step hn2 hB hg IH
end Go.Proofs.YtjbbeolapaaiaaaDoor
namespace Go.Proofs.YtjbbeolapaaiaaaDoor
open Go Go.RowKit Tw
set_option maxRecDepth 100000 in
set_option maxHeartbeats 4000000 in
theorem stable_any {W0 : Base} {K : List (Nat × Obj)} {g n cap : Nat} {cur : Array Value} (l : List Bx) (hn : l.length = n) (hn2 : n ≤ 4000000000) (hr : RowX cur l) (hB : W0.B ≤ g) (hg : ∀ q ∈ K, q.1 ≠ g) (w : World) (hw : KS W0 ((g, .cells cur 26 (0, 0)) :: K) w) :
    Calls Tryd.prog 64 #[.slice (some ⟨g, 0, none⟩) n cap, .int .i64 ((n : Nat) : Int), .func (.func 48) #[] #[]] w fun e w' => ∃ v K', e = .returned v ∧ KS W0 K' w' ∧ (v = .tuple #[] ∧ ∃ cur', RowX cur' (orderX l) ∧ cur'.size = cur.size ∧ K' = (g, .cells cur' 26 (0, 0)) :: K) := by
  go_enter Tryd.func64, Tryd.ntmps64
  refine wp_seq ?_
  refine wp_region_L (W0 := W0) ((g, .cells cur 26 (0, 0)) :: K) (hw) ?_
  refine lm (v := .int .i64 20) rfl rfl ?_
  refine wpL_done (fun W1 hW1 => ?_)
  refine (show Code.wp _ _ _ _ _ from ?_)
  refine wp_seq ?_
  refine wp_region_L (W0 := W0) ((g, .cells cur 26 (0, 0)) :: K) (hW1) ?_
  refine lm (v := .int .i64 20) rfl rfl ?_
  refine lm (v := .int .i64 0) rfl rfl ?_
  refine lm (v := .int .i64 20) rfl rfl ?_
  refine wpL_done (fun W2 hW2 => ?_)
  refine (show Code.wp _ _ _ _ _ from ?_)
  refine wp_seq ?_
  refine wp_block ?_
  go_loopw [7, 8] (fun u7 u8 wr => ∃ (a0 b0 : Nat) (P0 Q0 : List Bx) (cur0 : Array Value), (b0 = a0 + 20 ∧ a0 ≤ n) ∧ (P0.length = a0) ∧ (Fu 20 P0) ∧ (∀ z, (P0 ++ Q0).filter (eqv z) = l.filter (eqv z)) ∧ (RowX cur0 (P0 ++ Q0)) ∧ (cur0.size = cur.size) ∧ (P0.length + Q0.length = n) ∧ u7 = .int .i64 ((a0 : Nat) : Int) ∧ u8 = .int .i64 ((b0 : Nat) : Int) ∧ KS W0 ((g, .cells cur0 26 (0, 0)) :: K) wr) (fun u7 _ _ => n + 1 - (intOf u7).toNat)
  case atStart => exact ⟨0, 20, [], l, cur, (by omega), rfl, Fu.nil, (fun _ => rfl), hr, rfl, (by simpa using hn), rfl, rfl, hW2⟩
  case round =>
    obtain ⟨a0, b0, P0, Q0, cur0, hab0, hPl0, hFu0, hf0, hr0, hz0, hl0, rfl, rfl, hL3⟩ := hrel
    refine wp_seq ?_
    refine wp_seq ?_
    refine wp_region_L (W0 := W0) ((g, .cells cur0 26 (0, 0)) :: K) (hL3) ?_
    refine lm (v := .int .i64 ((b0 : Nat) : Int)) rfl rfl ?_
    refine lm (v := .int .i64 ((n : Nat) : Int)) rfl rfl ?_
    refine lp (v := .bool (!(decide (n < b0)))) rfl rfl (run_bin rfl (vx := (.int .i64 ((b0 : Nat) : Int))) (vy := (.int .i64 ((n : Nat) : Int))) (by kernel_rfl) (by kernel_rfl) fun w => bn_leq rfl w) ?_
    refine wpL_done (fun W4 hW4 => ?_)
    refine (show Code.wp _ _ _ _ _ from ?_)
    cases hd1 : (decide (n < b0)) with
    | false =>
      have h1 : ¬ (n < b0) := of_decide_eq_false hd1
      clear hd1
      refine wp_cond_true rfl ?_
      refine wp_skip ?_
      refine (show Code.wp _ _ _ _ _ from ?_)
      refine wp_block ?_
      refine wp_seq ?_
      refine wp_region_L (W0 := W0) ((g, .cells cur0 26 (0, 0)) :: K) (hW4) ?_
      refine lm (v := .slice (some ⟨g, 0, none⟩) n cap) rfl rfl ?_
      refine lm (v := .int .i64 ((a0 : Nat) : Int)) rfl rfl ?_
      refine lm (v := .int .i64 ((b0 : Nat) : Int)) rfl rfl ?_
      refine lm (v := .func (.func 48) #[] #[]) rfl rfl ?_
      refine wpL_c (f := 71) (args := #[.slice (some ⟨g, 0, none⟩) n cap, .int .i64 ((a0 : Nat) : Int), .int .i64 ((b0 : Nat) : Int), .func (.func 48) #[] #[]]) (fun v K9 => v = .tuple #[] ∧ ∃ cur', RowX cur' ((P0 ++ Q0).take a0 ++ orderX (((P0 ++ Q0).take b0).drop a0) ++ (P0 ++ Q0).drop b0) ∧ cur'.size = cur0.size ∧ K9 = ((g, .cells cur' 26 (0, 0)) :: K)) rfl (by kernel_rfl) (fun _ => (by kernel_rfl)) (fun W hW => ins_any (K := K) (cap := cap) (P0 ++ Q0) (by rw [List.length_append]; exact hl0) (by omega) a0 b0 (by omega) (by omega) hr0 hB (fun q hq => (hg _ hq)) W (hW.sub (List.forall_mem_cons.2 ⟨(.head _), (fun p hp => (.tail _ hp))⟩))) (fun _ => by simp only [List.setIfInBounds_toArray, List.set_cons_succ, List.set_cons_zero] <;> rfl) ?_
      rintro v K9 ⟨rfl, cu1, R1, Q1, rfl⟩
      refine wpL_done (fun W5 hW5 => ?_)
      refine (show Code.wp _ _ _ _ _ from ?_)
      refine wp_seq ?_
      refine wp_region_L (W0 := W0) ((g, .cells cu1 26 (0, 0)) :: K) (hW5) ?_
      refine lm (v := .int .i64 ((b0 : Nat) : Int)) rfl rfl ?_
      refine lm (v := .int .i64 ((b0 : Nat) : Int)) rfl rfl ?_
      refine wpL_done (fun W6 hW6 => ?_)
      refine (show Code.wp _ _ _ _ _ from ?_)
      refine wp_region_L (W0 := W0) ((g, .cells cu1 26 (0, 0)) :: K) (hW6) ?_
      refine lm (v := .int .i64 ((b0 : Nat) : Int)) rfl rfl ?_
      refine lm (v := .int .i64 20) rfl rfl ?_
      refine lp (v := .int .i64 (((b0 + 20) : Nat) : Int)) rfl rfl (run_bin rfl (vx := (.int .i64 ((b0 : Nat) : Int))) (vy := (.int .i64 ((20 : Nat) : Int))) (by kernel_rfl) (by kernel_rfl) fun w => bn_add (z := (b0 + 20)) rfl (wr_i64 (by omega)) w) ?_
      refine lm (v := .int .i64 (((b0 + 20) : Nat) : Int)) rfl rfl ?_
      refine wpL_done (fun W7 hW7 => ?_)
      go_roundw
      case rel =>
        repeat apply Exists.intro
        exact ⟨⟨b0, b0 + 20, P0 ++ orderX (Q0.take 20), Q0.drop 20, cu1, (by omega), (by first | omega | (simp only [List.length_append, order_len, List.length_take, List.length_drop, List.length_nil]; omega)), (Fu.snoc _ _ hFu0 (by rw [order_len, List.length_take]; omega) (order_sorted _)), (by intro z; rw [filt_pq]; exact hf0 z), (by have h := R1; rw [ins_pq 20 hPl0 hab0.1] at h; exact h), (by omega), (by first | omega | (simp only [List.length_append, order_len, List.length_take, List.length_drop, List.length_nil]; omega)), rfl, rfl, hW7⟩, rfl⟩
      case measure => (show n + 1 - (intOf (.int .i64 ((b0 : Nat) : Int))).toNat < n + 1 - (intOf (.int .i64 ((a0 : Nat) : Int))).toNat); simp only [intOf]; omega
    | true =>
      have h1 : n < b0 := of_decide_eq_true hd1
      clear hd1
      refine wp_cond_false rfl ?_
      refine wp_exit ?_
      refine (show Code.wp _ _ _ _ _ from ?_)
      refine wp_seq ?_
      refine wp_region_L (W0 := W0) ((g, .cells cur0 26 (0, 0)) :: K) (hW4) ?_
      refine lm (v := .slice (some ⟨g, 0, none⟩) n cap) rfl rfl ?_
      refine lm (v := .int .i64 ((a0 : Nat) : Int)) rfl rfl ?_
      refine lm (v := .int .i64 ((n : Nat) : Int)) rfl rfl ?_
      refine lm (v := .func (.func 48) #[] #[]) rfl rfl ?_
      refine wpL_c (f := 71) (args := #[.slice (some ⟨g, 0, none⟩) n cap, .int .i64 ((a0 : Nat) : Int), .int .i64 ((n : Nat) : Int), .func (.func 48) #[] #[]]) (fun v K9 => v = .tuple #[] ∧ ∃ cur', RowX cur' ((P0 ++ Q0).take a0 ++ orderX (((P0 ++ Q0).take n).drop a0) ++ (P0 ++ Q0).drop n) ∧ cur'.size = cur0.size ∧ K9 = ((g, .cells cur' 26 (0, 0)) :: K)) rfl (by kernel_rfl) (fun _ => (by kernel_rfl)) (fun W hW => ins_any (K := K) (cap := cap) (P0 ++ Q0) (by rw [List.length_append]; exact hl0) (by omega) a0 n (by omega) (by omega) hr0 hB (fun q hq => (hg _ hq)) W (hW.sub (List.forall_mem_cons.2 ⟨(.head _), (fun p hp => (.tail _ hp))⟩))) (fun _ => by simp only [List.setIfInBounds_toArray, List.set_cons_succ, List.set_cons_zero] <;> rfl) ?_
      rintro v K9 ⟨rfl, cu2, R2, Q2, rfl⟩
      refine wpL_done (fun W8 hW8 => ?_)
      refine (show Code.wp _ _ _ _ _ from ?_)
      refine wp_block ?_
      go_loopw [6] (fun u6 wr => ∃ (s : Nat) (M : List Bx) (cur1 : Array Value), (0 < s ∧ s ≤ 8000000020) ∧ (Bl s M) ∧ (∀ z, M.filter (eqv z) = l.filter (eqv z)) ∧ (RowX cur1 M) ∧ (cur1.size = cur.size) ∧ (M.length = n) ∧ u6 = .int .i64 ((s : Nat) : Int) ∧ KS W0 ((g, .cells cur1 26 (0, 0)) :: K) wr) (fun u6 _ => n + 1 - (intOf u6).toNat)
      case atStart => exact ⟨20, P0 ++ orderX Q0, cu2, (by omega), (hFu0.bl (.last _ (by rw [order_len]; omega) (order_sorted _))), (by intro z; rw [List.filter_append, order_filter, ← List.filter_append]; exact hf0 z), (by have h := R2; rw [ins_all hPl0 hl0] at h; exact h), (by omega), (by first | omega | (simp only [List.length_append, order_len, List.length_take, List.length_drop, List.length_nil]; omega)), rfl, hW8⟩
      case round =>
        obtain ⟨s, M, cur1, hs, hM, hf, hr1, hz, hl1, rfl, hL9⟩ := hrel
        refine wp_seq ?_
        refine wp_seq ?_
        refine wp_region_L (W0 := W0) ((g, .cells cur1 26 (0, 0)) :: K) (hL9) ?_
        refine lm (v := .int .i64 ((s : Nat) : Int)) rfl rfl ?_
        refine lm (v := .int .i64 ((n : Nat) : Int)) rfl rfl ?_
        refine lp (v := .bool (decide (s < n))) rfl rfl (run_bin rfl (vx := (.int .i64 ((s : Nat) : Int))) (vy := (.int .i64 ((n : Nat) : Int))) (by kernel_rfl) (by kernel_rfl) fun w => bn_lss rfl w) ?_
        refine wpL_done (fun W10 hW10 => ?_)
        refine (show Code.wp _ _ _ _ _ from ?_)
        cases hd2 : (decide (s < n)) with
        | false =>
          have h2 : ¬ (s < n) := of_decide_eq_false hd2
          clear hd2
          refine wp_cond_false rfl ?_
          refine wp_exit ?_
          simp only [exit_then, exit_in, exit_out]
          refine bodyPost_end (v := .tuple #[]) (results_none rfl _ _ _) rfl ?_
          exact ⟨_, _, rfl, hW10.sub (List.forall_mem_cons.2 ⟨(.head _), fun p hp => (.tail _ hp)⟩), rfl, _, (by rw [← order_is (hM.small (by omega)) hf]; exact hr1), hz, rfl⟩
        | true =>
          have h2 : s < n := of_decide_eq_true hd2
          clear hd2
          refine wp_cond_true rfl ?_
          refine wp_skip ?_
          refine (show Code.wp _ _ _ _ _ from ?_)
          refine wp_block ?_
          refine wp_seq ?_
          refine wp_region_L (W0 := W0) ((g, .cells cur1 26 (0, 0)) :: K) (hW10) ?_
          refine lm (v := .int .i64 ((s : Nat) : Int)) rfl rfl ?_
          refine lp (v := .int .i64 (((2 * s) : Nat) : Int)) rfl rfl (run_bin rfl (vx := (.int .i64 ((2 : Nat) : Int))) (vy := (.int .i64 ((s : Nat) : Int))) (by kernel_rfl) (by kernel_rfl) fun w => bn_mul (z := (2 * s)) rfl (wr_i64 (by omega)) w) ?_
          refine lm (v := .int .i64 0) rfl rfl ?_
          refine lm (v := .int .i64 (((2 * s) : Nat) : Int)) rfl rfl ?_
          refine wpL_done (fun W11 hW11 => ?_)
          refine (show Code.wp _ _ _ _ _ from ?_)
          refine wp_seq ?_
          refine wp_block ?_
          go_loopw [7, 8] (fun u7 u8 wr => ∃ (a b : Nat) (P Q : List Bx) (cur2 : Array Value), (b = a + 2 * s ∧ a ≤ n) ∧ (P.length = a) ∧ (Fu (2 * s) P) ∧ (Bl s Q) ∧ (∀ z, (P ++ Q).filter (eqv z) = l.filter (eqv z)) ∧ (RowX cur2 (P ++ Q)) ∧ (cur2.size = cur.size) ∧ (P.length + Q.length = n) ∧ u7 = .int .i64 ((a : Nat) : Int) ∧ u8 = .int .i64 ((b : Nat) : Int) ∧ KS W0 ((g, .cells cur2 26 (0, 0)) :: K) wr) (fun u7 _ _ => n + 1 - (intOf u7).toNat)
          case atStart => exact ⟨0, 2 * s, [], M, cur1, (by omega), rfl, Fu.nil, hM, hf, hr1, hz, (by simpa using hl1), rfl, rfl, hW11⟩
          case round =>
            obtain ⟨a, b, P, Q, cur2, hab, hPl, hFu, hQ, hf2, hr2, hz2, hl2, rfl, rfl, hL12⟩ := hrel
            refine wp_seq ?_
            refine wp_seq ?_
            refine wp_region_L (W0 := W0) ((g, .cells cur2 26 (0, 0)) :: K) (hL12) ?_
            refine lm (v := .int .i64 ((b : Nat) : Int)) rfl rfl ?_
            refine lm (v := .int .i64 ((n : Nat) : Int)) rfl rfl ?_
            refine lp (v := .bool (!(decide (n < b)))) rfl rfl (run_bin rfl (vx := (.int .i64 ((b : Nat) : Int))) (vy := (.int .i64 ((n : Nat) : Int))) (by kernel_rfl) (by kernel_rfl) fun w => bn_leq rfl w) ?_
            refine wpL_done (fun W13 hW13 => ?_)
            refine (show Code.wp _ _ _ _ _ from ?_)
            cases hd3 : (decide (n < b)) with
            | false =>
              have h3 : ¬ (n < b) := of_decide_eq_false hd3
              clear hd3
              obtain ⟨X1, X2, Q2, hQ2, hX1, hX2, sX1, sX2, hB2⟩ := hQ.two hs.1 (by omega)
              have hlQ := congrArg List.length hQ2
              simp only [List.length_append] at hlQ
              have hr3 : RowX cur2 (P ++ X1 ++ X2 ++ Q2) := by have h := hr2; rw [hQ2] at h; first | simpa only [List.append_assoc] using h | simpa using h
              refine wp_cond_true rfl ?_
              refine wp_skip ?_
              refine (show Code.wp _ _ _ _ _ from ?_)
              refine wp_block ?_
              refine wp_seq ?_
              refine wp_region_L (W0 := W0) ((g, .cells cur2 26 (0, 0)) :: K) (hW13) ?_
              refine lm (v := .slice (some ⟨g, 0, none⟩) n cap) rfl rfl ?_
              refine lm (v := .int .i64 ((a : Nat) : Int)) rfl rfl ?_
              refine lm (v := .int .i64 ((a : Nat) : Int)) rfl rfl ?_
              refine lm (v := .int .i64 ((s : Nat) : Int)) rfl rfl ?_
              refine lp (v := .int .i64 (((a + s) : Nat) : Int)) rfl rfl (run_bin rfl (vx := (.int .i64 ((a : Nat) : Int))) (vy := (.int .i64 ((s : Nat) : Int))) (by kernel_rfl) (by kernel_rfl) fun w => bn_add (z := (a + s)) rfl (wr_i64 (by omega)) w) ?_
              refine lm (v := .int .i64 ((b : Nat) : Int)) rfl rfl ?_
              refine lm (v := .func (.func 48) #[] #[]) rfl rfl ?_
              refine wpL_c (f := 72) (args := #[.slice (some ⟨g, 0, none⟩) n cap, .int .i64 ((a : Nat) : Int), .int .i64 (((a + s) : Nat) : Int), .int .i64 ((b : Nat) : Int), .func (.func 48) #[] #[]]) (fun v K9 => v = .tuple #[] ∧ ∃ cur', RowX cur' (P ++ orderX (X1 ++ X2) ++ Q2) ∧ cur'.size = cur2.size ∧ K9 = ((g, .cells cur' 26 (0, 0)) :: K)) rfl (by kernel_rfl) (fun _ => (by kernel_rfl)) (fun W hW => sym_all (K := K) (n := n) (cap := cap) (by omega) hB (fun q hq => (hg _ hq)) (X1.length + X2.length) cur2 P X1 X2 Q2 (by first | omega | (simp only [List.length_append, order_len, List.length_take, List.length_drop, List.length_nil]; omega)) (Nat.le_refl _) (by omega) (by omega) sX1 sX2 a (a + s) b (by first | omega | (simp only [List.length_append, order_len, List.length_take, List.length_drop, List.length_nil]; omega)) (by first | omega | (simp only [List.length_append, order_len, List.length_take, List.length_drop, List.length_nil]; omega)) (by first | omega | (simp only [List.length_append, order_len, List.length_take, List.length_drop, List.length_nil]; omega)) hr3 W (hW.sub (List.forall_mem_cons.2 ⟨(.head _), (fun p hp => (.tail _ hp))⟩))) (fun _ => by simp only [List.setIfInBounds_toArray, List.set_cons_succ, List.set_cons_zero] <;> rfl) ?_
              rintro v K9 ⟨rfl, cu3, R3, Q3, rfl⟩
              refine wpL_done (fun W14 hW14 => ?_)
              refine (show Code.wp _ _ _ _ _ from ?_)
              refine wp_seq ?_
              refine wp_region_L (W0 := W0) ((g, .cells cu3 26 (0, 0)) :: K) (hW14) ?_
              refine lm (v := .int .i64 ((b : Nat) : Int)) rfl rfl ?_
              refine lm (v := .int .i64 ((b : Nat) : Int)) rfl rfl ?_
              refine wpL_done (fun W15 hW15 => ?_)
              refine (show Code.wp _ _ _ _ _ from ?_)
              refine wp_region_L (W0 := W0) ((g, .cells cu3 26 (0, 0)) :: K) (hW15) ?_
              refine lm (v := .int .i64 ((b : Nat) : Int)) rfl rfl ?_
              refine lm (v := .int .i64 ((s : Nat) : Int)) rfl rfl ?_
              refine lp (v := .int .i64 (((2 * s) : Nat) : Int)) rfl rfl (run_bin rfl (vx := (.int .i64 ((2 : Nat) : Int))) (vy := (.int .i64 ((s : Nat) : Int))) (by kernel_rfl) (by kernel_rfl) fun w => bn_mul (z := (2 * s)) rfl (wr_i64 (by omega)) w) ?_
              refine lp (v := .int .i64 (((b + (2 * s)) : Nat) : Int)) rfl rfl (run_bin rfl (vx := (.int .i64 ((b : Nat) : Int))) (vy := (.int .i64 (((2 * s) : Nat) : Int))) (by kernel_rfl) (by kernel_rfl) fun w => bn_add (z := (b + (2 * s))) rfl (wr_i64 (by omega)) w) ?_
              refine lm (v := .int .i64 (((b + (2 * s)) : Nat) : Int)) rfl rfl ?_
              refine wpL_done (fun W16 hW16 => ?_)
              go_roundw
              case rel =>
                repeat apply Exists.intro
                exact ⟨⟨b, b + 2 * s, P ++ orderX (X1 ++ X2), Q2, cu3, (by omega), (by first | omega | (simp only [List.length_append, order_len, List.length_take, List.length_drop, List.length_nil]; omega)), (Fu.snoc _ _ hFu (by first | omega | (simp only [List.length_append, order_len, List.length_take, List.length_drop, List.length_nil]; omega)) (order_sorted _)), hB2, (by intro z; rw [filt_two, ← hQ2]; exact hf2 z), R3, (by omega), (by first | omega | (simp only [List.length_append, order_len, List.length_take, List.length_drop, List.length_nil]; omega)), rfl, rfl, hW16⟩, rfl⟩
              case measure => (show n + 1 - (intOf (.int .i64 ((b : Nat) : Int))).toNat < n + 1 - (intOf (.int .i64 ((a : Nat) : Int))).toNat); simp only [intOf]; omega
            | true =>
              have h3 : n < b := of_decide_eq_true hd3
              clear hd3
              refine wp_cond_false rfl ?_
              refine wp_exit ?_
              refine (show Code.wp _ _ _ _ _ from ?_)
              refine wp_seq ?_
              refine wp_seq ?_
              refine wp_region_L (W0 := W0) ((g, .cells cur2 26 (0, 0)) :: K) (hW13) ?_
              refine lm (v := .int .i64 ((a : Nat) : Int)) rfl rfl ?_
              refine lm (v := .int .i64 ((s : Nat) : Int)) rfl rfl ?_
              refine lp (v := .int .i64 (((a + s) : Nat) : Int)) rfl rfl (run_bin rfl (vx := (.int .i64 ((a : Nat) : Int))) (vy := (.int .i64 ((s : Nat) : Int))) (by kernel_rfl) (by kernel_rfl) fun w => bn_add (z := (a + s)) rfl (wr_i64 (by omega)) w) ?_
              refine lm (v := .int .i64 (((a + s) : Nat) : Int)) rfl rfl ?_
              refine wpL_done (fun W17 hW17 => ?_)
              refine (show Code.wp _ _ _ _ _ from ?_)
              refine wp_seq ?_
              refine wp_region_L (W0 := W0) ((g, .cells cur2 26 (0, 0)) :: K) (hW17) ?_
              refine lm (v := .int .i64 (((a + s) : Nat) : Int)) rfl rfl ?_
              refine lm (v := .int .i64 ((n : Nat) : Int)) rfl rfl ?_
              refine lp (v := .bool (decide ((a + s) < n))) rfl rfl (run_bin rfl (vx := (.int .i64 (((a + s) : Nat) : Int))) (vy := (.int .i64 ((n : Nat) : Int))) (by kernel_rfl) (by kernel_rfl) fun w => bn_lss rfl w) ?_
              refine wpL_done (fun W18 hW18 => ?_)
              refine (show Code.wp _ _ _ _ _ from ?_)
              cases hd4 : (decide ((a + s) < n)) with
              | false =>
                have h4 : ¬ ((a + s) < n) := of_decide_eq_false hd4
                clear hd4
                refine wp_cond_false rfl ?_
                refine wp_skip ?_
                refine (show Code.wp _ _ _ _ _ from ?_)
                refine wp_region_L (W0 := W0) ((g, .cells cur2 26 (0, 0)) :: K) (hW18) ?_
                refine lm (v := .int .i64 ((s : Nat) : Int)) rfl rfl ?_
                refine lp (v := .int .i64 (((s * 2) : Nat) : Int)) rfl rfl (run_bin rfl (vx := (.int .i64 ((s : Nat) : Int))) (vy := (.int .i64 ((2 : Nat) : Int))) (by kernel_rfl) (by kernel_rfl) fun w => bn_mul (z := (s * 2)) rfl (wr_i64 (by omega)) w) ?_
                refine lm (v := .int .i64 (((s * 2) : Nat) : Int)) rfl rfl ?_
                refine wpL_done (fun W19 hW19 => ?_)
                go_roundw
                case rel =>
                  repeat apply Exists.intro
                  exact ⟨⟨s * 2, P ++ Q, cur2, (by omega), (by rw [Nat.mul_comm s 2]; exact hFu.bl (.last _ (by omega) (hQ.small (by omega)))), hf2, hr2, hz2, (by first | omega | (simp only [List.length_append, order_len, List.length_take, List.length_drop, List.length_nil]; omega)), rfl, hW19⟩, rfl⟩
                case measure => (show n + 1 - (intOf (.int .i64 (((s * 2) : Nat) : Int))).toNat < n + 1 - (intOf (.int .i64 ((s : Nat) : Int))).toNat); simp only [intOf]; omega
              | true =>
                have h4 : (a + s) < n := of_decide_eq_true hd4
                clear hd4
                obtain ⟨X1, X2, hQ2, hX1, sX1, sX2⟩ := hQ.rest (by omega) (by omega)
                have hlQ := congrArg List.length hQ2
                simp only [List.length_append] at hlQ
                have hr3 : RowX cur2 (P ++ X1 ++ X2 ++ []) := by have h := hr2; rw [hQ2] at h; first | simpa only [List.append_assoc] using h | simpa using h
                refine wp_cond_true rfl ?_
                refine wp_region_L (W0 := W0) ((g, .cells cur2 26 (0, 0)) :: K) (hW18) ?_
                refine lm (v := .slice (some ⟨g, 0, none⟩) n cap) rfl rfl ?_
                refine lm (v := .int .i64 ((a : Nat) : Int)) rfl rfl ?_
                refine lm (v := .int .i64 (((a + s) : Nat) : Int)) rfl rfl ?_
                refine lm (v := .int .i64 ((n : Nat) : Int)) rfl rfl ?_
                refine lm (v := .func (.func 48) #[] #[]) rfl rfl ?_
                refine wpL_c (f := 72) (args := #[.slice (some ⟨g, 0, none⟩) n cap, .int .i64 ((a : Nat) : Int), .int .i64 (((a + s) : Nat) : Int), .int .i64 ((n : Nat) : Int), .func (.func 48) #[] #[]]) (fun v K9 => v = .tuple #[] ∧ ∃ cur', RowX cur' (P ++ orderX (X1 ++ X2) ++ []) ∧ cur'.size = cur2.size ∧ K9 = ((g, .cells cur' 26 (0, 0)) :: K)) rfl (by kernel_rfl) (fun _ => (by kernel_rfl)) (fun W hW => sym_all (K := K) (n := n) (cap := cap) (by omega) hB (fun q hq => (hg _ hq)) (X1.length + X2.length) cur2 P X1 X2 [] (by first | omega | (simp only [List.length_append, order_len, List.length_take, List.length_drop, List.length_nil]; omega)) (Nat.le_refl _) (by omega) (by omega) sX1 sX2 a (a + s) n (by first | omega | (simp only [List.length_append, order_len, List.length_take, List.length_drop, List.length_nil]; omega)) (by first | omega | (simp only [List.length_append, order_len, List.length_take, List.length_drop, List.length_nil]; omega)) (by first | omega | (simp only [List.length_append, order_len, List.length_take, List.length_drop, List.length_nil]; omega)) hr3 W (hW.sub (List.forall_mem_cons.2 ⟨(.head _), (fun p hp => (.tail _ hp))⟩))) (fun _ => by simp only [List.setIfInBounds_toArray, List.set_cons_succ, List.set_cons_zero] <;> rfl) ?_
                rintro v K9 ⟨rfl, cu4, R4, Q4, rfl⟩
                refine wpL_done (fun W20 hW20 => ?_)
                refine (show Code.wp _ _ _ _ _ from ?_)
                refine wp_region_L (W0 := W0) ((g, .cells cu4 26 (0, 0)) :: K) (hW20) ?_
                refine lm (v := .int .i64 ((s : Nat) : Int)) rfl rfl ?_
                refine lp (v := .int .i64 (((s * 2) : Nat) : Int)) rfl rfl (run_bin rfl (vx := (.int .i64 ((s : Nat) : Int))) (vy := (.int .i64 ((2 : Nat) : Int))) (by kernel_rfl) (by kernel_rfl) fun w => bn_mul (z := (s * 2)) rfl (wr_i64 (by omega)) w) ?_
                refine lm (v := .int .i64 (((s * 2) : Nat) : Int)) rfl rfl ?_
                refine wpL_done (fun W21 hW21 => ?_)
                go_roundw
                case rel =>
                  repeat apply Exists.intro
                  exact ⟨⟨s * 2, P ++ orderX (X1 ++ X2) ++ [], cu4, (by omega), (by rw [Nat.mul_comm s 2, List.append_nil]; exact hFu.bl (.last _ (by first | omega | (simp only [List.length_append, order_len, List.length_take, List.length_drop, List.length_nil]; omega)) (order_sorted _))), (by intro z; rw [filt_two, List.append_nil, ← hQ2]; exact hf2 z), R4, (by omega), (by first | omega | (simp only [List.length_append, order_len, List.length_take, List.length_drop, List.length_nil]; omega)), rfl, hW21⟩, rfl⟩
                case measure => (show n + 1 - (intOf (.int .i64 (((s * 2) : Nat) : Int))).toNat < n + 1 - (intOf (.int .i64 ((s : Nat) : Int))).toNat); simp only [intOf]; omega
set_option maxRecDepth 100000 in
set_option maxHeartbeats 4000000 in
theorem sort_any {W0 : Base} {K : List (Nat × Obj)} {g n cap : Nat} {cur : Array Value} (l : List Bx) (hn : l.length = n) (hn2 : n ≤ 4000000000) (hr : RowX cur l) (hB : W0.B ≤ g) (hg : ∀ q ∈ K, q.1 ≠ g) (w : World) (hw : KS W0 ((g, .cells cur 26 (0, 0)) :: K) w) :
    Calls Tryd.prog 47 #[.slice (some ⟨g, 0, none⟩) n cap, .func (.func 48) #[] #[]] w fun e w' => ∃ v K', e = .returned v ∧ KS W0 K' w' ∧ (v = .tuple #[] ∧ ∃ cur', RowX cur' (orderX l) ∧ cur'.size = cur.size ∧ K' = (g, .cells cur' 26 (0, 0)) :: K) := by
  go_enter Tryd.func47, Tryd.ntmps47
  refine wp_region_L (W0 := W0) ((g, .cells cur 26 (0, 0)) :: K) (hw) ?_
  refine lm (v := .slice (some ⟨g, 0, none⟩) n cap) rfl rfl ?_
  refine lm (v := .slice (some ⟨g, 0, none⟩) n cap) rfl rfl ?_
  refine lp (v := .int .i64 ((n : Nat) : Int)) rfl rfl (run_lenL (p := (some ⟨g, 0, none⟩)) (cap := cap) (n := n) rfl Tryd.underlying22 (by kernel_rfl)) ?_
  refine lm (v := .func (.func 48) #[] #[]) rfl rfl ?_
  refine wpL_c (f := 64) (args := #[.slice (some ⟨g, 0, none⟩) n cap, .int .i64 ((n : Nat) : Int), .func (.func 48) #[] #[]]) (fun v K9 => v = .tuple #[] ∧ ∃ cur', RowX cur' (orderX l) ∧ cur'.size = cur.size ∧ K9 = ((g, .cells cur' 26 (0, 0)) :: K)) rfl (by kernel_rfl) (fun _ => (by kernel_rfl)) (fun W hW => stable_any (K := K) (cap := cap) l (by omega) (by omega) hr hB (fun q hq => (hg _ hq)) W (hW.sub (List.forall_mem_cons.2 ⟨(.head _), (fun p hp => (.tail _ hp))⟩))) (fun _ => by simp only [List.setIfInBounds_toArray, List.set_cons_succ, List.set_cons_zero] <;> rfl) ?_
  rintro v K9 ⟨rfl, cu1, R1, Q1, rfl⟩
  refine wpL_done (fun W1 hW1 => ?_)
  refine bodyPost_end (v := .tuple #[]) (results_none rfl _ _ _) rfl ?_
  exact ⟨_, _, rfl, hW1.sub (List.forall_mem_cons.2 ⟨(.head _), fun p hp => (.tail _ hp)⟩), rfl, _, R1, Q1, rfl⟩
end Go.Proofs.YtjbbeolapaaiaaaDoor
namespace Go.Proofs.YtjbbeolapaaiaaaDoor
open Go Go.RowKit Tw
theorem sort_owns {W0 : Base} {K Kl : List (Nat × Obj)} {v : Value} (l : List Bx) (hsm : l.length ≤ 4000000000) (hO : OwnL W0 26 9 v l.length (bcs l) Kl) (hd : ∀ p ∈ K, ∀ q ∈ Kl, q.1 ≠ p.1) (w : World) (hw : KS W0 (K ++ Kl) w) :
    Calls Tryd.prog 47 #[v, .func (.func 48) #[] #[]] w fun e w' => ∃ u K', e = .returned u ∧ KS W0 K' w' ∧ (u = .tuple #[] ∧ ∃ Kl', OwnL W0 26 9 v l.length (bcs (orderX l)) Kl' ∧ (∀ p ∈ K, ∀ q ∈ Kl', q.1 ≠ p.1) ∧ K' = K ++ Kl') := by
  rcases hO with ⟨h1, h2, rfl, rfl⟩ | ⟨g, cap, cur, rfl, hB, hR, rfl⟩
  · have hl : l = [] := List.eq_nil_of_length_eq_zero h1
    subst hl
    exact (sort_nil w).mono fun e w' ⟨he, hb⟩ => ⟨_, _, he, hw.below hb, rfl, [], OwnL.nil _ _ _, (fun _ _ _ h => by cases h), rfl⟩
  · have hg : ∀ q ∈ K, q.1 ≠ g := fun q hq e => hd q hq (g, .cells cur 26 (0, 0)) (List.mem_singleton.2 rfl) e.symm
    refine (sort_any (cap := cap) l rfl hsm (rowx_own hR) hB hg w (hw.sub (fun p hp => by
      rcases List.mem_cons.1 hp with rfl | hp
      · exact List.mem_append_right _ (List.mem_singleton.2 rfl)
      · exact List.mem_append_left _ hp))).mono fun e w' ⟨u, K', he, hk, hu, cur', hr, hs, hK⟩ => ?_
    subst hK
    refine ⟨u, _, he, hk.sub (K' := K ++ [(g, .cells cur' 26 (0, 0))]) (fun p hp => ?_), hu, [(g, .cells cur' 26 (0, 0))], .inr ⟨g, cap, cur', rfl, hB, own_rowx hR hs hr (order_len l), rfl⟩, fun p hp q hq => ?_, rfl⟩
    · rcases List.mem_append.1 hp with hp | hp
      · exact .tail _ hp
      · cases List.mem_singleton.1 hp; exact .head _
    · cases List.mem_singleton.1 hq; exact fun e => hg p hp e.symm
set_option maxRecDepth 100000 in
set_option maxHeartbeats 4000000 in
theorem Order_any (l : List Bx) (p : Option Addr) (c : Nat) (hl : l.length ≤ 4000000000) (w : World) (hp : SLV w p (bcs l)) : Calls Tryd.prog 27 #[.slice p l.length c] w fun e w' => ∃ v, e = .returned v ∧ OutV w w' 26 9 v l.length (bcs (orderX l)) ∧ Below w.heap.size w w' := by
  have HP := Lib.hid hp
  clear hp
  go_enter Tryd.func27, Tryd.ntmps27
  refine wp_seq ?_
  refine wp_region_L (W0 := w) [] (KS.start w) ?_
  refine lm (v := .slice none 0 0) rfl rfl ?_
  refine wpL_done (fun W1 hW1 => ?_)
  refine (show Code.wp _ _ _ _ _ from ?_)
  refine wp_seq ?_
  refine wp_region_L (W0 := w) [] (hW1) ?_
  refine lm (v := .slice p l.length c) rfl rfl ?_
  refine wpL_c (f := 46) (args := #[.slice p l.length c]) (fun v K9 => ∃ Kl, OwnL w 26 9 v l.length (bcs l) Kl ∧ (∀ p ∈ ([] : List (Nat × Obj)), ∀ q ∈ Kl, q.1 ≠ p.1) ∧ K9 = [] ++ Kl) rfl (by kernel_rfl) (fun _ => (by kernel_rfl)) (fun W hW => calls_out hW (Clone_any l p c (by first | omega | (simp; done) | (simp; omega) | decide) W (HP.out.keep hW.1))) (fun _ => by simp only [List.setIfInBounds_toArray, List.set_cons_succ, List.set_cons_zero] <;> rfl) ?_
  rintro v1 Kl1 ⟨_, O1, N1, rfl⟩
  refine lm (v := v1) rfl rfl ?_
  refine wpL_done (fun W2 hW2 => ?_)
  refine (show Code.wp _ _ _ _ _ from ?_)
  refine wp_seq ?_
  refine wp_region_L (W0 := w) Kl1 (hW2) ?_
  refine lm (v := v1) rfl rfl ?_
  refine wpL_c (f := 47) (args := #[v1, .func (.func 48) #[] #[]]) (fun u K9 => u = .tuple #[] ∧ ∃ Kl', OwnL w 26 9 v1 l.length (bcs (orderX l)) Kl' ∧ (∀ p ∈ ([] : List (Nat × Obj)), ∀ q ∈ Kl', q.1 ≠ p.1) ∧ K9 = [] ++ Kl') rfl (by kernel_rfl) (fun _ => (by kernel_rfl)) (fun W hW => sort_owns (K := []) (Kl := Kl1) l (by omega) O1 (show Dj [] Kl1 from (by (try simp only [dj_app_l, dj_app_r, dj_cons_l, dj_cons_r, dj_nil_l, dj_nil_r, dk_app, dk_cons, dk_nil, and_true, true_and, and_assoc]); repeat' (first | trivial | assumption | exact Dj.symm (by assumption) | exact Ne.symm (by assumption) | apply And.intro))) W (hW.sub (fun p hp => by simp only [List.mem_cons, List.mem_append, List.nil_append, List.not_mem_nil, or_assoc, or_false, false_or, List.cons_append, List.append_assoc] at hp ⊢ <;> grind))) (fun _ => by simp only [List.setIfInBounds_toArray, List.set_cons_succ, List.set_cons_zero] <;> rfl) ?_
  rintro _ Kl2 ⟨rfl, _, O2, N2, rfl⟩
  refine wpL_done (fun W3 hW3 => ?_)
  refine (show Code.wp _ _ _ _ _ from ?_)
  refine wp_seq ?_
  refine wp_region_L (W0 := w) Kl2 (hW3) ?_
  refine lm (v := v1) rfl rfl ?_
  refine lm (v := v1) rfl rfl ?_
  refine wpL_done (fun W4 hW4 => ?_)
  refine (show Code.wp _ _ _ _ _ from ?_)
  refine wp_ret ?_
  try simp only [inBlock_ret, then_ret]
  refine bodyPost_ret (v := v1) ?_ rfl ?_
  · kernel_rfl
  · exact ⟨_, rfl, O2.out (fun p hp => by simp only [List.mem_cons, List.mem_append, List.nil_append, List.not_mem_nil, or_assoc, or_false, false_or, hp, true_or, or_true]) hW4, hW4.1⟩
end Go.Proofs.YtjbbeolapaaiaaaDoor
