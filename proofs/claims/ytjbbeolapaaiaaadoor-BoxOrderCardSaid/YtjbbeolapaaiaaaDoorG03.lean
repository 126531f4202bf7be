import Derived.Test.YtjbbeolapaaiaaaDoorG02
import Derived.Test.YtjbbeolapaaiaaaDoorG00
import Derived.Deep.AppendSrc
import Derived.Deep.Upon
import Derived.Laws.RangeAny
/- Part of the proof: HI, HJ, HK, HL, Sr, Sj, Hs, HM. -/
set_option linter.unusedVariables false
set_option linter.unusedSimpArgs false
set_option linter.unusedSectionVars false
namespace Go.Proofs.YtjbbeolapaaiaaaDoor
open Go Go.RowKit Tw
def cmpZ (x y : Int) : Int := if x < y then -1 else if y < x then 1 else 0
def orZ (x y z : Int) : Int := if x = 0 then (if y = 0 then z else y) else x
def cmpX (a b : Bx) : Int := orZ (cmpZ b.dis a.dis) (cmpZ b.kilos a.kilos) (cmpZ a.id b.id)
theorem cmpZ_le (x y : Int) : -1 ≤ cmpZ x y ∧ cmpZ x y ≤ 1 := by unfold cmpZ; (repeat' split) <;> omega
theorem cmpX_iff (a b : Bx) : cmpX a b < 0 ↔ before a b = true := by
  rw [before_iff]
  unfold cmpX orZ cmpZ
  (repeat' split) <;> omega
theorem cmpX_yes {a b : Bx} (h : cmpX a b < 0) : before a b = true := (cmpX_iff a b).1 h
theorem cmpX_no {a b : Bx} (h : ¬ (cmpX a b < 0)) : before a b = false := by
  rw [← Bool.not_eq_true]
  exact fun e => h ((cmpX_iff a b).2 e)
-- the part of a list from a to i put in order
def InsO (l : List Bx) (a b i : Nat) (l1 : List Bx) : Prop := l1 = l.take a ++ orderX ((l.take (min i b)).drop a) ++ l.drop (min i b)
def InsI (l : List Bx) (a i j : Nat) (l2 : List Bx) : Prop := ∃ x P, l[i]? = some x ∧ P = orderX ((l.take i).drop a) ∧ a ≤ j ∧ j ≤ i ∧ l2 = l.take a ++ (P.take (j - a) ++ x :: P.drop (j - a)) ++ l.drop (i + 1) ∧ ∀ y ∈ P.drop (j - a), before x y = true
theorem insO_start {l : List Bx} {a b : Nat} (hab : a ≤ b) (hb : b ≤ l.length) : InsO l a b (a + 1) l := by
  unfold InsO
  rcases Nat.lt_or_ge a b with h | h
  · rw [Nat.min_eq_left h]
    have ha : a < l.length := by omega
    rw [List.take_succ_eq_append_getElem ha, List.drop_append_of_le_length (by simp; omega), List.drop_eq_nil_of_le (by rw [List.length_take]; exact Nat.min_le_left _ _), List.nil_append]
    show l = l.take a ++ [l[a]] ++ l.drop (a + 1)
    rw [List.append_assoc, List.singleton_append, ← List.drop_eq_getElem_cons ha, List.take_append_drop]
  · have : b = a := by omega
    subst this
    rw [Nat.min_eq_right (by omega), List.drop_eq_nil_of_le (by simp; omega)]
    show l = l.take b ++ [] ++ l.drop b
    rw [List.append_nil, List.take_append_drop]
theorem ord_len {l : List Bx} {a i : Nat} (hi : i ≤ l.length) (ha : a ≤ i) : (orderX ((l.take i).drop a)).length = i - a := by
  rw [order_len, List.length_drop, List.length_take, Nat.min_eq_left hi]
theorem insI_start {l l1 : List Bx} {a b i : Nat} (h : InsO l a b i l1) (hi : i < b) (hb : b ≤ l.length) (ha : a ≤ i) : InsI l a i i l1 := by
  unfold InsO at h
  rw [Nat.min_eq_left (by omega)] at h
  have hl := ord_len (l := l) (a := a) (i := i) (by omega) ha
  obtain ⟨P, hP⟩ : ∃ P, P = orderX ((l.take i).drop a) := ⟨_, rfl⟩
  rw [← hP] at h hl
  refine ⟨l[i]'(by omega), P, List.getElem?_eq_getElem (by omega), hP, ha, Nat.le_refl _, ?_, ?_⟩
  · rw [h, show P.take (i - a) = P from List.take_of_length_le (by omega), show P.drop (i - a) = [] from List.drop_eq_nil_of_le (by omega), List.drop_eq_getElem_cons (show i < l.length by omega)]
    simp
  · rw [List.drop_eq_nil_of_le (by omega)]; exact fun y hy => by cases hy
theorem insI_at {l l2 : List Bx} {a i j : Nat} (h : InsI l a i j l2) (hi : i < l.length) : ∃ x P, P = orderX ((l.take i).drop a) ∧ l[i]? = some x ∧ l2[j]? = some x ∧ (a < j → ∃ y, P[j - 1 - a]? = some y ∧ l2[j - 1]? = some y) := by
  obtain ⟨x, P, hx, hP, h1, h2, h3, h4⟩ := h
  have hl : P.length = i - a := by rw [hP]; exact ord_len (by omega) (by omega)
  have hta : (l.take a).length = a := by rw [List.length_take]; omega
  have htp : (P.take (j - a)).length = j - a := by rw [List.length_take]; omega
  refine ⟨x, P, hP, hx, ?_, fun hj => ?_⟩
  · rw [h3, List.append_assoc, List.getElem?_append_right (by omega), hta, List.append_assoc, List.getElem?_append_right (by omega), htp, Nat.sub_self]; rfl
  · have hy : P[j - 1 - a]? = some (P[j - 1 - a]'(by omega)) := List.getElem?_eq_getElem _
    refine ⟨_, hy, ?_⟩
    rw [h3, List.append_assoc, List.getElem?_append_right (by omega), hta, List.append_assoc, List.getElem?_append_left (by omega), List.getElem?_take_of_lt (by omega)]
    exact hy
theorem insI_step {l l2 : List Bx} {a i j : Nat} {x y : Bx} (h : InsI l a i j l2) (hi : i < l.length) (hj : a < j) (hx : l2[j]? = some x) (hy : l2[j - 1]? = some y) (hb : before x y = true) : InsI l a i (j - 1) ((l2.set j y).set (j - 1) x) := by
  obtain ⟨x', P', hP', hx', hjx, hprev⟩ := insI_at h hi
  obtain ⟨y', hPy, hly⟩ := hprev hj
  obtain ⟨x0, P, h0, hP, h1, h2, h3, h4⟩ := h
  rw [hx] at hjx; cases hjx
  rw [hy] at hly; cases hly
  rw [h0] at hx'; cases hx'
  rw [hP'.trans hP.symm] at hPy
  have hl : P.length = i - a := by rw [hP]; exact ord_len (by omega) (by omega)
  obtain ⟨hlt, hge⟩ := List.getElem?_eq_some_iff.1 hPy
  have hta : (l.take a).length = a := by rw [List.length_take]; omega
  have e1 : P.take (j - a) = P.take (j - 1 - a) ++ [y] := by
    rw [show j - a = (j - 1 - a) + 1 from by omega, List.take_succ_eq_append_getElem hlt, hge]
  have e2 : P.drop (j - 1 - a) = y :: P.drop (j - a) := by
    rw [List.drop_eq_getElem_cons hlt, hge, show j - 1 - a + 1 = j - a from by omega]
  refine ⟨x, P, h0, hP, by omega, by omega, ?_, ?_⟩
  · have htp : (P.take (j - 1 - a)).length = j - 1 - a := by rw [List.length_take]; omega
    have e3 : l2 = (l.take a ++ P.take (j - 1 - a)) ++ (y :: x :: (P.drop (j - a) ++ l.drop (i + 1))) := by
      rw [h3, e1]; simp
    have hA : (l.take a ++ P.take (j - 1 - a)).length = j - 1 := by rw [List.length_append, hta, htp]; omega
    rw [e2, e3, List.set_append_right _ _ (by omega), hA, List.set_append_right _ _ (by omega), hA, show j - (j - 1) = 1 from by omega, Nat.sub_self]
    simp
  · rw [e2]
    intro z hz
    rcases List.mem_cons.1 hz with rfl | hz
    · exact hb
    · exact h4 z hz
theorem insO_next {l l2 : List Bx} {a b i j : Nat} (h : InsI l a i j l2) (hi : i < b) (hb : b ≤ l.length) (hstop : j = a ∨ ∃ x y, a < j ∧ l2[j]? = some x ∧ l2[j - 1]? = some y ∧ before x y = false) : InsO l a b (i + 1) l2 := by
  obtain ⟨x', P', hP', hx', hjx, hprev⟩ := insI_at h (by omega)
  obtain ⟨x, P, h0, hP, h1, h2, h3, h4⟩ := h
  rw [h0] at hx'; cases hx'
  unfold InsO
  rw [Nat.min_eq_left (by omega), h3]
  have hdrop : (l.take (i + 1)).drop a = (l.take i).drop a ++ [x'] := by
    obtain ⟨hil, hxe⟩ := List.getElem?_eq_some_iff.1 h0
    rw [List.take_succ_eq_append_getElem hil, List.drop_append_of_le_length (by rw [List.length_take]; omega), hxe]
  rw [hdrop, order_snoc, ← hP]
  congr 2
  conv => rhs; rw [← List.take_append_drop (j - a) P]
  symm
  refine insB_split (fun z hz => ?_) h4
  have hs : SortedX P := by rw [hP]; exact order_sorted _
  rcases hstop with rfl | ⟨x1, y, hj, hx1, hy, hb1⟩
  · rw [Nat.sub_self] at hz; cases hz
  · rw [hx1] at hjx; cases hjx
    obtain ⟨y', hPy, hly⟩ := hprev hj
    rw [hy] at hly; cases hly
    rw [hP'.trans hP.symm] at hPy
    obtain ⟨hlt, hge⟩ := List.getElem?_eq_some_iff.1 hPy
    have hPs : P = P.take (j - 1 - a) ++ (y :: P.drop (j - a)) := by
      conv => lhs; rw [← List.take_append_drop (j - 1 - a) P]
      rw [List.drop_eq_getElem_cons hlt, hge, show j - 1 - a + 1 = j - a from by omega]
    rw [show j - a = (j - 1 - a) + 1 from by omega, List.take_succ_eq_append_getElem hlt, hge] at hz
    rcases List.mem_append.1 hz with hz | hz
    · unfold SortedX at hs
      rw [hPs, List.pairwise_append] at hs
      exact before_le (hs.2.2 z hz y (.head _)) hb1
    · cases List.mem_singleton.1 hz; exact hb1
theorem insO_end {l l1 : List Bx} {a b i : Nat} (h : InsO l a b i l1) (hi : ¬ i < b) : l1 = l.take a ++ orderX ((l.take b).drop a) ++ l.drop b := by
  unfold InsO at h
  rwa [Nat.min_eq_right (by omega)] at h
theorem insO_len {l l1 : List Bx} {a b i : Nat} (h : InsO l a b i l1) (ha : a ≤ i) (hab : a ≤ b) (hb : b ≤ l.length) : l1.length = l.length := by
  rw [h, List.length_append, List.length_append, ord_len (by omega) (by omega), List.length_take, List.length_drop]; omega
theorem insI_len {l l2 : List Bx} {a i j : Nat} (h : InsI l a i j l2) (hi : i < l.length) : l2.length = l.length := by
  obtain ⟨x, P, hx, hP, h1, h2, h3, h4⟩ := h
  have hl : P.length = i - a := by rw [hP]; exact ord_len (by omega) (by omega)
  rw [h3]; simp; omega
theorem or_is {x y z v : Int} (h : v = orZ x y z) : Ending.returned (.int .i64 v) = .returned (.int .i64 (orZ x y z)) := by rw [h]
set_option maxRecDepth 100000 in
set_option maxHeartbeats 4000000 in
theorem isNaN_any (x : Int) (w : World) : Calls Tryd.prog 73 #[.int .i64 x] w fun e w' => e = .returned (.bool false) ∧ Below w.heap.size w w' := by
  go_enter Tryd.func73, Tryd.ntmps73
  refine wp_seq ?_
  refine wp_region_L (W0 := w) [] (KS.start w) ?_
  refine lm (v := .bool false) rfl rfl ?_
  refine wpL_done (fun W1 hW1 => ?_)
  refine (show Code.wp _ _ _ _ _ from ?_)
  refine wp_seq ?_
  refine wp_region_L (W0 := w) [] (hW1) ?_
  refine lm (v := .int .i64 x) rfl rfl ?_
  refine lm (v := .int .i64 x) rfl rfl ?_
  refine lp (v := .bool false) rfl rfl (run_bin rfl (vx := (.int .i64 x)) (vy := (.int .i64 x)) (by kernel_rfl) (by kernel_rfl) fun w => bi_neq (decide_eq_true rfl) w) ?_
  refine lm (v := .bool false) rfl rfl ?_
  refine wpL_done (fun W2 hW2 => ?_)
  refine (show Code.wp _ _ _ _ _ from ?_)
  refine wp_ret ?_
  try simp only [inBlock_ret, then_ret]
  refine bodyPost_ret (v := .bool false) ?_ rfl ?_
  · kernel_rfl
  · exact ⟨rfl, hW2.1⟩
set_option maxRecDepth 100000 in
set_option maxHeartbeats 4000000 in
theorem Cmp_any (x y : Int) (w : World) : Calls Tryd.prog 66 #[.int .i64 x, .int .i64 y] w fun e w' => e = .returned (.int .i64 (cmpZ x y)) ∧ Below w.heap.size w w' := by
  go_enter Tryd.func66, Tryd.ntmps66
  refine wp_seq ?_
  refine wp_region_L (W0 := w) [] (KS.start w) ?_
  refine lm (v := .int .i64 0) rfl rfl ?_
  refine wpL_done (fun W1 hW1 => ?_)
  refine (show Code.wp _ _ _ _ _ from ?_)
  refine wp_seq ?_
  refine wp_region_L (W0 := w) [] (hW1) ?_
  refine lm (v := .int .i64 x) rfl rfl ?_
  refine lv (v := .bool false) rfl rfl (yb_call (f := 73) (args := #[.int .i64 x]) (fun _ => by kernel_rfl) fun W hW => isNaN_any x W) ?_
  refine lm (v := .bool false) rfl rfl ?_
  refine wpL_done (fun W2 hW2 => ?_)
  refine (show Code.wp _ _ _ _ _ from ?_)
  refine wp_seq ?_
  refine wp_region_L (W0 := w) [] (hW2) ?_
  refine lm (v := .int .i64 y) rfl rfl ?_
  refine lv (v := .bool false) rfl rfl (yb_call (f := 73) (args := #[.int .i64 y]) (fun _ => by kernel_rfl) fun W hW => isNaN_any y W) ?_
  refine lm (v := .bool false) rfl rfl ?_
  refine wpL_done (fun W3 hW3 => ?_)
  refine (show Code.wp _ _ _ _ _ from ?_)
  refine wp_seq ?_
  refine wp_seq ?_
  refine wp_region_L (W0 := w) [] (hW3) ?_
  refine lm (v := .bool false) rfl rfl ?_
  refine wpL_done (fun W4 hW4 => ?_)
  refine (show Code.wp _ _ _ _ _ from ?_)
  refine wp_cond_false rfl ?_
  refine wp_skip ?_
  refine (show Code.wp _ _ _ _ _ from ?_)
  refine wp_seq ?_
  refine wp_seq ?_
  refine wp_region_L (W0 := w) [] (hW4) ?_
  refine lm (v := .bool false) rfl rfl ?_
  refine wpL_done (fun W5 hW5 => ?_)
  refine (show Code.wp _ _ _ _ _ from ?_)
  refine wp_cond_false rfl ?_
  refine wp_skip ?_
  refine (show Code.wp _ _ _ _ _ from ?_)
  refine wp_seq ?_
  refine wp_seq ?_
  refine wp_region_L (W0 := w) [] (hW5) ?_
  refine lm (v := .int .i64 x) rfl rfl ?_
  refine lm (v := .int .i64 y) rfl rfl ?_
  refine lp (v := .bool (decide (x < y))) rfl rfl (run_bin rfl (vx := (.int .i64 x)) (vy := (.int .i64 y)) (by kernel_rfl) (by kernel_rfl) fun w => bi_lss rfl w) ?_
  refine wpL_done (fun W6 hW6 => ?_)
  refine (show Code.wp _ _ _ _ _ from ?_)
  cases hd1 : (decide (x < y)) with
  | false =>
    have h1 : ¬ (x < y) := of_decide_eq_false hd1
    clear hd1
    refine wp_cond_false rfl ?_
    refine wp_skip ?_
    refine (show Code.wp _ _ _ _ _ from ?_)
    refine wp_seq ?_
    refine wp_seq ?_
    refine wp_region_L (W0 := w) [] (hW6) ?_
    refine lm (v := .int .i64 x) rfl rfl ?_
    refine lm (v := .int .i64 y) rfl rfl ?_
    refine lp (v := .bool (decide (y < x))) rfl rfl (run_bin rfl (vx := (.int .i64 x)) (vy := (.int .i64 y)) (by kernel_rfl) (by kernel_rfl) fun w => bi_gtr rfl w) ?_
    refine wpL_done (fun W7 hW7 => ?_)
    refine (show Code.wp _ _ _ _ _ from ?_)
    cases hd2 : (decide (y < x)) with
    | false =>
      have h2 : ¬ (y < x) := of_decide_eq_false hd2
      clear hd2
      refine wp_cond_false rfl ?_
      refine wp_skip ?_
      refine (show Code.wp _ _ _ _ _ from ?_)
      refine wp_seq ?_
      refine wp_region_L (W0 := w) [] (hW7) ?_
      refine lm (v := .int .i64 0) rfl rfl ?_
      refine wpL_done (fun W8 hW8 => ?_)
      refine (show Code.wp _ _ _ _ _ from ?_)
      refine wp_ret ?_
      try simp only [inBlock_ret, then_ret]
      refine bodyPost_ret (v := .int .i64 0) ?_ rfl ?_
      · kernel_rfl
      · exact ⟨(z_is (by unfold cmpZ; simp only [*, if_true, if_false, reduceIte])), hW8.1⟩
    | true =>
      have h2 : y < x := of_decide_eq_true hd2
      clear hd2
      refine wp_cond_true rfl ?_
      refine wp_seq ?_
      refine wp_region_L (W0 := w) [] (hW7) ?_
      refine lm (v := .int .i64 1) rfl rfl ?_
      refine wpL_done (fun W9 hW9 => ?_)
      refine (show Code.wp _ _ _ _ _ from ?_)
      refine wp_ret ?_
      try simp only [inBlock_ret, then_ret]
      refine bodyPost_ret (v := .int .i64 1) ?_ rfl ?_
      · kernel_rfl
      · exact ⟨(z_is (by unfold cmpZ; simp only [*, if_true, if_false, reduceIte])), hW9.1⟩
  | true =>
    have h1 : x < y := of_decide_eq_true hd1
    clear hd1
    refine wp_cond_true rfl ?_
    refine wp_seq ?_
    refine wp_region_L (W0 := w) [] (hW6) ?_
    refine lm (v := .int .i64 (-1)) rfl rfl ?_
    refine wpL_done (fun W10 hW10 => ?_)
    refine (show Code.wp _ _ _ _ _ from ?_)
    refine wp_ret ?_
    try simp only [inBlock_ret, then_ret]
    refine bodyPost_ret (v := .int .i64 (-1)) ?_ rfl ?_
    · kernel_rfl
    · exact ⟨(z_is (by unfold cmpZ; simp only [*, if_true, if_false, reduceIte])), hW10.1⟩
set_option maxRecDepth 100000 in
set_option maxHeartbeats 4000000 in
theorem Or_any (x y z : Int) (g : Nat) (w : World) (hg : w.heap[g]? = some (.cells #[.int .i64 x, .int .i64 y, .int .i64 z] 3 (0, 0))) : Calls Tryd.prog 65 #[.slice (some ⟨g, 0, none⟩) 3 3] w fun e w' => e = .returned (.int .i64 (orZ x y z)) ∧ Below w.heap.size w w' := by
  have hk0 : KS w [(g, .cells #[.int .i64 x, .int .i64 y, .int .i64 z] 3 (0, 0))] w := ⟨Below.refl _ _, fun p hp => by cases List.mem_singleton.1 hp; exact hg⟩
  clear hg
  go_enter Tryd.func65, Tryd.ntmps65
  refine wp_seq ?_
  refine wp_region_L (W0 := w) [(g, .cells #[.int .i64 x, .int .i64 y, .int .i64 z] 3 (0, 0))] (hk0) ?_
  refine lm (v := .int .i64 0) rfl rfl ?_
  refine wpL_done (fun W1 hW1 => ?_)
  refine (show Code.wp _ _ _ _ _ from ?_)
  refine wp_seq ?_
  refine wp_region_L (W0 := w) [(g, .cells #[.int .i64 x, .int .i64 y, .int .i64 z] 3 (0, 0))] (hW1) ?_
  refine lm (v := .int .i64 0) rfl rfl ?_
  refine wpL_done (fun W2 hW2 => ?_)
  refine (show Code.wp _ _ _ _ _ from ?_)
  refine wp_seq ?_
  refine wp_seq ?_
  refine wp_region_L (W0 := w) [(g, .cells #[.int .i64 x, .int .i64 y, .int .i64 z] 3 (0, 0))] (hW2) ?_
  refine lm (v := .slice (some ⟨g, 0, none⟩) 3 3) rfl rfl ?_
  refine lm (v := .int .i64 3) rfl rfl ?_
  refine lm (v := .int .i64 0) rfl rfl ?_
  refine wpL_done (fun W3 hW3 => ?_)
  refine (show Code.wp _ _ _ _ _ from ?_)
  refine wp_block ?_
  refine wp_loop_rounds 4 ?_
  refine (show Code.wp _ _ _ _ _ from ?_)
  refine wp_seq ?_
  refine wp_region_L (W0 := w) [(g, .cells #[.int .i64 x, .int .i64 y, .int .i64 z] 3 (0, 0))] (hW3) ?_
  refine lm (v := .bool true) rfl rfl ?_
  refine wpL_done (fun W4 hW4 => ?_)
  refine (show Code.wp _ _ _ _ _ from ?_)
  refine wp_seq ?_
  refine wp_cond_true rfl ?_
  refine wp_skip ?_
  refine (show Code.wp _ _ _ _ _ from ?_)
  refine wp_seq ?_
  refine wp_block ?_
  refine wp_seq ?_
  refine wp_region_L (W0 := w) [(g, .cells #[.int .i64 x, .int .i64 y, .int .i64 z] 3 (0, 0))] (hW4) ?_
  refine lm (v := .pointer (some ⟨g, 0, none⟩)) rfl rfl ?_
  refine lv (v := .int .i64 x) rfl rfl (yb_cell (off := 0) rfl (by kernel_rfl) (.head _) Tryd.underlying3 rfl (by kernel_rfl)) ?_
  refine lm (v := .int .i64 x) rfl rfl ?_
  refine wpL_done (fun W5 hW5 => ?_)
  refine (show Code.wp _ _ _ _ _ from ?_)
  refine wp_seq ?_
  refine wp_region_L (W0 := w) [(g, .cells #[.int .i64 x, .int .i64 y, .int .i64 z] 3 (0, 0))] (hW5) ?_
  refine lm (v := .int .i64 x) rfl rfl ?_
  refine lm (v := .int .i64 0) rfl rfl ?_
  refine lp (v := .bool (!(decide (x = 0)))) rfl rfl (run_bin rfl (vx := (.int .i64 x)) (vy := (.int .i64 0)) (by kernel_rfl) (by kernel_rfl) fun w => bi_neq rfl w) ?_
  refine wpL_done (fun W6 hW6 => ?_)
  refine (show Code.wp _ _ _ _ _ from ?_)
  cases hd1 : (decide (x = 0)) with
  | false =>
    have h1 : ¬ (x = 0) := of_decide_eq_false hd1
    clear hd1
    refine wp_cond_true rfl ?_
    refine wp_seq ?_
    refine wp_region_L (W0 := w) [(g, .cells #[.int .i64 x, .int .i64 y, .int .i64 z] 3 (0, 0))] (hW6) ?_
    refine lm (v := .int .i64 x) rfl rfl ?_
    refine lm (v := .int .i64 x) rfl rfl ?_
    refine wpL_done (fun W7 hW7 => ?_)
    refine (show Code.wp _ _ _ _ _ from ?_)
    refine wp_ret ?_
    try simp only [inBlock_ret, then_ret]
    refine bodyPost_ret (v := .int .i64 x) ?_ rfl ?_
    · kernel_rfl
    · exact ⟨(z_is (by simp [orZ, h1])), hW7.1⟩
  | true =>
    have h1 : x = 0 := of_decide_eq_true hd1
    clear hd1
    refine wp_cond_false rfl ?_
    refine wp_skip ?_
    refine (show Code.wp _ _ _ _ _ from ?_)
    refine wp_region_L (W0 := w) [(g, .cells #[.int .i64 x, .int .i64 y, .int .i64 z] 3 (0, 0))] (hW6) ?_
    refine lm (v := .int .i64 1) rfl rfl ?_
    refine lm (v := .int .i64 1) rfl rfl ?_
    refine wpL_done (fun W8 hW8 => ?_)
    refine (show Code.wp _ _ _ _ _ from ?_)
    refine wp_seq ?_
    refine wp_region_L (W0 := w) [(g, .cells #[.int .i64 x, .int .i64 y, .int .i64 z] 3 (0, 0))] (hW8) ?_
    refine lm (v := .bool true) rfl rfl ?_
    refine wpL_done (fun W9 hW9 => ?_)
    refine (show Code.wp _ _ _ _ _ from ?_)
    refine wp_seq ?_
    refine wp_cond_true rfl ?_
    refine wp_skip ?_
    refine (show Code.wp _ _ _ _ _ from ?_)
    refine wp_seq ?_
    refine wp_block ?_
    refine wp_seq ?_
    refine wp_region_L (W0 := w) [(g, .cells #[.int .i64 x, .int .i64 y, .int .i64 z] 3 (0, 0))] (hW9) ?_
    refine lm (v := .pointer (some ⟨g, 1, none⟩)) rfl rfl ?_
    refine lv (v := .int .i64 y) rfl rfl (yb_cell (off := 1) rfl (by kernel_rfl) (.head _) Tryd.underlying3 rfl (by kernel_rfl)) ?_
    refine lm (v := .int .i64 y) rfl rfl ?_
    refine wpL_done (fun W10 hW10 => ?_)
    refine (show Code.wp _ _ _ _ _ from ?_)
    refine wp_seq ?_
    refine wp_region_L (W0 := w) [(g, .cells #[.int .i64 x, .int .i64 y, .int .i64 z] 3 (0, 0))] (hW10) ?_
    refine lm (v := .int .i64 y) rfl rfl ?_
    refine lm (v := .int .i64 0) rfl rfl ?_
    refine lp (v := .bool (!(decide (y = 0)))) rfl rfl (run_bin rfl (vx := (.int .i64 y)) (vy := (.int .i64 0)) (by kernel_rfl) (by kernel_rfl) fun w => bi_neq rfl w) ?_
    refine wpL_done (fun W11 hW11 => ?_)
    refine (show Code.wp _ _ _ _ _ from ?_)
    cases hd2 : (decide (y = 0)) with
    | false =>
      have h2 : ¬ (y = 0) := of_decide_eq_false hd2
      clear hd2
      refine wp_cond_true rfl ?_
      refine wp_seq ?_
      refine wp_region_L (W0 := w) [(g, .cells #[.int .i64 x, .int .i64 y, .int .i64 z] 3 (0, 0))] (hW11) ?_
      refine lm (v := .int .i64 y) rfl rfl ?_
      refine lm (v := .int .i64 y) rfl rfl ?_
      refine wpL_done (fun W12 hW12 => ?_)
      refine (show Code.wp _ _ _ _ _ from ?_)
      refine wp_ret ?_
      try simp only [inBlock_ret, then_ret]
      refine bodyPost_ret (v := .int .i64 y) ?_ rfl ?_
      · kernel_rfl
      · exact ⟨(z_is (by simp [orZ, h1, h2])), hW12.1⟩
    | true =>
      have h2 : y = 0 := of_decide_eq_true hd2
      clear hd2
      refine wp_cond_false rfl ?_
      refine wp_skip ?_
      refine (show Code.wp _ _ _ _ _ from ?_)
      refine wp_region_L (W0 := w) [(g, .cells #[.int .i64 x, .int .i64 y, .int .i64 z] 3 (0, 0))] (hW11) ?_
      refine lm (v := .int .i64 2) rfl rfl ?_
      refine lm (v := .int .i64 2) rfl rfl ?_
      refine wpL_done (fun W13 hW13 => ?_)
      refine (show Code.wp _ _ _ _ _ from ?_)
      refine wp_seq ?_
      refine wp_region_L (W0 := w) [(g, .cells #[.int .i64 x, .int .i64 y, .int .i64 z] 3 (0, 0))] (hW13) ?_
      refine lm (v := .bool true) rfl rfl ?_
      refine wpL_done (fun W14 hW14 => ?_)
      refine (show Code.wp _ _ _ _ _ from ?_)
      refine wp_seq ?_
      refine wp_cond_true rfl ?_
      refine wp_skip ?_
      refine (show Code.wp _ _ _ _ _ from ?_)
      refine wp_seq ?_
      refine wp_block ?_
      refine wp_seq ?_
      refine wp_region_L (W0 := w) [(g, .cells #[.int .i64 x, .int .i64 y, .int .i64 z] 3 (0, 0))] (hW14) ?_
      refine lm (v := .pointer (some ⟨g, 2, none⟩)) rfl rfl ?_
      refine lv (v := .int .i64 z) rfl rfl (yb_cell (off := 2) rfl (by kernel_rfl) (.head _) Tryd.underlying3 rfl (by kernel_rfl)) ?_
      refine lm (v := .int .i64 z) rfl rfl ?_
      refine wpL_done (fun W15 hW15 => ?_)
      refine (show Code.wp _ _ _ _ _ from ?_)
      refine wp_seq ?_
      refine wp_region_L (W0 := w) [(g, .cells #[.int .i64 x, .int .i64 y, .int .i64 z] 3 (0, 0))] (hW15) ?_
      refine lm (v := .int .i64 z) rfl rfl ?_
      refine lm (v := .int .i64 0) rfl rfl ?_
      refine lp (v := .bool (!(decide (z = 0)))) rfl rfl (run_bin rfl (vx := (.int .i64 z)) (vy := (.int .i64 0)) (by kernel_rfl) (by kernel_rfl) fun w => bi_neq rfl w) ?_
      refine wpL_done (fun W16 hW16 => ?_)
      refine (show Code.wp _ _ _ _ _ from ?_)
      cases hd3 : (decide (z = 0)) with
      | false =>
        have h3 : ¬ (z = 0) := of_decide_eq_false hd3
        clear hd3
        refine wp_cond_true rfl ?_
        refine wp_seq ?_
        refine wp_region_L (W0 := w) [(g, .cells #[.int .i64 x, .int .i64 y, .int .i64 z] 3 (0, 0))] (hW16) ?_
        refine lm (v := .int .i64 z) rfl rfl ?_
        refine lm (v := .int .i64 z) rfl rfl ?_
        refine wpL_done (fun W17 hW17 => ?_)
        refine (show Code.wp _ _ _ _ _ from ?_)
        refine wp_ret ?_
        try simp only [inBlock_ret, then_ret]
        refine bodyPost_ret (v := .int .i64 z) ?_ rfl ?_
        · kernel_rfl
        · exact ⟨(z_is (by simp [orZ, h1, h2, h3])), hW17.1⟩
      | true =>
        have h3 : z = 0 := of_decide_eq_true hd3
        clear hd3
        refine wp_cond_false rfl ?_
        refine wp_skip ?_
        refine (show Code.wp _ _ _ _ _ from ?_)
        refine wp_region_L (W0 := w) [(g, .cells #[.int .i64 x, .int .i64 y, .int .i64 z] 3 (0, 0))] (hW16) ?_
        refine lm (v := .int .i64 3) rfl rfl ?_
        refine lm (v := .int .i64 3) rfl rfl ?_
        refine wpL_done (fun W18 hW18 => ?_)
        refine (show Code.wp _ _ _ _ _ from ?_)
        refine wp_seq ?_
        refine wp_region_L (W0 := w) [(g, .cells #[.int .i64 x, .int .i64 y, .int .i64 z] 3 (0, 0))] (hW18) ?_
        refine lm (v := .bool false) rfl rfl ?_
        refine wpL_done (fun W19 hW19 => ?_)
        refine (show Code.wp _ _ _ _ _ from ?_)
        refine wp_seq ?_
        refine wp_cond_false rfl ?_
        refine wp_exit ?_
        refine (show Code.wp _ _ _ _ _ from ?_)
        refine wp_seq ?_
        refine wp_region_L (W0 := w) [(g, .cells #[.int .i64 x, .int .i64 y, .int .i64 z] 3 (0, 0))] (hW19) ?_
        refine lm (v := .int .i64 0) rfl rfl ?_
        refine lm (v := .int .i64 0) rfl rfl ?_
        refine wpL_done (fun W20 hW20 => ?_)
        refine (show Code.wp _ _ _ _ _ from ?_)
        refine wp_ret ?_
        try simp only [inBlock_ret, then_ret]
        refine bodyPost_ret (v := .int .i64 0) ?_ rfl ?_
        · kernel_rfl
        · exact ⟨(z_is (by simp [orZ, h1, h2, h3])), hW20.1⟩
set_option maxRecDepth 100000 in
set_option maxHeartbeats 4000000 in
theorem compare_any (a b : Bx) (w : World) : Calls Tryd.prog 48 #[bxV a, bxV b] w fun e w' => e = .returned (.int .i64 (cmpX a b)) ∧ Below w.heap.size w w' := by
  go_enter Tryd.func48, Tryd.ntmps48
  refine wp_seq ?_
  refine wp_region_L (W0 := w) [] (KS.start w) ?_
  refine wpL_new (fun g => .pointer (some ⟨g, 0, none⟩)) (obi := .cells (bxC a) 26 (0, 0)) rfl rfl (fun _ => by kernel_rfl) (fun _ => by simp only [List.setIfInBounds_toArray, List.set_cons_succ, List.set_cons_zero] <;> rfl) fun g1 Bg1 Fg1 => ?_
  refine wpL_new (fun g => .pointer (some ⟨g, 0, none⟩)) (obi := .cells (bxC b) 26 (0, 0)) rfl rfl (fun _ => by kernel_rfl) (fun _ => by simp only [List.setIfInBounds_toArray, List.set_cons_succ, List.set_cons_zero] <;> rfl) fun g2 Bg2 Fg2 => ?_
  obtain dj3_0 : g1 ≠ g2 := by simpa only [dj_app_l, dj_app_r, dj_cons_l, dj_cons_r, dj_nil_l, dj_nil_r, dk_app, dk_cons, dk_nil, and_true, true_and, and_assoc] using (show Dk g2 [(g1, .cells (bxC a) 26 (0, 0))] from Fg2)
  refine lm (v := .int .i64 0) rfl rfl ?_
  refine wpL_done (fun W1 hW1 => ?_)
  refine (show Code.wp _ _ _ _ _ from ?_)
  refine wp_seq ?_
  refine wp_region_V (W0 := w) [(g2, .cells (bxC b) 26 (0, 0)), (g1, .cells (bxC a) 26 (0, 0))] (by kernel_rfl) (hW1) ?_
  refine vm (i := 0) (v := .pointer (some ⟨g2, 6, none⟩)) rfl rfl rfl ?_
  refine vv (i := 1) (v := .int .i64 b.dis) rfl rfl rfl (yb_cell (off := 6) rfl (by kernel_rfl) (.head _) Tryd.underlying3 rfl (by kernel_rfl)) ?_
  refine vm (i := 2) (v := .pointer (some ⟨g1, 6, none⟩)) rfl rfl rfl ?_
  refine vv (i := 3) (v := .int .i64 a.dis) rfl rfl rfl (yb_cell (off := 6) rfl (by kernel_rfl) (.tail _ (.head _)) Tryd.underlying3 rfl (by kernel_rfl)) ?_
  refine vv (i := 4) (v := .int .i64 (cmpZ b.dis a.dis)) rfl rfl rfl (yb_call (f := 66) (args := #[.int .i64 b.dis, .int .i64 a.dis]) (fun _ => by kernel_rfl) fun W hW => Cmp_any b.dis a.dis W) ?_
  refine vm (i := 5) (v := .pointer (some ⟨g2, 4, none⟩)) rfl rfl rfl ?_
  refine vv (i := 6) (v := .int .i64 b.kilos) rfl rfl rfl (yb_cell (off := 4) rfl (by kernel_rfl) (.head _) Tryd.underlying3 rfl (by kernel_rfl)) ?_
  refine vm (i := 7) (v := .pointer (some ⟨g1, 4, none⟩)) rfl rfl rfl ?_
  refine vv (i := 8) (v := .int .i64 a.kilos) rfl rfl rfl (yb_cell (off := 4) rfl (by kernel_rfl) (.tail _ (.head _)) Tryd.underlying3 rfl (by kernel_rfl)) ?_
  refine vv (i := 9) (v := .int .i64 (cmpZ b.kilos a.kilos)) rfl rfl rfl (yb_call (f := 66) (args := #[.int .i64 b.kilos, .int .i64 a.kilos]) (fun _ => by kernel_rfl) fun W hW => Cmp_any b.kilos a.kilos W) ?_
  refine vm (i := 10) (v := .pointer (some ⟨g1, 0, none⟩)) rfl rfl rfl ?_
  refine vv (i := 11) (v := .int .i64 a.id) rfl rfl rfl (yb_cell (off := 0) rfl (by kernel_rfl) (.tail _ (.head _)) Tryd.underlying3 rfl (by kernel_rfl)) ?_
  refine vm (i := 12) (v := .pointer (some ⟨g2, 0, none⟩)) rfl rfl rfl ?_
  refine vv (i := 13) (v := .int .i64 b.id) rfl rfl rfl (yb_cell (off := 0) rfl (by kernel_rfl) (.head _) Tryd.underlying3 rfl (by kernel_rfl)) ?_
  refine vv (i := 14) (v := .int .i64 (cmpZ a.id b.id)) rfl rfl rfl (yb_call (f := 66) (args := #[.int .i64 a.id, .int .i64 b.id]) (fun _ => by kernel_rfl) fun W hW => Cmp_any a.id b.id W) ?_
  refine wpV_ns (fun g => .slice (some ⟨g, 0, none⟩) 3 3) (i := 15) (obi := .cells #[.int .i64 (cmpZ b.dis a.dis), .int .i64 (cmpZ b.kilos a.kilos), .int .i64 (cmpZ a.id b.id)] 3 (0, 0)) rfl rfl rfl (by kernel_rfl) (fun _ => by kernel_rfl) (fun _ => by simp only [List.setIfInBounds_toArray, List.set_cons_succ, List.set_cons_zero] <;> rfl) fun g4 Bg4 Fg4 => ?_
  obtain ⟨dj5_0, dj5_1⟩ : g2 ≠ g4 ∧ g1 ≠ g4 := by simpa only [dj_app_l, dj_app_r, dj_cons_l, dj_cons_r, dj_nil_l, dj_nil_r, dk_app, dk_cons, dk_nil, and_true, true_and, and_assoc] using (show Dk g4 [(g2, .cells (bxC b) 26 (0, 0)), (g1, .cells (bxC a) 26 (0, 0))] from Fg4)
  refine vv (i := 16) (v := .int .i64 (orZ (cmpZ b.dis a.dis) (cmpZ b.kilos a.kilos) (cmpZ a.id b.id))) rfl rfl rfl (yb_call (f := 65) (args := #[.slice (some ⟨g4, 0, none⟩) 3 3]) (fun _ => by kernel_rfl) fun W hW => Or_any (cmpZ b.dis a.dis) (cmpZ b.kilos a.kilos) (cmpZ a.id b.id) g4 W (hW.2 _ (.head _))) ?_
  refine vm (i := 17) (v := .int .i64 (orZ (cmpZ b.dis a.dis) (cmpZ b.kilos a.kilos) (cmpZ a.id b.id))) rfl rfl rfl ?_
  refine wpV_done (by kernel_rfl) (fun W2 hW2 => ?_) _
  refine (show Code.wp _ _ _ _ _ from ?_)
  refine wp_ret ?_
  try simp only [inBlock_ret, then_ret]
  refine bodyPost_ret (v := .int .i64 (orZ (cmpZ b.dis a.dis) (cmpZ b.kilos a.kilos) (cmpZ a.id b.id))) ?_ rfl ?_
  · kernel_rfl
  · exact ⟨rfl, hW2.1⟩
end Go.Proofs.YtjbbeolapaaiaaaDoor
namespace Go.Proofs.YtjbbeolapaaiaaaDoor
open Go Go.RowKit Tw
theorem exit_then (f : Act → World → Prop) (Q : Exit → Act → World → Prop) (n : Nat) (a : Act) (w : World) : Exit.then f Q (.exit n) a w = Q (.exit n) a w := rfl
theorem exit_in (n : Nat) (Q : Exit → Act → World → Prop) (a : Act) (w : World) : Exit.inBlock n Q (.exit n) a w = Q .normal a w := if_pos rfl
theorem exit_out (n m : Nat) (Q : Exit → Act → World → Prop) (a : Act) (w : World) (h : (m == n) = false) : Exit.inBlock n Q (.exit m) a w = Q (.exit m) a w := if_neg (by intro e; subst e; simp at h)
def RowX (cur : Array Value) (l : List Bx) : Prop := ∃ rest, cur.toList = bcs l ++ rest
def putR (cur : Array Value) (k : Nat) (b : Bx) : Array Value := (cur.toList.take (k * 9) ++ (bxC b).toList ++ cur.toList.drop (k * 9 + 9)).toArray
theorem RowX.size {cur : Array Value} {l : List Bx} (h : RowX cur l) : l.length * 9 ≤ cur.size := by
  obtain ⟨rest, h⟩ := h
  have := congrArg List.length h
  rw [List.length_append, bcs_len, Array.length_toList] at this
  omega
theorem RowX.get {cur : Array Value} {l : List Bx} {k : Nat} {b : Bx} (h : RowX cur l) (hb : l[k]? = some b) : ∀ (j : Nat) (v : Value), (bxC b).toList[j]? = some v → cur[0 + k * 9 + j]? = some v := fun j v hv => by
  obtain ⟨rest, h⟩ := h
  have h1 := bcs_get hb hv
  rw [← Array.getElem?_toList, h, Nat.zero_add, List.getElem?_append_left (List.getElem?_eq_some_iff.1 h1).1, h1]
theorem bcs_split {l : List Bx} {k : Nat} {b : Bx} (hb : l[k]? = some b) : bcs l = bcs (l.take k) ++ ((bxC b).toList ++ bcs (l.drop (k + 1))) := by
  obtain ⟨hk, rfl⟩ := List.getElem?_eq_some_iff.1 hb
  conv => lhs; rw [← List.take_append_drop k l, List.drop_eq_getElem_cons hk]
  rw [bcs_app]
  rfl
theorem set_is {l : List Bx} {k : Nat} {b : Bx} (hk : k < l.length) : l.set k b = l.take k ++ b :: l.drop (k + 1) := by
  rw [List.set_eq_take_append_cons_drop, if_pos hk]
theorem put_list {cur : Array Value} {l : List Bx} {k : Nat} {b : Bx} {rest : List Value} (h : cur.toList = bcs l ++ rest) (hk : k < l.length) : (putR cur k b).toList = bcs (l.set k b) ++ rest := by
  have hb : l[k]? = some l[k] := List.getElem?_eq_getElem hk
  have hl : (bcs (l.take k)).length = k * 9 := by rw [bcs_len, List.length_take, Nat.min_eq_left (by omega)]
  have h9 : (bxC l[k]).toList.length = 9 := rfl
  unfold putR
  rw [set_is hk, bcs_app, show bcs (b :: l.drop (k + 1)) = (bxC b).toList ++ bcs (l.drop (k + 1)) from rfl]
  simp only [h, bcs_split hb, List.append_assoc]
  rw [List.take_left' hl, ← List.drop_drop, List.drop_left' hl, List.drop_left' h9]
theorem RowX.put {cur : Array Value} {l : List Bx} {k : Nat} {b : Bx} (h : RowX cur l) (hk : k < l.length) : RowX (putR cur k b) (l.set k b) := by
  obtain ⟨rest, h⟩ := h
  exact ⟨rest, put_list h hk⟩
theorem put_size {cur : Array Value} {l : List Bx} {k : Nat} {b : Bx} (h : RowX cur l) (hk : k < l.length) : (putR cur k b).size = cur.size := by
  obtain ⟨rest, h⟩ := h
  have h1 := congrArg List.length (put_list (b := b) h hk)
  have h2 := congrArg List.length h
  simp only [List.length_append, bcs_len, List.length_set, Array.length_toList] at h1 h2
  omega
theorem st_rec {W0 : Base} {o : Oper} {a : Act} {K K' : List (Nat × Obj)} {ty t : TypeId} {x y : Operand} {g k : Nat} {cur : Array Value} {l : List Bx} {b : Bx} (ho : o.op = .store ty x y) (hx : a.eval x = .pointer (some ⟨g, 0 + k * 9, none⟩)) (hv : a.eval y = bxV b)
    (hm : (g, .cells cur t (0, 0)) ∈ K) (hB : W0.B ≤ g) (hi : (Tryd.prog.info? ty).map (·.size) = some 9) (hr : RowX cur l) (hk : k < l.length)
    (hK : ∀ p ∈ K', p = (g, .cells (putR cur k b) t (0, 0)) ∨ (p ∈ K ∧ p.1 ≠ g)) : ∀ w, KS W0 K w → ∃ w', (execOp a.eval o).run Tryd.prog w = .ok .skip w' ∧ KS W0 K' w' :=
  st_row (off := 0 + k * 9) (v := bxV b) ho hx hv hm hB hi (by have := hr.size; show 0 + k * 9 + 9 ≤ cur.size; omega) (by show ∀ x ∈ (bxC b).toList, x.oneCell' = true; rw [← bcs_one]; exact bcs_onec _) (by
    show putR cur k b = (cur.toList.take (0 + k * 9) ++ (bxC b).toList ++ cur.toList.drop (0 + k * 9 + 9)).toArray
    unfold putR; rw [Nat.zero_add]) hK
set_option maxRecDepth 100000 in
set_option maxHeartbeats 4000000 in
theorem ins_any {W0 : Base} {K : List (Nat × Obj)} {g n cap : Nat} {cur : Array Value} (l : List Bx) (hn : l.length = n) (hn2 : n ≤ 4000000000) (a b : Nat) (hab : a ≤ b) (hbn : b ≤ n) (hr : RowX cur l) (hB : W0.B ≤ g) (hg : ∀ q ∈ K, q.1 ≠ g) (w : World) (hw : KS W0 ((g, .cells cur 26 (0, 0)) :: K) w) :
    Calls Tryd.prog 71 #[.slice (some ⟨g, 0, none⟩) n cap, .int .i64 ((a : Nat) : Int), .int .i64 ((b : Nat) : Int), .func (.func 48) #[] #[]] w fun e w' => ∃ v K', e = .returned v ∧ KS W0 K' w' ∧ (v = .tuple #[] ∧ ∃ cur', RowX cur' (l.take a ++ orderX ((l.take b).drop a) ++ l.drop b) ∧ cur'.size = cur.size ∧ K' = (g, .cells cur' 26 (0, 0)) :: K) := by
  go_enter Tryd.func71, Tryd.ntmps71
  refine wp_seq ?_
  refine wp_region_L (W0 := W0) ((g, .cells cur 26 (0, 0)) :: K) (hw) ?_
  refine lm (v := .int .i64 ((a : Nat) : Int)) rfl rfl ?_
  refine lp (v := .int .i64 (((a + 1) : Nat) : Int)) rfl rfl (run_bin rfl (vx := (.int .i64 ((a : Nat) : Int))) (vy := (.int .i64 ((1 : Nat) : Int))) (by kernel_rfl) (by kernel_rfl) fun w => bn_add (z := (a + 1)) rfl (wr_i64 (by omega)) w) ?_
  refine lm (v := .int .i64 (((a + 1) : Nat) : Int)) rfl rfl ?_
  refine wpL_done (fun W1 hW1 => ?_)
  refine (show Code.wp _ _ _ _ _ from ?_)
  refine wp_block ?_
  go_loopw [8] (fun u8 wr => ∃ (i : Nat) (l1 : List Bx) (cur1 : Array Value), (a + 1 ≤ i ∧ i ≤ b + 1) ∧ (InsO l a b i l1) ∧ (RowX cur1 l1) ∧ (cur1.size = cur.size) ∧ (l1.length = l.length) ∧ u8 = .int .i64 ((i : Nat) : Int) ∧ KS W0 ((g, .cells cur1 26 (0, 0)) :: K) wr) (fun u8 _ => b + 1 - (intOf u8).toNat)
  case atStart => exact ⟨a + 1, l, cur, (by omega), (insO_start hab (by omega)), hr, rfl, rfl, rfl, hW1⟩
  case round =>
    obtain ⟨i, l1, cur1, hi, hO, hr1, hz, hl1, rfl, hL2⟩ := hrel
    refine wp_seq ?_
    refine wp_seq ?_
    refine wp_region_L (W0 := W0) ((g, .cells cur1 26 (0, 0)) :: K) (hL2) ?_
    refine lm (v := .int .i64 ((i : Nat) : Int)) rfl rfl ?_
    refine lm (v := .int .i64 ((b : Nat) : Int)) rfl rfl ?_
    refine lp (v := .bool (decide (i < b))) rfl rfl (run_bin rfl (vx := (.int .i64 ((i : Nat) : Int))) (vy := (.int .i64 ((b : Nat) : Int))) (by kernel_rfl) (by kernel_rfl) fun w => bn_lss rfl w) ?_
    refine wpL_done (fun W3 hW3 => ?_)
    refine (show Code.wp _ _ _ _ _ from ?_)
    cases hd1 : (decide (i < b)) with
    | false =>
      have h1 : ¬ (i < b) := of_decide_eq_false hd1
      clear hd1
      refine wp_cond_false rfl ?_
      refine wp_exit ?_
      simp only [exit_then, exit_in, exit_out]
      refine bodyPost_end (v := .tuple #[]) (results_none rfl _ _ _) rfl ?_
      exact ⟨_, _, rfl, hW3.sub (List.forall_mem_cons.2 ⟨(.head _), fun p hp => (.tail _ hp)⟩), rfl, _, (by rw [← insO_end hO h1]; exact hr1), hz, rfl⟩
    | true =>
      have h1 : i < b := of_decide_eq_true hd1
      clear hd1
      have hib := h1
      refine wp_cond_true rfl ?_
      refine wp_skip ?_
      refine (show Code.wp _ _ _ _ _ from ?_)
      refine wp_seq ?_
      refine wp_block ?_
      refine wp_seq ?_
      refine wp_region_L (W0 := W0) ((g, .cells cur1 26 (0, 0)) :: K) (hW3) ?_
      refine lm (v := .int .i64 ((i : Nat) : Int)) rfl rfl ?_
      refine lm (v := .int .i64 ((i : Nat) : Int)) rfl rfl ?_
      refine wpL_done (fun W4 hW4 => ?_)
      refine (show Code.wp _ _ _ _ _ from ?_)
      refine wp_block ?_
      have hI0 := insI_start hO hib (by omega) (by omega)
      go_loopw [9] (fun u9 wr => ∃ (j : Nat) (l2 : List Bx) (cur2 : Array Value), (a ≤ j ∧ j ≤ i) ∧ (InsI l a i j l2) ∧ (RowX cur2 l2) ∧ (cur2.size = cur.size) ∧ u9 = .int .i64 ((j : Nat) : Int) ∧ KS W0 ((g, .cells cur2 26 (0, 0)) :: K) wr) (fun u9 _ => (intOf u9).toNat)
      case atStart => exact ⟨i, l1, cur1, (by omega), hI0, hr1, hz, rfl, hW4⟩
      case round =>
        obtain ⟨j, l2, cur2, hj, hI, hr2, hz2, rfl, hL5⟩ := hrel
        have hl2 : l2.length = l.length := insI_len hI (by omega)
        refine wp_seq ?_
        refine wp_seq ?_
        refine wp_region_V (W0 := W0) ((g, .cells cur2 26 (0, 0)) :: K) (by kernel_rfl) (hL5) ?_
        refine vm (i := 0) (v := .int .i64 ((j : Nat) : Int)) rfl rfl rfl ?_
        refine vm (i := 1) (v := .int .i64 ((a : Nat) : Int)) rfl rfl rfl ?_
        refine vp (i := 2) (v := .bool (decide (a < j))) rfl rfl rfl (run_bin rfl (vx := (.int .i64 ((j : Nat) : Int))) (vy := (.int .i64 ((a : Nat) : Int))) (by kernel_rfl) (by kernel_rfl) fun w => bn_gtr rfl w) ?_
        refine vm (i := 3) (v := .bool (decide (a < j))) rfl rfl rfl ?_
        cases hd2 : (decide (a < j)) with
        | false =>
          have h2 : ¬ (a < j) := of_decide_eq_false hd2
          clear hd2
          refine vn (i := 4) rfl rfl ?_
          refine vn (i := 5) rfl rfl ?_
          refine vn (i := 6) rfl rfl ?_
          refine vn (i := 7) rfl rfl ?_
          refine vn (i := 8) rfl rfl ?_
          refine vn (i := 9) rfl rfl ?_
          refine vn (i := 10) rfl rfl ?_
          refine vn (i := 11) rfl rfl ?_
          refine vn (i := 12) rfl rfl ?_
          refine vn (i := 13) rfl rfl ?_
          refine vn (i := 14) rfl rfl ?_
          refine vn (i := 15) rfl rfl ?_
          refine vm (i := 16) (v := .bool false) rfl rfl rfl ?_
          refine wpV_done (by kernel_rfl) (fun W6 hW6 => ?_) _
          refine (show Code.wp _ _ _ _ _ from ?_)
          refine wp_cond_false rfl ?_
          refine wp_exit ?_
          refine (show Code.wp _ _ _ _ _ from ?_)
          refine wp_region_L (W0 := W0) ((g, .cells cur2 26 (0, 0)) :: K) (hW6) ?_
          refine lm (v := .int .i64 ((i : Nat) : Int)) rfl rfl ?_
          refine lp (v := .int .i64 (((i + 1) : Nat) : Int)) rfl rfl (run_bin rfl (vx := (.int .i64 ((i : Nat) : Int))) (vy := (.int .i64 ((1 : Nat) : Int))) (by kernel_rfl) (by kernel_rfl) fun w => bn_add (z := (i + 1)) rfl (wr_i64 (by omega)) w) ?_
          refine lm (v := .int .i64 (((i + 1) : Nat) : Int)) rfl rfl ?_
          refine wpL_done (fun W7 hW7 => ?_)
          go_roundw
          case rel =>
            repeat apply Exists.intro
            exact ⟨⟨i + 1, l2, cur2, (by omega), (insO_next hI hib (by omega) (.inl (by omega))), hr2, hz2, (insI_len hI (by omega)), rfl, hW7⟩, rfl⟩
          case measure => (show b + 1 - (intOf (.int .i64 (((i + 1) : Nat) : Int))).toNat < b + 1 - (intOf (.int .i64 ((i : Nat) : Int))).toNat); simp only [intOf]; omega
        | true =>
          have h2 : a < j := of_decide_eq_true hd2
          clear hd2
          refine vm (i := 4) (v := .func (.func 48) #[] #[]) rfl rfl rfl ?_
          refine vm (i := 5) (v := .slice (some ⟨g, 0, none⟩) n cap) rfl rfl rfl ?_
          refine vm (i := 6) (v := .int .i64 ((j : Nat) : Int)) rfl rfl rfl ?_
          refine vp (i := 7) (v := .pointer (some ⟨g, 0 + j * 9, none⟩)) rfl rfl rfl (run_idxL (j := .i64) (n := n) (cap := cap) (b := g) (off := 0) (k := j) (sz := 9) rfl Tryd.underlying22 (by kernel_rfl) (by kernel_rfl) (by kernel_rfl) (by omega)) ?_
          obtain ⟨b1, hy1⟩ : ∃ bz, (l2 : List Bx)[j]? = some bz := ⟨_, List.getElem?_eq_getElem (by first | omega | (simp only [List.length_set]; omega))⟩
          refine vv (i := 8) (v := bxV b1) rfl rfl rfl (yb_cells (off := 0 + j * 9) (cur := cur2) (cs := (bxC b1).toList) rfl (by kernel_rfl) (.head _) (RowX.get hr2 hy1) Tryd.underlying26 rfl (by kernel_rfl)) ?_
          refine vm (i := 9) (v := .slice (some ⟨g, 0, none⟩) n cap) rfl rfl rfl ?_
          refine vm (i := 10) (v := .int .i64 ((j : Nat) : Int)) rfl rfl rfl ?_
          refine vp (i := 11) (v := .int .i64 (((j - 1) : Nat) : Int)) rfl rfl rfl (run_bin rfl (vx := (.int .i64 ((j : Nat) : Int))) (vy := (.int .i64 ((1 : Nat) : Int))) (by kernel_rfl) (by kernel_rfl) fun w => bn_sub (z := (j - 1)) rfl (by omega) (wr_i64 (by omega)) w) ?_
          refine vp (i := 12) (v := .pointer (some ⟨g, 0 + (j - 1) * 9, none⟩)) rfl rfl rfl (run_idxL (j := .i64) (n := n) (cap := cap) (b := g) (off := 0) (k := (j - 1)) (sz := 9) rfl Tryd.underlying22 (by kernel_rfl) (by kernel_rfl) (by kernel_rfl) (by omega)) ?_
          obtain ⟨b2, hy2⟩ : ∃ bz, (l2 : List Bx)[(j - 1)]? = some bz := ⟨_, List.getElem?_eq_getElem (by first | omega | (simp only [List.length_set]; omega))⟩
          refine vv (i := 13) (v := bxV b2) rfl rfl rfl (yb_cells (off := 0 + (j - 1) * 9) (cur := cur2) (cs := (bxC b2).toList) rfl (by kernel_rfl) (.head _) (RowX.get hr2 hy2) Tryd.underlying26 rfl (by kernel_rfl)) ?_
          refine vv (i := 14) (v := .int .i64 (cmpX b1 b2)) rfl rfl rfl (yb_call (f := 48) (args := #[bxV b1, bxV b2]) (fun _ => by kernel_rfl) fun W hW => compare_any b1 b2 W) ?_
          refine vp (i := 15) (v := .bool (decide ((cmpX b1 b2) < 0))) rfl rfl rfl (run_bin rfl (vx := (.int .i64 (cmpX b1 b2))) (vy := (.int .i64 0)) (by kernel_rfl) (by kernel_rfl) fun w => bi_lss rfl w) ?_
          refine vm (i := 16) (v := .bool (decide ((cmpX b1 b2) < 0))) rfl rfl rfl ?_
          refine wpV_done (by kernel_rfl) (fun W8 hW8 => ?_) _
          refine (show Code.wp _ _ _ _ _ from ?_)
          cases hd3 : (decide ((cmpX b1 b2) < 0)) with
          | false =>
            have h3 : ¬ ((cmpX b1 b2) < 0) := of_decide_eq_false hd3
            clear hd3
            refine wp_cond_false rfl ?_
            refine wp_exit ?_
            refine (show Code.wp _ _ _ _ _ from ?_)
            refine wp_region_L (W0 := W0) ((g, .cells cur2 26 (0, 0)) :: K) (hW8) ?_
            refine lm (v := .int .i64 ((i : Nat) : Int)) rfl rfl ?_
            refine lp (v := .int .i64 (((i + 1) : Nat) : Int)) rfl rfl (run_bin rfl (vx := (.int .i64 ((i : Nat) : Int))) (vy := (.int .i64 ((1 : Nat) : Int))) (by kernel_rfl) (by kernel_rfl) fun w => bn_add (z := (i + 1)) rfl (wr_i64 (by omega)) w) ?_
            refine lm (v := .int .i64 (((i + 1) : Nat) : Int)) rfl rfl ?_
            refine wpL_done (fun W9 hW9 => ?_)
            go_roundw
            case rel =>
              repeat apply Exists.intro
              exact ⟨⟨i + 1, l2, cur2, (by omega), (insO_next hI hib (by omega) (.inr ⟨_, _, h2, hy1, hy2, cmpX_no h3⟩)), hr2, hz2, (insI_len hI (by omega)), rfl, hW9⟩, rfl⟩
            case measure => (show b + 1 - (intOf (.int .i64 (((i + 1) : Nat) : Int))).toNat < b + 1 - (intOf (.int .i64 ((i : Nat) : Int))).toNat); simp only [intOf]; omega
          | true =>
            have h3 : (cmpX b1 b2) < 0 := of_decide_eq_true hd3
            clear hd3
            have hbf := cmpX_yes h3
            refine wp_cond_true rfl ?_
            refine wp_skip ?_
            refine (show Code.wp _ _ _ _ _ from ?_)
            refine wp_seq ?_
            refine wp_block ?_
            refine wp_region_V (W0 := W0) ((g, .cells cur2 26 (0, 0)) :: K) (by kernel_rfl) (hW8) ?_
            refine vm (i := 0) (v := .slice (some ⟨g, 0, none⟩) n cap) rfl rfl rfl ?_
            refine vm (i := 1) (v := .int .i64 ((j : Nat) : Int)) rfl rfl rfl ?_
            refine vm (i := 2) (v := .slice (some ⟨g, 0, none⟩) n cap) rfl rfl rfl ?_
            refine vm (i := 3) (v := .int .i64 ((j : Nat) : Int)) rfl rfl rfl ?_
            refine vp (i := 4) (v := .int .i64 (((j - 1) : Nat) : Int)) rfl rfl rfl (run_bin rfl (vx := (.int .i64 ((j : Nat) : Int))) (vy := (.int .i64 ((1 : Nat) : Int))) (by kernel_rfl) (by kernel_rfl) fun w => bn_sub (z := (j - 1)) rfl (by omega) (wr_i64 (by omega)) w) ?_
            refine vm (i := 5) (v := .slice (some ⟨g, 0, none⟩) n cap) rfl rfl rfl ?_
            refine vm (i := 6) (v := .int .i64 ((j : Nat) : Int)) rfl rfl rfl ?_
            refine vp (i := 7) (v := .int .i64 (((j - 1) : Nat) : Int)) rfl rfl rfl (run_bin rfl (vx := (.int .i64 ((j : Nat) : Int))) (vy := (.int .i64 ((1 : Nat) : Int))) (by kernel_rfl) (by kernel_rfl) fun w => bn_sub (z := (j - 1)) rfl (by omega) (wr_i64 (by omega)) w) ?_
            refine vp (i := 8) (v := .pointer (some ⟨g, 0 + (j - 1) * 9, none⟩)) rfl rfl rfl (run_idxL (j := .i64) (n := n) (cap := cap) (b := g) (off := 0) (k := (j - 1)) (sz := 9) rfl Tryd.underlying22 (by kernel_rfl) (by kernel_rfl) (by kernel_rfl) (by omega)) ?_
            refine vv (i := 9) (v := bxV b2) rfl rfl rfl (yb_cells (off := 0 + (j - 1) * 9) (cur := cur2) (cs := (bxC b2).toList) rfl (by kernel_rfl) (.head _) (RowX.get hr2 hy2) Tryd.underlying26 rfl (by kernel_rfl)) ?_
            refine vm (i := 10) (v := .slice (some ⟨g, 0, none⟩) n cap) rfl rfl rfl ?_
            refine vm (i := 11) (v := .int .i64 ((j : Nat) : Int)) rfl rfl rfl ?_
            refine vp (i := 12) (v := .pointer (some ⟨g, 0 + j * 9, none⟩)) rfl rfl rfl (run_idxL (j := .i64) (n := n) (cap := cap) (b := g) (off := 0) (k := j) (sz := 9) rfl Tryd.underlying22 (by kernel_rfl) (by kernel_rfl) (by kernel_rfl) (by omega)) ?_
            refine vv (i := 13) (v := bxV b1) rfl rfl rfl (yb_cells (off := 0 + j * 9) (cur := cur2) (cs := (bxC b1).toList) rfl (by kernel_rfl) (.head _) (RowX.get hr2 hy1) Tryd.underlying26 rfl (by kernel_rfl)) ?_
            refine vp (i := 14) (v := .pointer (some ⟨g, 0 + j * 9, none⟩)) rfl rfl rfl (run_idxL (j := .i64) (n := n) (cap := cap) (b := g) (off := 0) (k := j) (sz := 9) rfl Tryd.underlying22 (by kernel_rfl) (by kernel_rfl) (by kernel_rfl) (by omega)) ?_
            have R3 := RowX.put (b := b2) hr2 (show j < l2.length by first | omega | (simp only [List.length_set]; omega))
            have Q3 := put_size (b := b2) hr2 (show j < l2.length by first | omega | (simp only [List.length_set]; omega))
            refine wpV_s ((g, .cells (putR cur2 j b2) 26 (0, 0)) :: K) (i := 15) rfl (by kernel_rfl) rfl rfl rfl (st_rec (k := j) (b := b2) rfl (by kernel_rfl) (by kernel_rfl) (.head _) hB (by kernel_rfl) hr2 (by first | omega | (simp only [List.length_set]; omega)) (List.forall_mem_cons.2 ⟨.inl rfl, (fun p hp => .inr ⟨(.tail _ hp), (hg _ hp)⟩)⟩)) ?_
            refine vp (i := 16) (v := .pointer (some ⟨g, 0 + (j - 1) * 9, none⟩)) rfl rfl rfl (run_idxL (j := .i64) (n := n) (cap := cap) (b := g) (off := 0) (k := (j - 1)) (sz := 9) rfl Tryd.underlying22 (by kernel_rfl) (by kernel_rfl) (by kernel_rfl) (by omega)) ?_
            have R4 := RowX.put (b := b1) R3 (show (j - 1) < (l2.set j b2).length by first | omega | (simp only [List.length_set]; omega))
            have Q4 := put_size (b := b1) R3 (show (j - 1) < (l2.set j b2).length by first | omega | (simp only [List.length_set]; omega))
            refine wpV_s ((g, .cells (putR (putR cur2 j b2) (j - 1) b1) 26 (0, 0)) :: K) (i := 17) rfl (by kernel_rfl) rfl rfl rfl (st_rec (k := (j - 1)) (b := b1) rfl (by kernel_rfl) (by kernel_rfl) (.head _) hB (by kernel_rfl) R3 (by first | omega | (simp only [List.length_set]; omega)) (List.forall_mem_cons.2 ⟨.inl rfl, (fun p hp => .inr ⟨(.tail _ hp), (hg _ hp)⟩)⟩)) ?_
            refine wpV_done (by kernel_rfl) (fun W10 hW10 => ?_) _
            refine (show Code.wp _ _ _ _ _ from ?_)
            refine wp_region_L (W0 := W0) ((g, .cells (putR (putR cur2 j b2) (j - 1) b1) 26 (0, 0)) :: K) (hW10) ?_
            refine lm (v := .int .i64 ((j : Nat) : Int)) rfl rfl ?_
            refine lp (v := .int .i64 (((j - 1) : Nat) : Int)) rfl rfl (run_bin rfl (vx := (.int .i64 ((j : Nat) : Int))) (vy := (.int .i64 ((1 : Nat) : Int))) (by kernel_rfl) (by kernel_rfl) fun w => bn_sub (z := (j - 1)) rfl (by omega) (wr_i64 (by omega)) w) ?_
            refine lm (v := .int .i64 (((j - 1) : Nat) : Int)) rfl rfl ?_
            refine wpL_done (fun W11 hW11 => ?_)
            go_roundw
            case rel =>
              repeat apply Exists.intro
              exact ⟨⟨j - 1, ((l2.set j b2).set (j - 1) b1), (putR (putR cur2 j b2) (j - 1) b1), (by omega), (insI_step hI (by omega) h2 hy1 hy2 hbf), R4, (by omega), rfl, hW11⟩, rfl⟩
            case measure => (show (intOf (.int .i64 (((j - 1) : Nat) : Int))).toNat < (intOf (.int .i64 ((j : Nat) : Int))).toNat); simp only [intOf]; omega
end Go.Proofs.YtjbbeolapaaiaaaDoor
namespace Go.Proofs.YtjbbeolapaaiaaaDoor
open Go Go.RowKit Tw
set_option maxRecDepth 100000 in
set_option maxHeartbeats 4000000 in
theorem stable_small {W0 : Base} {K : List (Nat × Obj)} {g n cap : Nat} {cur : Array Value} (l : List Bx) (hn : l.length = n) (hn2 : n ≤ 4000000000) (hsm : n < 20) (hr : RowX cur l) (hB : W0.B ≤ g) (hg : ∀ q ∈ K, q.1 ≠ g) (w : World) (hw : KS W0 ((g, .cells cur 26 (0, 0)) :: K) w) :
    Calls Tryd.prog 64 #[.slice (some ⟨g, 0, none⟩) n cap, .int .i64 ((n : Nat) : Int), .func (.func 48) #[] #[]] w fun e w' => ∃ v K', e = .returned v ∧ KS W0 K' w' ∧ (v = .tuple #[] ∧ ∃ cur', RowX cur' (orderX l) ∧ cur'.size = cur.size ∧ K' = (g, .cells cur' 26 (0, 0)) :: K) := by
  go_enter Tryd.func64, Tryd.ntmps64
  refine wp_seq ?_
  refine wp_region_L (W0 := W0) ((g, .cells cur 26 (0, 0)) :: K) (hw) ?_
  refine lm (v := .int .i64 20) rfl rfl ?_
  refine wpL_done (fun W1 hW1 => ?_)
  refine (show Code.wp _ _ _ _ _ from ?_)
  refine wp_seq ?_
  refine wp_region_L (W0 := W0) ((g, .cells cur 26 (0, 0)) :: K) (hW1) ?_
  refine lm (v := .int .i64 20) rfl rfl ?_
  refine lm (v := .int .i64 0) rfl rfl ?_
  refine lm (v := .int .i64 20) rfl rfl ?_
  refine wpL_done (fun W2 hW2 => ?_)
  refine (show Code.wp _ _ _ _ _ from ?_)
  refine wp_seq ?_
  refine wp_block ?_
  refine wp_loop_rounds 1 ?_
  refine (show Code.wp _ _ _ _ _ from ?_)
  refine wp_seq ?_
  refine wp_seq ?_
  refine wp_region_L (W0 := W0) ((g, .cells cur 26 (0, 0)) :: K) (hW2) ?_
  refine lm (v := .int .i64 20) rfl rfl ?_
  refine lm (v := .int .i64 ((n : Nat) : Int)) rfl rfl ?_
  refine lp (v := .bool false) rfl rfl (run_bin rfl (vx := (.int .i64 ((20 : Nat) : Int))) (vy := (.int .i64 ((n : Nat) : Int))) (by kernel_rfl) (by kernel_rfl) fun w => bn_leq (decide_eq_true hsm) w) ?_
  refine wpL_done (fun W3 hW3 => ?_)
  refine (show Code.wp _ _ _ _ _ from ?_)
  refine wp_cond_false rfl ?_
  refine wp_exit ?_
  refine (show Code.wp _ _ _ _ _ from ?_)
  refine wp_seq ?_
  refine wp_region_L (W0 := W0) ((g, .cells cur 26 (0, 0)) :: K) (hW3) ?_
  refine lm (v := .slice (some ⟨g, 0, none⟩) n cap) rfl rfl ?_
  refine lm (v := .int .i64 0) rfl rfl ?_
  refine lm (v := .int .i64 ((n : Nat) : Int)) rfl rfl ?_
  refine lm (v := .func (.func 48) #[] #[]) rfl rfl ?_
  refine wpL_c (f := 71) (args := #[.slice (some ⟨g, 0, none⟩) n cap, .int .i64 0, .int .i64 ((n : Nat) : Int), .func (.func 48) #[] #[]]) (fun v K9 => v = .tuple #[] ∧ ∃ cur', RowX cur' (l.take 0 ++ orderX ((l.take n).drop 0) ++ l.drop n) ∧ cur'.size = cur.size ∧ K9 = ((g, .cells cur' 26 (0, 0)) :: K)) rfl (by kernel_rfl) (fun _ => (by kernel_rfl)) (fun W hW => ins_any (K := K) (cap := cap) l (by omega) (by omega) 0 n (by omega) (by omega) hr hB (fun q hq => (hg _ hq)) W (hW.sub (List.forall_mem_cons.2 ⟨(.head _), (fun p hp => (.tail _ hp))⟩))) (fun _ => by simp only [List.setIfInBounds_toArray, List.set_cons_succ, List.set_cons_zero] <;> rfl) ?_
  rintro v K9 ⟨rfl, cu1, R1, Q1, rfl⟩
  refine wpL_done (fun W4 hW4 => ?_)
  refine (show Code.wp _ _ _ _ _ from ?_)
  refine wp_block ?_
  refine wp_loop_rounds 1 ?_
  refine (show Code.wp _ _ _ _ _ from ?_)
  refine wp_seq ?_
  refine wp_seq ?_
  refine wp_region_L (W0 := W0) ((g, .cells cu1 26 (0, 0)) :: K) (hW4) ?_
  refine lm (v := .int .i64 20) rfl rfl ?_
  refine lm (v := .int .i64 ((n : Nat) : Int)) rfl rfl ?_
  refine lp (v := .bool false) rfl rfl (run_bin rfl (vx := (.int .i64 ((20 : Nat) : Int))) (vy := (.int .i64 ((n : Nat) : Int))) (by kernel_rfl) (by kernel_rfl) fun w => bn_lss (decide_eq_false (by omega)) w) ?_
  refine wpL_done (fun W5 hW5 => ?_)
  refine (show Code.wp _ _ _ _ _ from ?_)
  refine wp_cond_false rfl ?_
  refine wp_exit ?_
  simp only [exit_then, exit_in, exit_out]
  refine bodyPost_end (v := .tuple #[]) (results_none rfl _ _ _) rfl ?_
  exact ⟨_, _, rfl, hW5.sub (List.forall_mem_cons.2 ⟨(.head _), fun p hp => (.tail _ hp)⟩), rfl, _, (by have h := R1; rw [List.take_of_length_le (show l.length ≤ n by omega), List.drop_of_length_le (show l.length ≤ n by omega)] at h; simpa using h), Q1, rfl⟩
set_option maxRecDepth 100000 in
set_option maxHeartbeats 4000000 in
theorem ins_nil (w : World) : Calls Tryd.prog 71 #[.slice none 0 0, .int .i64 0, .int .i64 0, .func (.func 48) #[] #[]] w fun e w' => e = .returned (.tuple #[]) ∧ Below w.heap.size w w' := by
  go_enter Tryd.func71, Tryd.ntmps71
  refine wp_seq ?_
  refine wp_region_L (W0 := w) [] (KS.start w) ?_
  refine lm (v := .int .i64 0) rfl rfl ?_
  refine lm (v := .int .i64 1) rfl rfl ?_
  refine lm (v := .int .i64 1) rfl rfl ?_
  refine wpL_done (fun W1 hW1 => ?_)
  refine (show Code.wp _ _ _ _ _ from ?_)
  refine wp_block ?_
  refine wp_loop_rounds 1 ?_
  refine (show Code.wp _ _ _ _ _ from ?_)
  refine wp_seq ?_
  refine wp_seq ?_
  refine wp_region_L (W0 := w) [] (hW1) ?_
  refine lm (v := .int .i64 1) rfl rfl ?_
  refine lm (v := .int .i64 0) rfl rfl ?_
  refine lm (v := .bool false) rfl rfl ?_
  refine wpL_done (fun W2 hW2 => ?_)
  refine (show Code.wp _ _ _ _ _ from ?_)
  refine wp_cond_false rfl ?_
  refine wp_exit ?_
  simp only [exit_then, exit_in, exit_out]
  refine bodyPost_end (v := .tuple #[]) (results_none rfl _ _ _) rfl ?_
  exact ⟨rfl, hW2.1⟩
set_option maxRecDepth 100000 in
set_option maxHeartbeats 4000000 in
theorem stable_nil (w : World) : Calls Tryd.prog 64 #[.slice none 0 0, .int .i64 0, .func (.func 48) #[] #[]] w fun e w' => e = .returned (.tuple #[]) ∧ Below w.heap.size w w' := by
  go_enter Tryd.func64, Tryd.ntmps64
  refine wp_seq ?_
  refine wp_region_L (W0 := w) [] (KS.start w) ?_
  refine lm (v := .int .i64 20) rfl rfl ?_
  refine wpL_done (fun W1 hW1 => ?_)
  refine (show Code.wp _ _ _ _ _ from ?_)
  refine wp_seq ?_
  refine wp_region_L (W0 := w) [] (hW1) ?_
  refine lm (v := .int .i64 20) rfl rfl ?_
  refine lm (v := .int .i64 0) rfl rfl ?_
  refine lm (v := .int .i64 20) rfl rfl ?_
  refine wpL_done (fun W2 hW2 => ?_)
  refine (show Code.wp _ _ _ _ _ from ?_)
  refine wp_seq ?_
  refine wp_block ?_
  refine wp_loop_rounds 1 ?_
  refine (show Code.wp _ _ _ _ _ from ?_)
  refine wp_seq ?_
  refine wp_seq ?_
  refine wp_region_L (W0 := w) [] (hW2) ?_
  refine lm (v := .int .i64 20) rfl rfl ?_
  refine lm (v := .int .i64 0) rfl rfl ?_
  refine lm (v := .bool false) rfl rfl ?_
  refine wpL_done (fun W3 hW3 => ?_)
  refine (show Code.wp _ _ _ _ _ from ?_)
  refine wp_cond_false rfl ?_
  refine wp_exit ?_
  refine (show Code.wp _ _ _ _ _ from ?_)
  refine wp_seq ?_
  refine wp_region_L (W0 := w) [] (hW3) ?_
  refine lm (v := .slice none 0 0) rfl rfl ?_
  refine lm (v := .int .i64 0) rfl rfl ?_
  refine lm (v := .int .i64 0) rfl rfl ?_
  refine lm (v := .func (.func 48) #[] #[]) rfl rfl ?_
  refine lv (v := .tuple #[]) rfl rfl (yb_call (f := 71) (args := #[.slice none 0 0, .int .i64 0, .int .i64 0, .func (.func 48) #[] #[]]) (fun _ => by kernel_rfl) fun W hW => ins_nil W) ?_
  refine wpL_done (fun W4 hW4 => ?_)
  refine (show Code.wp _ _ _ _ _ from ?_)
  refine wp_block ?_
  refine wp_loop_rounds 1 ?_
  refine (show Code.wp _ _ _ _ _ from ?_)
  refine wp_seq ?_
  refine wp_seq ?_
  refine wp_region_L (W0 := w) [] (hW4) ?_
  refine lm (v := .int .i64 20) rfl rfl ?_
  refine lm (v := .int .i64 0) rfl rfl ?_
  refine lm (v := .bool false) rfl rfl ?_
  refine wpL_done (fun W5 hW5 => ?_)
  refine (show Code.wp _ _ _ _ _ from ?_)
  refine wp_cond_false rfl ?_
  refine wp_exit ?_
  simp only [exit_then, exit_in, exit_out]
  refine bodyPost_end (v := .tuple #[]) (results_none rfl _ _ _) rfl ?_
  exact ⟨rfl, hW5.1⟩
set_option maxRecDepth 100000 in
set_option maxHeartbeats 4000000 in
theorem sort_nil (w : World) : Calls Tryd.prog 47 #[.slice none 0 0, .func (.func 48) #[] #[]] w fun e w' => e = .returned (.tuple #[]) ∧ Below w.heap.size w w' := by
  go_enter Tryd.func47, Tryd.ntmps47
  refine wp_region_L (W0 := w) [] (KS.start w) ?_
  refine lm (v := .slice none 0 0) rfl rfl ?_
  refine lm (v := .slice none 0 0) rfl rfl ?_
  refine lm (v := .int .i64 0) rfl rfl ?_
  refine lm (v := .func (.func 48) #[] #[]) rfl rfl ?_
  refine lv (v := .tuple #[]) rfl rfl (yb_call (f := 64) (args := #[.slice none 0 0, .int .i64 0, .func (.func 48) #[] #[]]) (fun _ => by kernel_rfl) fun W hW => stable_nil W) ?_
  refine wpL_done (fun W1 hW1 => ?_)
  refine bodyPost_end (v := .tuple #[]) (results_none rfl _ _ _) rfl ?_
  exact ⟨rfl, hW1.1⟩
set_option maxRecDepth 100000 in
set_option maxHeartbeats 4000000 in
theorem sort_small {W0 : Base} {K : List (Nat × Obj)} {g n cap : Nat} {cur : Array Value} (l : List Bx) (hn : l.length = n) (hn2 : n ≤ 4000000000) (hsm : n < 20) (hr : RowX cur l) (hB : W0.B ≤ g) (hg : ∀ q ∈ K, q.1 ≠ g) (w : World) (hw : KS W0 ((g, .cells cur 26 (0, 0)) :: K) w) :
    Calls Tryd.prog 47 #[.slice (some ⟨g, 0, none⟩) n cap, .func (.func 48) #[] #[]] w fun e w' => ∃ v K', e = .returned v ∧ KS W0 K' w' ∧ (v = .tuple #[] ∧ ∃ cur', RowX cur' (orderX l) ∧ cur'.size = cur.size ∧ K' = (g, .cells cur' 26 (0, 0)) :: K) := by
  go_enter Tryd.func47, Tryd.ntmps47
  refine wp_region_L (W0 := W0) ((g, .cells cur 26 (0, 0)) :: K) (hw) ?_
  refine lm (v := .slice (some ⟨g, 0, none⟩) n cap) rfl rfl ?_
  refine lm (v := .slice (some ⟨g, 0, none⟩) n cap) rfl rfl ?_
  refine lp (v := .int .i64 ((n : Nat) : Int)) rfl rfl (run_lenL (p := (some ⟨g, 0, none⟩)) (cap := cap) (n := n) rfl Tryd.underlying22 (by kernel_rfl)) ?_
  refine lm (v := .func (.func 48) #[] #[]) rfl rfl ?_
  refine wpL_c (f := 64) (args := #[.slice (some ⟨g, 0, none⟩) n cap, .int .i64 ((n : Nat) : Int), .func (.func 48) #[] #[]]) (fun v K9 => v = .tuple #[] ∧ ∃ cur', RowX cur' (orderX l) ∧ cur'.size = cur.size ∧ K9 = ((g, .cells cur' 26 (0, 0)) :: K)) rfl (by kernel_rfl) (fun _ => (by kernel_rfl)) (fun W hW => stable_small (K := K) (cap := cap) l (by omega) (by omega) hsm hr hB (fun q hq => (hg _ hq)) W (hW.sub (List.forall_mem_cons.2 ⟨(.head _), (fun p hp => (.tail _ hp))⟩))) (fun _ => by simp only [List.setIfInBounds_toArray, List.set_cons_succ, List.set_cons_zero] <;> rfl) ?_
  rintro v K9 ⟨rfl, cu1, R1, Q1, rfl⟩
  refine wpL_done (fun W1 hW1 => ?_)
  refine bodyPost_end (v := .tuple #[]) (results_none rfl _ _ _) rfl ?_
  exact ⟨_, _, rfl, hW1.sub (List.forall_mem_cons.2 ⟨(.head _), fun p hp => (.tail _ hp)⟩), rfl, _, R1, Q1, rfl⟩
end Go.Proofs.YtjbbeolapaaiaaaDoor
namespace Go.Proofs.YtjbbeolapaaiaaaDoor
open Go Go.RowKit Tw
theorem nil_eq {T E : TypeId} {px py : Operand} {p : Option Addr} {n c : Nat} (h : Tryd.prog.underlying T = some (.slice E)) (w : World) : (do eqGuard .eql T px py (.slice p n c) (.slice none 0 0); binOp .eql T (.slice p n c) (.slice none 0 0) : Sem Value).run Tryd.prog w = .ok (.bool p.isNone) w := by
  have h1 := Lib.run_equalIn_slice_nil (P := Tryd.prog) w 9999 T E p n c 0 0 h
  simp [eqGuard, binOp, Op.equal, Op.maxDepth, h1]
def BS (W0 : Base) (p : Option Addr) (l : List Bx) (T : List (Nat × Obj)) : Prop := ∀ W, KS W0 T W → SLV W p (bcs l)
section
variable {W0 : Base} {T T' : List (Nat × Obj)} {l : List Bx} {p : Option Addr}
theorem BS.base {w : World} (h : SLV w p (bcs l)) : BS (w : Base) p l [] := fun W hW => h.keep hW.1
theorem BS.mono (h : BS W0 p l T) (hs : ∀ q ∈ T, q ∈ T') : BS W0 p l T' := fun W hW => h W (hW.sub hs)
theorem BS.at (h : BS W0 p l T) {W : World} (hW : KS W0 T W) {k : Nat} (hk : k < l.length) :
    ∃ b g off, l[k]? = some b ∧ p = some ⟨g, off, none⟩ ∧ ∀ W, KS W0 T W → ∀ (j : Nat) (v : Value), (bxC b).toList[j]? = some v → W.cell? ⟨g, off + k * 9 + j, none⟩ = some v := by
  obtain ⟨b, g, off, hb, rfl, _, _⟩ := bl_at (h W hW) hk
  refine ⟨b, g, off, hb, rfl, fun W2 hW2 => ?_⟩
  obtain ⟨b2, g2, off2, hb2, he, _, hc⟩ := bl_at (h W2 hW2) hk
  rw [hb] at hb2; cases hb2; cases he
  exact hc
theorem own_blen {E : TypeId} {v : Value} {n : Nat} {K : List (Nat × Obj)} (h : OwnL W0 E 9 v n (bcs l) K) : l.length = n := by
  have hl := bcs_len l
  rcases h with ⟨rfl, h2, rfl, rfl⟩ | ⟨g, cap, cur, rfl, hB, hR, rfl⟩
  · rw [h2] at hl; simp at hl; omega
  · have := hR.2.2.2.1; omega
theorem own_bs {E : TypeId} {v : Value} {n : Nat} (h : OwnL W0 E 9 v n (bcs l) T) : ∃ p c, v = .slice p n c ∧ n ≤ c ∧ BS W0 p l T := by
  rcases h with ⟨rfl, h2, rfl, rfl⟩ | ⟨g, cap, cur, rfl, hB, hR, rfl⟩
  · exact ⟨none, 0, rfl, Nat.le_refl _, fun _ _ => .inl h2⟩
  · refine ⟨_, cap, rfl, hR.2.2.1, fun W hW => ?_⟩
    have hb := hW.2 _ (.head _)
    exact .inr ⟨g, 0, rfl, lt_of_block hb, hR.cel hb⟩
theorem own_bnone {E : TypeId} {g : Nat} (hB : W0.B ≤ g) : OwnL W0 E 9 (.slice (some ⟨g, 0, none⟩) 0 0) 0 (bcs []) [(g, .cells #[] E (0, 0))] :=
  .inr ⟨g, 0, _, rfl, hB, ⟨by simp, by unfold maxLen; omega, Nat.le_refl _, rfl, rfl⟩, rfl⟩
theorem src_bs {U : TypeId} {m c : Nat} (hU : Tryd.prog.underlying U = some (.slice 26)) (h : BS W0 p l T) (hm : m = l.length) : ∀ w, KS W0 T w → Src Tryd.prog 9 U (.slice p m c) m (bcs l) w := by
  intro w hw
  subst hm
  rcases h w hw with h0 | ⟨b, off, rfl, hlt, hc⟩
  · have hl : l = [] := by
      have := bcs_len l; rw [h0] at this; exact List.eq_nil_of_length_eq_zero (by simp at this; omega)
    subst hl
    cases p with
    | none => exact Src.ofNil w hU c
    | some ad => exact Src.ofSlice w hU ad 0 c [] (by simp) (fun j u h => by simp at h) (fun u hu => by cases hu)
  · exact Src.ofSlice w hU ⟨b, off, none⟩ l.length c (bcs l) (by simp [bcs_len]) (fun j u hj => by rw [addr_add]; exact hc j u hj) (bcs_onec l)
end
theorem rowx_slv {W : World} {g : Nat} {cur : Array Value} {l : List Bx} {t : TypeId} {fr : Nat × Nat} (hb : W.heap[g]? = some (.cells cur t fr)) (h : RowX cur l) : SLV W (some ⟨g, 0, none⟩) (bcs l) := by
  obtain ⟨rest, h⟩ := h
  refine .inr ⟨g, 0, rfl, lt_of_block hb, fun i u hu => ?_⟩
  rw [Nat.zero_add, cell_of_row W g i cur t fr hb, ← Array.getElem?_toList, h, List.getElem?_append_left (List.getElem?_eq_some_iff.1 hu).1, hu]
theorem rowx_own {cur : Array Value} {cap n : Nat} {l : List Bx} (h : RowN 9 cur cap n (bcs l)) : RowX cur l := ⟨cur.toList.drop (n * 9), by conv => lhs; rw [← List.take_append_drop (n * 9) cur.toList, h.2.2.2.2]⟩
theorem own_rowx {cur cur' : Array Value} {cap n : Nat} {l l' : List Bx} (h : RowN 9 cur cap n (bcs l)) (hs : cur'.size = cur.size) (hr : RowX cur' l') (hl : l'.length = n) : RowN 9 cur' cap n (bcs l') := by
  obtain ⟨h1, h2, h3, h4, h5⟩ := h
  obtain ⟨rest, hr⟩ := hr
  refine ⟨by rw [hs, h1], h2, h3, by rw [bcs_len, hl], ?_⟩
  rw [hr]
  exact List.take_left' (by rw [bcs_len, hl])
theorem row_lit (l : List Bx) : RowX (bcs l).toArray l := ⟨[], by simp⟩
theorem yb_bs {W0 : Base} {o : Oper} {a : Act} {K : List (Nat × Obj)} {ty : TypeId} {x : Operand} {g off : Nat} {b : Bx} {D : TypeDesc} (ho : o.op = .load ty x) (hx : a.eval x = .pointer (some ⟨g, off, none⟩))
    (hc : ∀ W, KS W0 K W → ∀ (j : Nat) (v : Value), (bxC b).toList[j]? = some v → W.cell? ⟨g, off + j, none⟩ = some v) (hu : Tryd.prog.underlying ty = some D) (hd : aggD D = true) (hi : (Tryd.prog.info? ty).map (·.size) = some 9) :
    ∀ w, KS W0 K w → ∀ K' : Act → World → Prop, (∀ w', Below w.heap.size w w' → K' (a.put o.dst (bxV b)) w') → Oper.wp Tryd.prog o a w K' (fun _ _ _ => False) := by
  intro w hw K' hk
  have hr := run_loadVar_list (P := Tryd.prog) (ty := ty) (cs := (bxC b).toList) w (hc w hw) hu hd hi
  unfold Oper.wp execOp
  simp only [ho, hx, Instr.loadAt, Instr.sureAddr, Sem.run_bind, Sem.run_pure, Result.andThen_ok, hr]
  exact hk w (Below.refl _ _)
theorem yb_bf {W0 : Base} {o : Oper} {a : Act} {K : List (Nat × Obj)} {ty : TypeId} {x : Operand} {g off : Nat} {v : Value} {D : TypeDesc} (ho : o.op = .load ty x) (hx : a.eval x = .pointer (some ⟨g, off, none⟩))
    (hc : ∀ W, KS W0 K W → W.cell? ⟨g, off, none⟩ = some v) (hu : Tryd.prog.underlying ty = some D) (hd : aggD D = false) :
    ∀ w, KS W0 K w → ∀ K' : Act → World → Prop, (∀ w', Below w.heap.size w w' → K' (a.put o.dst v) w') → Oper.wp Tryd.prog o a w K' (fun _ _ _ => False) := by
  intro w hw K' hk
  have hagg : (isAgg ty).run Tryd.prog w = .ok false w := by
    unfold isAgg
    rw [Sem.run_bind, run_underlying hu w]
    unfold aggD at hd
    cases D <;> simp_all
  have hr : (loadVar ty ⟨g, off, none⟩).run Tryd.prog w = .ok v w := by
    simp [loadVar, Sem.run_bind, hagg, hc w hw]
  unfold Oper.wp execOp
  simp only [ho, hx, Instr.loadAt, Instr.sureAddr, Sem.run_bind, Sem.run_pure, Result.andThen_ok, hr]
  exact hk w (Below.refl _ _)
theorem slv_none {W : World} {l : List Bx} (h : SLV W none (bcs l)) : l = [] := by
  rcases h with h | ⟨g, off, h, _⟩
  · have := bcs_len l; rw [h] at this; exact List.eq_nil_of_length_eq_zero (by simp at this; omega)
  · cases h
instance : DecidableEq Bx := fun a b => decidable_of_iff (a.id = b.id ∧ a.num = b.num ∧ a.size = b.size ∧ a.high = b.high ∧ a.kilos = b.kilos ∧ a.load = b.load ∧ a.dis = b.dis ∧ a.cls = b.cls ∧ a.rf = b.rf) (by cases a; cases b; simp)
theorem eql_bx {a b : Bx} {e : Bool} {px py : Operand} (h : decide (a = b) = e) (w : World) : (do eqGuard .eql 26 px py (bxV a) (bxV b); binOp .eql 26 (bxV a) (bxV b) : Sem Value).run Tryd.prog w = .ok (.bool e) w := by
  subst h
  obtain ⟨a1, a2, a3, a4, a5, a6, a7, a8, a9⟩ := a
  obtain ⟨b1, b2, b3, b4, b5, b6, b7, b8, b9⟩ := b
  unfold bxV bxC strV
  go_simp
  have e3 : ((a3 : Int) = (b3 : Int)) = (a3 = b3) := by apply propext; omega
  have e8 : ((a8 : Int) = (b8 : Int)) = (a8 = b8) := by apply propext; omega
  simp only [e3, e8, Bx.mk.injEq]
  by_cases h1 : a1 = b1 <;> by_cases h2 : a2 = b2 <;> by_cases h3 : a3 = b3 <;> by_cases h4 : a4 = b4 <;> simp [h1, h2, h3, h4] <;>
  by_cases h5 : a5 = b5 <;> by_cases h6 : a6 = b6 <;> by_cases h7 : a7 = b7 <;> by_cases h8 : a8 = b8 <;> by_cases h9 : a9 = b9 <;> simp [h5, h6, h7, h8, h9]
theorem neq_bx {a b : Bx} {e : Bool} {px py : Operand} (h : decide (a = b) = e) (w : World) : (do eqGuard .neq 26 px py (bxV a) (bxV b); binOp .neq 26 (bxV a) (bxV b) : Sem Value).run Tryd.prog w = .ok (.bool (!e)) w := by
  subst h
  obtain ⟨a1, a2, a3, a4, a5, a6, a7, a8, a9⟩ := a
  obtain ⟨b1, b2, b3, b4, b5, b6, b7, b8, b9⟩ := b
  unfold bxV bxC strV
  go_simp
  have e3 : ((a3 : Int) = (b3 : Int)) = (a3 = b3) := by apply propext; omega
  have e8 : ((a8 : Int) = (b8 : Int)) = (a8 = b8) := by apply propext; omega
  simp only [e3, e8, Bx.mk.injEq]
  by_cases h1 : a1 = b1 <;> by_cases h2 : a2 = b2 <;> by_cases h3 : a3 = b3 <;> by_cases h4 : a4 = b4 <;> simp [h1, h2, h3, h4] <;>
  by_cases h5 : a5 = b5 <;> by_cases h6 : a6 = b6 <;> by_cases h7 : a7 = b7 <;> by_cases h8 : a8 = b8 <;> by_cases h9 : a9 = b9 <;> simp [h5, h6, h7, h8, h9]
end Go.Proofs.YtjbbeolapaaiaaaDoor
/- Loops over a string, calls of method values, lists cut to nothing. Over any program. -/
namespace Tw
open Go Go.RowKit Go.Proofs.YtjbbeolapaaiaaaDoor
section
variable {P : Program} {W0 : Base} {T E : TypeId}
theorem KS.setObj {K K' : List (Nat × Obj)} {w : World} {g : Nat} {o o' : Obj} (h : KS W0 K w) (hB : W0.B ≤ g) (hg : w.heap[g]? = some o)
    (hK : ∀ p ∈ K', p = (g, o') ∨ (p ∈ K ∧ p.1 ≠ g)) : KS W0 K' { w with heap := w.heap.setIfInBounds g o' } := by
  have hlt := lt_of_block hg
  refine ⟨h.1.trans ⟨rfl, rfl, rfl, by simp, fun k hk => ?_⟩, fun p hp => ?_⟩
  · show (w.heap.setIfInBounds g o')[k]? = _
    rw [Array.getElem?_setIfInBounds_ne (by omega)]
  · show (w.heap.setIfInBounds g o')[p.1]? = _
    rcases hK p hp with rfl | ⟨hp, hne⟩
    · rw [Array.getElem?_setIfInBounds]
      simp [hlt]
    · rw [Array.getElem?_setIfInBounds_ne (Ne.symm hne)]
      exact h.2 p hp
def Rn (b : UInt8) (r n : Nat) : Prop := (r = b.toNat ∧ n = 1 ∧ b.toNat < 128) ∨ (128 ≤ b.toNat ∧ 128 ≤ r ∧ r ≤ 2147483647 ∧ 1 ≤ n)
theorem rg_str {o : Oper} {a : Act} {l : List UInt8} {x : Operand} (ho : o.op = .range T x) (hT : P.underlying T = some .string) (hx : a.eval x = strV l) (w : World) : (execOp a.eval o).run P w = .ok (.value (.pointer (some ⟨w.heap.size, 0, none⟩))) (w.alloc (.stringIter ⟨l.toArray⟩ 0)) := by
  unfold execOp
  unfold strV at hx
  simp only [ho, hx, Sem.run_bind, Sem.run_pure, Result.andThen_ok, run_range_string w T _ hT]
  rfl
theorem nx_end {o : Oper} {a : Act} {K : List (Nat × Obj)} {l : List UInt8} {k g : Nat} {x : Operand} (ho : o.op = .next x true) (hx : a.eval x = .pointer (some ⟨g, 0, none⟩)) (hm : (g, .stringIter ⟨l.toArray⟩ k) ∈ K) (hk : ¬ k < l.length) :
    ∀ w, KS W0 K w → ∀ K' : Act → World → Prop, (∀ w', Below w.heap.size w w' → K' (a.put o.dst (.tuple #[.bool false])) w') → Oper.wp P o a w K' (fun _ _ _ => False) := by
  intro w hw K' hk'
  have hg := hw.2 _ hm
  have hs := ba_size l
  have hn : ¬ k < (⟨l.toArray⟩ : ByteArray).size := by rw [hs]; exact hk
  have hr : (Instr.next (.pointer (some ⟨g, 0, none⟩)) true o.type).run P w = .ok (.tuple #[.bool false]) w := by
    simp [Instr.next, getObj, Sem.run, hg, hn]
  unfold Oper.wp execOp
  simp only [ho, hx, Sem.run_bind, Sem.run_pure, Result.andThen_ok, hr]
  exact hk' w (Below.refl _ _)
def NxO (l : List UInt8) (k : Nat) (b : UInt8) (Kf : Nat → List (Nat × Obj)) (v : Value) (K' : List (Nat × Obj)) : Prop :=
  ∃ r n : Nat, v = .tuple #[.bool true, .int .i64 ((k : Nat) : Int), .int .i32 ((r : Nat) : Int)] ∧ K' = Kf n ∧ Rn b r n
theorem nx_some {o : Oper} {a : Act} {K : List (Nat × Obj)} {Kf : Nat → List (Nat × Obj)} {l : List UInt8} {k g : Nat} {b : UInt8} {x : Operand} (ho : o.op = .next x true) (hx : a.eval x = .pointer (some ⟨g, 0, none⟩)) (hm : (g, .stringIter ⟨l.toArray⟩ k) ∈ K) (hB : W0.B ≤ g) (hb : l[k]? = some b)
    (hK : ∀ n, ∀ p ∈ Kf n, p = (g, .stringIter ⟨l.toArray⟩ (k + n)) ∨ (p ∈ K ∧ p.1 ≠ g)) :
    ∀ w, KS W0 K w → ∃ v K' w', (execOp a.eval o).run P w = .ok (.value v) w' ∧ KS W0 K' w' ∧ NxO l k b Kf v K' := by
  intro w hw
  have hg := hw.2 _ hm
  obtain ⟨hk, hbk⟩ := List.getElem?_eq_some_iff.1 hb
  have hs := ba_size l
  have hk2 : k < (⟨l.toArray⟩ : ByteArray).size := by rw [hs]; exact hk
  have hget : ((⟨l.toArray⟩ : ByteArray)[k]'hk2) = b := by rw [← hbk]; rfl
  have hr : (Instr.next (.pointer (some ⟨g, 0, none⟩)) true o.type).run P w = .ok (.tuple #[.bool true, .int .i64 ((k : Nat) : Int), .int .i32 (Utf8.decode ⟨l.toArray⟩ k).1]) { w with heap := w.heap.setIfInBounds g (.stringIter ⟨l.toArray⟩ (k + (Utf8.decode ⟨l.toArray⟩ k).2)) } := by
    simp [Instr.next, getObj, setObj, Sem.run, hg, hk2, goInt, Result.andThen]
  refine ⟨_, _, _, ?_, hw.setObj hB hg (hK (Utf8.decode ⟨l.toArray⟩ k).2), (Utf8.decode ⟨l.toArray⟩ k).1, (Utf8.decode ⟨l.toArray⟩ k).2, rfl, rfl, ?_⟩
  · unfold execOp
    simp only [ho, hx, Sem.run_bind, Sem.run_pure, Result.andThen_ok, hr]
  · rcases Nat.lt_or_ge b.toNat 128 with h | h
    · rw [decode_ascii _ _ hk2 (by rw [hget]; exact h), hget]
      exact .inl ⟨rfl, rfl, h⟩
    · obtain ⟨h1, h2⟩ := decode_high _ _ hk2 (by rw [hget]; exact h)
      exact .inr ⟨h, h1, decode_le _ _, h2⟩
theorem cut_own {o : Oper} {a : Act} {K Kl : List (Nat × Obj)} {x z : Operand} {v : Value} {n : Nat} {xs : List Value} {kd : IntKind} (ho : o.op = .slice T x none (some z) none) (hT : P.underlying T = some (.slice E)) (hi : (P.info? E).map (·.size) = some 1) (hx : a.eval x = v) (hz : a.eval z = .int kd 0) (hO : OwnL W0 E 1 v n xs Kl) :
    ∀ w, KS W0 K w → ∃ v' K' w', (execOp a.eval o).run P w = .ok (.value v') w' ∧ KS W0 K' w' ∧ ((∃ p c, v' = .slice p 0 c) ∧ OwnL W0 E 1 v' 0 [] Kl ∧ K' = K) := by
  intro w hw
  have hsz : (Go.sizeOf E).run P w = .ok 1 w := by
    cases hq : P.info? E with
    | none => simp [hq] at hi
    | some i =>
      have hs : i.size = 1 := by simpa [hq] using hi
      simp [Go.sizeOf, typeInfo, hq, hs]
  rcases hO with ⟨rfl, rfl, rfl, rfl⟩ | ⟨g, cap, cur, rfl, hB, ⟨r1, r2, r3, r4, r5⟩, rfl⟩
  · refine ⟨.slice none 0 0, K, w, ?_, hw, ⟨_, _, rfl⟩, .inl ⟨rfl, rfl, rfl, rfl⟩, rfl⟩
    unfold execOp
    simp [ho, hx, hz, Instr.sliceAt, Instr.slice, Instr.sliceBounds, Instr.sliceBound, asIntOf, run_underlying hT, hsz]
  · refine ⟨.slice (some ⟨g, 0, none⟩) 0 cap, K, w, ?_, hw, ⟨_, _, rfl⟩, .inr ⟨g, cap, cur, rfl, hB, ⟨r1, r2, Nat.zero_le _, by simp, by simp⟩, rfl⟩, rfl⟩
    unfold execOp
    have ha : (⟨g, 0, none⟩ : Addr).add 0 = ⟨g, 0, none⟩ := by rw [addr_add]
    simp [ho, hx, hz, Instr.sliceAt, Instr.slice, Instr.sliceBounds, Instr.sliceBound, asIntOf, run_underlying hT, hsz, ha]
theorem run_callm {o : Oper} {a : Act} {x y z : Operand} {f : FuncId} {r u v : Value} {tt : Array TypeId} (ho : o.op = .call { callee := .value x, args := #[y, z], argTypes := tt }) (hx : a.eval x = .func (.func f) #[r] #[]) (hy : a.eval y = u) (hz : a.eval z = v) (hf : ∀ args w, (callFunc f args).run P w = .ok (.enter f args) w) (w : World) : (execOp a.eval o).run P w = .ok (.enter f #[r, u, v]) w := by
  unfold execOp
  simp [ho, resolve, Deferred.ofValue, hx, hy, hz, invoke, hf]
end
section
def OVp {α : Type} (B : Nat) (E : TypeId) (R : World → Value → α → Prop) (W : World) (p : Option Addr) (l : List α) : Prop :=
  ∃ vs : List Value, vs.length = l.length ∧ (vs = [] ∨ ∃ g cur, p = some ⟨g, 0, none⟩ ∧ B ≤ g ∧ W.heap[g]? = some (.cells cur E (0, 0)) ∧ cur.toList.take vs.length = vs) ∧ ∀ (k : Nat) (x : Value) (y : α), vs[k]? = some x → l[k]? = some y → R W x y
def OV {α : Type} (B : Nat) (E : TypeId) (R : World → Value → α → Prop) (W : World) (v : Value) (l : List α) : Prop := ∃ p cap, v = .slice p l.length cap ∧ OVp B E R W p l
theorem OV.keeps {α : Type} {B : Nat} {E : TypeId} {R : World → Value → α → Prop} (hR : Keeps R) : Keeps (OV B E R) := by
  rintro W W' v y ⟨p, cap, h1, vs, h2, h3, h4⟩ hB
  refine ⟨p, cap, h1, vs, h2, h3.imp id ?_, fun k x y hx hy => hR _ _ _ _ (h4 k x y hx hy) hB⟩
  rintro ⟨g, cur, e1, e2, e3, e4⟩
  exact ⟨g, cur, e1, e2, (hB.block g (lt_of_block e3)).trans e3, e4⟩
theorem OVp.lvp {α : Type} {B : Nat} {E : TypeId} {R R' : World → Value → α → Prop} (hR : ∀ W v y, R W v y → R' W v y) {W : World} {p : Option Addr} {l : List α} (h : OVp B E R W p l) : LVp R' W p l := by
  obtain ⟨vs, h2, h3, h4⟩ := h
  refine ⟨vs, ?_, h2, fun k x y hx hy => hR _ _ _ (h4 k x y hx hy)⟩
  rcases h3 with h | ⟨g, cur, e1, e2, e3, e4⟩
  · exact .inl h
  · refine .inr ⟨g, 0, e1, lt_of_block e3, fun i u hu => ?_⟩
    rw [Nat.zero_add, cell_of_row W g i cur _ _ e3]
    rw [← e4, List.getElem?_take] at hu
    split at hu
    · simpa using hu
    · cases hu
theorem OV.lv {α : Type} {B : Nat} {E : TypeId} {R R' : World → Value → α → Prop} (hR : ∀ W v y, R W v y → R' W v y) (W : World) (v : Value) (l : List α) (h : OV B E R W v l) : LV R' W v l := by
  obtain ⟨p, cap, h1, h2⟩ := h
  exact ⟨p, cap, h1, h2.lvp hR⟩
theorem MkE.own {α : Type} {R : World → Value → α → Prop} {W0 : Base} {E : TypeId} {v : Value} {n : Nat} {xs : List Value} {l : List α} {K T : List (Nat × Obj)} (hO : OwnL W0 E 1 v n xs K) (hE : MkE R W0 xs l T) (hn : n = l.length) : MkV (OV W0.B E R) W0 v l (T ++ K) := by
  obtain ⟨h1, h2⟩ := hE
  intro W hW
  have hA := h2 W (hW.sub (fun p hp => List.mem_append_left K hp))
  rcases hO with ⟨rfl, rfl, rfl, rfl⟩ | ⟨g, cap, cur, rfl, hB, hR, rfl⟩
  · exact ⟨none, 0, by rw [← hn], [], h1, .inl rfl, hA⟩
  · have hb := hW.2 _ (List.mem_append_right T (.head _))
    refine ⟨some ⟨g, 0, none⟩, cap, by rw [hn], xs, h1, .inr ⟨g, cur, rfl, hB, hb, ?_⟩, hA⟩
    have := hR.2.2.2.2
    rwa [Nat.mul_one, hn, ← h1] at this
end
theorem wpV_g {P : Program} {md : Region.Mode} {ops : Array Oper} {Q : Exit → Act → World → Prop} {W0 : Base} {i : Nat} {oi : Oper} {d n : Nat} {listed : Array Bool} {tm : Array Value} {df : List Deferred} {K : List (Nat × Obj)} {T : Value → Array Value} (G : Value → List (Nat × Obj) → Prop)
    (hi : ops[i]? = some oi) (hdi : oi.dst = some d) (hs : isStore oi = true) (hr : Region.ready md ops listed = [i]) (hw : Region.wanted oi (yielded ops tm) = true)
    (hg : ∀ w, KS W0 K w → ∃ v K' w', (execOp (Act.eval ⟨tm, df⟩) oi).run P w = .ok (.value v) w' ∧ KS W0 K' w' ∧ G v K')
    (hT : ∀ v, tm.setIfInBounds d v = T v)
    (h : ∀ v K', G v K' → wpV P md ops Q W0 n (listed.setIfInBounds i true) ⟨T v, df⟩ K') : wpV P md ops Q W0 (n + 1) listed ⟨tm, df⟩ K :=
  ⟨fun h0 => (by rw [hr] at h0; cases h0), fun j hj => by
    rw [hr] at hj
    cases List.mem_singleton.1 hj
    refine ⟨oi, hi, .inr (.inr (.inr ⟨G, .inl hs, ⟨hw, fun w hK => (let ⟨_, K', _, h1, h2, h3⟩ := hg w hK; oto_of_run h1 ⟨K', h2, h3⟩)⟩, fun v K' hG => ?_⟩))⟩
    rw [hdi]
    simp only [Act.put]
    rw [hT v]
    exact h v K' hG⟩
end Tw
/- Paths of a walk that come together again. -/
namespace Tw
open Go Go.RowKit Go.Proofs.YtjbbeolapaaiaaaDoor
def normQ (R : Act → World → Prop) : Exit → Act → World → Prop
  | .normal, a, w => R a w
  | _, _, _ => False
def preW (P : Program) (R : Act → World → Prop) : Nat → Code → Act → World → Prop
  | 0, _, a, w => R a w
  | n + 1, .seq x y, a, w => x.wp P (normQ (preW P R n y)) a w
  | _ + 1, _, _, _ => False
def cutT : Nat → Code → Code
  | n + 1, .seq _ b => cutT n b
  | _, c => c
theorem wp_joins {P : Program} {Q : Exit → Act → World → Prop} (R : Act → World → Prop) : ∀ (n : Nat) {c : Code} {a : Act} {w : World}, preW P R n c a w → (∀ a' w', R a' w' → (cutT n c).wp P Q a' w') → c.wp P Q a w
  | 0, c, a, w, h1, h2 => by
    have := h2 a w h1
    cases c <;> exact this
  | n + 1, c, a, w, h1, h2 => by
    cases c with
    | seq x y =>
      refine wp_seq (wp_mono h1 ?_)
      rintro e a' w' hq
      cases e with
      | normal => exact wp_joins R n hq h2
      | _ => exact hq.elim
    | _ => exact h1.elim
def JoinR (F : (Nat → Value) → Array Value) (W0 : Base) (K : List (Nat × Obj)) (a : Act) (w : World) : Prop := (∃ z, a = { tmps := F z, defers := [] }) ∧ KS W0 K w
theorem join_mk {F : (Nat → Value) → Array Value} {W0 : Base} {K : List (Nat × Obj)} {T : Array Value} {w : World} (h : F (fun i => T.getD i undef) = T) (hK : KS W0 K w) : JoinR F W0 K { tmps := T, defers := [] } w := ⟨⟨_, by rw [h]⟩, hK⟩
end Tw
/- Steps of a drawn statement where several operations may come next. Over any program. -/
namespace Tw
open Go Go.RowKit Go.Proofs.YtjbbeolapaaiaaaDoor
section
variable {P : Program} {md : Region.Mode} {ops : Array Oper} {Q R : Exit → Act → World → Prop} {W0 : Base}
theorem wpVs_1 {i n : Nat} {listed : Array Bool} {a : Act} {K : List (Nat × Obj)} (hr : Region.ready md ops listed = [i]) (h : StepV P md ops Q W0 n listed a K i) : wpV P md ops Q W0 (n + 1) listed a K :=
  ⟨fun h0 => (by rw [hr] at h0; cases h0), fun k hk => by
    rw [hr] at hk
    cases List.mem_singleton.1 hk
    exact h⟩
theorem wpVs_3 {i j m n : Nat} {listed : Array Bool} {a : Act} {K : List (Nat × Obj)} (hr : Region.ready md ops listed = [i, j, m]) (h : StepV P md ops Q W0 n listed a K i) (h' : StepV P md ops Q W0 n listed a K j) (h'' : StepV P md ops Q W0 n listed a K m) : wpV P md ops Q W0 (n + 1) listed a K :=
  ⟨fun h0 => (by rw [hr] at h0; cases h0), fun k hk => by
    rw [hr] at hk
    rcases List.mem_cons.1 hk with rfl | hk
    · exact h
    · rcases List.mem_cons.1 hk with rfl | hk
      · exact h'
      · cases List.mem_singleton.1 hk
        exact h''⟩
theorem stepV_nsg {i : Nat} {oi : Oper} {d : Nat} {obi : Obj} {n : Nat} {listed : Array Bool} {tm : Array Value} {df : List Deferred} {K : List (Nat × Obj)} {T : Nat → Array Value} (mk : Nat → Value)
    (hi : ops[i]? = some oi) (hdi : oi.dst = some d) (hw : Region.wanted oi (yielded ops tm) = true)
    (hai : ∀ w, (execOp (Act.eval ⟨tm, df⟩) oi).run P w = .ok (.value (mk w.heap.size)) (w.alloc obi))
    (hT : ∀ g, (tm.setIfInBounds d (mk g)) = T g)
    (h : ∀ g, W0.B ≤ g → (∀ p ∈ K, p.1 ≠ g) → wpV P md ops Q W0 n (listed.setIfInBounds i true) ⟨T g, df⟩ ((g, obi) :: K)) : StepV P md ops Q W0 n listed ⟨tm, df⟩ K i := by
  refine stepV_alloc mk hi hw hai fun g hg hf => ?_
  rw [hdi]
  simp only [Act.put]
  rw [hT g]
  exact h g hg hf
theorem stepV_ns {i : Nat} {oi : Oper} {d : Nat} {obi : Obj} {n : Nat} {listed : Array Bool} {tm : Array Value} {df : List Deferred} {K : List (Nat × Obj)} {T : Nat → Array Value} (mk : Nat → Value)
    (hi : ops[i]? = some oi) (hdi : oi.dst = some d) (hg : oi.guard = none)
    (hai : ∀ w, (execOp (Act.eval ⟨tm, df⟩) oi).run P w = .ok (.value (mk w.heap.size)) (w.alloc obi))
    (hT : ∀ g, (tm.setIfInBounds d (mk g)) = T g)
    (h : ∀ g, W0.B ≤ g → (∀ p ∈ K, p.1 ≠ g) → wpV P md ops Q W0 n (listed.setIfInBounds i true) ⟨T g, df⟩ ((g, obi) :: K)) : StepV P md ops Q W0 n listed ⟨tm, df⟩ K i := stepV_nsg mk hi hdi (wanted_no hg) hai hT h
theorem stepV_c {i : Nat} {oi : Oper} {d n : Nat} {listed : Array Bool} {tm : Array Value} {df : List Deferred} {K : List (Nat × Obj)} {T : Value → Array Value} {f : FuncId} {args : Array Value} (G : Value → List (Nat × Obj) → Prop)
    (hi : ops[i]? = some oi) (hdi : oi.dst = some d) (hw : Region.wanted oi (yielded ops tm) = true)
    (hf : ∀ w, (execOp (Act.eval ⟨tm, df⟩) oi).run P w = .ok (.enter f args) w)
    (hc : ∀ w, KS W0 K w → Calls P f args w fun e w' => ∃ v K', e = .returned v ∧ KS W0 K' w' ∧ G v K') (hm : ∀ v K', G v K' → ∀ p ∈ K, p ∈ K')
    (hT : ∀ v, tm.setIfInBounds d v = T v)
    (h : ∀ v K', G v K' → wpV P md ops Q W0 n (listed.setIfInBounds i true) ⟨T v, df⟩ K') : StepV P md ops Q W0 n listed ⟨tm, df⟩ K i := by
    refine ⟨oi, hi, .inr (.inr (.inr ⟨G, .inr hm, ⟨hw, fun w hK => ?_⟩, fun v K' hG => ?_⟩))⟩
    · unfold Oto
      rw [hf w]
      exact (hc w hK).mono fun e w' ⟨v, K', he, hk, hG⟩ => ⟨v, he, K', hk, hG⟩
    · rw [hdi]
      simp only [Act.put]
      rw [hT v]
      exact h v K' hG
theorem stepV_vg {i : Nat} {oi : Oper} {v : Value} {d n : Nat} {listed : Array Bool} {tm : Array Value} {df : List Deferred} {K : List (Nat × Obj)} (hi : ops[i]? = some oi) (hd : oi.dst = some d) (hlt : Nat.blt d tm.size = true) (hw : Region.wanted oi (yielded ops tm) = true)
    (hy : ∀ w, KS W0 K w → ∀ K' : Act → World → Prop, (∀ w', Below w.heap.size w w' → K' (Act.put ⟨tm, df⟩ oi.dst v) w') → Oper.wp P oi ⟨tm, df⟩ w K' (fun _ _ _ => False))
    {T : Array Value} (hT : tm.setIfInBounds d v = T)
    (h : wpV P md ops Q W0 n (listed.setIfInBounds i true) ⟨T, df⟩ K) : StepV P md ops Q W0 n listed ⟨tm, df⟩ K i := by
  refine stepV_val hi hd hlt hw hy ?_
  rw [hd]
  subst hT
  exact h
theorem stepV_pg {i : Nat} {oi : Oper} {v : Value} {d n : Nat} {listed : Array Bool} {tm : Array Value} {df : List Deferred} {K : List (Nat × Obj)} (hi : ops[i]? = some oi) (hd : oi.dst = some d) (hlt : Nat.blt d tm.size = true) (hw : Region.wanted oi (yielded ops tm) = true)
    (hy : ∀ w, (execOp (Act.eval ⟨tm, df⟩) oi).run P w = .ok (.value v) w)
    {T : Array Value} (hT : tm.setIfInBounds d v = T)
    (h : wpV P md ops Q W0 n (listed.setIfInBounds i true) ⟨T, df⟩ K) : StepV P md ops Q W0 n listed ⟨tm, df⟩ K i := stepV_vg hi hd hlt hw (yb_pure hy) hT h
theorem stepV_sg {i : Nat} {oi : Oper} {n : Nat} {listed : Array Bool} {tm : Array Value} {df : List Deferred} {K : List (Nat × Obj)} (K' : List (Nat × Obj)) (hi : ops[i]? = some oi) (hd : oi.dst = none)
    (hs : isStore oi = true) (hw : Region.wanted oi (yielded ops tm) = true) (hst : ∀ w, KS W0 K w → ∃ w', (execOp (Act.eval ⟨tm, df⟩) oi).run P w = .ok .skip w' ∧ KS W0 K' w')
    (h : wpV P md ops Q W0 n (listed.setIfInBounds i true) ⟨tm, df⟩ K') : StepV P md ops Q W0 n listed ⟨tm, df⟩ K i := by
  refine stepV_store hi hs hw hst ?_
  rw [hd]
  exact h
theorem vb {i : Nat} {oi : Oper} {v : Value} {d n : Nat} {listed : Array Bool} {tm : Array Value} {df : List Deferred} {K : List (Nat × Obj)} {T : Array Value} (hi : ops[i]? = some oi) (hd : oi.dst = some d) (hw : Region.wanted oi (yielded ops tm) = true)
    (hy : ∀ w, KS W0 [] w → ∀ K' : Act → World → Prop, (∀ w', Below w.heap.size w w' → K' (Act.put ⟨tm, df⟩ oi.dst v) w') → Oper.wp P oi ⟨tm, df⟩ w K' (fun _ _ _ => False))
    (h : wpV P md ops Q W0 n (listed.setIfInBounds i true) ⟨T, df⟩ K) (hlt : Nat.blt d tm.size = true := by kernel_rfl) (hf : freeP md ops listed i = true := by kernel_rfl) (hT : tm.setIfInBounds d v = T := by simp only [List.setIfInBounds_toArray, List.set_cons_succ, List.set_cons_zero] <;> rfl) : wpV P md ops Q W0 (n + 1) listed ⟨tm, df⟩ K := by
  unfold freeP at hf
  simp only [Bool.and_eq_true] at hf
  obtain ⟨h1, h2, h3, h4⟩ := hf
  refine wpV_first (v := v) hi (Region.noSelect_spec h1) n listed _ K (closed_of h4) (Region.free_spec hi h2) (by simpa using h3)
    (.inl fun K' => .inl ⟨hw, fun w hk => Oto.of_wp hd (Nat.le_of_ble_eq_true hlt) (hy w (hk.sub (fun _ h => by cases h)))⟩) ?_
  rw [hd]
  subst hT
  exact h
theorem wpV_mono (hQ : ∀ a w, R .normal a w → Q .normal a w) : ∀ (n : Nat) (listed : Array Bool) (a : Act) (K : List (Nat × Obj)), wpV P md ops R W0 n listed a K → wpV P md ops Q W0 n listed a K
  | 0, _, _, _, h => ⟨h.1, fun w hw => hQ _ _ (h.2 w hw)⟩
  | n + 1, listed, a, K, h => by
    refine ⟨fun hr w hw => hQ _ _ (h.1 hr w hw), fun i hi => ?_⟩
    obtain ⟨o, ho, hc⟩ := h.2 i hi
    refine ⟨o, ho, ?_⟩
    rcases hc with ⟨v, hy, hu⟩ | ⟨obj, mk, hal, hu⟩ | ⟨hst, K2, hs2, hu⟩ | ⟨G, hst, hg2, hu⟩
    · exact .inl ⟨v, hy, wpV_mono hQ n _ _ _ hu⟩
    · exact .inr (.inl ⟨obj, mk, hal, fun g hg hf => wpV_mono hQ n _ _ _ (hu g hg hf)⟩)
    · exact .inr (.inr (.inl ⟨hst, K2, hs2, wpV_mono hQ n _ _ _ hu⟩))
    · exact .inr (.inr (.inr ⟨G, hst, hg2, fun v K' hG => wpV_mono hQ n _ _ _ (hu v K' hG)⟩))
theorem wpV_joins (R : Act → World → Prop) {n : Nat} {listed : Array Bool} {a : Act} {K : List (Nat × Obj)} (h : wpV P md ops (fun _ a w => R a w) W0 n listed a K) (hR : ∀ a w, R a w → Q .normal a w) : wpV P md ops Q W0 n listed a K :=
  wpV_mono hR n listed a K h
end
-- a statement that has the world of now as its base
theorem KS.comp {W0 : Base} {K K2 : List (Nat × Obj)} {W1 W2 : World} (h1 : KS W0 K W1) (h2 : KS (W1 : Base) K2 W2) : KS W0 (K2 ++ K) W2 :=
  ⟨h1.1.trans (h2.1.mono h1.size), fun p hp => by
    rcases List.mem_append.1 hp with hp | hp
    · exact h2.2 p hp
    · exact (h2.1.block p.1 (lt_of_block (h1.2 p hp))).trans (h1.2 p hp)⟩
theorem ks_ne {W0 : Base} {K : List (Nat × Obj)} {W1 : World} {g h : Nat} {o : Obj} (h1 : KS W0 K W1) (hp : (h, o) ∈ K) (hg : W1.heap.size ≤ g) : h ≠ g := by
  have := lt_of_block (h1.2 _ hp)
  intro e
  have e' : h = g := e
  omega
theorem ks_dk {W0 : Base} {K T : List (Nat × Obj)} {W1 : World} {g : Nat} (h1 : KS W0 K W1) (hs : ∀ q ∈ T, q ∈ K) (hg : W1.heap.size ≤ g) : Dk g T := fun q hq => ks_ne (o := q.2) h1 (hs q hq) hg
theorem ks_cell {W0 : Base} {K : List (Nat × Obj)} {W1 : World} {g : Nat} {cs : Array Value} {t : TypeId} {fr : Nat × Nat} {j : Nat} {v : Value} (h1 : KS W0 K W1) (hp : (g, .cells cs t fr) ∈ K) (hv : cs[j]? = some v) : W1.cell? ⟨g, j, none⟩ = some v := (cell_of_row W1 g j cs t fr (h1.2 _ hp)).trans hv
end Tw
namespace Go.Proofs.YtjbbeolapaaiaaaDoor
open Go Go.RowKit Tw
theorem calls_out {W0 : Base} {W : World} {K : List (Nat × Obj)} {E : TypeId} {sz n : Nat} {xs : List Value} {f : FuncId} {args : Array Value} (hW : KS W0 K W) (h : Calls Tryd.prog f args W fun e w' => ∃ v, e = .returned v ∧ OutV W w' E sz v n xs ∧ Below W.heap.size W w') :
    Calls Tryd.prog f args W fun e w' => ∃ v K', e = .returned v ∧ KS W0 K' w' ∧ (∃ Kl, OwnL W0 E sz v n xs Kl ∧ (∀ p ∈ K, ∀ q ∈ Kl, q.1 ≠ p.1) ∧ K' = K ++ Kl) :=
  h.mono fun e w' ⟨v, he, hO, hb⟩ => by
    obtain ⟨Kl, h1, h2, h3⟩ := hO.own hW hb
    exact ⟨v, _, he, h3, Kl, h1, h2, rfl⟩
theorem bs_take {W0 : Base} {T : List (Nat × Obj)} {p : Option Addr} {l : List Bx} (n : Nat) (h : BS W0 p l T) : BS W0 p (l.take n) T := fun W hW => slv_take n (h W hW)
set_option maxRecDepth 100000 in
set_option maxHeartbeats 4000000 in
theorem Clone_any (l : List Bx) (p : Option Addr) (c : Nat) (hl : l.length ≤ 4000000000) (w : World) (hp : SLV w p (bcs l)) : Calls Tryd.prog 46 #[.slice p l.length c] w fun e w' => ∃ v, e = .returned v ∧ OutV w w' 26 9 v l.length (bcs l) ∧ Below w.heap.size w w' := by
  rcases p with _ | ad
  · obtain rfl := slv_none hp
    go_enter Tryd.func46, Tryd.ntmps46
    refine wp_seq ?_
    refine wp_region_L (W0 := w) [] (KS.start w) ?_
    refine lm (v := .slice none 0 0) rfl rfl ?_
    refine wpL_done (fun W1 hW1 => ?_)
    refine (show Code.wp _ _ _ _ _ from ?_)
    refine wp_seq ?_
    refine wp_seq ?_
    refine wp_region_L (W0 := w) [] (hW1) ?_
    refine lm (v := .slice none 0 c) rfl rfl ?_
    refine lp (v := .bool true) rfl rfl (run_bin rfl (vx := .slice none 0 c) (vy := .slice none 0 0) (by kernel_rfl) (by kernel_rfl) fun w => nil_eq Tryd.underlying22 w) ?_
    refine wpL_done (fun W2 hW2 => ?_)
    refine (show Code.wp _ _ _ _ _ from ?_)
    refine wp_cond_true rfl ?_
    refine wp_seq ?_
    refine wp_region_L (W0 := w) [] (hW2) ?_
    refine lm (v := .slice none 0 0) rfl rfl ?_
    refine wpL_done (fun W3 hW3 => ?_)
    refine (show Code.wp _ _ _ _ _ from ?_)
    refine wp_ret ?_
    try simp only [inBlock_ret, then_ret]
    refine bodyPost_ret (v := .slice none 0 0) ?_ rfl ?_
    · kernel_rfl
    · exact ⟨_, rfl, .inl ⟨rfl, rfl, rfl⟩, hW3.1⟩
  · have HP := Lib.hid hp
    clear hp
    go_enter Tryd.func46, Tryd.ntmps46
    refine wp_seq ?_
    refine wp_region_L (W0 := w) [] (KS.start w) ?_
    refine lm (v := .slice none 0 0) rfl rfl ?_
    refine wpL_done (fun W1 hW1 => ?_)
    refine (show Code.wp _ _ _ _ _ from ?_)
    refine wp_seq ?_
    refine wp_seq ?_
    refine wp_region_L (W0 := w) [] (hW1) ?_
    refine lm (v := .slice (some ad) l.length c) rfl rfl ?_
    refine lp (v := .bool false) rfl rfl (run_bin rfl (vx := .slice (some ad) l.length c) (vy := .slice none 0 0) (by kernel_rfl) (by kernel_rfl) fun w => nil_eq Tryd.underlying22 w) ?_
    refine wpL_done (fun W2 hW2 => ?_)
    refine (show Code.wp _ _ _ _ _ from ?_)
    refine wp_cond_false rfl ?_
    refine wp_skip ?_
    refine (show Code.wp _ _ _ _ _ from ?_)
    refine wp_seq ?_
    refine wp_region_L (W0 := w) [] (hW2) ?_
    refine wpL_new (fun g => .slice (some ⟨g, 0, none⟩) 0 0) (obi := .cells #[] 26 (0, 0)) rfl rfl (fun _ => by kernel_rfl) (fun _ => by simp only [List.setIfInBounds_toArray, List.set_cons_succ, List.set_cons_zero] <;> rfl) fun g1 Bg1 Fg1 => ?_
    refine lm (v := .slice (some ad) l.length c) rfl rfl ?_
    refine wpL_g (AppO w 26 9 [] (0 + l.length) ((bcs []) ++ (bcs l))) rfl rfl (app_any el_bx (m := l.length) (news := (bcs l)) rfl (by kernel_rfl) (by kernel_rfl) (src_bs (c := c) Tryd.underlying22 ((BS.base HP.out).mono (fun q hq => by cases hq)) rfl) (own_bnone Bg1) (fun p hp => by cases List.mem_singleton.1 hp; exact (.head _)) (fun _ h => by cases h) (by omega) (by omega)) (fun _ => by simp only [List.setIfInBounds_toArray, List.set_cons_succ, List.set_cons_zero] <;> rfl) ?_
    rintro v2 Kl2 ⟨_, O2, N2, rfl⟩
    replace O2 : OwnL w 26 9 v2 l.length (bcs l) Kl2 := by rw [Nat.zero_add] at O2; exact O2
    refine lm (v := v2) rfl rfl ?_
    refine wpL_done (fun W3 hW3 => ?_)
    refine (show Code.wp _ _ _ _ _ from ?_)
    refine wp_ret ?_
    try simp only [inBlock_ret, then_ret]
    refine bodyPost_ret (v := v2) ?_ rfl ?_
    · kernel_rfl
    · exact ⟨_, rfl, O2.out (fun p hp => by simp only [List.mem_cons, List.mem_append, List.nil_append, List.not_mem_nil, or_assoc, or_false, false_or, hp, true_or, or_true]) hW3, hW3.1⟩
theorem sort_own {W0 : Base} {K Kl : List (Nat × Obj)} {v : Value} (l : List Bx) (hsm : l.length < 20) (hO : OwnL W0 26 9 v l.length (bcs l) Kl) (hd : ∀ p ∈ K, ∀ q ∈ Kl, q.1 ≠ p.1) (w : World) (hw : KS W0 (K ++ Kl) w) :
    Calls Tryd.prog 47 #[v, .func (.func 48) #[] #[]] w fun e w' => ∃ u K', e = .returned u ∧ KS W0 K' w' ∧ (u = .tuple #[] ∧ ∃ Kl', OwnL W0 26 9 v l.length (bcs (orderX l)) Kl' ∧ (∀ p ∈ K, ∀ q ∈ Kl', q.1 ≠ p.1) ∧ K' = K ++ Kl') := by
  rcases hO with ⟨h1, h2, rfl, rfl⟩ | ⟨g, cap, cur, rfl, hB, hR, rfl⟩
  · have hl : l = [] := List.eq_nil_of_length_eq_zero h1
    subst hl
    exact (sort_nil w).mono fun e w' ⟨he, hb⟩ => ⟨_, _, he, hw.below hb, rfl, [], OwnL.nil _ _ _, (fun _ _ _ h => by cases h), rfl⟩
  · have hg : ∀ q ∈ K, q.1 ≠ g := fun q hq e => hd q hq (g, .cells cur 26 (0, 0)) (List.mem_singleton.2 rfl) e.symm
    refine (sort_small (cap := cap) l rfl (by omega) hsm (rowx_own hR) hB hg w (hw.sub (fun p hp => by
      rcases List.mem_cons.1 hp with rfl | hp
      · exact List.mem_append_right _ (List.mem_singleton.2 rfl)
      · exact List.mem_append_left _ hp))).mono fun e w' ⟨u, K', he, hk, hu, cur', hr, hs, hK⟩ => ?_
    subst hK
    refine ⟨u, _, he, hk.sub (K' := K ++ [(g, .cells cur' 26 (0, 0))]) (fun p hp => ?_), hu, [(g, .cells cur' 26 (0, 0))], .inr ⟨g, cap, cur', rfl, hB, own_rowx hR hs hr (order_len l), rfl⟩, fun p hp q hq => ?_, rfl⟩
    · rcases List.mem_append.1 hp with hp | hp
      · exact .tail _ hp
      · cases List.mem_singleton.1 hp; exact .head _
    · cases List.mem_singleton.1 hq; exact fun e => hg p hp e.symm
set_option maxRecDepth 100000 in
set_option maxHeartbeats 4000000 in
theorem Order_few (l : List Bx) (p : Option Addr) (c : Nat) (hsm : l.length < 20) (w : World) (hp : SLV w p (bcs l)) : Calls Tryd.prog 27 #[.slice p l.length c] w fun e w' => ∃ v, e = .returned v ∧ OutV w w' 26 9 v l.length (bcs (orderX l)) ∧ Below w.heap.size w w' := by
  have HP := Lib.hid hp
  clear hp
  go_enter Tryd.func27, Tryd.ntmps27
  refine wp_seq ?_
  refine wp_region_L (W0 := w) [] (KS.start w) ?_
  refine lm (v := .slice none 0 0) rfl rfl ?_
  refine wpL_done (fun W1 hW1 => ?_)
  refine (show Code.wp _ _ _ _ _ from ?_)
  refine wp_seq ?_
  refine wp_region_L (W0 := w) [] (hW1) ?_
  refine lm (v := .slice p l.length c) rfl rfl ?_
  refine wpL_c (f := 46) (args := #[.slice p l.length c]) (fun v K9 => ∃ Kl, OwnL w 26 9 v l.length (bcs l) Kl ∧ (∀ p ∈ ([] : List (Nat × Obj)), ∀ q ∈ Kl, q.1 ≠ p.1) ∧ K9 = [] ++ Kl) rfl (by kernel_rfl) (fun _ => (by kernel_rfl)) (fun W hW => calls_out hW (Clone_any l p c (by first | omega | (simp; done) | (simp; omega) | decide) W (HP.out.keep hW.1))) (fun _ => by simp only [List.setIfInBounds_toArray, List.set_cons_succ, List.set_cons_zero] <;> rfl) ?_
  rintro v1 Kl1 ⟨_, O1, N1, rfl⟩
  refine lm (v := v1) rfl rfl ?_
  refine wpL_done (fun W2 hW2 => ?_)
  refine (show Code.wp _ _ _ _ _ from ?_)
  refine wp_seq ?_
  refine wp_region_L (W0 := w) Kl1 (hW2) ?_
  refine lm (v := v1) rfl rfl ?_
  refine wpL_c (f := 47) (args := #[v1, .func (.func 48) #[] #[]]) (fun u K9 => u = .tuple #[] ∧ ∃ Kl', OwnL w 26 9 v1 l.length (bcs (orderX l)) Kl' ∧ (∀ p ∈ ([] : List (Nat × Obj)), ∀ q ∈ Kl', q.1 ≠ p.1) ∧ K9 = [] ++ Kl') rfl (by kernel_rfl) (fun _ => (by kernel_rfl)) (fun W hW => sort_own (K := []) (Kl := Kl1) l (by omega) O1 (show Dj [] Kl1 from (by (try simp only [dj_app_l, dj_app_r, dj_cons_l, dj_cons_r, dj_nil_l, dj_nil_r, dk_app, dk_cons, dk_nil, and_true, true_and, and_assoc]); repeat' (first | trivial | assumption | exact Dj.symm (by assumption) | exact Ne.symm (by assumption) | apply And.intro))) W (hW.sub (fun p hp => by simp only [List.mem_cons, List.mem_append, List.nil_append, List.not_mem_nil, or_assoc, or_false, false_or, List.cons_append, List.append_assoc] at hp ⊢ <;> grind))) (fun _ => by simp only [List.setIfInBounds_toArray, List.set_cons_succ, List.set_cons_zero] <;> rfl) ?_
  rintro _ Kl2 ⟨rfl, _, O2, N2, rfl⟩
  refine wpL_done (fun W3 hW3 => ?_)
  refine (show Code.wp _ _ _ _ _ from ?_)
  refine wp_seq ?_
  refine wp_region_L (W0 := w) Kl2 (hW3) ?_
  refine lm (v := v1) rfl rfl ?_
  refine lm (v := v1) rfl rfl ?_
  refine wpL_done (fun W4 hW4 => ?_)
  refine (show Code.wp _ _ _ _ _ from ?_)
  refine wp_ret ?_
  try simp only [inBlock_ret, then_ret]
  refine bodyPost_ret (v := v1) ?_ rfl ?_
  · kernel_rfl
  · exact ⟨_, rfl, O2.out (fun p hp => by simp only [List.mem_cons, List.mem_append, List.nil_append, List.not_mem_nil, or_assoc, or_false, false_or, hp, true_or, or_true]) hW4, hW4.1⟩
def exB : Bx := ⟨7, [67, 83, 81, 85, 51, 48, 53, 52, 51, 56, 51], 40, true, 30000, 1, 3, 0, false⟩
set_option maxRecDepth 100000 in
set_option maxHeartbeats 4000000 in
theorem example_any  (w : World) : Calls Tryd.prog 13 #[] w fun e w' => e = .returned (bxV exB) ∧ Below w.heap.size w w' := by
  go_enter Tryd.func13, Tryd.ntmps13
  refine wp_seq ?_
  refine wp_region_L (W0 := w) [] (KS.start w) ?_
  refine wpL_new (fun g => .pointer (some ⟨g, 0, none⟩)) (obi := .cells (bxC bx0) 26 (0, 0)) rfl rfl (fun _ => by kernel_rfl) (fun _ => by simp only [List.setIfInBounds_toArray, List.set_cons_succ, List.set_cons_zero] <;> rfl) fun g1 Bg1 Fg1 => ?_
  refine wpL_done (fun W1 hW1 => ?_)
  refine (show Code.wp _ _ _ _ _ from ?_)
  refine wp_seq ?_
  refine wp_region_L (W0 := w) [(g1, .cells (bxC bx0) 26 (0, 0))] (hW1) ?_
  refine lm (v := .agg #[.int .i64 7, strV [67, 83, 81, 85, 51, 48, 53, 52, 51, 56, 51], .int .u8 40, .bool true, .int .i64 30000, .int .i64 1, .int .i64 3, .int .u8 0, .bool false]) rfl rfl ?_
  refine wpL_s [(g1, .cells (bxC exB) 26 (0, 0))] rfl rfl (st_row (off := 0) (v := .agg #[.int .i64 7, strV [67, 83, 81, 85, 51, 48, 53, 52, 51, 56, 51], .int .u8 40, .bool true, .int .i64 30000, .int .i64 1, .int .i64 3, .int .u8 0, .bool false]) rfl (by kernel_rfl) (by kernel_rfl) (.head _) Bg1 (by kernel_rfl) (by first | (simp [Value.cells]; done) | exact Nat.le_of_ble_eq_true rfl) (by intro v hv; simp [Value.cells, strV] at hv; first | (subst hv; rfl) | (rcases hv with rfl | rfl | rfl | rfl | rfl | rfl | rfl | rfl | rfl <;> rfl)) (by kernel_rfl) (List.forall_mem_cons.2 ⟨.inl rfl, (List.forall_mem_nil _)⟩)) ?_
  refine wpL_done (fun W2 hW2 => ?_)
  refine (show Code.wp _ _ _ _ _ from ?_)
  refine wp_ret ?_
  try simp only [inBlock_ret, then_ret]
  refine bodyPost_ret (v := .agg #[.int .i64 7, strV [67, 83, 81, 85, 51, 48, 53, 52, 51, 56, 51], .int .u8 40, .bool true, .int .i64 30000, .int .i64 1, .int .i64 3, .int .u8 0, .bool false]) ?_ rfl ?_
  · exact (res_cell (p := 0) rfl rfl (hW2.2 _ (.head _)) Tryd.underlying26 rfl (by kernel_rfl))
  · exact ⟨rfl, hW2.1⟩
set_option maxRecDepth 100000 in
set_option maxHeartbeats 4000000 in
theorem same_any (A B : List Bx) (pA pB : Option Addr) (cA cB : Nat) (lA : A.length ≤ 4000000000) (w : World) (hA : SLV w pA (bcs A)) (hB : SLV w pB (bcs B)) : Calls Tryd.prog 28 #[.slice pA A.length cA, .slice pB B.length cB] w fun e w' => e = .returned (.bool (decide (A = B))) ∧ Below w.heap.size w w' := by
  have HA := Lib.hid hA
  have HB := Lib.hid hB
  clear hA hB
  go_enter Tryd.func28, Tryd.ntmps28
  refine wp_seq ?_
  refine wp_region_L (W0 := w) [] (KS.start w) ?_
  refine lm (v := .bool false) rfl rfl ?_
  refine wpL_done (fun W1 hW1 => ?_)
  refine (show Code.wp _ _ _ _ _ from ?_)
  refine wp_seq ?_
  refine wp_seq ?_
  refine wp_region_L (W0 := w) [] (hW1) ?_
  refine lm (v := .slice pA A.length cA) rfl rfl ?_
  refine lp (v := .int .i64 ((A.length : Nat) : Int)) rfl rfl (run_lenL (p := pA) (cap := cA) (n := A.length) rfl Tryd.underlying22 (by kernel_rfl)) ?_
  refine lm (v := .slice pB B.length cB) rfl rfl ?_
  refine lp (v := .int .i64 ((B.length : Nat) : Int)) rfl rfl (run_lenL (p := pB) (cap := cB) (n := B.length) rfl Tryd.underlying22 (by kernel_rfl)) ?_
  refine lp (v := .bool (!(decide (A.length = B.length)))) rfl rfl (run_bin rfl (vx := (.int .i64 ((A.length : Nat) : Int))) (vy := (.int .i64 ((B.length : Nat) : Int))) (by kernel_rfl) (by kernel_rfl) fun w => bn_neq rfl w) ?_
  refine wpL_done (fun W2 hW2 => ?_)
  refine (show Code.wp _ _ _ _ _ from ?_)
  cases hd1 : (decide (A.length = B.length)) with
  | false =>
    have h1 : ¬ (A.length = B.length) := of_decide_eq_false hd1
    clear hd1
    refine wp_cond_true rfl ?_
    refine wp_seq ?_
    refine wp_region_L (W0 := w) [] (hW2) ?_
    refine lm (v := .bool false) rfl rfl ?_
    refine wpL_done (fun W3 hW3 => ?_)
    refine (show Code.wp _ _ _ _ _ from ?_)
    refine wp_ret ?_
    try simp only [inBlock_ret, then_ret]
    refine bodyPost_ret (v := .bool false) ?_ rfl ?_
    · kernel_rfl
    · exact ⟨(bool_is (by rw [eq_comm, decide_eq_false_iff_not]; exact ne_len h1)), hW3.1⟩
  | true =>
    have h1 : A.length = B.length := of_decide_eq_true hd1
    clear hd1
    refine wp_cond_false rfl ?_
    refine wp_skip ?_
    refine (show Code.wp _ _ _ _ _ from ?_)
    refine wp_seq ?_
    refine wp_seq ?_
    refine wp_region_L (W0 := w) [] (hW2) ?_
    refine lm (v := .int .i64 0) rfl rfl ?_
    refine wpL_done (fun W4 hW4 => ?_)
    refine (show Code.wp _ _ _ _ _ from ?_)
    refine wp_block ?_
    go_loopw [5] (fun u5 wr => ∃ (k : Nat), (k ≤ A.length) ∧ (A.take k = B.take k) ∧ u5 = .int .i64 ((k : Nat) : Int) ∧ KS w [] wr) (fun u5 _ => A.length - (intOf u5).toNat)
    case atStart => exact ⟨0, (Nat.zero_le _), rfl, rfl, (hW4.sub (fun p hp => by first | exact hp | (simp only [List.mem_cons, List.mem_append, List.nil_append, List.not_mem_nil, or_assoc, or_false, false_or] at hp ⊢ <;> grind)))⟩
    case round =>
      obtain ⟨k, hk, hT, rfl, hL5⟩ := hrel
      refine wp_seq ?_
      refine wp_seq ?_
      refine wp_region_L (W0 := w) [] (hL5) ?_
      refine lm (v := .int .i64 ((k : Nat) : Int)) rfl rfl ?_
      refine lm (v := .slice pA A.length cA) rfl rfl ?_
      refine lp (v := .int .i64 ((A.length : Nat) : Int)) rfl rfl (run_lenL (p := pA) (cap := cA) (n := A.length) rfl Tryd.underlying22 (by kernel_rfl)) ?_
      refine lp (v := .bool (decide (k < A.length))) rfl rfl (run_bin rfl (vx := (.int .i64 ((k : Nat) : Int))) (vy := (.int .i64 ((A.length : Nat) : Int))) (by kernel_rfl) (by kernel_rfl) fun w => bn_lss rfl w) ?_
      refine wpL_done (fun W6 hW6 => ?_)
      refine (show Code.wp _ _ _ _ _ from ?_)
      cases hd2 : (decide (k < A.length)) with
      | false =>
        have h2 : ¬ (k < A.length) := of_decide_eq_false hd2
        clear hd2
        refine wp_cond_false rfl ?_
        refine wp_exit ?_
        refine (show Code.wp _ _ _ _ _ from ?_)
        refine wp_seq ?_
        refine wp_region_L (W0 := w) [] (hW6) ?_
        refine lm (v := .bool true) rfl rfl ?_
        refine wpL_done (fun W7 hW7 => ?_)
        refine (show Code.wp _ _ _ _ _ from ?_)
        refine wp_ret ?_
        try simp only [inBlock_ret, then_ret]
        refine bodyPost_ret (v := .bool true) ?_ rfl ?_
        · kernel_rfl
        · exact ⟨(bool_is (by rw [eq_comm, decide_eq_true_iff]; exact eq_of_take hT h2 h1)), hW7.1⟩
      | true =>
        have h2 : k < A.length := of_decide_eq_true hd2
        clear hd2
        refine wp_cond_true rfl ?_
        refine wp_skip ?_
        refine (show Code.wp _ _ _ _ _ from ?_)
        refine wp_seq ?_
        refine wp_block ?_
        refine wp_seq ?_
        refine wp_region_V (W0 := w) [] (by kernel_rfl) (hW6) ?_
        refine vm (i := 0) (v := .slice pA A.length cA) rfl rfl rfl ?_
        refine vm (i := 1) (v := .int .i64 ((k : Nat) : Int)) rfl rfl rfl ?_
        obtain ⟨b1, g1_, f1, hy1, hp1, lt1, hc1⟩ := bl_at (k := k) HA.out (by omega)
        refine vp (i := 2) (v := .pointer (some ⟨g1_, f1 + k * 9, none⟩)) rfl rfl rfl (run_idxQ (p := pA) (cap := cA) (n := A.length) (j := .i64) (k := k) (sz := 9) rfl Tryd.underlying22 (by kernel_rfl) (by kernel_rfl) hp1 (by kernel_rfl) (by omega)) ?_
        refine vv (i := 3) (v := bxV b1) rfl rfl rfl (yb_olds (off := f1 + k * 9) (cs := (bxC b1).toList) rfl (by kernel_rfl) hc1 lt1 Tryd.underlying26 rfl (by kernel_rfl)) ?_
        refine vm (i := 4) (v := .slice pB B.length cB) rfl rfl rfl ?_
        refine vm (i := 5) (v := .int .i64 ((k : Nat) : Int)) rfl rfl rfl ?_
        obtain ⟨b2, g2_, f2, hy2, hp2, lt2, hc2⟩ := bl_at (k := k) HB.out (by omega)
        refine vp (i := 6) (v := .pointer (some ⟨g2_, f2 + k * 9, none⟩)) rfl rfl rfl (run_idxQ (p := pB) (cap := cB) (n := B.length) (j := .i64) (k := k) (sz := 9) rfl Tryd.underlying22 (by kernel_rfl) (by kernel_rfl) hp2 (by kernel_rfl) (by omega)) ?_
        refine vv (i := 7) (v := bxV b2) rfl rfl rfl (yb_olds (off := f2 + k * 9) (cs := (bxC b2).toList) rfl (by kernel_rfl) hc2 lt2 Tryd.underlying26 rfl (by kernel_rfl)) ?_
        refine vp (i := 8) (v := .bool (!(decide (b1 = b2)))) rfl rfl rfl (run_bin rfl (vx := bxV b1) (vy := bxV b2) (by kernel_rfl) (by kernel_rfl) fun w => neq_bx rfl w) ?_
        refine wpV_done (by kernel_rfl) (fun W8 hW8 => ?_) _
        refine (show Code.wp _ _ _ _ _ from ?_)
        cases hd3 : (decide (b1 = b2)) with
        | false =>
          have h3 : ¬ (b1 = b2) := of_decide_eq_false hd3
          clear hd3
          refine wp_cond_true rfl ?_
          refine wp_seq ?_
          refine wp_region_L (W0 := w) [] (hW8) ?_
          refine lm (v := .bool false) rfl rfl ?_
          refine wpL_done (fun W9 hW9 => ?_)
          refine (show Code.wp _ _ _ _ _ from ?_)
          refine wp_ret ?_
          try simp only [inBlock_ret, then_ret]
          refine bodyPost_ret (v := .bool false) ?_ rfl ?_
          · kernel_rfl
          · exact ⟨(bool_is (by rw [eq_comm, decide_eq_false_iff_not]; exact ne_at hy1 hy2 h3)), hW9.1⟩
        | true =>
          have h3 : b1 = b2 := of_decide_eq_true hd3
          clear hd3
          refine wp_cond_false rfl ?_
          refine wp_skip ?_
          refine (show Code.wp _ _ _ _ _ from ?_)
          refine wp_region_L (W0 := w) [] (hW8) ?_
          refine lm (v := .int .i64 ((k : Nat) : Int)) rfl rfl ?_
          refine lp (v := .int .i64 (((k + 1) : Nat) : Int)) rfl rfl (run_bin rfl (vx := (.int .i64 ((k : Nat) : Int))) (vy := (.int .i64 ((1 : Nat) : Int))) (by kernel_rfl) (by kernel_rfl) fun w => bn_add (z := (k + 1)) rfl (wr_i64 (by omega)) w) ?_
          refine lm (v := .int .i64 (((k + 1) : Nat) : Int)) rfl rfl ?_
          refine wpL_done (fun W10 hW10 => ?_)
          go_roundw
          case rel =>
            repeat apply Exists.intro
            exact ⟨⟨k + 1, (by omega), (take_snoc_eq hT hy1 hy2 h3), rfl, (hW10.sub (fun p hp => by first | exact hp | (simp only [List.mem_cons, List.mem_append, List.nil_append, List.not_mem_nil, or_assoc, or_false, false_or] at hp ⊢ <;> grind)))⟩, rfl⟩
          case measure => (show A.length - (intOf (.int .i64 (((k + 1) : Nat) : Int))).toNat < A.length - (intOf (.int .i64 ((k : Nat) : Int))).toNat); simp only [intOf]; omega
theorem same_true (A B : List Bx) (pA pB : Option Addr) (cA cB : Nat) (lA : A.length ≤ 4000000000) (w : World) (hA : SLV w pA (bcs A)) (hB : SLV w pB (bcs B)) (h : A = B) : Calls Tryd.prog 28 #[.slice pA A.length cA, .slice pB B.length cB] w fun e w' => e = .returned (.bool true) ∧ Below w.heap.size w w' := by
  have h1 := same_any A B pA pB cA cB lA w hA hB
  rwa [decide_eq_true h] at h1
end Go.Proofs.YtjbbeolapaaiaaaDoor
