import Derived.Test.YtppegdbelgobiaaG01
import Derived.Test.YtppegdbelgobiaaG02
/- Part of the proof: Li, Lj, Bf, Bg, Bh, Lk, Bi. -/
set_option linter.unusedVariables false
set_option linter.unusedSimpArgs false
set_option linter.unusedSectionVars false
namespace Go.Proofs.Ytppegdbelgobiaa
open Go Go.RowKit Tw
theorem relC_le (l : List UInt8) : (relC l).length ≤ 2 * l.length := by
  induction l with
  | nil => exact Nat.le_refl _
  | cons b l ih => simp only [relC, List.length_append, List.length_cons]; split <;> simp <;> omega
theorem relF_le (l : List UInt8) : (relF l).length ≤ 2 * l.length := by
  match l with
  | [] => exact Nat.le_refl _
  | b :: l =>
    have := relC_le l
    simp only [relF, List.length_append, List.length_cons]
    split <;> simp <;> omega
theorem one_at {c : List UInt8} {i : Nat} {b : UInt8} (h : c[i]? = some b) : (c.take (i + 1)).drop i = [b] := by
  obtain ⟨h1, rfl⟩ := List.getElem?_eq_some_iff.1 h
  rw [List.take_succ_eq_append_getElem h1, List.drop_append_of_le_length (by simp; omega), List.drop_of_length_le (by simp; omega)]
  rfl
theorem take_one {c : List UInt8} {i : Nat} {b : UInt8} (h : c[i]? = some b) : c.take (i + 1) = c.take i ++ [b] := by
  obtain ⟨h1, rfl⟩ := List.getElem?_eq_some_iff.1 h
  rw [List.take_succ_eq_append_getElem h1]
theorem relC_yes {c o : List UInt8} {i : Nat} {b : UInt8} (h : c[i]? = some b) (ho : o = relC (c.take i)) (hs : svc b = true) : o ++ [63] ++ (c.take (i + 1)).drop i = relC (c.take (i + 1)) := by
  rw [one_at h, take_one h, relC_append, ho]
  simp [relC, hs]
theorem relC_no {c o : List UInt8} {i : Nat} {b : UInt8} (h : c[i]? = some b) (ho : o = relC (c.take i)) (hs : svc b = false) : o ++ (c.take (i + 1)).drop i = relC (c.take (i + 1)) := by
  rw [one_at h, take_one h, relC_append, ho]
  simp [relC, hs]
theorem relF_app {l m : List UInt8} (h : l ≠ []) : relF (l ++ m) = relF l ++ relC m := by
  match l, h with
  | b :: l, _ => simp only [List.cons_append, relF, relC_append, List.append_assoc]
theorem take_ne {c : List UInt8} {i : Nat} {b : UInt8} (h : c[i]? = some b) (hi : ¬ i = 0) : c.take i ≠ [] := by
  obtain ⟨h1, rfl⟩ := List.getElem?_eq_some_iff.1 h
  intro e
  have := congrArg List.length e
  rw [List.length_take, List.length_nil] at this
  omega
theorem relF_yes {c o : List UInt8} {i : Nat} {b : UInt8} (h : c[i]? = some b) (ho : o = relF (c.take i)) (hs : svc b = true) : o ++ [63] ++ (c.take (i + 1)).drop i = relF (c.take (i + 1)) := by
  rw [one_at h, take_one h, ho]
  by_cases hi : i = 0
  · subst hi
    simp [relF, hs, relC]
  · rw [relF_app (take_ne h hi)]
    simp [relC, hs]
theorem relF_sp {c o : List UInt8} {i : Nat} {b : UInt8} (h : c[i]? = some b) (ho : o = relF (c.take i)) (hi : i = 0) (hs : b.toNat = 32) : o ++ [63] ++ (c.take (i + 1)).drop i = relF (c.take (i + 1)) := by
  rw [one_at h, take_one h, ho]
  subst hi
  simp [relF, hs, relC]
theorem relF_no {c o : List UInt8} {i : Nat} {b : UInt8} (h : c[i]? = some b) (ho : o = relF (c.take i)) (hs : svc b = false) (hn : ¬ i = 0 ∨ ¬ b.toNat = 32) : o ++ (c.take (i + 1)).drop i = relF (c.take (i + 1)) := by
  rw [one_at h, take_one h, ho]
  by_cases hi : i = 0
  · subst hi
    simp at hn
    simp [relF, hs, hn, relC]
  · rw [relF_app (take_ne h hi)]
    simp [relC, hs]
set_option maxRecDepth 100000 in
set_option maxHeartbeats 4000000 in
theorem relN_any (c : List UInt8) (lc : c.length ≤ 4000000000) (w : World) : Calls Try.prog 48 #[strV c, .bool false] w fun e w' => e = .returned (strV (relC c)) ∧ Below w.heap.size w w' := by
  go_enter Try.func48, Try.ntmps48
  refine wp_seq ?_
  refine wp_region_L (W0 := w) [] (KS.start w) ?_
  refine lm (v := strV []) rfl rfl ?_
  refine wpL_done (fun W1 hW1 => ?_)
  refine (show Code.wp _ _ _ _ _ from ?_)
  refine wp_seq ?_
  refine wp_region_L (W0 := w) [] (hW1) ?_
  refine lm (v := strV []) rfl rfl ?_
  refine wpL_done (fun W2 hW2 => ?_)
  refine (show Code.wp _ _ _ _ _ from ?_)
  refine wp_seq ?_
  refine wp_seq ?_
  refine wp_region_L (W0 := w) [] (hW2) ?_
  refine lm (v := .int .i64 0) rfl rfl ?_
  refine wpL_done (fun W3 hW3 => ?_)
  refine (show Code.wp _ _ _ _ _ from ?_)
  refine wp_block ?_
  go_loopw [5, 6] (fun u5 u6 wr => ∃ (i : Nat) (o : List UInt8), (i ≤ c.length) ∧ (o = relC (c.take i)) ∧ (o.length ≤ 2 * i) ∧ u5 = strV o ∧ u6 = .int .i64 ((i : Nat) : Int) ∧ KS w [] wr) (fun _ u6 _ => c.length - (intOf u6).toNat)
  case atStart => exact ⟨0, [], (Nat.zero_le _), rfl, (Nat.le_refl _), rfl, rfl, hW3⟩
  case round =>
    obtain ⟨i, o, hi, ho, lo, rfl, rfl, hL4⟩ := hrel
    refine wp_seq ?_
    refine wp_seq ?_
    refine wp_region_L (W0 := w) [] (hL4) ?_
    refine lm (v := .int .i64 ((i : Nat) : Int)) rfl rfl ?_
    refine lm (v := strV c) rfl rfl ?_
    refine lp (v := .int .i64 ((c.length : Nat) : Int)) rfl rfl (run_lenS (l := c) rfl Try.underlying9 (by kernel_rfl)) ?_
    refine lp (v := .bool (decide (i < c.length))) rfl rfl (run_bin rfl (vx := (.int .i64 ((i : Nat) : Int))) (vy := (.int .i64 ((c.length : Nat) : Int))) (by kernel_rfl) (by kernel_rfl) fun w => bn_lss rfl w) ?_
    refine wpL_done (fun W5 hW5 => ?_)
    refine (show Code.wp _ _ _ _ _ from ?_)
    cases hd1 : (decide (i < c.length)) with
    | false =>
      have h1 : ¬ (i < c.length) := of_decide_eq_false hd1
      clear hd1
      refine wp_cond_false rfl ?_
      refine wp_exit ?_
      refine (show Code.wp _ _ _ _ _ from ?_)
      refine wp_seq ?_
      refine wp_region_L (W0 := w) [] (hW5) ?_
      refine lm (v := strV o) rfl rfl ?_
      refine lm (v := strV o) rfl rfl ?_
      refine wpL_done (fun W6 hW6 => ?_)
      refine (show Code.wp _ _ _ _ _ from ?_)
      refine wp_ret ?_
      try simp only [inBlock_ret, then_ret]
      refine bodyPost_ret (v := strV o) ?_ rfl ?_
      · kernel_rfl
      · exact ⟨(by rw [ho, List.take_of_length_le (by omega)]), hW6.1⟩
    | true =>
      have h1 : i < c.length := of_decide_eq_true hd1
      clear hd1
      refine wp_cond_true rfl ?_
      refine wp_skip ?_
      refine (show Code.wp _ _ _ _ _ from ?_)
      refine wp_seq ?_
      refine wp_block ?_
      refine wp_seq ?_
      refine wp_seq ?_
      refine wp_region_L (W0 := w) [] (hW5) ?_
      refine lm (v := strV c) rfl rfl ?_
      refine lm (v := .int .i64 ((i : Nat) : Int)) rfl rfl ?_
      obtain ⟨b1, hb1⟩ : ∃ b, (c : List UInt8)[i]? = some b := ⟨_, List.getElem?_eq_getElem (by omega)⟩
      have lb1 := b1.toNat_lt
      refine lp (v := .int .u8 ((b1.toNat : Nat) : Int)) rfl rfl (run_idxS (j := .i64) (l := c) (k := i) (b := b1) rfl Try.underlying9 (by kernel_rfl) (by kernel_rfl) hb1) ?_
      refine lv (v := .bool (svc b1)) rfl rfl (yb_call (f := 58) (args := #[.int .u8 ((b1.toNat : Nat) : Int)]) (fun _ => by kernel_rfl) fun W hW => svc_any b1 W) ?_
      refine lm (v := .bool (svc b1)) rfl rfl ?_
      cases h2 : (svc b1) with
      | false =>
        refine lm (v := .bool false) rfl rfl ?_
        refine lm (v := .bool false) rfl rfl ?_
        refine ln rfl ?_
        refine ln rfl ?_
        refine lm (v := .bool false) rfl rfl ?_
        refine lm (v := .bool false) rfl rfl ?_
        refine ln rfl ?_
        refine ln rfl ?_
        refine ln rfl ?_
        refine ln rfl ?_
        refine lm (v := .bool false) rfl rfl ?_
        refine lm (v := .bool false) rfl rfl ?_
        refine wpL_done (fun W7 hW7 => ?_)
        refine (show Code.wp _ _ _ _ _ from ?_)
        refine wp_cond_false rfl ?_
        refine wp_skip ?_
        refine (show Code.wp _ _ _ _ _ from ?_)
        refine wp_region_L (W0 := w) [] (hW7) ?_
        refine lm (v := strV o) rfl rfl ?_
        refine lm (v := strV c) rfl rfl ?_
        refine lm (v := .int .i64 ((i : Nat) : Int)) rfl rfl ?_
        refine lm (v := .int .i64 ((i : Nat) : Int)) rfl rfl ?_
        refine lp (v := .int .i64 (((i + 1) : Nat) : Int)) rfl rfl (run_bin rfl (vx := (.int .i64 ((i : Nat) : Int))) (vy := (.int .i64 ((1 : Nat) : Int))) (by kernel_rfl) (by kernel_rfl) fun w => bn_add (z := (i + 1)) rfl (wr_i64 (by omega)) w) ?_
        refine lp (v := strV ((c.take (i + 1)).drop i)) rfl rfl (run_slT (k1 := .i64) (k2 := .i64) (l := c) (r := ((c.take (i + 1)).drop i)) (i := i) (j := (i + 1)) rfl Try.underlying9 (by kernel_rfl) (by kernel_rfl) (by kernel_rfl) (by omega) (by first | omega | (simp; omega)) rfl) ?_
        refine lp (v := strV (o ++ ((c.take (i + 1)).drop i))) rfl rfl (run_bin rfl (vx := strV o) (vy := strV ((c.take (i + 1)).drop i)) (by kernel_rfl) (by kernel_rfl) fun w => bs_add (c := (o ++ ((c.take (i + 1)).drop i))) rfl (by first | omega | (simp; omega)) w) ?_
        refine lm (v := strV (o ++ ((c.take (i + 1)).drop i))) rfl rfl ?_
        refine wpL_done (fun W8 hW8 => ?_)
        refine (show Code.wp _ _ _ _ _ from ?_)
        refine wp_region_L (W0 := w) [] (hW8) ?_
        refine lm (v := .int .i64 ((i : Nat) : Int)) rfl rfl ?_
        refine lp (v := .int .i64 (((i + 1) : Nat) : Int)) rfl rfl (run_bin rfl (vx := (.int .i64 ((i : Nat) : Int))) (vy := (.int .i64 ((1 : Nat) : Int))) (by kernel_rfl) (by kernel_rfl) fun w => bn_add (z := (i + 1)) rfl (wr_i64 (by omega)) w) ?_
        refine lm (v := .int .i64 (((i + 1) : Nat) : Int)) rfl rfl ?_
        refine wpL_done (fun W9 hW9 => ?_)
        go_roundw
        case rel =>
          repeat apply Exists.intro
          exact ⟨⟨i + 1, (o ++ ((c.take (i + 1)).drop i)), (by omega), (relC_no hb1 ho h2), (by rw [relC_no hb1 ho h2]; exact Nat.le_trans (relC_le _) (by simp; omega)), rfl, rfl, hW9⟩, rfl⟩
        case measure => (show c.length - (intOf (.int .i64 (((i + 1) : Nat) : Int))).toNat < c.length - (intOf (.int .i64 ((i : Nat) : Int))).toNat); simp only [intOf]; omega
      | true =>
        refine ln rfl ?_
        refine ln rfl ?_
        refine ln rfl ?_
        refine ln rfl ?_
        refine ln rfl ?_
        refine ln rfl ?_
        refine ln rfl ?_
        refine ln rfl ?_
        refine ln rfl ?_
        refine ln rfl ?_
        refine ln rfl ?_
        refine lm (v := .bool true) rfl rfl ?_
        refine wpL_done (fun W10 hW10 => ?_)
        refine (show Code.wp _ _ _ _ _ from ?_)
        refine wp_cond_true rfl ?_
        refine wp_region_L (W0 := w) [] (hW10) ?_
        refine lm (v := strV o) rfl rfl ?_
        refine lp (v := strV (o ++ [63])) rfl rfl (run_bin rfl (vx := strV o) (vy := strV [63]) (by kernel_rfl) (by kernel_rfl) fun w => bs_add (c := (o ++ [63])) rfl (by first | omega | (simp; omega)) w) ?_
        refine lm (v := strV (o ++ [63])) rfl rfl ?_
        refine wpL_done (fun W11 hW11 => ?_)
        refine (show Code.wp _ _ _ _ _ from ?_)
        refine wp_region_L (W0 := w) [] (hW11) ?_
        refine lm (v := strV (o ++ [63])) rfl rfl ?_
        refine lm (v := strV c) rfl rfl ?_
        refine lm (v := .int .i64 ((i : Nat) : Int)) rfl rfl ?_
        refine lm (v := .int .i64 ((i : Nat) : Int)) rfl rfl ?_
        refine lp (v := .int .i64 (((i + 1) : Nat) : Int)) rfl rfl (run_bin rfl (vx := (.int .i64 ((i : Nat) : Int))) (vy := (.int .i64 ((1 : Nat) : Int))) (by kernel_rfl) (by kernel_rfl) fun w => bn_add (z := (i + 1)) rfl (wr_i64 (by omega)) w) ?_
        refine lp (v := strV ((c.take (i + 1)).drop i)) rfl rfl (run_slT (k1 := .i64) (k2 := .i64) (l := c) (r := ((c.take (i + 1)).drop i)) (i := i) (j := (i + 1)) rfl Try.underlying9 (by kernel_rfl) (by kernel_rfl) (by kernel_rfl) (by omega) (by first | omega | (simp; omega)) rfl) ?_
        refine lp (v := strV ((o ++ [63]) ++ ((c.take (i + 1)).drop i))) rfl rfl (run_bin rfl (vx := strV (o ++ [63])) (vy := strV ((c.take (i + 1)).drop i)) (by kernel_rfl) (by kernel_rfl) fun w => bs_add (c := ((o ++ [63]) ++ ((c.take (i + 1)).drop i))) rfl (by first | omega | (simp; omega)) w) ?_
        refine lm (v := strV ((o ++ [63]) ++ ((c.take (i + 1)).drop i))) rfl rfl ?_
        refine wpL_done (fun W12 hW12 => ?_)
        refine (show Code.wp _ _ _ _ _ from ?_)
        refine wp_region_L (W0 := w) [] (hW12) ?_
        refine lm (v := .int .i64 ((i : Nat) : Int)) rfl rfl ?_
        refine lp (v := .int .i64 (((i + 1) : Nat) : Int)) rfl rfl (run_bin rfl (vx := (.int .i64 ((i : Nat) : Int))) (vy := (.int .i64 ((1 : Nat) : Int))) (by kernel_rfl) (by kernel_rfl) fun w => bn_add (z := (i + 1)) rfl (wr_i64 (by omega)) w) ?_
        refine lm (v := .int .i64 (((i + 1) : Nat) : Int)) rfl rfl ?_
        refine wpL_done (fun W13 hW13 => ?_)
        go_roundw
        case rel =>
          repeat apply Exists.intro
          exact ⟨⟨i + 1, ((o ++ [63]) ++ ((c.take (i + 1)).drop i)), (by omega), (relC_yes hb1 ho h2), (by rw [relC_yes hb1 ho h2]; exact Nat.le_trans (relC_le _) (by simp; omega)), rfl, rfl, hW13⟩, rfl⟩
        case measure => (show c.length - (intOf (.int .i64 (((i + 1) : Nat) : Int))).toNat < c.length - (intOf (.int .i64 ((i : Nat) : Int))).toNat); simp only [intOf]; omega
set_option maxRecDepth 100000 in
set_option maxHeartbeats 4000000 in
theorem relT_any (c : List UInt8) (lc : c.length ≤ 4000000000) (w : World) : Calls Try.prog 48 #[strV c, .bool true] w fun e w' => e = .returned (strV (relF c)) ∧ Below w.heap.size w w' := by
  go_enter Try.func48, Try.ntmps48
  refine wp_seq ?_
  refine wp_region_L (W0 := w) [] (KS.start w) ?_
  refine lm (v := strV []) rfl rfl ?_
  refine wpL_done (fun W1 hW1 => ?_)
  refine (show Code.wp _ _ _ _ _ from ?_)
  refine wp_seq ?_
  refine wp_region_L (W0 := w) [] (hW1) ?_
  refine lm (v := strV []) rfl rfl ?_
  refine wpL_done (fun W2 hW2 => ?_)
  refine (show Code.wp _ _ _ _ _ from ?_)
  refine wp_seq ?_
  refine wp_seq ?_
  refine wp_region_L (W0 := w) [] (hW2) ?_
  refine lm (v := .int .i64 0) rfl rfl ?_
  refine wpL_done (fun W3 hW3 => ?_)
  refine (show Code.wp _ _ _ _ _ from ?_)
  refine wp_block ?_
  go_loopw [5, 6] (fun u5 u6 wr => ∃ (i : Nat) (o : List UInt8), (i ≤ c.length) ∧ (o = relF (c.take i)) ∧ (o.length ≤ 2 * i) ∧ u5 = strV o ∧ u6 = .int .i64 ((i : Nat) : Int) ∧ KS w [] wr) (fun _ u6 _ => c.length - (intOf u6).toNat)
  case atStart => exact ⟨0, [], (Nat.zero_le _), rfl, (Nat.le_refl _), rfl, rfl, hW3⟩
  case round =>
    obtain ⟨i, o, hi, ho, lo, rfl, rfl, hL4⟩ := hrel
    refine wp_seq ?_
    refine wp_seq ?_
    refine wp_region_L (W0 := w) [] (hL4) ?_
    refine lm (v := .int .i64 ((i : Nat) : Int)) rfl rfl ?_
    refine lm (v := strV c) rfl rfl ?_
    refine lp (v := .int .i64 ((c.length : Nat) : Int)) rfl rfl (run_lenS (l := c) rfl Try.underlying9 (by kernel_rfl)) ?_
    refine lp (v := .bool (decide (i < c.length))) rfl rfl (run_bin rfl (vx := (.int .i64 ((i : Nat) : Int))) (vy := (.int .i64 ((c.length : Nat) : Int))) (by kernel_rfl) (by kernel_rfl) fun w => bn_lss rfl w) ?_
    refine wpL_done (fun W5 hW5 => ?_)
    refine (show Code.wp _ _ _ _ _ from ?_)
    cases hd1 : (decide (i < c.length)) with
    | false =>
      have h1 : ¬ (i < c.length) := of_decide_eq_false hd1
      clear hd1
      refine wp_cond_false rfl ?_
      refine wp_exit ?_
      refine (show Code.wp _ _ _ _ _ from ?_)
      refine wp_seq ?_
      refine wp_region_L (W0 := w) [] (hW5) ?_
      refine lm (v := strV o) rfl rfl ?_
      refine lm (v := strV o) rfl rfl ?_
      refine wpL_done (fun W6 hW6 => ?_)
      refine (show Code.wp _ _ _ _ _ from ?_)
      refine wp_ret ?_
      try simp only [inBlock_ret, then_ret]
      refine bodyPost_ret (v := strV o) ?_ rfl ?_
      · kernel_rfl
      · exact ⟨(by rw [ho, List.take_of_length_le (by omega)]), hW6.1⟩
    | true =>
      have h1 : i < c.length := of_decide_eq_true hd1
      clear hd1
      refine wp_cond_true rfl ?_
      refine wp_skip ?_
      refine (show Code.wp _ _ _ _ _ from ?_)
      refine wp_seq ?_
      refine wp_block ?_
      refine wp_seq ?_
      refine wp_seq ?_
      refine wp_region_L (W0 := w) [] (hW5) ?_
      refine lm (v := strV c) rfl rfl ?_
      refine lm (v := .int .i64 ((i : Nat) : Int)) rfl rfl ?_
      obtain ⟨b1, hb1⟩ : ∃ b, (c : List UInt8)[i]? = some b := ⟨_, List.getElem?_eq_getElem (by omega)⟩
      have lb1 := b1.toNat_lt
      refine lp (v := .int .u8 ((b1.toNat : Nat) : Int)) rfl rfl (run_idxS (j := .i64) (l := c) (k := i) (b := b1) rfl Try.underlying9 (by kernel_rfl) (by kernel_rfl) hb1) ?_
      refine lv (v := .bool (svc b1)) rfl rfl (yb_call (f := 58) (args := #[.int .u8 ((b1.toNat : Nat) : Int)]) (fun _ => by kernel_rfl) fun W hW => svc_any b1 W) ?_
      refine lm (v := .bool (svc b1)) rfl rfl ?_
      cases h2 : (svc b1) with
      | false =>
        refine lm (v := .bool true) rfl rfl ?_
        refine lm (v := .bool true) rfl rfl ?_
        refine lm (v := .int .i64 ((i : Nat) : Int)) rfl rfl ?_
        refine lp (v := .bool (decide (i = 0))) rfl rfl (run_bin rfl (vx := (.int .i64 ((i : Nat) : Int))) (vy := (.int .i64 ((0 : Nat) : Int))) (by kernel_rfl) (by kernel_rfl) fun w => bn_eql rfl w) ?_
        refine lm (v := .bool (decide (i = 0))) rfl rfl ?_
        refine lm (v := .bool (decide (i = 0))) rfl rfl ?_
        cases hd3 : (decide (i = 0)) with
        | false =>
          have h3 : ¬ (i = 0) := of_decide_eq_false hd3
          clear hd3
          refine ln rfl ?_
          refine ln rfl ?_
          refine ln rfl ?_
          refine ln rfl ?_
          refine lm (v := .bool false) rfl rfl ?_
          refine lm (v := .bool false) rfl rfl ?_
          refine wpL_done (fun W7 hW7 => ?_)
          refine (show Code.wp _ _ _ _ _ from ?_)
          refine wp_cond_false rfl ?_
          refine wp_skip ?_
          refine (show Code.wp _ _ _ _ _ from ?_)
          refine wp_region_L (W0 := w) [] (hW7) ?_
          refine lm (v := strV o) rfl rfl ?_
          refine lm (v := strV c) rfl rfl ?_
          refine lm (v := .int .i64 ((i : Nat) : Int)) rfl rfl ?_
          refine lm (v := .int .i64 ((i : Nat) : Int)) rfl rfl ?_
          refine lp (v := .int .i64 (((i + 1) : Nat) : Int)) rfl rfl (run_bin rfl (vx := (.int .i64 ((i : Nat) : Int))) (vy := (.int .i64 ((1 : Nat) : Int))) (by kernel_rfl) (by kernel_rfl) fun w => bn_add (z := (i + 1)) rfl (wr_i64 (by omega)) w) ?_
          refine lp (v := strV ((c.take (i + 1)).drop i)) rfl rfl (run_slT (k1 := .i64) (k2 := .i64) (l := c) (r := ((c.take (i + 1)).drop i)) (i := i) (j := (i + 1)) rfl Try.underlying9 (by kernel_rfl) (by kernel_rfl) (by kernel_rfl) (by omega) (by first | omega | (simp; omega)) rfl) ?_
          refine lp (v := strV (o ++ ((c.take (i + 1)).drop i))) rfl rfl (run_bin rfl (vx := strV o) (vy := strV ((c.take (i + 1)).drop i)) (by kernel_rfl) (by kernel_rfl) fun w => bs_add (c := (o ++ ((c.take (i + 1)).drop i))) rfl (by first | omega | (simp; omega)) w) ?_
          refine lm (v := strV (o ++ ((c.take (i + 1)).drop i))) rfl rfl ?_
          refine wpL_done (fun W8 hW8 => ?_)
          refine (show Code.wp _ _ _ _ _ from ?_)
          refine wp_region_L (W0 := w) [] (hW8) ?_
          refine lm (v := .int .i64 ((i : Nat) : Int)) rfl rfl ?_
          refine lp (v := .int .i64 (((i + 1) : Nat) : Int)) rfl rfl (run_bin rfl (vx := (.int .i64 ((i : Nat) : Int))) (vy := (.int .i64 ((1 : Nat) : Int))) (by kernel_rfl) (by kernel_rfl) fun w => bn_add (z := (i + 1)) rfl (wr_i64 (by omega)) w) ?_
          refine lm (v := .int .i64 (((i + 1) : Nat) : Int)) rfl rfl ?_
          refine wpL_done (fun W9 hW9 => ?_)
          go_roundw
          case rel =>
            repeat apply Exists.intro
            exact ⟨⟨i + 1, (o ++ ((c.take (i + 1)).drop i)), (by omega), (relF_no hb1 ho h2 (.inl h3)), (by rw [relF_no hb1 ho h2 (.inl h3)]; exact Nat.le_trans (relF_le _) (by simp; omega)), rfl, rfl, hW9⟩, rfl⟩
          case measure => (show c.length - (intOf (.int .i64 (((i + 1) : Nat) : Int))).toNat < c.length - (intOf (.int .i64 ((i : Nat) : Int))).toNat); simp only [intOf]; omega
        | true =>
          have h3 : i = 0 := of_decide_eq_true hd3
          clear hd3
          refine lm (v := strV c) rfl rfl ?_
          refine lm (v := .int .i64 ((i : Nat) : Int)) rfl rfl ?_
          refine lp (v := .int .u8 ((b1.toNat : Nat) : Int)) rfl rfl (run_idxS (j := .i64) (l := c) (k := i) (b := b1) rfl Try.underlying9 (by kernel_rfl) (by kernel_rfl) hb1) ?_
          refine lp (v := .bool (decide (b1.toNat = 32))) rfl rfl (run_bin rfl (vx := (.int .u8 ((b1.toNat : Nat) : Int))) (vy := (.int .u8 ((32 : Nat) : Int))) (by kernel_rfl) (by kernel_rfl) fun w => bn_eql rfl w) ?_
          refine lm (v := .bool (decide (b1.toNat = 32))) rfl rfl ?_
          refine lm (v := .bool (decide (b1.toNat = 32))) rfl rfl ?_
          refine wpL_done (fun W10 hW10 => ?_)
          refine (show Code.wp _ _ _ _ _ from ?_)
          cases hd4 : (decide (b1.toNat = 32)) with
          | false =>
            have h4 : ¬ (b1.toNat = 32) := of_decide_eq_false hd4
            clear hd4
            refine wp_cond_false rfl ?_
            refine wp_skip ?_
            refine (show Code.wp _ _ _ _ _ from ?_)
            refine wp_region_L (W0 := w) [] (hW10) ?_
            refine lm (v := strV o) rfl rfl ?_
            refine lm (v := strV c) rfl rfl ?_
            refine lm (v := .int .i64 ((i : Nat) : Int)) rfl rfl ?_
            refine lm (v := .int .i64 ((i : Nat) : Int)) rfl rfl ?_
            refine lp (v := .int .i64 (((i + 1) : Nat) : Int)) rfl rfl (run_bin rfl (vx := (.int .i64 ((i : Nat) : Int))) (vy := (.int .i64 ((1 : Nat) : Int))) (by kernel_rfl) (by kernel_rfl) fun w => bn_add (z := (i + 1)) rfl (wr_i64 (by omega)) w) ?_
            refine lp (v := strV ((c.take (i + 1)).drop i)) rfl rfl (run_slT (k1 := .i64) (k2 := .i64) (l := c) (r := ((c.take (i + 1)).drop i)) (i := i) (j := (i + 1)) rfl Try.underlying9 (by kernel_rfl) (by kernel_rfl) (by kernel_rfl) (by omega) (by first | omega | (simp; omega)) rfl) ?_
            refine lp (v := strV (o ++ ((c.take (i + 1)).drop i))) rfl rfl (run_bin rfl (vx := strV o) (vy := strV ((c.take (i + 1)).drop i)) (by kernel_rfl) (by kernel_rfl) fun w => bs_add (c := (o ++ ((c.take (i + 1)).drop i))) rfl (by first | omega | (simp; omega)) w) ?_
            refine lm (v := strV (o ++ ((c.take (i + 1)).drop i))) rfl rfl ?_
            refine wpL_done (fun W11 hW11 => ?_)
            refine (show Code.wp _ _ _ _ _ from ?_)
            refine wp_region_L (W0 := w) [] (hW11) ?_
            refine lm (v := .int .i64 ((i : Nat) : Int)) rfl rfl ?_
            refine lp (v := .int .i64 (((i + 1) : Nat) : Int)) rfl rfl (run_bin rfl (vx := (.int .i64 ((i : Nat) : Int))) (vy := (.int .i64 ((1 : Nat) : Int))) (by kernel_rfl) (by kernel_rfl) fun w => bn_add (z := (i + 1)) rfl (wr_i64 (by omega)) w) ?_
            refine lm (v := .int .i64 (((i + 1) : Nat) : Int)) rfl rfl ?_
            refine wpL_done (fun W12 hW12 => ?_)
            go_roundw
            case rel =>
              repeat apply Exists.intro
              exact ⟨⟨i + 1, (o ++ ((c.take (i + 1)).drop i)), (by omega), (relF_no hb1 ho h2 (.inr h4)), (by rw [relF_no hb1 ho h2 (.inr h4)]; exact Nat.le_trans (relF_le _) (by simp; omega)), rfl, rfl, hW12⟩, rfl⟩
            case measure => (show c.length - (intOf (.int .i64 (((i + 1) : Nat) : Int))).toNat < c.length - (intOf (.int .i64 ((i : Nat) : Int))).toNat); simp only [intOf]; omega
          | true =>
            have h4 : b1.toNat = 32 := of_decide_eq_true hd4
            clear hd4
            refine wp_cond_true rfl ?_
            refine wp_region_L (W0 := w) [] (hW10) ?_
            refine lm (v := strV o) rfl rfl ?_
            refine lp (v := strV (o ++ [63])) rfl rfl (run_bin rfl (vx := strV o) (vy := strV [63]) (by kernel_rfl) (by kernel_rfl) fun w => bs_add (c := (o ++ [63])) rfl (by first | omega | (simp; omega)) w) ?_
            refine lm (v := strV (o ++ [63])) rfl rfl ?_
            refine wpL_done (fun W13 hW13 => ?_)
            refine (show Code.wp _ _ _ _ _ from ?_)
            refine wp_region_L (W0 := w) [] (hW13) ?_
            refine lm (v := strV (o ++ [63])) rfl rfl ?_
            refine lm (v := strV c) rfl rfl ?_
            refine lm (v := .int .i64 ((i : Nat) : Int)) rfl rfl ?_
            refine lm (v := .int .i64 ((i : Nat) : Int)) rfl rfl ?_
            refine lp (v := .int .i64 (((i + 1) : Nat) : Int)) rfl rfl (run_bin rfl (vx := (.int .i64 ((i : Nat) : Int))) (vy := (.int .i64 ((1 : Nat) : Int))) (by kernel_rfl) (by kernel_rfl) fun w => bn_add (z := (i + 1)) rfl (wr_i64 (by omega)) w) ?_
            refine lp (v := strV ((c.take (i + 1)).drop i)) rfl rfl (run_slT (k1 := .i64) (k2 := .i64) (l := c) (r := ((c.take (i + 1)).drop i)) (i := i) (j := (i + 1)) rfl Try.underlying9 (by kernel_rfl) (by kernel_rfl) (by kernel_rfl) (by omega) (by first | omega | (simp; omega)) rfl) ?_
            refine lp (v := strV ((o ++ [63]) ++ ((c.take (i + 1)).drop i))) rfl rfl (run_bin rfl (vx := strV (o ++ [63])) (vy := strV ((c.take (i + 1)).drop i)) (by kernel_rfl) (by kernel_rfl) fun w => bs_add (c := ((o ++ [63]) ++ ((c.take (i + 1)).drop i))) rfl (by first | omega | (simp; omega)) w) ?_
            refine lm (v := strV ((o ++ [63]) ++ ((c.take (i + 1)).drop i))) rfl rfl ?_
            refine wpL_done (fun W14 hW14 => ?_)
            refine (show Code.wp _ _ _ _ _ from ?_)
            refine wp_region_L (W0 := w) [] (hW14) ?_
            refine lm (v := .int .i64 ((i : Nat) : Int)) rfl rfl ?_
            refine lp (v := .int .i64 (((i + 1) : Nat) : Int)) rfl rfl (run_bin rfl (vx := (.int .i64 ((i : Nat) : Int))) (vy := (.int .i64 ((1 : Nat) : Int))) (by kernel_rfl) (by kernel_rfl) fun w => bn_add (z := (i + 1)) rfl (wr_i64 (by omega)) w) ?_
            refine lm (v := .int .i64 (((i + 1) : Nat) : Int)) rfl rfl ?_
            refine wpL_done (fun W15 hW15 => ?_)
            go_roundw
            case rel =>
              repeat apply Exists.intro
              exact ⟨⟨i + 1, ((o ++ [63]) ++ ((c.take (i + 1)).drop i)), (by omega), (relF_sp hb1 ho h3 h4), (by rw [relF_sp hb1 ho h3 h4]; exact Nat.le_trans (relF_le _) (by simp; omega)), rfl, rfl, hW15⟩, rfl⟩
            case measure => (show c.length - (intOf (.int .i64 (((i + 1) : Nat) : Int))).toNat < c.length - (intOf (.int .i64 ((i : Nat) : Int))).toNat); simp only [intOf]; omega
      | true =>
        refine ln rfl ?_
        refine ln rfl ?_
        refine ln rfl ?_
        refine ln rfl ?_
        refine ln rfl ?_
        refine ln rfl ?_
        refine ln rfl ?_
        refine ln rfl ?_
        refine ln rfl ?_
        refine ln rfl ?_
        refine ln rfl ?_
        refine lm (v := .bool true) rfl rfl ?_
        refine wpL_done (fun W16 hW16 => ?_)
        refine (show Code.wp _ _ _ _ _ from ?_)
        refine wp_cond_true rfl ?_
        refine wp_region_L (W0 := w) [] (hW16) ?_
        refine lm (v := strV o) rfl rfl ?_
        refine lp (v := strV (o ++ [63])) rfl rfl (run_bin rfl (vx := strV o) (vy := strV [63]) (by kernel_rfl) (by kernel_rfl) fun w => bs_add (c := (o ++ [63])) rfl (by first | omega | (simp; omega)) w) ?_
        refine lm (v := strV (o ++ [63])) rfl rfl ?_
        refine wpL_done (fun W17 hW17 => ?_)
        refine (show Code.wp _ _ _ _ _ from ?_)
        refine wp_region_L (W0 := w) [] (hW17) ?_
        refine lm (v := strV (o ++ [63])) rfl rfl ?_
        refine lm (v := strV c) rfl rfl ?_
        refine lm (v := .int .i64 ((i : Nat) : Int)) rfl rfl ?_
        refine lm (v := .int .i64 ((i : Nat) : Int)) rfl rfl ?_
        refine lp (v := .int .i64 (((i + 1) : Nat) : Int)) rfl rfl (run_bin rfl (vx := (.int .i64 ((i : Nat) : Int))) (vy := (.int .i64 ((1 : Nat) : Int))) (by kernel_rfl) (by kernel_rfl) fun w => bn_add (z := (i + 1)) rfl (wr_i64 (by omega)) w) ?_
        refine lp (v := strV ((c.take (i + 1)).drop i)) rfl rfl (run_slT (k1 := .i64) (k2 := .i64) (l := c) (r := ((c.take (i + 1)).drop i)) (i := i) (j := (i + 1)) rfl Try.underlying9 (by kernel_rfl) (by kernel_rfl) (by kernel_rfl) (by omega) (by first | omega | (simp; omega)) rfl) ?_
        refine lp (v := strV ((o ++ [63]) ++ ((c.take (i + 1)).drop i))) rfl rfl (run_bin rfl (vx := strV (o ++ [63])) (vy := strV ((c.take (i + 1)).drop i)) (by kernel_rfl) (by kernel_rfl) fun w => bs_add (c := ((o ++ [63]) ++ ((c.take (i + 1)).drop i))) rfl (by first | omega | (simp; omega)) w) ?_
        refine lm (v := strV ((o ++ [63]) ++ ((c.take (i + 1)).drop i))) rfl rfl ?_
        refine wpL_done (fun W18 hW18 => ?_)
        refine (show Code.wp _ _ _ _ _ from ?_)
        refine wp_region_L (W0 := w) [] (hW18) ?_
        refine lm (v := .int .i64 ((i : Nat) : Int)) rfl rfl ?_
        refine lp (v := .int .i64 (((i + 1) : Nat) : Int)) rfl rfl (run_bin rfl (vx := (.int .i64 ((i : Nat) : Int))) (vy := (.int .i64 ((1 : Nat) : Int))) (by kernel_rfl) (by kernel_rfl) fun w => bn_add (z := (i + 1)) rfl (wr_i64 (by omega)) w) ?_
        refine lm (v := .int .i64 (((i + 1) : Nat) : Int)) rfl rfl ?_
        refine wpL_done (fun W19 hW19 => ?_)
        go_roundw
        case rel =>
          repeat apply Exists.intro
          exact ⟨⟨i + 1, ((o ++ [63]) ++ ((c.take (i + 1)).drop i)), (by omega), (relF_yes hb1 ho h2), (by rw [relF_yes hb1 ho h2]; exact Nat.le_trans (relF_le _) (by simp; omega)), rfl, rfl, hW19⟩, rfl⟩
        case measure => (show c.length - (intOf (.int .i64 (((i + 1) : Nat) : Int))).toNat < c.length - (intOf (.int .i64 ((i : Nat) : Int))).toNat); simp only [intOf]; omega
end Go.Proofs.Ytppegdbelgobiaa
namespace Go.Proofs.Ytppegdbelgobiaa
open Go Go.RowKit Tw
def wrP : List Elt → List UInt8
  | [] => []
  | e :: l => wrF e ++ moreE l
def cP (i : Nat) (l : List Cmp) : List UInt8 := if i = 0 then wrF l else wrE l
def inP (A : Sgm) (i : Nat) (e : Elt) (k : Nat) : List UInt8 := wrP (A.take i) ++ ((if i = 0 then [] else [43]) ++ cP i (e.take k))
theorem moreC_snoc (l : List Cmp) (c : Cmp) : moreC (l ++ [c]) = moreC l ++ 58 :: relC c := by
  induction l with
  | nil => simp [moreC]
  | cons d l ih => simp only [List.cons_append, moreC, ih, List.append_assoc]
theorem moreE_snoc (l : List Elt) (e : Elt) : moreE (l ++ [e]) = moreE l ++ 43 :: wrE e := by
  induction l with
  | nil => simp [moreE]
  | cons d l ih => simp only [List.cons_append, moreE, ih, List.append_assoc]
theorem cP_snoc {i : Nat} {l : List Cmp} (c : Cmp) (h : l ≠ []) : cP i (l ++ [c]) = cP i l ++ 58 :: relC c := by
  match l, h with
  | d :: l, _ =>
    unfold cP
    split <;> simp only [List.cons_append, wrF, wrE, moreC_snoc, List.append_assoc]
theorem wrP_snoc {l : List Elt} (e : Elt) (h : l ≠ []) : wrP (l ++ [e]) = wrP l ++ 43 :: wrE e := by
  match l, h with
  | d :: l, _ => simp only [List.cons_append, wrP, moreE_snoc, List.append_assoc]
theorem takeL {α : Type} {c : List α} {i : Nat} {b : α} (h : c[i]? = some b) : c.take (i + 1) = c.take i ++ [b] := by
  obtain ⟨h1, rfl⟩ := List.getElem?_eq_some_iff.1 h
  rw [List.take_succ_eq_append_getElem h1]
theorem takeL_ne {α : Type} {c : List α} {i : Nat} {b : α} (h : c[i]? = some b) (hi : 0 < i) : c.take i ≠ [] := by
  obtain ⟨h1, rfl⟩ := List.getElem?_eq_some_iff.1 h
  intro e
  have := congrArg List.length e
  rw [List.length_take, List.length_nil] at this
  omega
theorem inP_s0 {A : Sgm} {i : Nat} {e : Elt} {o : List UInt8} (ho : o = wrP (A.take i)) (h : ¬ 0 < i) : o = inP A i e 0 := by
  obtain rfl : i = 0 := by omega
  rw [ho]
  simp [inP, cP, wrF, wrP]
theorem inP_s1 {A : Sgm} {i : Nat} {e : Elt} {o : List UInt8} (ho : o = wrP (A.take i)) (h : 0 < i) : o ++ [43] = inP A i e 0 := by
  rw [ho, inP, if_neg (by omega), cP, if_neg (by omega)]
  simp [wrE]
theorem inP_00 {A : Sgm} {i k : Nat} {e : Elt} {c : Cmp} {o : List UInt8} (hy : e[k]? = some c) (ho : o = inP A i e k) (hi : ¬ 0 < i) (hk : ¬ 0 < k) : o ++ relF c = inP A i e (k + 1) := by
  obtain rfl : i = 0 := by omega
  obtain rfl : k = 0 := by omega
  rw [ho, inP, inP, takeL hy]
  simp [cP, wrF, moreC, wrP]
theorem inP_n0 {A : Sgm} {i k : Nat} {e : Elt} {c : Cmp} {o : List UInt8} (hy : e[k]? = some c) (ho : o = inP A i e k) (hi : 0 < i) (hk : ¬ 0 < k) : o ++ relC c = inP A i e (k + 1) := by
  obtain rfl : k = 0 := by omega
  rw [ho, inP, inP, takeL hy, cP, cP, if_neg (by omega), if_neg (by omega), if_neg (by omega)]
  simp [wrE, moreC]
theorem inP_k {A : Sgm} {i k : Nat} {e : Elt} {c : Cmp} {o : List UInt8} (hy : e[k]? = some c) (ho : o = inP A i e k) (hk : 0 < k) : o ++ [58] ++ relC c = inP A i e (k + 1) := by
  rw [ho, inP, inP, takeL hy, cP_snoc c (takeL_ne hy hk)]
  simp
theorem inP_end {A : Sgm} {i k : Nat} {e : Elt} {o : List UInt8} (hy : A[i]? = some e) (ho : o = inP A i e k) (hk : ¬ k < e.length) : o = wrP (A.take (i + 1)) := by
  rw [ho, inP, List.take_of_length_le (by omega : e.length ≤ k), takeL hy]
  by_cases hi : i = 0
  · subst hi
    simp [cP, wrP, moreE]
  · rw [wrP_snoc e (takeL_ne hy (by omega)), if_neg hi, cP, if_neg hi]
    simp
theorem wrP_all {A : Sgm} {i : Nat} {o : List UInt8} (ho : o = wrP (A.take i)) (hi : ¬ i < A.length) (hA : rightS A = true) : o ++ [39] = wrS A := by
  rw [List.take_of_length_le (by omega)] at ho
  obtain ⟨e, l, rfl, _⟩ := right_sgm hA
  rw [ho]
  simp [wrP, wrS]
theorem all_at {α : Type} {f : α → Bool} {l : List α} {i : Nat} {x : α} (h : l.all f = true) (hx : l[i]? = some x) : f x = true := List.all_eq_true.1 h x (List.mem_of_getElem? hx)
theorem right_all {A : Sgm} (h : rightS A = true) : A.all rightE = true ∧ A.length ≤ 30 := by
  unfold rightS at h
  simp only [Bool.and_eq_true, decide_eq_true_eq] at h
  exact ⟨h.2, h.1.2⟩
theorem elt_all {e : Elt} (h : rightE e = true) : e.all rightC = true ∧ e.length ≤ 10 := by
  unfold rightE at h
  simp only [Bool.and_eq_true, decide_eq_true_eq] at h
  exact ⟨h.2, h.1.2⟩
theorem cmp_len {c : Cmp} (h : rightC c = true) : c.length ≤ 100 := by
  unfold rightC at h
  simp only [Bool.and_eq_true, decide_eq_true_eq] at h
  exact h.1
set_option maxRecDepth 100000 in
set_option maxHeartbeats 4000000 in
theorem Written_any (A : List (List (List UInt8))) (pA : Option Addr) (cA : Nat) (hR : rightS A = true) (w : World) (hA : LVp TxR w pA A) : Calls Try.prog 37 #[.slice pA A.length cA] w fun e w' => e = .returned (strV (wrS A)) ∧ Below w.heap.size w w' := by
  have HA := Lib.hid hA
  clear hA
  obtain ⟨ra, rn⟩ := right_all hR
  go_enter Try.func37, Try.ntmps37
  refine wp_seq ?_
  refine wp_region_L (W0 := w) [] (KS.start w) ?_
  refine lm (v := strV []) rfl rfl ?_
  refine wpL_done (fun W1 hW1 => ?_)
  refine (show Code.wp _ _ _ _ _ from ?_)
  refine wp_seq ?_
  refine wp_region_L (W0 := w) [] (hW1) ?_
  refine lm (v := strV []) rfl rfl ?_
  refine wpL_done (fun W2 hW2 => ?_)
  refine (show Code.wp _ _ _ _ _ from ?_)
  refine wp_seq ?_
  refine wp_seq ?_
  refine wp_region_L (W0 := w) [] (hW2) ?_
  refine lm (v := .int .i64 0) rfl rfl ?_
  refine wpL_done (fun W3 hW3 => ?_)
  refine (show Code.wp _ _ _ _ _ from ?_)
  refine wp_block ?_
  go_loopw [3, 4] (fun u3 u4 wr => ∃ (i : Nat) (o : List UInt8), (i ≤ A.length) ∧ (o = wrP (A.take i)) ∧ (o.length ≤ 3000 * i) ∧ u3 = strV o ∧ u4 = .int .i64 ((i : Nat) : Int) ∧ KS w [] wr) (fun _ u4 _ => A.length - (intOf u4).toNat)
  case atStart => exact ⟨0, [], (Nat.zero_le _), rfl, (Nat.le_refl _), rfl, rfl, hW3⟩
  case round =>
    obtain ⟨i, o, hi, ho, lo, rfl, rfl, hL4⟩ := hrel
    refine wp_seq ?_
    refine wp_seq ?_
    refine wp_region_L (W0 := w) [] (hL4) ?_
    refine lm (v := .int .i64 ((i : Nat) : Int)) rfl rfl ?_
    refine lm (v := .slice pA A.length cA) rfl rfl ?_
    refine lp (v := .int .i64 ((A.length : Nat) : Int)) rfl rfl (run_lenL (p := pA) (cap := cA) (n := A.length) rfl Try.underlying36 (by kernel_rfl)) ?_
    refine lp (v := .bool (decide (i < A.length))) rfl rfl (run_bin rfl (vx := (.int .i64 ((i : Nat) : Int))) (vy := (.int .i64 ((A.length : Nat) : Int))) (by kernel_rfl) (by kernel_rfl) fun w => bn_lss rfl w) ?_
    refine wpL_done (fun W5 hW5 => ?_)
    refine (show Code.wp _ _ _ _ _ from ?_)
    cases hd1 : (decide (i < A.length)) with
    | false =>
      have h1 : ¬ (i < A.length) := of_decide_eq_false hd1
      clear hd1
      refine wp_cond_false rfl ?_
      refine wp_exit ?_
      refine (show Code.wp _ _ _ _ _ from ?_)
      refine wp_seq ?_
      refine wp_region_L (W0 := w) [] (hW5) ?_
      refine lm (v := strV o) rfl rfl ?_
      refine lp (v := strV (o ++ [39])) rfl rfl (run_bin rfl (vx := strV o) (vy := strV [39]) (by kernel_rfl) (by kernel_rfl) fun w => bs_add (c := (o ++ [39])) rfl (by first | omega | (simp only [List.length_append, List.length_cons, List.length_nil]; omega)) w) ?_
      refine lm (v := strV (o ++ [39])) rfl rfl ?_
      refine wpL_done (fun W6 hW6 => ?_)
      refine (show Code.wp _ _ _ _ _ from ?_)
      refine wp_ret ?_
      try simp only [inBlock_ret, then_ret]
      refine bodyPost_ret (v := strV (o ++ [39])) ?_ rfl ?_
      · kernel_rfl
      · exact ⟨(by rw [wrP_all ho h1 hR]), hW6.1⟩
    | true =>
      have h1 : i < A.length := of_decide_eq_true hd1
      clear hd1
      refine wp_cond_true rfl ?_
      refine wp_skip ?_
      refine (show Code.wp _ _ _ _ _ from ?_)
      refine wp_seq ?_
      refine wp_block ?_
      refine wp_seq ?_
      refine wp_seq ?_
      refine wp_region_L (W0 := w) [] (hW5) ?_
      refine lm (v := .int .i64 ((i : Nat) : Int)) rfl rfl ?_
      refine lp (v := .bool (decide (0 < i))) rfl rfl (run_bin rfl (vx := (.int .i64 ((i : Nat) : Int))) (vy := (.int .i64 ((0 : Nat) : Int))) (by kernel_rfl) (by kernel_rfl) fun w => bn_gtr rfl w) ?_
      refine wpL_done (fun W7 hW7 => ?_)
      refine (show Code.wp _ _ _ _ _ from ?_)
      cases hd2 : (decide (0 < i)) with
      | false =>
        have h2 : ¬ (0 < i) := of_decide_eq_false hd2
        clear hd2
        refine wp_cond_false rfl ?_
        refine wp_skip ?_
        refine (show Code.wp _ _ _ _ _ from ?_)
        refine wp_seq ?_
        refine wp_region_L (W0 := w) [] (hW7) ?_
        refine lm (v := .int .i64 0) rfl rfl ?_
        refine wpL_done (fun W8 hW8 => ?_)
        refine (show Code.wp _ _ _ _ _ from ?_)
        refine wp_block ?_
        obtain ⟨y1, p1, c1, b1, f1, hy1, HY1, hp1, lt1, hc1⟩ := lvp_lst (k := i) HA.out (by omega)
        have HY1 := Lib.hid HY1
        obtain ⟨ea1, en1⟩ := elt_all (all_at ra hy1)
        go_loopw [3, 5] (fun u3 u5 wr => ∃ (k : Nat) (o2 : List UInt8), (k ≤ y1.length) ∧ (o2 = inP A i y1 k) ∧ (o2.length ≤ 3000 * i + 1 + 201 * k) ∧ u3 = strV o2 ∧ u5 = .int .i64 ((k : Nat) : Int) ∧ KS w [] wr) (fun _ u5 _ => y1.length - (intOf u5).toNat)
        case atStart => exact ⟨0, o, (Nat.zero_le _), (inP_s0 ho h2), (by first | omega | (simp only [List.length_append, List.length_cons, List.length_nil]; omega)), rfl, rfl, hW8⟩
        case round =>
          obtain ⟨k, o2, hk, ho2, lo2, rfl, rfl, hL9⟩ := hrel
          refine wp_seq ?_
          refine wp_seq ?_
          refine wp_region_L (W0 := w) [] (hL9) ?_
          refine lm (v := .int .i64 ((k : Nat) : Int)) rfl rfl ?_
          refine lm (v := .slice pA A.length cA) rfl rfl ?_
          refine lm (v := .int .i64 ((i : Nat) : Int)) rfl rfl ?_
          refine lp (v := .pointer (some ⟨b1, f1 + i * 1, none⟩)) rfl rfl (run_idxQ (p := pA) (cap := cA) (n := A.length) (j := .i64) (k := i) (sz := 1) rfl Try.underlying36 (by kernel_rfl) (by kernel_rfl) hp1 (by kernel_rfl) (by omega)) ?_
          refine lv (v := .slice p1 y1.length c1) rfl rfl (yb_old (off := f1 + i * 1) rfl (by kernel_rfl) hc1 lt1 Try.underlying43 rfl) ?_
          refine lp (v := .int .i64 ((y1.length : Nat) : Int)) rfl rfl (run_lenL (p := p1) (cap := c1) (n := y1.length) rfl Try.underlying43 (by kernel_rfl)) ?_
          refine lp (v := .bool (decide (k < y1.length))) rfl rfl (run_bin rfl (vx := (.int .i64 ((k : Nat) : Int))) (vy := (.int .i64 ((y1.length : Nat) : Int))) (by kernel_rfl) (by kernel_rfl) fun w => bn_lss rfl w) ?_
          refine wpL_done (fun W10 hW10 => ?_)
          refine (show Code.wp _ _ _ _ _ from ?_)
          cases hd3 : (decide (k < y1.length)) with
          | false =>
            have h3 : ¬ (k < y1.length) := of_decide_eq_false hd3
            clear hd3
            refine wp_cond_false rfl ?_
            refine wp_exit ?_
            refine (show Code.wp _ _ _ _ _ from ?_)
            refine wp_region_L (W0 := w) [] (hW10) ?_
            refine lm (v := .int .i64 ((i : Nat) : Int)) rfl rfl ?_
            refine lp (v := .int .i64 (((i + 1) : Nat) : Int)) rfl rfl (run_bin rfl (vx := (.int .i64 ((i : Nat) : Int))) (vy := (.int .i64 ((1 : Nat) : Int))) (by kernel_rfl) (by kernel_rfl) fun w => bn_add (z := (i + 1)) rfl (wr_i64 (by omega)) w) ?_
            refine lm (v := .int .i64 (((i + 1) : Nat) : Int)) rfl rfl ?_
            refine wpL_done (fun W11 hW11 => ?_)
            go_roundw
            case rel =>
              repeat apply Exists.intro
              exact ⟨⟨i + 1, o2, (by omega), (inP_end hy1 ho2 h3), (by omega), rfl, rfl, hW11⟩, rfl⟩
            case measure => (show A.length - (intOf (.int .i64 (((i + 1) : Nat) : Int))).toNat < A.length - (intOf (.int .i64 ((i : Nat) : Int))).toNat); simp only [intOf]; omega
          | true =>
            have h3 : k < y1.length := of_decide_eq_true hd3
            clear hd3
            refine wp_cond_true rfl ?_
            refine wp_skip ?_
            refine (show Code.wp _ _ _ _ _ from ?_)
            refine wp_seq ?_
            refine wp_block ?_
            refine wp_seq ?_
            refine wp_seq ?_
            refine wp_region_L (W0 := w) [] (hW10) ?_
            refine lm (v := .int .i64 ((k : Nat) : Int)) rfl rfl ?_
            refine lp (v := .bool (decide (0 < k))) rfl rfl (run_bin rfl (vx := (.int .i64 ((k : Nat) : Int))) (vy := (.int .i64 ((0 : Nat) : Int))) (by kernel_rfl) (by kernel_rfl) fun w => bn_gtr rfl w) ?_
            refine wpL_done (fun W12 hW12 => ?_)
            refine (show Code.wp _ _ _ _ _ from ?_)
            cases hd4 : (decide (0 < k)) with
            | false =>
              have h4 : ¬ (0 < k) := of_decide_eq_false hd4
              clear hd4
              refine wp_cond_false rfl ?_
              refine wp_skip ?_
              refine (show Code.wp _ _ _ _ _ from ?_)
              refine wp_region_L (W0 := w) [] (hW12) ?_
              refine lm (v := strV o2) rfl rfl ?_
              refine lm (v := .slice pA A.length cA) rfl rfl ?_
              refine lm (v := .int .i64 ((i : Nat) : Int)) rfl rfl ?_
              refine lp (v := .pointer (some ⟨b1, f1 + i * 1, none⟩)) rfl rfl (run_idxQ (p := pA) (cap := cA) (n := A.length) (j := .i64) (k := i) (sz := 1) rfl Try.underlying36 (by kernel_rfl) (by kernel_rfl) hp1 (by kernel_rfl) (by omega)) ?_
              refine lv (v := .slice p1 y1.length c1) rfl rfl (yb_old (off := f1 + i * 1) rfl (by kernel_rfl) hc1 lt1 Try.underlying43 rfl) ?_
              refine lm (v := .int .i64 ((k : Nat) : Int)) rfl rfl ?_
              obtain ⟨y2, b2, f2, hy2, hp2, lt2, hc2⟩ := lvp_str (k := k) HY1.out (by omega)
              refine lp (v := .pointer (some ⟨b2, f2 + k * 1, none⟩)) rfl rfl (run_idxQ (p := p1) (cap := c1) (n := y1.length) (j := .i64) (k := k) (sz := 1) rfl Try.underlying43 (by kernel_rfl) (by kernel_rfl) hp2 (by kernel_rfl) (by omega)) ?_
              have cl2 := cmp_len (all_at ea1 hy2)
              have ra2 := relC_le y2
              have rb2 := relF_le y2
              refine lv (v := strV y2) rfl rfl (yb_old (off := f2 + k * 1) rfl (by kernel_rfl) hc2 lt2 Try.underlying9 rfl) ?_
              refine lm (v := .int .i64 ((i : Nat) : Int)) rfl rfl ?_
              refine lp (v := .bool true) rfl rfl (run_bin rfl (vx := (.int .i64 ((i : Nat) : Int))) (vy := (.int .i64 ((0 : Nat) : Int))) (by kernel_rfl) (by kernel_rfl) fun w => bn_eql (decide_eq_true (by omega)) w) ?_
              refine lm (v := .bool true) rfl rfl ?_
              refine lm (v := .int .i64 ((k : Nat) : Int)) rfl rfl ?_
              refine lp (v := .bool true) rfl rfl (run_bin rfl (vx := (.int .i64 ((k : Nat) : Int))) (vy := (.int .i64 ((0 : Nat) : Int))) (by kernel_rfl) (by kernel_rfl) fun w => bn_eql (decide_eq_true (by omega)) w) ?_
              refine lm (v := .bool true) rfl rfl ?_
              refine lv (v := strV (relF y2)) rfl rfl (yb_call (f := 48) (args := #[strV y2, .bool true]) (fun _ => by kernel_rfl) fun W hW => relT_any y2 (by omega) W) ?_
              refine lp (v := strV (o2 ++ (relF y2))) rfl rfl (run_bin rfl (vx := strV o2) (vy := strV (relF y2)) (by kernel_rfl) (by kernel_rfl) fun w => bs_add (c := (o2 ++ (relF y2))) rfl (by first | omega | (simp only [List.length_append, List.length_cons, List.length_nil]; omega)) w) ?_
              refine lm (v := strV (o2 ++ (relF y2))) rfl rfl ?_
              refine wpL_done (fun W13 hW13 => ?_)
              refine (show Code.wp _ _ _ _ _ from ?_)
              refine wp_region_L (W0 := w) [] (hW13) ?_
              refine lm (v := .int .i64 ((k : Nat) : Int)) rfl rfl ?_
              refine lp (v := .int .i64 (((k + 1) : Nat) : Int)) rfl rfl (run_bin rfl (vx := (.int .i64 ((k : Nat) : Int))) (vy := (.int .i64 ((1 : Nat) : Int))) (by kernel_rfl) (by kernel_rfl) fun w => bn_add (z := (k + 1)) rfl (wr_i64 (by omega)) w) ?_
              refine lm (v := .int .i64 (((k + 1) : Nat) : Int)) rfl rfl ?_
              refine wpL_done (fun W14 hW14 => ?_)
              go_roundw
              case rel =>
                repeat apply Exists.intro
                exact ⟨⟨k + 1, (o2 ++ (relF y2)), (by omega), (inP_00 hy2 ho2 h2 h4), (by have r1 := relC_le y2; have r2 := relF_le y2; simp only [List.length_append, List.length_cons, List.length_nil]; omega), rfl, rfl, hW14⟩, rfl⟩
              case measure => (show y1.length - (intOf (.int .i64 (((k + 1) : Nat) : Int))).toNat < y1.length - (intOf (.int .i64 ((k : Nat) : Int))).toNat); simp only [intOf]; omega
            | true =>
              have h4 : 0 < k := of_decide_eq_true hd4
              clear hd4
              refine wp_cond_true rfl ?_
              refine wp_region_L (W0 := w) [] (hW12) ?_
              refine lm (v := strV o2) rfl rfl ?_
              refine lp (v := strV (o2 ++ [58])) rfl rfl (run_bin rfl (vx := strV o2) (vy := strV [58]) (by kernel_rfl) (by kernel_rfl) fun w => bs_add (c := (o2 ++ [58])) rfl (by first | omega | (simp only [List.length_append, List.length_cons, List.length_nil]; omega)) w) ?_
              refine lm (v := strV (o2 ++ [58])) rfl rfl ?_
              refine wpL_done (fun W15 hW15 => ?_)
              refine (show Code.wp _ _ _ _ _ from ?_)
              refine wp_region_L (W0 := w) [] (hW15) ?_
              refine lm (v := strV (o2 ++ [58])) rfl rfl ?_
              refine lm (v := .slice pA A.length cA) rfl rfl ?_
              refine lm (v := .int .i64 ((i : Nat) : Int)) rfl rfl ?_
              refine lp (v := .pointer (some ⟨b1, f1 + i * 1, none⟩)) rfl rfl (run_idxQ (p := pA) (cap := cA) (n := A.length) (j := .i64) (k := i) (sz := 1) rfl Try.underlying36 (by kernel_rfl) (by kernel_rfl) hp1 (by kernel_rfl) (by omega)) ?_
              refine lv (v := .slice p1 y1.length c1) rfl rfl (yb_old (off := f1 + i * 1) rfl (by kernel_rfl) hc1 lt1 Try.underlying43 rfl) ?_
              refine lm (v := .int .i64 ((k : Nat) : Int)) rfl rfl ?_
              obtain ⟨y3, b3, f3, hy3, hp3, lt3, hc3⟩ := lvp_str (k := k) HY1.out (by omega)
              refine lp (v := .pointer (some ⟨b3, f3 + k * 1, none⟩)) rfl rfl (run_idxQ (p := p1) (cap := c1) (n := y1.length) (j := .i64) (k := k) (sz := 1) rfl Try.underlying43 (by kernel_rfl) (by kernel_rfl) hp3 (by kernel_rfl) (by omega)) ?_
              have cl3 := cmp_len (all_at ea1 hy3)
              have ra3 := relC_le y3
              have rb3 := relF_le y3
              refine lv (v := strV y3) rfl rfl (yb_old (off := f3 + k * 1) rfl (by kernel_rfl) hc3 lt3 Try.underlying9 rfl) ?_
              refine lm (v := .int .i64 ((i : Nat) : Int)) rfl rfl ?_
              refine lp (v := .bool true) rfl rfl (run_bin rfl (vx := (.int .i64 ((i : Nat) : Int))) (vy := (.int .i64 ((0 : Nat) : Int))) (by kernel_rfl) (by kernel_rfl) fun w => bn_eql (decide_eq_true (by omega)) w) ?_
              refine lm (v := .bool true) rfl rfl ?_
              refine lm (v := .int .i64 ((k : Nat) : Int)) rfl rfl ?_
              refine lp (v := .bool false) rfl rfl (run_bin rfl (vx := (.int .i64 ((k : Nat) : Int))) (vy := (.int .i64 ((0 : Nat) : Int))) (by kernel_rfl) (by kernel_rfl) fun w => bn_eql (decide_eq_false (by omega)) w) ?_
              refine lm (v := .bool false) rfl rfl ?_
              refine lv (v := strV (relC y3)) rfl rfl (yb_call (f := 48) (args := #[strV y3, .bool false]) (fun _ => by kernel_rfl) fun W hW => relN_any y3 (by omega) W) ?_
              refine lp (v := strV ((o2 ++ [58]) ++ (relC y3))) rfl rfl (run_bin rfl (vx := strV (o2 ++ [58])) (vy := strV (relC y3)) (by kernel_rfl) (by kernel_rfl) fun w => bs_add (c := ((o2 ++ [58]) ++ (relC y3))) rfl (by first | omega | (simp only [List.length_append, List.length_cons, List.length_nil]; omega)) w) ?_
              refine lm (v := strV ((o2 ++ [58]) ++ (relC y3))) rfl rfl ?_
              refine wpL_done (fun W16 hW16 => ?_)
              refine (show Code.wp _ _ _ _ _ from ?_)
              refine wp_region_L (W0 := w) [] (hW16) ?_
              refine lm (v := .int .i64 ((k : Nat) : Int)) rfl rfl ?_
              refine lp (v := .int .i64 (((k + 1) : Nat) : Int)) rfl rfl (run_bin rfl (vx := (.int .i64 ((k : Nat) : Int))) (vy := (.int .i64 ((1 : Nat) : Int))) (by kernel_rfl) (by kernel_rfl) fun w => bn_add (z := (k + 1)) rfl (wr_i64 (by omega)) w) ?_
              refine lm (v := .int .i64 (((k + 1) : Nat) : Int)) rfl rfl ?_
              refine wpL_done (fun W17 hW17 => ?_)
              go_roundw
              case rel =>
                repeat apply Exists.intro
                exact ⟨⟨k + 1, ((o2 ++ [58]) ++ (relC y3)), (by omega), (inP_k hy3 ho2 h4), (by have r1 := relC_le y3; have r2 := relF_le y3; simp only [List.length_append, List.length_cons, List.length_nil]; omega), rfl, rfl, hW17⟩, rfl⟩
              case measure => (show y1.length - (intOf (.int .i64 (((k + 1) : Nat) : Int))).toNat < y1.length - (intOf (.int .i64 ((k : Nat) : Int))).toNat); simp only [intOf]; omega
      | true =>
        have h2 : 0 < i := of_decide_eq_true hd2
        clear hd2
        refine wp_cond_true rfl ?_
        refine wp_region_L (W0 := w) [] (hW7) ?_
        refine lm (v := strV o) rfl rfl ?_
        refine lp (v := strV (o ++ [43])) rfl rfl (run_bin rfl (vx := strV o) (vy := strV [43]) (by kernel_rfl) (by kernel_rfl) fun w => bs_add (c := (o ++ [43])) rfl (by first | omega | (simp only [List.length_append, List.length_cons, List.length_nil]; omega)) w) ?_
        refine lm (v := strV (o ++ [43])) rfl rfl ?_
        refine wpL_done (fun W18 hW18 => ?_)
        refine (show Code.wp _ _ _ _ _ from ?_)
        refine wp_seq ?_
        refine wp_region_L (W0 := w) [] (hW18) ?_
        refine lm (v := .int .i64 0) rfl rfl ?_
        refine wpL_done (fun W19 hW19 => ?_)
        refine (show Code.wp _ _ _ _ _ from ?_)
        refine wp_block ?_
        obtain ⟨y4, p4, c4, b4, f4, hy4, HY4, hp4, lt4, hc4⟩ := lvp_lst (k := i) HA.out (by omega)
        have HY4 := Lib.hid HY4
        obtain ⟨ea4, en4⟩ := elt_all (all_at ra hy4)
        go_loopw [3, 5] (fun u3 u5 wr => ∃ (k : Nat) (o2 : List UInt8), (k ≤ y4.length) ∧ (o2 = inP A i y4 k) ∧ (o2.length ≤ 3000 * i + 1 + 201 * k) ∧ u3 = strV o2 ∧ u5 = .int .i64 ((k : Nat) : Int) ∧ KS w [] wr) (fun _ u5 _ => y4.length - (intOf u5).toNat)
        case atStart => exact ⟨0, (o ++ [43]), (Nat.zero_le _), (inP_s1 ho h2), (by first | omega | (simp only [List.length_append, List.length_cons, List.length_nil]; omega)), rfl, rfl, hW19⟩
        case round =>
          obtain ⟨k, o2, hk, ho2, lo2, rfl, rfl, hL20⟩ := hrel
          refine wp_seq ?_
          refine wp_seq ?_
          refine wp_region_L (W0 := w) [] (hL20) ?_
          refine lm (v := .int .i64 ((k : Nat) : Int)) rfl rfl ?_
          refine lm (v := .slice pA A.length cA) rfl rfl ?_
          refine lm (v := .int .i64 ((i : Nat) : Int)) rfl rfl ?_
          refine lp (v := .pointer (some ⟨b4, f4 + i * 1, none⟩)) rfl rfl (run_idxQ (p := pA) (cap := cA) (n := A.length) (j := .i64) (k := i) (sz := 1) rfl Try.underlying36 (by kernel_rfl) (by kernel_rfl) hp4 (by kernel_rfl) (by omega)) ?_
          refine lv (v := .slice p4 y4.length c4) rfl rfl (yb_old (off := f4 + i * 1) rfl (by kernel_rfl) hc4 lt4 Try.underlying43 rfl) ?_
          refine lp (v := .int .i64 ((y4.length : Nat) : Int)) rfl rfl (run_lenL (p := p4) (cap := c4) (n := y4.length) rfl Try.underlying43 (by kernel_rfl)) ?_
          refine lp (v := .bool (decide (k < y4.length))) rfl rfl (run_bin rfl (vx := (.int .i64 ((k : Nat) : Int))) (vy := (.int .i64 ((y4.length : Nat) : Int))) (by kernel_rfl) (by kernel_rfl) fun w => bn_lss rfl w) ?_
          refine wpL_done (fun W21 hW21 => ?_)
          refine (show Code.wp _ _ _ _ _ from ?_)
          cases hd5 : (decide (k < y4.length)) with
          | false =>
            have h5 : ¬ (k < y4.length) := of_decide_eq_false hd5
            clear hd5
            refine wp_cond_false rfl ?_
            refine wp_exit ?_
            refine (show Code.wp _ _ _ _ _ from ?_)
            refine wp_region_L (W0 := w) [] (hW21) ?_
            refine lm (v := .int .i64 ((i : Nat) : Int)) rfl rfl ?_
            refine lp (v := .int .i64 (((i + 1) : Nat) : Int)) rfl rfl (run_bin rfl (vx := (.int .i64 ((i : Nat) : Int))) (vy := (.int .i64 ((1 : Nat) : Int))) (by kernel_rfl) (by kernel_rfl) fun w => bn_add (z := (i + 1)) rfl (wr_i64 (by omega)) w) ?_
            refine lm (v := .int .i64 (((i + 1) : Nat) : Int)) rfl rfl ?_
            refine wpL_done (fun W22 hW22 => ?_)
            go_roundw
            case rel =>
              repeat apply Exists.intro
              exact ⟨⟨i + 1, o2, (by omega), (inP_end hy4 ho2 h5), (by omega), rfl, rfl, hW22⟩, rfl⟩
            case measure => (show A.length - (intOf (.int .i64 (((i + 1) : Nat) : Int))).toNat < A.length - (intOf (.int .i64 ((i : Nat) : Int))).toNat); simp only [intOf]; omega
          | true =>
            have h5 : k < y4.length := of_decide_eq_true hd5
            clear hd5
            refine wp_cond_true rfl ?_
            refine wp_skip ?_
            refine (show Code.wp _ _ _ _ _ from ?_)
            refine wp_seq ?_
            refine wp_block ?_
            refine wp_seq ?_
            refine wp_seq ?_
            refine wp_region_L (W0 := w) [] (hW21) ?_
            refine lm (v := .int .i64 ((k : Nat) : Int)) rfl rfl ?_
            refine lp (v := .bool (decide (0 < k))) rfl rfl (run_bin rfl (vx := (.int .i64 ((k : Nat) : Int))) (vy := (.int .i64 ((0 : Nat) : Int))) (by kernel_rfl) (by kernel_rfl) fun w => bn_gtr rfl w) ?_
            refine wpL_done (fun W23 hW23 => ?_)
            refine (show Code.wp _ _ _ _ _ from ?_)
            cases hd6 : (decide (0 < k)) with
            | false =>
              have h6 : ¬ (0 < k) := of_decide_eq_false hd6
              clear hd6
              refine wp_cond_false rfl ?_
              refine wp_skip ?_
              refine (show Code.wp _ _ _ _ _ from ?_)
              refine wp_region_L (W0 := w) [] (hW23) ?_
              refine lm (v := strV o2) rfl rfl ?_
              refine lm (v := .slice pA A.length cA) rfl rfl ?_
              refine lm (v := .int .i64 ((i : Nat) : Int)) rfl rfl ?_
              refine lp (v := .pointer (some ⟨b4, f4 + i * 1, none⟩)) rfl rfl (run_idxQ (p := pA) (cap := cA) (n := A.length) (j := .i64) (k := i) (sz := 1) rfl Try.underlying36 (by kernel_rfl) (by kernel_rfl) hp4 (by kernel_rfl) (by omega)) ?_
              refine lv (v := .slice p4 y4.length c4) rfl rfl (yb_old (off := f4 + i * 1) rfl (by kernel_rfl) hc4 lt4 Try.underlying43 rfl) ?_
              refine lm (v := .int .i64 ((k : Nat) : Int)) rfl rfl ?_
              obtain ⟨y5, b5, f5, hy5, hp5, lt5, hc5⟩ := lvp_str (k := k) HY4.out (by omega)
              refine lp (v := .pointer (some ⟨b5, f5 + k * 1, none⟩)) rfl rfl (run_idxQ (p := p4) (cap := c4) (n := y4.length) (j := .i64) (k := k) (sz := 1) rfl Try.underlying43 (by kernel_rfl) (by kernel_rfl) hp5 (by kernel_rfl) (by omega)) ?_
              have cl5 := cmp_len (all_at ea4 hy5)
              have ra5 := relC_le y5
              have rb5 := relF_le y5
              refine lv (v := strV y5) rfl rfl (yb_old (off := f5 + k * 1) rfl (by kernel_rfl) hc5 lt5 Try.underlying9 rfl) ?_
              refine lm (v := .int .i64 ((i : Nat) : Int)) rfl rfl ?_
              refine lp (v := .bool false) rfl rfl (run_bin rfl (vx := (.int .i64 ((i : Nat) : Int))) (vy := (.int .i64 ((0 : Nat) : Int))) (by kernel_rfl) (by kernel_rfl) fun w => bn_eql (decide_eq_false (by omega)) w) ?_
              refine lm (v := .bool false) rfl rfl ?_
              refine ln rfl ?_
              refine ln rfl ?_
              refine lm (v := .bool false) rfl rfl ?_
              refine lv (v := strV (relC y5)) rfl rfl (yb_call (f := 48) (args := #[strV y5, .bool false]) (fun _ => by kernel_rfl) fun W hW => relN_any y5 (by omega) W) ?_
              refine lp (v := strV (o2 ++ (relC y5))) rfl rfl (run_bin rfl (vx := strV o2) (vy := strV (relC y5)) (by kernel_rfl) (by kernel_rfl) fun w => bs_add (c := (o2 ++ (relC y5))) rfl (by first | omega | (simp only [List.length_append, List.length_cons, List.length_nil]; omega)) w) ?_
              refine lm (v := strV (o2 ++ (relC y5))) rfl rfl ?_
              refine wpL_done (fun W24 hW24 => ?_)
              refine (show Code.wp _ _ _ _ _ from ?_)
              refine wp_region_L (W0 := w) [] (hW24) ?_
              refine lm (v := .int .i64 ((k : Nat) : Int)) rfl rfl ?_
              refine lp (v := .int .i64 (((k + 1) : Nat) : Int)) rfl rfl (run_bin rfl (vx := (.int .i64 ((k : Nat) : Int))) (vy := (.int .i64 ((1 : Nat) : Int))) (by kernel_rfl) (by kernel_rfl) fun w => bn_add (z := (k + 1)) rfl (wr_i64 (by omega)) w) ?_
              refine lm (v := .int .i64 (((k + 1) : Nat) : Int)) rfl rfl ?_
              refine wpL_done (fun W25 hW25 => ?_)
              go_roundw
              case rel =>
                repeat apply Exists.intro
                exact ⟨⟨k + 1, (o2 ++ (relC y5)), (by omega), (inP_n0 hy5 ho2 h2 h6), (by have r1 := relC_le y5; have r2 := relF_le y5; simp only [List.length_append, List.length_cons, List.length_nil]; omega), rfl, rfl, hW25⟩, rfl⟩
              case measure => (show y4.length - (intOf (.int .i64 (((k + 1) : Nat) : Int))).toNat < y4.length - (intOf (.int .i64 ((k : Nat) : Int))).toNat); simp only [intOf]; omega
            | true =>
              have h6 : 0 < k := of_decide_eq_true hd6
              clear hd6
              refine wp_cond_true rfl ?_
              refine wp_region_L (W0 := w) [] (hW23) ?_
              refine lm (v := strV o2) rfl rfl ?_
              refine lp (v := strV (o2 ++ [58])) rfl rfl (run_bin rfl (vx := strV o2) (vy := strV [58]) (by kernel_rfl) (by kernel_rfl) fun w => bs_add (c := (o2 ++ [58])) rfl (by first | omega | (simp only [List.length_append, List.length_cons, List.length_nil]; omega)) w) ?_
              refine lm (v := strV (o2 ++ [58])) rfl rfl ?_
              refine wpL_done (fun W26 hW26 => ?_)
              refine (show Code.wp _ _ _ _ _ from ?_)
              refine wp_region_L (W0 := w) [] (hW26) ?_
              refine lm (v := strV (o2 ++ [58])) rfl rfl ?_
              refine lm (v := .slice pA A.length cA) rfl rfl ?_
              refine lm (v := .int .i64 ((i : Nat) : Int)) rfl rfl ?_
              refine lp (v := .pointer (some ⟨b4, f4 + i * 1, none⟩)) rfl rfl (run_idxQ (p := pA) (cap := cA) (n := A.length) (j := .i64) (k := i) (sz := 1) rfl Try.underlying36 (by kernel_rfl) (by kernel_rfl) hp4 (by kernel_rfl) (by omega)) ?_
              refine lv (v := .slice p4 y4.length c4) rfl rfl (yb_old (off := f4 + i * 1) rfl (by kernel_rfl) hc4 lt4 Try.underlying43 rfl) ?_
              refine lm (v := .int .i64 ((k : Nat) : Int)) rfl rfl ?_
              obtain ⟨y6, b6, f6, hy6, hp6, lt6, hc6⟩ := lvp_str (k := k) HY4.out (by omega)
              refine lp (v := .pointer (some ⟨b6, f6 + k * 1, none⟩)) rfl rfl (run_idxQ (p := p4) (cap := c4) (n := y4.length) (j := .i64) (k := k) (sz := 1) rfl Try.underlying43 (by kernel_rfl) (by kernel_rfl) hp6 (by kernel_rfl) (by omega)) ?_
              have cl6 := cmp_len (all_at ea4 hy6)
              have ra6 := relC_le y6
              have rb6 := relF_le y6
              refine lv (v := strV y6) rfl rfl (yb_old (off := f6 + k * 1) rfl (by kernel_rfl) hc6 lt6 Try.underlying9 rfl) ?_
              refine lm (v := .int .i64 ((i : Nat) : Int)) rfl rfl ?_
              refine lp (v := .bool false) rfl rfl (run_bin rfl (vx := (.int .i64 ((i : Nat) : Int))) (vy := (.int .i64 ((0 : Nat) : Int))) (by kernel_rfl) (by kernel_rfl) fun w => bn_eql (decide_eq_false (by omega)) w) ?_
              refine lm (v := .bool false) rfl rfl ?_
              refine ln rfl ?_
              refine ln rfl ?_
              refine lm (v := .bool false) rfl rfl ?_
              refine lv (v := strV (relC y6)) rfl rfl (yb_call (f := 48) (args := #[strV y6, .bool false]) (fun _ => by kernel_rfl) fun W hW => relN_any y6 (by omega) W) ?_
              refine lp (v := strV ((o2 ++ [58]) ++ (relC y6))) rfl rfl (run_bin rfl (vx := strV (o2 ++ [58])) (vy := strV (relC y6)) (by kernel_rfl) (by kernel_rfl) fun w => bs_add (c := ((o2 ++ [58]) ++ (relC y6))) rfl (by first | omega | (simp only [List.length_append, List.length_cons, List.length_nil]; omega)) w) ?_
              refine lm (v := strV ((o2 ++ [58]) ++ (relC y6))) rfl rfl ?_
              refine wpL_done (fun W27 hW27 => ?_)
              refine (show Code.wp _ _ _ _ _ from ?_)
              refine wp_region_L (W0 := w) [] (hW27) ?_
              refine lm (v := .int .i64 ((k : Nat) : Int)) rfl rfl ?_
              refine lp (v := .int .i64 (((k + 1) : Nat) : Int)) rfl rfl (run_bin rfl (vx := (.int .i64 ((k : Nat) : Int))) (vy := (.int .i64 ((1 : Nat) : Int))) (by kernel_rfl) (by kernel_rfl) fun w => bn_add (z := (k + 1)) rfl (wr_i64 (by omega)) w) ?_
              refine lm (v := .int .i64 (((k + 1) : Nat) : Int)) rfl rfl ?_
              refine wpL_done (fun W28 hW28 => ?_)
              go_roundw
              case rel =>
                repeat apply Exists.intro
                exact ⟨⟨k + 1, ((o2 ++ [58]) ++ (relC y6)), (by omega), (inP_k hy6 ho2 h6), (by have r1 := relC_le y6; have r2 := relF_le y6; simp only [List.length_append, List.length_cons, List.length_nil]; omega), rfl, rfl, hW28⟩, rfl⟩
              case measure => (show y4.length - (intOf (.int .i64 (((k + 1) : Nat) : Int))).toNat < y4.length - (intOf (.int .i64 ((k : Nat) : Int))).toNat); simp only [intOf]; omega
end Go.Proofs.Ytppegdbelgobiaa
namespace Go.Proofs.Ytppegdbelgobiaa
open Go Go.RowKit Tw
def endR (n : Nat) (s : Sta) : Res Sta := match s.md with
  | .out => .ok s
  | .ins _ _ _ => .bad n 42
  | .rel p _ _ _ => .bad p 41
set_option maxRecDepth 100000 in
set_option maxHeartbeats 4000000 in
theorem isServiceE_any  (w : World) : Calls Try.prog 49 #[.int .i32 (-1)] w fun e w' => e = .returned (.bool false) ∧ Below w.heap.size w w' := by
  go_enter Try.func49, Try.ntmps49
  refine wp_seq ?_
  refine wp_region_L (W0 := w) [] (KS.start w) ?_
  refine lm (v := .bool false) rfl rfl ?_
  refine wpL_done (fun W1 hW1 => ?_)
  refine (show Code.wp _ _ _ _ _ from ?_)
  refine wp_seq ?_
  refine wp_region_L (W0 := w) [] (hW1) ?_
  refine lm (v := .int .i32 (-1)) rfl rfl ?_
  refine lm (v := .bool false) rfl rfl ?_
  refine lm (v := .bool false) rfl rfl ?_
  refine lm (v := .int .i32 (-1)) rfl rfl ?_
  refine lm (v := .bool false) rfl rfl ?_
  refine lm (v := .bool false) rfl rfl ?_
  refine lm (v := .bool false) rfl rfl ?_
  refine lm (v := .int .i32 (-1)) rfl rfl ?_
  refine lm (v := .bool false) rfl rfl ?_
  refine lm (v := .bool false) rfl rfl ?_
  refine lm (v := .bool false) rfl rfl ?_
  refine lm (v := .int .i32 (-1)) rfl rfl ?_
  refine lm (v := .bool false) rfl rfl ?_
  refine lm (v := .bool false) rfl rfl ?_
  refine lm (v := .bool false) rfl rfl ?_
  refine wpL_done (fun W2 hW2 => ?_)
  refine (show Code.wp _ _ _ _ _ from ?_)
  refine wp_ret ?_
  try simp only [inBlock_ret, then_ret]
  refine bodyPost_ret (v := .bool false) ?_ rfl ?_
  · kernel_rfl
  · exact ⟨rfl, hW2.1⟩
set_option maxRecDepth 100000 in
set_option maxHeartbeats 4000000 in
theorem stopO_any {W0 : Base} {g : Nat} {segs : List Sgm} {i : Nat} {K R : List (Nat × Obj)} (hV : RdV W0 g (.func (.func 25) #[.pointer (some ⟨g, 0, none⟩)] #[]) segs [] [] [] K) (hR : Dj K R) (li : i ≤ 4000000000)  (w : World) (hw : KS W0 (K ++ R) w) : Calls Try.prog 25 #[.pointer (some ⟨g, 0, none⟩), .int .i64 ((i : Nat) : Int), .int .i32 (-1)] w fun e w' => ∃ v K', e = .returned v ∧ KS W0 K' w' ∧ Ans W0 g (endR i ⟨segs, .out⟩) R v K' := by
  obtain ⟨p1, p2, p3, p4, _, _, _, _, c1, c2, c3, c4, x1, x2, _, _, K1, T1, K2, T2, K3, K4, rfl, rfl, rfl, rfl, rfl, rfl, rfl, hB, O1, E1, O2, E2, O3, O4, dg, d1, d2, d3, d4, d5⟩ := hV
  obtain ⟨dj1_0, dj1_1, dj1_2, dj1_3, dj1_4, dj1_5⟩ : Dk g K1 ∧ Dk g T1 ∧ Dk g K2 ∧ Dk g T2 ∧ Dk g K3 ∧ Dk g K4 := by simpa only [dj_app_l, dj_app_r, dj_cons_l, dj_cons_r, dj_nil_l, dj_nil_r, dk_app, dk_cons, dk_nil, and_true, true_and, and_assoc] using (show Dk g (K1 ++ (T1 ++ (K2 ++ (T2 ++ (K3 ++ K4))))) from dg)
  obtain ⟨dj2_0, dj2_1, dj2_2, dj2_3, dj2_4⟩ : Dj K1 T1 ∧ Dj K1 K2 ∧ Dj K1 T2 ∧ Dj K1 K3 ∧ Dj K1 K4 := by simpa only [dj_app_l, dj_app_r, dj_cons_l, dj_cons_r, dj_nil_l, dj_nil_r, dk_app, dk_cons, dk_nil, and_true, true_and, and_assoc] using (show Dj K1 (T1 ++ (K2 ++ (T2 ++ (K3 ++ K4)))) from d1)
  obtain ⟨dj3_0, dj3_1, dj3_2, dj3_3⟩ : Dj T1 K2 ∧ Dj T1 T2 ∧ Dj T1 K3 ∧ Dj T1 K4 := by simpa only [dj_app_l, dj_app_r, dj_cons_l, dj_cons_r, dj_nil_l, dj_nil_r, dk_app, dk_cons, dk_nil, and_true, true_and, and_assoc] using (show Dj T1 (K2 ++ (T2 ++ (K3 ++ K4))) from d2)
  obtain ⟨dj4_0, dj4_1, dj4_2⟩ : Dj K2 T2 ∧ Dj K2 K3 ∧ Dj K2 K4 := by simpa only [dj_app_l, dj_app_r, dj_cons_l, dj_cons_r, dj_nil_l, dj_nil_r, dk_app, dk_cons, dk_nil, and_true, true_and, and_assoc] using (show Dj K2 (T2 ++ (K3 ++ K4)) from d3)
  obtain ⟨dj5_0, dj5_1⟩ : Dj T2 K3 ∧ Dj T2 K4 := by simpa only [dj_app_l, dj_app_r, dj_cons_l, dj_cons_r, dj_nil_l, dj_nil_r, dk_app, dk_cons, dk_nil, and_true, true_and, and_assoc] using (show Dj T2 (K3 ++ K4) from d4)
  obtain dj6_0 : Dj K3 K4 := by simpa only [dj_app_l, dj_app_r, dj_cons_l, dj_cons_r, dj_nil_l, dj_nil_r, dk_app, dk_cons, dk_nil, and_true, true_and, and_assoc] using (show Dj K3 K4 from d5)
  obtain ⟨dj7_0, dj7_1, dj7_2, dj7_3, dj7_4, dj7_5, dj7_6⟩ : Dk g R ∧ Dj K1 R ∧ Dj T1 R ∧ Dj K2 R ∧ Dj T2 R ∧ Dj K3 R ∧ Dj K4 R := by simpa only [dj_app_l, dj_app_r, dj_cons_l, dj_cons_r, dj_nil_l, dj_nil_r, dk_app, dk_cons, dk_nil, and_true, true_and, and_assoc] using (show Dj ((g, .cells #[.func (.func 25) #[.pointer (some ⟨g, 0, none⟩)] #[], .slice p1 segs.length c1, .slice p2 ([] : List Elt).length c2, .slice p3 ([] : Elt).length c3, .slice p4 ([] : Cmp).length c4] 52 (0, 0)) :: (K1 ++ (T1 ++ (K2 ++ (T2 ++ (K3 ++ K4)))))) R from hR)
  go_enter Try.func25, Try.ntmps25
  refine wp_seq ?_
  refine wp_region_L (W0 := W0) ((g, .cells #[.func (.func 25) #[.pointer (some ⟨g, 0, none⟩)] #[], .slice p1 segs.length c1, .slice p2 ([] : List Elt).length c2, .slice p3 ([] : Elt).length c3, .slice p4 ([] : Cmp).length c4] 52 (0, 0)) :: (K1 ++ (T1 ++ (K2 ++ (T2 ++ (K3 ++ (K4 ++ R))))))) ((hw.sub (fun p hp => by simp only [List.mem_cons, List.mem_append, List.nil_append, List.not_mem_nil, or_assoc, or_false, false_or, List.cons_append, List.append_assoc] at hp ⊢ <;> grind))) ?_
  refine lm (v := .int .i64 0) rfl rfl ?_
  refine lm (v := .int .i64 0) rfl rfl ?_
  refine wpL_done (fun W1 hW1 => ?_)
  refine (show Code.wp _ _ _ _ _ from ?_)
  refine wp_seq ?_
  refine wp_seq ?_
  refine wp_region_L (W0 := W0) ((g, .cells #[.func (.func 25) #[.pointer (some ⟨g, 0, none⟩)] #[], .slice p1 segs.length c1, .slice p2 ([] : List Elt).length c2, .slice p3 ([] : Elt).length c3, .slice p4 ([] : Cmp).length c4] 52 (0, 0)) :: (K1 ++ (T1 ++ (K2 ++ (T2 ++ (K3 ++ (K4 ++ R))))))) (hW1) ?_
  refine lm (v := .int .i32 (-1)) rfl rfl ?_
  refine wpL_done (fun W2 hW2 => ?_)
  refine (show Code.wp _ _ _ _ _ from ?_)
  refine wp_block ?_
  refine wp_seq ?_
  refine wp_seq ?_
  refine wp_region_L (W0 := W0) ((g, .cells #[.func (.func 25) #[.pointer (some ⟨g, 0, none⟩)] #[], .slice p1 segs.length c1, .slice p2 ([] : List Elt).length c2, .slice p3 ([] : Elt).length c3, .slice p4 ([] : Cmp).length c4] 52 (0, 0)) :: (K1 ++ (T1 ++ (K2 ++ (T2 ++ (K3 ++ (K4 ++ R))))))) (hW2) ?_
  refine lm (v := .bool false) rfl rfl ?_
  refine lm (v := .bool false) rfl rfl ?_
  refine wpL_done (fun W3 hW3 => ?_)
  refine (show Code.wp _ _ _ _ _ from ?_)
  refine wp_cond_false rfl ?_
  refine wp_seq ?_
  refine wp_region_L (W0 := W0) ((g, .cells #[.func (.func 25) #[.pointer (some ⟨g, 0, none⟩)] #[], .slice p1 segs.length c1, .slice p2 ([] : List Elt).length c2, .slice p3 ([] : Elt).length c3, .slice p4 ([] : Cmp).length c4] 52 (0, 0)) :: (K1 ++ (T1 ++ (K2 ++ (T2 ++ (K3 ++ (K4 ++ R))))))) (hW3) ?_
  refine lm (v := .bool false) rfl rfl ?_
  refine lm (v := .bool false) rfl rfl ?_
  refine wpL_done (fun W4 hW4 => ?_)
  refine (show Code.wp _ _ _ _ _ from ?_)
  refine wp_cond_false rfl ?_
  refine wp_seq ?_
  refine wp_region_L (W0 := W0) ((g, .cells #[.func (.func 25) #[.pointer (some ⟨g, 0, none⟩)] #[], .slice p1 segs.length c1, .slice p2 ([] : List Elt).length c2, .slice p3 ([] : Elt).length c3, .slice p4 ([] : Cmp).length c4] 52 (0, 0)) :: (K1 ++ (T1 ++ (K2 ++ (T2 ++ (K3 ++ (K4 ++ R))))))) (hW4) ?_
  refine lm (v := .bool false) rfl rfl ?_
  refine lm (v := .bool false) rfl rfl ?_
  refine wpL_done (fun W5 hW5 => ?_)
  refine (show Code.wp _ _ _ _ _ from ?_)
  refine wp_cond_false rfl ?_
  refine wp_region_L (W0 := W0) ((g, .cells #[.func (.func 25) #[.pointer (some ⟨g, 0, none⟩)] #[], .slice p1 segs.length c1, .slice p2 ([] : List Elt).length c2, .slice p3 ([] : Elt).length c3, .slice p4 ([] : Cmp).length c4] 52 (0, 0)) :: (K1 ++ (T1 ++ (K2 ++ (T2 ++ (K3 ++ (K4 ++ R))))))) (hW5) ?_
  refine lm (v := .bool true) rfl rfl ?_
  refine lm (v := .bool true) rfl rfl ?_
  refine wpL_done (fun W6 hW6 => ?_)
  refine (show Code.wp _ _ _ _ _ from ?_)
  refine wp_cond_true rfl ?_
  refine wp_seq ?_
  refine wp_region_L (W0 := W0) ((g, .cells #[.func (.func 25) #[.pointer (some ⟨g, 0, none⟩)] #[], .slice p1 segs.length c1, .slice p2 ([] : List Elt).length c2, .slice p3 ([] : Elt).length c3, .slice p4 ([] : Cmp).length c4] 52 (0, 0)) :: (K1 ++ (T1 ++ (K2 ++ (T2 ++ (K3 ++ (K4 ++ R))))))) (hW6) ?_
  refine lm (v := .int .i64 0) rfl rfl ?_
  refine lm (v := .int .i64 0) rfl rfl ?_
  refine wpL_done (fun W7 hW7 => ?_)
  refine (show Code.wp _ _ _ _ _ from ?_)
  refine wp_ret ?_
  try simp only [inBlock_ret, then_ret]
  refine bodyPost_ret (v := .tuple #[.int .i64 0, .int .i64 0]) ?_ rfl ?_
  · kernel_rfl
  · exact ans_ok (K2 := ((g, .cells #[.func (.func 25) #[.pointer (some ⟨g, 0, none⟩)] #[], .slice p1 segs.length c1, .slice p2 ([] : List Elt).length c2, .slice p3 ([] : Elt).length c3, .slice p4 ([] : Cmp).length c4] 52 (0, 0)) :: (K1 ++ (T1 ++ (K2 ++ (T2 ++ (K3 ++ K4))))))) rfl (hW7.sub (fun p hp => by simp only [List.mem_cons, List.mem_append, List.nil_append, List.not_mem_nil, or_assoc, or_false, false_or, List.cons_append, List.append_assoc] at hp ⊢ <;> grind)) ⟨_, _, _, _, _, _, _, _, _, _, _, _, _, _, _, _, K1, T1, K2, T2, K3, K4, (by simp [esOf, csOf, cOf]), (by simp [esOf, csOf, cOf]), (by simp [esOf, csOf, cOf]), (by simp [esOf, csOf, cOf]), rfl, rfl, rfl, hB, O1, E1, O2, E2, O3, O4, (show Dk g (K1 ++ (T1 ++ (K2 ++ (T2 ++ (K3 ++ K4))))) from (by (try simp only [dj_app_l, dj_app_r, dj_cons_l, dj_cons_r, dj_nil_l, dj_nil_r, dk_app, dk_cons, dk_nil, and_true, true_and, and_assoc]); repeat' (first | trivial | assumption | exact Dj.symm (by assumption) | exact Ne.symm (by assumption) | apply And.intro))), (show Dj K1 (T1 ++ (K2 ++ (T2 ++ (K3 ++ K4)))) from (by (try simp only [dj_app_l, dj_app_r, dj_cons_l, dj_cons_r, dj_nil_l, dj_nil_r, dk_app, dk_cons, dk_nil, and_true, true_and, and_assoc]); repeat' (first | trivial | assumption | exact Dj.symm (by assumption) | exact Ne.symm (by assumption) | apply And.intro))), (show Dj T1 (K2 ++ (T2 ++ (K3 ++ K4))) from (by (try simp only [dj_app_l, dj_app_r, dj_cons_l, dj_cons_r, dj_nil_l, dj_nil_r, dk_app, dk_cons, dk_nil, and_true, true_and, and_assoc]); repeat' (first | trivial | assumption | exact Dj.symm (by assumption) | exact Ne.symm (by assumption) | apply And.intro))), (show Dj K2 (T2 ++ (K3 ++ K4)) from (by (try simp only [dj_app_l, dj_app_r, dj_cons_l, dj_cons_r, dj_nil_l, dj_nil_r, dk_app, dk_cons, dk_nil, and_true, true_and, and_assoc]); repeat' (first | trivial | assumption | exact Dj.symm (by assumption) | exact Ne.symm (by assumption) | apply And.intro))), (show Dj T2 (K3 ++ K4) from (by (try simp only [dj_app_l, dj_app_r, dj_cons_l, dj_cons_r, dj_nil_l, dj_nil_r, dk_app, dk_cons, dk_nil, and_true, true_and, and_assoc]); repeat' (first | trivial | assumption | exact Dj.symm (by assumption) | exact Ne.symm (by assumption) | apply And.intro))), (show Dj K3 K4 from (by (try simp only [dj_app_l, dj_app_r, dj_cons_l, dj_cons_r, dj_nil_l, dj_nil_r, dk_app, dk_cons, dk_nil, and_true, true_and, and_assoc]); repeat' (first | trivial | assumption | exact Dj.symm (by assumption) | exact Ne.symm (by assumption) | apply And.intro)))⟩ (show Dj ((g, .cells #[.func (.func 25) #[.pointer (some ⟨g, 0, none⟩)] #[], .slice p1 segs.length c1, .slice p2 ([] : List Elt).length c2, .slice p3 ([] : Elt).length c3, .slice p4 ([] : Cmp).length c4] 52 (0, 0)) :: (K1 ++ (T1 ++ (K2 ++ (T2 ++ (K3 ++ K4)))))) R from (by (try simp only [dj_app_l, dj_app_r, dj_cons_l, dj_cons_r, dj_nil_l, dj_nil_r, dk_app, dk_cons, dk_nil, and_true, true_and, and_assoc]); repeat' (first | trivial | assumption | exact Dj.symm (by assumption) | exact Ne.symm (by assumption) | apply And.intro)))
set_option maxRecDepth 100000 in
set_option maxHeartbeats 4000000 in
theorem stopI_any {W0 : Base} {g : Nat} {segs : List Sgm} {es : List Elt} {cs : List Cmp} {c : Cmp} {i : Nat} {K R : List (Nat × Obj)} (hV : RdV W0 g (.func (.func 39) #[.pointer (some ⟨g, 0, none⟩)] #[]) segs es cs c K) (hR : Dj K R) (li : i ≤ 4000000000)  (w : World) (hw : KS W0 (K ++ R) w) : Calls Try.prog 39 #[.pointer (some ⟨g, 0, none⟩), .int .i64 ((i : Nat) : Int), .int .i32 (-1)] w fun e w' => ∃ v K', e = .returned v ∧ KS W0 K' w' ∧ Ans W0 g (endR i ⟨segs, .ins es cs c⟩) R v K' := by
  obtain ⟨p1, p2, p3, p4, _, _, _, _, c1, c2, c3, c4, x1, x2, _, _, K1, T1, K2, T2, K3, K4, rfl, rfl, rfl, rfl, rfl, rfl, rfl, hB, O1, E1, O2, E2, O3, O4, dg, d1, d2, d3, d4, d5⟩ := hV
  obtain ⟨dj1_0, dj1_1, dj1_2, dj1_3, dj1_4, dj1_5⟩ : Dk g K1 ∧ Dk g T1 ∧ Dk g K2 ∧ Dk g T2 ∧ Dk g K3 ∧ Dk g K4 := by simpa only [dj_app_l, dj_app_r, dj_cons_l, dj_cons_r, dj_nil_l, dj_nil_r, dk_app, dk_cons, dk_nil, and_true, true_and, and_assoc] using (show Dk g (K1 ++ (T1 ++ (K2 ++ (T2 ++ (K3 ++ K4))))) from dg)
  obtain ⟨dj2_0, dj2_1, dj2_2, dj2_3, dj2_4⟩ : Dj K1 T1 ∧ Dj K1 K2 ∧ Dj K1 T2 ∧ Dj K1 K3 ∧ Dj K1 K4 := by simpa only [dj_app_l, dj_app_r, dj_cons_l, dj_cons_r, dj_nil_l, dj_nil_r, dk_app, dk_cons, dk_nil, and_true, true_and, and_assoc] using (show Dj K1 (T1 ++ (K2 ++ (T2 ++ (K3 ++ K4)))) from d1)
  obtain ⟨dj3_0, dj3_1, dj3_2, dj3_3⟩ : Dj T1 K2 ∧ Dj T1 T2 ∧ Dj T1 K3 ∧ Dj T1 K4 := by simpa only [dj_app_l, dj_app_r, dj_cons_l, dj_cons_r, dj_nil_l, dj_nil_r, dk_app, dk_cons, dk_nil, and_true, true_and, and_assoc] using (show Dj T1 (K2 ++ (T2 ++ (K3 ++ K4))) from d2)
  obtain ⟨dj4_0, dj4_1, dj4_2⟩ : Dj K2 T2 ∧ Dj K2 K3 ∧ Dj K2 K4 := by simpa only [dj_app_l, dj_app_r, dj_cons_l, dj_cons_r, dj_nil_l, dj_nil_r, dk_app, dk_cons, dk_nil, and_true, true_and, and_assoc] using (show Dj K2 (T2 ++ (K3 ++ K4)) from d3)
  obtain ⟨dj5_0, dj5_1⟩ : Dj T2 K3 ∧ Dj T2 K4 := by simpa only [dj_app_l, dj_app_r, dj_cons_l, dj_cons_r, dj_nil_l, dj_nil_r, dk_app, dk_cons, dk_nil, and_true, true_and, and_assoc] using (show Dj T2 (K3 ++ K4) from d4)
  obtain dj6_0 : Dj K3 K4 := by simpa only [dj_app_l, dj_app_r, dj_cons_l, dj_cons_r, dj_nil_l, dj_nil_r, dk_app, dk_cons, dk_nil, and_true, true_and, and_assoc] using (show Dj K3 K4 from d5)
  obtain ⟨dj7_0, dj7_1, dj7_2, dj7_3, dj7_4, dj7_5, dj7_6⟩ : Dk g R ∧ Dj K1 R ∧ Dj T1 R ∧ Dj K2 R ∧ Dj T2 R ∧ Dj K3 R ∧ Dj K4 R := by simpa only [dj_app_l, dj_app_r, dj_cons_l, dj_cons_r, dj_nil_l, dj_nil_r, dk_app, dk_cons, dk_nil, and_true, true_and, and_assoc] using (show Dj ((g, .cells #[.func (.func 39) #[.pointer (some ⟨g, 0, none⟩)] #[], .slice p1 segs.length c1, .slice p2 es.length c2, .slice p3 cs.length c3, .slice p4 c.length c4] 52 (0, 0)) :: (K1 ++ (T1 ++ (K2 ++ (T2 ++ (K3 ++ K4)))))) R from hR)
  go_enter Try.func39, Try.ntmps39
  refine wp_seq ?_
  refine wp_region_L (W0 := W0) ((g, .cells #[.func (.func 39) #[.pointer (some ⟨g, 0, none⟩)] #[], .slice p1 segs.length c1, .slice p2 es.length c2, .slice p3 cs.length c3, .slice p4 c.length c4] 52 (0, 0)) :: (K1 ++ (T1 ++ (K2 ++ (T2 ++ (K3 ++ (K4 ++ R))))))) ((hw.sub (fun p hp => by simp only [List.mem_cons, List.mem_append, List.nil_append, List.not_mem_nil, or_assoc, or_false, false_or, List.cons_append, List.append_assoc] at hp ⊢ <;> grind))) ?_
  refine lm (v := .int .i64 0) rfl rfl ?_
  refine lm (v := .int .i64 0) rfl rfl ?_
  refine wpL_done (fun W1 hW1 => ?_)
  refine (show Code.wp _ _ _ _ _ from ?_)
  refine wp_seq ?_
  refine wp_seq ?_
  refine wp_region_L (W0 := W0) ((g, .cells #[.func (.func 39) #[.pointer (some ⟨g, 0, none⟩)] #[], .slice p1 segs.length c1, .slice p2 es.length c2, .slice p3 cs.length c3, .slice p4 c.length c4] 52 (0, 0)) :: (K1 ++ (T1 ++ (K2 ++ (T2 ++ (K3 ++ (K4 ++ R))))))) (hW1) ?_
  refine lm (v := .int .i32 (-1)) rfl rfl ?_
  refine wpL_done (fun W2 hW2 => ?_)
  refine (show Code.wp _ _ _ _ _ from ?_)
  refine wp_block ?_
  refine wp_seq ?_
  refine wp_region_L (W0 := W0) ((g, .cells #[.func (.func 39) #[.pointer (some ⟨g, 0, none⟩)] #[], .slice p1 segs.length c1, .slice p2 es.length c2, .slice p3 cs.length c3, .slice p4 c.length c4] 52 (0, 0)) :: (K1 ++ (T1 ++ (K2 ++ (T2 ++ (K3 ++ (K4 ++ R))))))) (hW2) ?_
  refine lm (v := .bool true) rfl rfl ?_
  refine lm (v := .bool true) rfl rfl ?_
  refine wpL_done (fun W3 hW3 => ?_)
  refine (show Code.wp _ _ _ _ _ from ?_)
  refine wp_cond_true rfl ?_
  refine wp_seq ?_
  refine wp_region_L (W0 := W0) ((g, .cells #[.func (.func 39) #[.pointer (some ⟨g, 0, none⟩)] #[], .slice p1 segs.length c1, .slice p2 es.length c2, .slice p3 cs.length c3, .slice p4 c.length c4] 52 (0, 0)) :: (K1 ++ (T1 ++ (K2 ++ (T2 ++ (K3 ++ (K4 ++ R))))))) (hW3) ?_
  refine lm (v := .int .i64 ((i : Nat) : Int)) rfl rfl ?_
  refine lm (v := .int .i64 ((i : Nat) : Int)) rfl rfl ?_
  refine lm (v := .int .i64 42) rfl rfl ?_
  refine wpL_done (fun W4 hW4 => ?_)
  refine (show Code.wp _ _ _ _ _ from ?_)
  refine wp_ret ?_
  try simp only [inBlock_ret, then_ret]
  refine bodyPost_ret (v := .tuple #[.int .i64 ((i : Nat) : Int), .int .i64 42]) ?_ rfl ?_
  · kernel_rfl
  · exact ans_bad (K := []) rfl (hW4.sub (fun p hp => by simp only [List.mem_cons, List.mem_append, List.nil_append, List.not_mem_nil, or_assoc, or_false, false_or, List.cons_append, List.append_assoc] at hp ⊢ <;> grind))
set_option maxRecDepth 100000 in
set_option maxHeartbeats 4000000 in
theorem stopR_any {W0 : Base} {g : Nat} {segs : List Sgm} {es : List Elt} {cs : List Cmp} {c : Cmp} {i p : Nat} {K R : List (Nat × Obj)} (hV : RdV W0 g (.func (.func 53) #[.pointer (some ⟨g, 0, none⟩)] #[]) segs es cs c K) (hR : Dj K R) (li : i ≤ 4000000000) (hp : p + 1 = i) (w : World) (hw : KS W0 (K ++ R) w) : Calls Try.prog 53 #[.pointer (some ⟨g, 0, none⟩), .int .i64 ((i : Nat) : Int), .int .i32 (-1)] w fun e w' => ∃ v K', e = .returned v ∧ KS W0 K' w' ∧ Ans W0 g (endR i ⟨segs, .rel p es cs c⟩) R v K' := by
  obtain ⟨p1, p2, p3, p4, _, _, _, _, c1, c2, c3, c4, x1, x2, _, _, K1, T1, K2, T2, K3, K4, rfl, rfl, rfl, rfl, rfl, rfl, rfl, hB, O1, E1, O2, E2, O3, O4, dg, d1, d2, d3, d4, d5⟩ := hV
  obtain ⟨dj1_0, dj1_1, dj1_2, dj1_3, dj1_4, dj1_5⟩ : Dk g K1 ∧ Dk g T1 ∧ Dk g K2 ∧ Dk g T2 ∧ Dk g K3 ∧ Dk g K4 := by simpa only [dj_app_l, dj_app_r, dj_cons_l, dj_cons_r, dj_nil_l, dj_nil_r, dk_app, dk_cons, dk_nil, and_true, true_and, and_assoc] using (show Dk g (K1 ++ (T1 ++ (K2 ++ (T2 ++ (K3 ++ K4))))) from dg)
  obtain ⟨dj2_0, dj2_1, dj2_2, dj2_3, dj2_4⟩ : Dj K1 T1 ∧ Dj K1 K2 ∧ Dj K1 T2 ∧ Dj K1 K3 ∧ Dj K1 K4 := by simpa only [dj_app_l, dj_app_r, dj_cons_l, dj_cons_r, dj_nil_l, dj_nil_r, dk_app, dk_cons, dk_nil, and_true, true_and, and_assoc] using (show Dj K1 (T1 ++ (K2 ++ (T2 ++ (K3 ++ K4)))) from d1)
  obtain ⟨dj3_0, dj3_1, dj3_2, dj3_3⟩ : Dj T1 K2 ∧ Dj T1 T2 ∧ Dj T1 K3 ∧ Dj T1 K4 := by simpa only [dj_app_l, dj_app_r, dj_cons_l, dj_cons_r, dj_nil_l, dj_nil_r, dk_app, dk_cons, dk_nil, and_true, true_and, and_assoc] using (show Dj T1 (K2 ++ (T2 ++ (K3 ++ K4))) from d2)
  obtain ⟨dj4_0, dj4_1, dj4_2⟩ : Dj K2 T2 ∧ Dj K2 K3 ∧ Dj K2 K4 := by simpa only [dj_app_l, dj_app_r, dj_cons_l, dj_cons_r, dj_nil_l, dj_nil_r, dk_app, dk_cons, dk_nil, and_true, true_and, and_assoc] using (show Dj K2 (T2 ++ (K3 ++ K4)) from d3)
  obtain ⟨dj5_0, dj5_1⟩ : Dj T2 K3 ∧ Dj T2 K4 := by simpa only [dj_app_l, dj_app_r, dj_cons_l, dj_cons_r, dj_nil_l, dj_nil_r, dk_app, dk_cons, dk_nil, and_true, true_and, and_assoc] using (show Dj T2 (K3 ++ K4) from d4)
  obtain dj6_0 : Dj K3 K4 := by simpa only [dj_app_l, dj_app_r, dj_cons_l, dj_cons_r, dj_nil_l, dj_nil_r, dk_app, dk_cons, dk_nil, and_true, true_and, and_assoc] using (show Dj K3 K4 from d5)
  obtain ⟨dj7_0, dj7_1, dj7_2, dj7_3, dj7_4, dj7_5, dj7_6⟩ : Dk g R ∧ Dj K1 R ∧ Dj T1 R ∧ Dj K2 R ∧ Dj T2 R ∧ Dj K3 R ∧ Dj K4 R := by simpa only [dj_app_l, dj_app_r, dj_cons_l, dj_cons_r, dj_nil_l, dj_nil_r, dk_app, dk_cons, dk_nil, and_true, true_and, and_assoc] using (show Dj ((g, .cells #[.func (.func 53) #[.pointer (some ⟨g, 0, none⟩)] #[], .slice p1 segs.length c1, .slice p2 es.length c2, .slice p3 cs.length c3, .slice p4 c.length c4] 52 (0, 0)) :: (K1 ++ (T1 ++ (K2 ++ (T2 ++ (K3 ++ K4)))))) R from hR)
  go_enter Try.func53, Try.ntmps53
  refine wp_seq ?_
  refine wp_region_L (W0 := W0) ((g, .cells #[.func (.func 53) #[.pointer (some ⟨g, 0, none⟩)] #[], .slice p1 segs.length c1, .slice p2 es.length c2, .slice p3 cs.length c3, .slice p4 c.length c4] 52 (0, 0)) :: (K1 ++ (T1 ++ (K2 ++ (T2 ++ (K3 ++ (K4 ++ R))))))) ((hw.sub (fun p hp => by simp only [List.mem_cons, List.mem_append, List.nil_append, List.not_mem_nil, or_assoc, or_false, false_or, List.cons_append, List.append_assoc] at hp ⊢ <;> grind))) ?_
  refine lm (v := .int .i64 0) rfl rfl ?_
  refine lm (v := .int .i64 0) rfl rfl ?_
  refine wpL_done (fun W1 hW1 => ?_)
  refine (show Code.wp _ _ _ _ _ from ?_)
  refine wp_seq ?_
  refine wp_seq ?_
  refine wp_region_L (W0 := W0) ((g, .cells #[.func (.func 53) #[.pointer (some ⟨g, 0, none⟩)] #[], .slice p1 segs.length c1, .slice p2 es.length c2, .slice p3 cs.length c3, .slice p4 c.length c4] 52 (0, 0)) :: (K1 ++ (T1 ++ (K2 ++ (T2 ++ (K3 ++ (K4 ++ R))))))) (hW1) ?_
  refine lm (v := .int .i32 (-1)) rfl rfl ?_
  refine lv (v := .bool false) rfl rfl (yb_call (f := 49) (args := #[.int .i32 (-1)]) (fun _ => by kernel_rfl) fun W hW => isServiceE_any W) ?_
  refine lm (v := .bool true) rfl rfl ?_
  refine lm (v := .bool true) rfl rfl ?_
  refine lm (v := .int .i32 (-1)) rfl rfl ?_
  refine lm (v := .bool true) rfl rfl ?_
  refine lm (v := .bool true) rfl rfl ?_
  refine wpL_done (fun W2 hW2 => ?_)
  refine (show Code.wp _ _ _ _ _ from ?_)
  refine wp_cond_true rfl ?_
  refine wp_seq ?_
  refine wp_region_L (W0 := W0) ((g, .cells #[.func (.func 53) #[.pointer (some ⟨g, 0, none⟩)] #[], .slice p1 segs.length c1, .slice p2 es.length c2, .slice p3 cs.length c3, .slice p4 c.length c4] 52 (0, 0)) :: (K1 ++ (T1 ++ (K2 ++ (T2 ++ (K3 ++ (K4 ++ R))))))) (hW2) ?_
  refine lm (v := .int .i64 ((i : Nat) : Int)) rfl rfl ?_
  refine lp (v := .int .i64 ((p : Nat) : Int)) rfl rfl (run_bin rfl (vx := (.int .i64 ((i : Nat) : Int))) (vy := (.int .i64 ((1 : Nat) : Int))) (by kernel_rfl) (by kernel_rfl) fun w => bn_sub (z := p) (by omega) (by omega) (wr_i64 (by omega)) w) ?_
  refine lm (v := .int .i64 ((p : Nat) : Int)) rfl rfl ?_
  refine lm (v := .int .i64 41) rfl rfl ?_
  refine wpL_done (fun W3 hW3 => ?_)
  refine (show Code.wp _ _ _ _ _ from ?_)
  refine wp_ret ?_
  try simp only [inBlock_ret, then_ret]
  refine bodyPost_ret (v := .tuple #[.int .i64 ((p : Nat) : Int), .int .i64 41]) ?_ rfl ?_
  · kernel_rfl
  · exact ans_bad (K := []) rfl (hW3.sub (fun p hp => by simp only [List.mem_cons, List.mem_append, List.nil_append, List.not_mem_nil, or_assoc, or_false, false_or, List.cons_append, List.append_assoc] at hp ⊢ <;> grind))
theorem fnOf_enter (m : Md) : ∀ (args : Array Value) (w : World), (callFunc (fnOf m) args).run Try.prog w = .ok (.enter (fnOf m) args) w := by
  cases m <;> exact fun args w => by kernel_rfl
theorem step_any {W0 : Base} {g : Nat} {K R : List (Nat × Obj)} {s : Sta} {i r n : Nat} {b : UInt8} (hS : RdS W0 g s K) (hR : Dj K R) (hI : InvS i s) (li : i ≤ 4000000000) (hr : Rn b r n) (w : World) (hw : KS W0 (K ++ R) w) :
    Calls Try.prog (fnOf s.md) #[.pointer (some ⟨g, 0, none⟩), .int .i64 ((i : Nat) : Int), .int .i32 ((r : Nat) : Int)] w fun e w' => ∃ v K', e = .returned v ∧ KS W0 K' w' ∧ Ans W0 g (step i b s) R v K' := by
  obtain ⟨segs, md⟩ := s
  cases md with
  | out => exact between_any hS hR hI.2.1 li hr w hw
  | ins es cs c =>
    obtain ⟨_, h2, h3, _⟩ := hI
    exact inside_any hS hR h2 h3.es2 h3.cs2 (cmp_len h3.c1) li hr w hw
  | rel p es cs c =>
    obtain ⟨_, h2, h3, h4, _⟩ := hI
    exact released_any hS hR (cmp_len h3.c1) li h4 hr w hw
theorem stop_any {W0 : Base} {g : Nat} {K R : List (Nat × Obj)} {s : Sta} {i : Nat} (hS : RdS W0 g s K) (hR : Dj K R) (hI : InvS i s) (li : i ≤ 4000000000) (w : World) (hw : KS W0 (K ++ R) w) :
    Calls Try.prog (fnOf s.md) #[.pointer (some ⟨g, 0, none⟩), .int .i64 ((i : Nat) : Int), .int .i32 (-1)] w fun e w' => ∃ v K', e = .returned v ∧ KS W0 K' w' ∧ Ans W0 g (endR i s) R v K' := by
  obtain ⟨segs, md⟩ := s
  cases md with
  | out => exact stopO_any hS hR li w hw
  | ins es cs c => exact stopI_any hS hR li w hw
  | rel p es cs c => exact stopR_any hS hR li hI.2.2.2.1 w hw
theorem end_endR (n : Nat) (s : Sta) : endS n (.ok s) = match endR n s with | .ok s' => .ok s'.segs | .bad p e => .bad p e := by
  obtain ⟨segs, md⟩ := s
  cases md <;> rfl
theorem step_ne {i p e : Nat} {b : UInt8} {s : Sta} (h : step i b s = .bad p e) : e ≠ 0 := by
  obtain ⟨segs, md⟩ := s
  have hp : ∀ {i : Nat} {es : List Elt} {cs : List Cmp} {c : Cmp}, putc i b segs es cs c = .bad p e → e ≠ 0 := by
    intro i es cs c h
    unfold putc at h
    split at h <;> cases h
    decide
  have hi : ∀ {es : List Elt} {cs : List Cmp} {c : Cmp}, inside i b segs es cs c = .bad p e → e ≠ 0 := by
    intro es cs c h
    unfold inside at h
    split at h
    · cases h; decide
    · split at h
      · cases h
      · split at h
        · split at h <;> cases h
          decide
        · split at h
          · split at h <;> cases h
            decide
          · split at h
            · cases h
            · exact hp h
  cases md with
  | out =>
    simp only [step] at h
    split at h
    · cases h
    · split at h
      · cases h; decide
      · exact hi h
  | ins es cs c => exact hi h
  | rel q es cs c =>
    simp only [step] at h
    split at h
    · exact hp h
    · cases h; decide
theorem step_ok0 {i : Nat} {b : UInt8} {s : Sta} (h : errNo (step i b s) = 0) : ∃ s', step i b s = .ok s' := by
  cases hs : step i b s with
  | ok s' => exact ⟨s', rfl⟩
  | bad p e => rw [hs] at h; exact absurd h (step_ne hs)
theorem endR_ok0 {i : Nat} {s : Sta} (h : errNo (endR i s) = 0) : endR i s = .ok s := by
  obtain ⟨segs, md⟩ := s
  cases md with
  | out => rfl
  | ins es cs c => exact absurd (show (42 : Nat) = 0 from h) (by decide)
  | rel p es cs c => exact absurd (show (41 : Nat) = 0 from h) (by decide)
theorem step_low {i : Nat} {b : UInt8} {s s' : Sta} (h : step i b s = .ok s') : b.toNat < 128 := by
  obtain ⟨segs, md⟩ := s
  have hi : ∀ {es : List Elt} {cs : List Cmp} {c : Cmp}, inside i b segs es cs c = .ok s' → b.toNat < 128 := by
    intro es cs c h
    unfold inside at h
    split at h
    · cases h
    · rename_i hm
      simp [may] at hm
      omega
  cases md with
  | out =>
    simp only [step] at h
    split at h
    · rename_i hg
      simp [gap] at hg
      omega
    · split at h
      · cases h
      · exact hi h
  | ins es cs c => exact hi h
  | rel q es cs c =>
    simp only [step] at h
    split at h
    · rename_i hg
      simp [svc] at hg
      omega
    · cases h
theorem rn_one {b : UInt8} {r n : Nat} (hr : Rn b r n) (h : b.toNat < 128) : n = 1 := by unfold Rn at hr; omega
theorem run_snoc {l : List UInt8} {k : Nat} {b : UInt8} {s s' s0 : Sta} (hb : l[k]? = some b) (h : runS 0 (l.take k) s0 = .ok s) (hs : step k b s = .ok s') : runS 0 (l.take (k + 1)) s0 = .ok s' := by
  have hk := (List.getElem?_eq_some_iff.1 hb).1
  rw [takeL hb, runS_ok h, runS_one, Nat.zero_add, List.length_take, Nat.min_eq_left (by omega)]
  exact hs
theorem run_stops {l : List UInt8} {k p e : Nat} {b : UInt8} {s s0 : Sta} (hb : l[k]? = some b) (h : runS 0 (l.take k) s0 = .ok s) (hs : step k b s = .bad p e) : runS 0 l s0 = .bad p e := by
  have hk := (List.getElem?_eq_some_iff.1 hb).1
  have h1 : runS 0 (l.take (k + 1)) s0 = .bad p e := by
    rw [takeL hb, runS_ok h, runS_one, Nat.zero_add, List.length_take, Nat.min_eq_left (by omega)]
    exact hs
  have := runS_bad (b := l.drop (k + 1)) h1
  rwa [List.take_append_drop] at this
theorem inv_at {l : List UInt8} {k : Nat} {s : Sta} (hk : k ≤ l.length) (h : runS 0 (l.take k) ⟨[], .out⟩ = .ok s) : InvS k s := by
  have := run_inv _ 0 inv_start h
  rwa [Nat.zero_add, List.length_take, Nat.min_eq_left hk] at this
theorem iterPos_of {w : World} {g p : Nat} {s : ByteArray} (h : w.heap[g]? = some (.stringIter s p)) : w.iterPos g = p := by
  unfold World.iterPos
  rw [h]
def RdA (W0 : Base) (l : List UInt8) (v : Value) (T : List (Nat × Obj)) : Prop :=
  ∃ x, v = .tuple #[x, .int .i64 ((errAt (readT l) : Nat) : Int), .int .i64 ((errNo (readT l) : Nat) : Int)] ∧ (∀ A, readT l = .ok A → MkV (SgO W0.B) W0 x A T) ∧ ∀ p e, readT l = .bad p e → x = .slice none 0 0
theorem rda_bad {W0 : Base} {l : List UInt8} {p e : Nat} {w' : World} {K : List (Nat × Obj)} (hr : readT l = .bad p e) (hk : KS W0 K w') : ∃ v T, Ending.returned (.tuple #[.slice none 0 0, .int .i64 ((p : Nat) : Int), .int .i64 ((e : Nat) : Int)]) = .returned v ∧ KS W0 T w' ∧ RdA W0 l v T := by
  refine ⟨_, [], rfl, ⟨hk.1, fun _ h => by cases h⟩, .slice none 0 0, ?_, ?_, ?_⟩
  · rw [hr]; rfl
  · intro A hA; rw [hr] at hA; cases hA
  · intro _ _ _; rfl
theorem rda_ok {W0 : Base} {l : List UInt8} {A : List Sgm} {w' : World} {x : Value} {T : List (Nat × Obj)} (hr : readT l = .ok A) (hk : KS W0 T w') (hx : MkV (SgO W0.B) W0 x A T) : ∃ v T, Ending.returned (.tuple #[x, .int .i64 0, .int .i64 0]) = .returned v ∧ KS W0 T w' ∧ RdA W0 l v T := by
  refine ⟨_, T, rfl, hk, x, ?_, ?_, ?_⟩
  · rw [hr]; rfl
  · intro A' hA; rw [hr] at hA; cases hA; exact hx
  · intro p e h; rw [hr] at h; cases h
theorem read_bad_end {l : List UInt8} {s : Sta} (hb : ¬ 65536 < l.length) (z : runS 0 l ⟨[], .out⟩ = .ok s) (h : ¬ errNo (endR l.length s) = 0) : readT l = .bad (errAt (endR l.length s)) (errNo (endR l.length s)) := by
  unfold readT
  rw [if_neg hb, z, end_endR]
  generalize endR l.length s = r at *
  cases r with
  | ok a => exact absurd rfl h
  | bad p e => rfl
theorem bad_of {α : Type} {r : Res α} (h : ¬ errNo r = 0) : r = .bad (errAt r) (errNo r) := by
  cases r with
  | ok a => exact absurd rfl h
  | bad p e => rfl
end Go.Proofs.Ytppegdbelgobiaa
namespace Go.Proofs.Ytppegdbelgobiaa
open Go Go.RowKit Tw
set_option maxRecDepth 100000 in
set_option maxHeartbeats 4000000 in
theorem Read_any {W0 : Base} (l : List UInt8) (ll : l.length ≤ 4000000000) (w : World) (hw : KS W0 [] w) : Calls Try.prog 15 #[strV l] w fun e w' => ∃ v T, e = .returned v ∧ KS W0 T w' ∧ RdA W0 l v T := by
  go_enter Try.func15, Try.ntmps15
  refine wp_seq ?_
  refine wp_region_L (W0 := W0) [] (hw) ?_
  refine lm (v := .slice none 0 0) rfl rfl ?_
  refine lm (v := .int .i64 0) rfl rfl ?_
  refine lm (v := .int .i64 0) rfl rfl ?_
  refine wpL_done (fun W1 hW1 => ?_)
  refine (show Code.wp _ _ _ _ _ from ?_)
  refine wp_seq ?_
  refine wp_seq ?_
  refine wp_region_L (W0 := W0) [] (hW1) ?_
  refine lm (v := strV l) rfl rfl ?_
  refine lp (v := .int .i64 ((l.length : Nat) : Int)) rfl rfl (run_lenS (l := l) rfl Try.underlying9 (by kernel_rfl)) ?_
  refine lp (v := .bool (decide (65536 < l.length))) rfl rfl (run_bin rfl (vx := (.int .i64 ((l.length : Nat) : Int))) (vy := (.int .i64 ((65536 : Nat) : Int))) (by kernel_rfl) (by kernel_rfl) fun w => bn_gtr rfl w) ?_
  refine wpL_done (fun W2 hW2 => ?_)
  refine (show Code.wp _ _ _ _ _ from ?_)
  cases hd1 : (decide (65536 < l.length)) with
  | false =>
    have h1 : ¬ (65536 < l.length) := of_decide_eq_false hd1
    clear hd1
    refine wp_cond_false rfl ?_
    refine wp_skip ?_
    refine (show Code.wp _ _ _ _ _ from ?_)
    refine wp_seq ?_
    refine wp_region_L (W0 := W0) [] (hW2) ?_
    refine wpL_new (fun g => .pointer (some ⟨g, 0, none⟩)) (obi := .cells #[.nilFunc, .slice none 0 0, .slice none 0 0, .slice none 0 0, .slice none 0 0] 52 (0, 0)) rfl rfl (fun _ => by kernel_rfl) (fun _ => by simp only [List.setIfInBounds_toArray, List.set_cons_succ, List.set_cons_zero] <;> rfl) fun g1 Bg1 Fg1 => ?_
    refine lm (v := .pointer (some ⟨g1, 0, none⟩)) rfl rfl ?_
    refine wpL_done (fun W3 hW3 => ?_)
    refine (show Code.wp _ _ _ _ _ from ?_)
    refine wp_seq ?_
    refine wp_region_L (W0 := W0) [(g1, .cells #[.nilFunc, .slice none 0 0, .slice none 0 0, .slice none 0 0, .slice none 0 0] 52 (0, 0))] (hW3) ?_
    refine lm (v := .pointer (some ⟨g1, 0, none⟩)) rfl rfl ?_
    refine lm (v := .pointer (some ⟨g1, 0, none⟩)) rfl rfl ?_
    refine lm (v := .func (.func 25) #[.pointer (some ⟨g1, 0, none⟩)] #[]) rfl rfl ?_
    refine lm (v := .pointer (some ⟨g1, 0, none⟩)) rfl rfl ?_
    refine lm (v := .pointer (some ⟨g1, 0, none⟩)) rfl rfl ?_
    refine wpL_s [(g1, .cells #[.func (.func 25) #[.pointer (some ⟨g1, 0, none⟩)] #[], .slice none 0 0, .slice none 0 0, .slice none 0 0, .slice none 0 0] 52 (0, 0))] rfl rfl (st_row (off := 0) (v := .func (.func 25) #[.pointer (some ⟨g1, 0, none⟩)] #[]) rfl (by kernel_rfl) (by kernel_rfl) (.head _) Bg1 (by kernel_rfl) (by simp [Value.cells]) (by intro v hv; simp [Value.cells] at hv; first | (subst hv; rfl) | (rcases hv with rfl <;> rfl)) (by kernel_rfl) (List.forall_mem_cons.2 ⟨.inl rfl, (List.forall_mem_nil _)⟩)) ?_
    refine wpL_done (fun W4 hW4 => ?_)
    refine (show Code.wp _ _ _ _ _ from ?_)
    refine wp_seq ?_
    refine wp_seq ?_
    refine wp_region_L (W0 := W0) [(g1, .cells #[.func (.func 25) #[.pointer (some ⟨g1, 0, none⟩)] #[], .slice none 0 0, .slice none 0 0, .slice none 0 0, .slice none 0 0] 52 (0, 0))] (hW4) ?_
    refine lm (v := strV l) rfl rfl ?_
    refine wpL_new (fun g => .pointer (some ⟨g, 0, none⟩)) (obi := .stringIter ⟨l.toArray⟩ 0) rfl rfl (rg_str (l := l) rfl Try.underlying9 (by kernel_rfl)) (fun _ => by simp only [List.setIfInBounds_toArray, List.set_cons_succ, List.set_cons_zero] <;> rfl) fun g2 Bg2 Fg2 => ?_
    obtain dj3_0 : g1 ≠ g2 := by simpa only [dj_app_l, dj_app_r, dj_cons_l, dj_cons_r, dj_nil_l, dj_nil_r, dk_app, dk_cons, dk_nil, and_true, true_and, and_assoc] using (show Dk g2 [(g1, .cells #[.func (.func 25) #[.pointer (some ⟨g1, 0, none⟩)] #[], .slice none 0 0, .slice none 0 0, .slice none 0 0, .slice none 0 0] 52 (0, 0))] from Fg2)
    refine wpL_done (fun W5 hW5 => ?_)
    refine (show Code.wp _ _ _ _ _ from ?_)
    refine wp_block ?_
    go_loopw [] (fun  wr => ∃ (k : Nat) (s : Sta) (Kr : List (Nat × Obj)), (k ≤ l.length) ∧ (runS 0 (l.take k) ⟨[], .out⟩ = .ok s) ∧ (RdS W0 g1 s Kr) ∧ (Dj Kr [(g2, .stringIter ⟨l.toArray⟩ k)]) ∧ KS W0 ((g2, .stringIter ⟨l.toArray⟩ k) :: Kr) wr) (fun  wz => l.length - World.iterPos wz g2)
    case atStart => exact ⟨0, ⟨[], .out⟩, [(g1, .cells #[.func (.func 25) #[.pointer (some ⟨g1, 0, none⟩)] #[], .slice none 0 0, .slice none 0 0, .slice none 0 0, .slice none 0 0] 52 (0, 0))], (Nat.zero_le _), rfl, (show RdS W0 g1 ⟨[], .out⟩ [(g1, .cells #[.func (.func 25) #[.pointer (some ⟨g1, 0, none⟩)] #[], .slice none 0 0, .slice none 0 0, .slice none 0 0, .slice none 0 0] 52 (0, 0))] from ⟨_, _, _, _, _, _, _, _, _, _, _, _, _, _, _, _, [], [], [], [], [], [], rfl, rfl, rfl, rfl, rfl, rfl, rfl, Bg1, OwnL.nil _ _ _, MkE.nil, OwnL.nil _ _ _, MkE.nil, OwnL.nil _ _ _, OwnL.nil _ _ _, (show Dk g1 ([] ++ ([] ++ ([] ++ ([] ++ ([] ++ []))))) from fun _ h => by cases h), (fun _ h => by cases h), (fun _ h => by cases h), (fun _ h => by cases h), (fun _ h => by cases h), (fun _ h => by cases h)⟩), (show Dj [(g1, .cells #[.func (.func 25) #[.pointer (some ⟨g1, 0, none⟩)] #[], .slice none 0 0, .slice none 0 0, .slice none 0 0, .slice none 0 0] 52 (0, 0))] [(g2, .stringIter ⟨l.toArray⟩ 0)] from (by (try simp only [dj_app_l, dj_app_r, dj_cons_l, dj_cons_r, dj_nil_l, dj_nil_r, dk_app, dk_cons, dk_nil, and_true, true_and, and_assoc]); repeat' (first | trivial | assumption | exact Dj.symm (by assumption) | exact Ne.symm (by assumption) | apply And.intro))), (hW5.sub (fun p hp => by first | exact hp | (simp only [List.mem_cons, List.mem_append, List.nil_append, List.not_mem_nil, or_assoc, or_false, false_or, List.cons_append, List.append_assoc] at hp ⊢ <;> grind)))⟩
    case round =>
      obtain ⟨k, s, Kr, hk, hI, hS, hD, hL6⟩ := hrel
      have hInv := inv_at hk hI
      have hSo : RdV W0 g1 (.func (.func (fnOf s.md)) #[.pointer (some ⟨g1, 0, none⟩)] #[]) s.segs (esOf s.md) (csOf s.md) (cOf s.md) Kr := hS
      obtain ⟨p1o, p2o, p3o, p4o, _, _, _, _, c1o, c2o, c3o, c4o, x1o, x2o, _, _, K1o, T1o, K2o, T2o, K3o, K4o, rfl, rfl, rfl, rfl, rfl, rfl, rfl, hBo, O1o, E1o, O2o, E2o, O3o, O4o, dgo, d1o, d2o, d3o, d4o, d5o⟩ := hSo
      obtain ⟨dj4_0, dj4_1, dj4_2, dj4_3, dj4_4, dj4_5⟩ : Dk g1 K1o ∧ Dk g1 T1o ∧ Dk g1 K2o ∧ Dk g1 T2o ∧ Dk g1 K3o ∧ Dk g1 K4o := by simpa only [dj_app_l, dj_app_r, dj_cons_l, dj_cons_r, dj_nil_l, dj_nil_r, dk_app, dk_cons, dk_nil, and_true, true_and, and_assoc] using (show Dk g1 (K1o ++ (T1o ++ (K2o ++ (T2o ++ (K3o ++ K4o))))) from dgo)
      obtain ⟨dj5_0, dj5_1, dj5_2, dj5_3, dj5_4⟩ : Dj K1o T1o ∧ Dj K1o K2o ∧ Dj K1o T2o ∧ Dj K1o K3o ∧ Dj K1o K4o := by simpa only [dj_app_l, dj_app_r, dj_cons_l, dj_cons_r, dj_nil_l, dj_nil_r, dk_app, dk_cons, dk_nil, and_true, true_and, and_assoc] using (show Dj K1o (T1o ++ (K2o ++ (T2o ++ (K3o ++ K4o)))) from d1o)
      obtain ⟨dj6_0, dj6_1, dj6_2, dj6_3⟩ : Dj T1o K2o ∧ Dj T1o T2o ∧ Dj T1o K3o ∧ Dj T1o K4o := by simpa only [dj_app_l, dj_app_r, dj_cons_l, dj_cons_r, dj_nil_l, dj_nil_r, dk_app, dk_cons, dk_nil, and_true, true_and, and_assoc] using (show Dj T1o (K2o ++ (T2o ++ (K3o ++ K4o))) from d2o)
      obtain ⟨dj7_0, dj7_1, dj7_2⟩ : Dj K2o T2o ∧ Dj K2o K3o ∧ Dj K2o K4o := by simpa only [dj_app_l, dj_app_r, dj_cons_l, dj_cons_r, dj_nil_l, dj_nil_r, dk_app, dk_cons, dk_nil, and_true, true_and, and_assoc] using (show Dj K2o (T2o ++ (K3o ++ K4o)) from d3o)
      obtain ⟨dj8_0, dj8_1⟩ : Dj T2o K3o ∧ Dj T2o K4o := by simpa only [dj_app_l, dj_app_r, dj_cons_l, dj_cons_r, dj_nil_l, dj_nil_r, dk_app, dk_cons, dk_nil, and_true, true_and, and_assoc] using (show Dj T2o (K3o ++ K4o) from d4o)
      obtain dj9_0 : Dj K3o K4o := by simpa only [dj_app_l, dj_app_r, dj_cons_l, dj_cons_r, dj_nil_l, dj_nil_r, dk_app, dk_cons, dk_nil, and_true, true_and, and_assoc] using (show Dj K3o K4o from d5o)
      obtain ⟨dj10_0, dj10_1, dj10_2, dj10_3, dj10_4, dj10_5, dj10_6⟩ : g1 ≠ g2 ∧ Dk g2 K1o ∧ Dk g2 T1o ∧ Dk g2 K2o ∧ Dk g2 T2o ∧ Dk g2 K3o ∧ Dk g2 K4o := by simpa only [dj_app_l, dj_app_r, dj_cons_l, dj_cons_r, dj_nil_l, dj_nil_r, dk_app, dk_cons, dk_nil, and_true, true_and, and_assoc] using (show Dj ((g1, .cells #[.func (.func (fnOf s.md)) #[.pointer (some ⟨g1, 0, none⟩)] #[], .slice p1o s.segs.length c1o, .slice p2o (esOf s.md).length c2o, .slice p3o (csOf s.md).length c3o, .slice p4o (cOf s.md).length c4o] 52 (0, 0)) :: (K1o ++ (T1o ++ (K2o ++ (T2o ++ (K3o ++ K4o)))))) [(g2, .stringIter ⟨l.toArray⟩ k)] from hD)
      refine wp_seq ?_
      refine wp_region_L (W0 := W0) ((g1, .cells #[.func (.func (fnOf s.md)) #[.pointer (some ⟨g1, 0, none⟩)] #[], .slice p1o s.segs.length c1o, .slice p2o (esOf s.md).length c2o, .slice p3o (csOf s.md).length c3o, .slice p4o (cOf s.md).length c4o] 52 (0, 0)) :: (g2, .stringIter ⟨l.toArray⟩ k) :: (K1o ++ (T1o ++ (K2o ++ (T2o ++ (K3o ++ K4o)))))) ((hL6.sub (fun p hp => by simp only [List.mem_cons, List.mem_append, List.nil_append, List.not_mem_nil, or_assoc, or_false, false_or, List.cons_append, List.append_assoc] at hp ⊢ <;> grind))) ?_
      cases hd2 : (decide (k < l.length)) with
      | false =>
        have h2 : ¬ (k < l.length) := of_decide_eq_false hd2
        clear hd2
        refine lv (v := .tuple #[.bool false]) rfl rfl (nx_end (l := l) (k := k) rfl (by kernel_rfl) (.tail _ (.head _)) h2) ?_
        refine lm (v := .bool false) rfl rfl ?_
        refine wpL_done (fun W7 hW7 => ?_)
        refine (show Code.wp _ _ _ _ _ from ?_)
        refine wp_seq ?_
        refine wp_cond_false rfl ?_
        refine wp_exit ?_
        refine (show Code.wp _ _ _ _ _ from ?_)
        refine wp_seq ?_
        refine wp_seq ?_
        refine wp_region_L (W0 := W0) ((g1, .cells #[.func (.func (fnOf s.md)) #[.pointer (some ⟨g1, 0, none⟩)] #[], .slice p1o s.segs.length c1o, .slice p2o (esOf s.md).length c2o, .slice p3o (csOf s.md).length c3o, .slice p4o (cOf s.md).length c4o] 52 (0, 0)) :: (g2, .stringIter ⟨l.toArray⟩ k) :: (K1o ++ (T1o ++ (K2o ++ (T2o ++ (K3o ++ K4o)))))) (hW7) ?_
        refine lm (v := .pointer (some ⟨g1, 0, none⟩)) rfl rfl ?_
        refine lm (v := .pointer (some ⟨g1, 0, none⟩)) rfl rfl ?_
        refine lm (v := .pointer (some ⟨g1, 0, none⟩)) rfl rfl ?_
        refine lv (v := .func (.func (fnOf s.md)) #[.pointer (some ⟨g1, 0, none⟩)] #[]) rfl rfl (yb_cell (off := 0) rfl (by kernel_rfl) (.head _) Try.underlying50 rfl (by kernel_rfl)) ?_
        refine lm (v := strV l) rfl rfl ?_
        refine lp (v := .int .i64 ((l.length : Nat) : Int)) rfl rfl (run_lenS (l := l) rfl Try.underlying9 (by kernel_rfl)) ?_
        refine wpL_c (f := fnOf s.md) (args := #[.pointer (some ⟨g1, 0, none⟩), .int .i64 ((l.length : Nat) : Int), .int .i32 (-1)]) (Ans W0 g1 (endR l.length s) [(g2, .stringIter ⟨l.toArray⟩ k)]) rfl (by kernel_rfl) (fun w => run_callm rfl (by kernel_rfl) (by kernel_rfl) (by kernel_rfl) (fnOf_enter s.md) w) (fun W hW => stop_any (K := ((g1, .cells #[.func (.func (fnOf s.md)) #[.pointer (some ⟨g1, 0, none⟩)] #[], .slice p1o s.segs.length c1o, .slice p2o (esOf s.md).length c2o, .slice p3o (csOf s.md).length c3o, .slice p4o (cOf s.md).length c4o] 52 (0, 0)) :: (K1o ++ (T1o ++ (K2o ++ (T2o ++ (K3o ++ K4o))))))) ⟨_, _, _, _, _, _, _, _, _, _, _, _, _, _, _, _, K1o, T1o, K2o, T2o, K3o, K4o, (by simp [esOf, csOf, cOf]), (by simp [esOf, csOf, cOf]), (by simp [esOf, csOf, cOf]), (by simp [esOf, csOf, cOf]), rfl, rfl, rfl, hBo, O1o, E1o, O2o, E2o, O3o, O4o, (show Dk g1 (K1o ++ (T1o ++ (K2o ++ (T2o ++ (K3o ++ K4o))))) from (by (try simp only [dj_app_l, dj_app_r, dj_cons_l, dj_cons_r, dj_nil_l, dj_nil_r, dk_app, dk_cons, dk_nil, and_true, true_and, and_assoc]); repeat' (first | trivial | assumption | exact Dj.symm (by assumption) | exact Ne.symm (by assumption) | apply And.intro))), (show Dj K1o (T1o ++ (K2o ++ (T2o ++ (K3o ++ K4o)))) from (by (try simp only [dj_app_l, dj_app_r, dj_cons_l, dj_cons_r, dj_nil_l, dj_nil_r, dk_app, dk_cons, dk_nil, and_true, true_and, and_assoc]); repeat' (first | trivial | assumption | exact Dj.symm (by assumption) | exact Ne.symm (by assumption) | apply And.intro))), (show Dj T1o (K2o ++ (T2o ++ (K3o ++ K4o))) from (by (try simp only [dj_app_l, dj_app_r, dj_cons_l, dj_cons_r, dj_nil_l, dj_nil_r, dk_app, dk_cons, dk_nil, and_true, true_and, and_assoc]); repeat' (first | trivial | assumption | exact Dj.symm (by assumption) | exact Ne.symm (by assumption) | apply And.intro))), (show Dj K2o (T2o ++ (K3o ++ K4o)) from (by (try simp only [dj_app_l, dj_app_r, dj_cons_l, dj_cons_r, dj_nil_l, dj_nil_r, dk_app, dk_cons, dk_nil, and_true, true_and, and_assoc]); repeat' (first | trivial | assumption | exact Dj.symm (by assumption) | exact Ne.symm (by assumption) | apply And.intro))), (show Dj T2o (K3o ++ K4o) from (by (try simp only [dj_app_l, dj_app_r, dj_cons_l, dj_cons_r, dj_nil_l, dj_nil_r, dk_app, dk_cons, dk_nil, and_true, true_and, and_assoc]); repeat' (first | trivial | assumption | exact Dj.symm (by assumption) | exact Ne.symm (by assumption) | apply And.intro))), (show Dj K3o K4o from (by (try simp only [dj_app_l, dj_app_r, dj_cons_l, dj_cons_r, dj_nil_l, dj_nil_r, dk_app, dk_cons, dk_nil, and_true, true_and, and_assoc]); repeat' (first | trivial | assumption | exact Dj.symm (by assumption) | exact Ne.symm (by assumption) | apply And.intro)))⟩ (show Dj ((g1, .cells #[.func (.func (fnOf s.md)) #[.pointer (some ⟨g1, 0, none⟩)] #[], .slice p1o s.segs.length c1o, .slice p2o (esOf s.md).length c2o, .slice p3o (csOf s.md).length c3o, .slice p4o (cOf s.md).length c4o] 52 (0, 0)) :: (K1o ++ (T1o ++ (K2o ++ (T2o ++ (K3o ++ K4o)))))) [(g2, .stringIter ⟨l.toArray⟩ k)] from (by (try simp only [dj_app_l, dj_app_r, dj_cons_l, dj_cons_r, dj_nil_l, dj_nil_r, dk_app, dk_cons, dk_nil, and_true, true_and, and_assoc]); repeat' (first | trivial | assumption | exact Dj.symm (by assumption) | exact Ne.symm (by assumption) | apply And.intro))) (by have e : k = l.length := (by omega); rw [← e]; exact hInv) ll W (hW.sub (fun p hp => by simp only [List.mem_cons, List.mem_append, List.nil_append, List.not_mem_nil, or_assoc, or_false, false_or, List.cons_append, List.append_assoc] at hp ⊢ <;> grind))) (fun _ => by simp only [List.setIfInBounds_toArray, List.set_cons_succ, List.set_cons_zero] <;> rfl) ?_
        rintro _ K9 ⟨rfl, K2e, rfl, hVe⟩
        refine lm (v := .tuple #[.int .i64 (((errAt (endR l.length s)) : Nat) : Int), .int .i64 (((errNo (endR l.length s)) : Nat) : Int)]) rfl rfl ?_
        refine lm (v := .int .i64 (((errAt (endR l.length s)) : Nat) : Int)) rfl rfl ?_
        refine lm (v := .int .i64 (((errNo (endR l.length s)) : Nat) : Int)) rfl rfl ?_
        refine lm (v := .int .i64 (((errAt (endR l.length s)) : Nat) : Int)) rfl rfl ?_
        refine lm (v := .int .i64 (((errNo (endR l.length s)) : Nat) : Int)) rfl rfl ?_
        refine wpL_done (fun W8 hW8 => ?_)
        refine (show Code.wp _ _ _ _ _ from ?_)
        refine wp_seq ?_
        refine wp_region_L (W0 := W0) ((g2, .stringIter ⟨l.toArray⟩ k) :: K2e) ((hW8.sub (fun p hp => by simp only [List.mem_cons, List.mem_append, List.nil_append, List.not_mem_nil, or_assoc, or_false, false_or, List.cons_append, List.append_assoc] at hp ⊢ <;> grind))) ?_
        refine lm (v := .int .i64 (((errNo (endR l.length s)) : Nat) : Int)) rfl rfl ?_
        refine lp (v := .bool (!(decide ((errNo (endR l.length s)) = 0)))) rfl rfl (run_bin rfl (vx := (.int .i64 (((errNo (endR l.length s)) : Nat) : Int))) (vy := (.int .i64 ((0 : Nat) : Int))) (by kernel_rfl) (by kernel_rfl) fun w => bn_neq rfl w) ?_
        refine wpL_done (fun W9 hW9 => ?_)
        refine (show Code.wp _ _ _ _ _ from ?_)
        cases hd3 : (decide ((errNo (endR l.length s)) = 0)) with
        | false =>
          have h3 : ¬ ((errNo (endR l.length s)) = 0) := of_decide_eq_false hd3
          clear hd3
          refine wp_cond_true rfl ?_
          refine wp_seq ?_
          refine wp_region_L (W0 := W0) ((g2, .stringIter ⟨l.toArray⟩ k) :: K2e) (hW9) ?_
          refine lm (v := .int .i64 (((errAt (endR l.length s)) : Nat) : Int)) rfl rfl ?_
          refine lm (v := .int .i64 (((errNo (endR l.length s)) : Nat) : Int)) rfl rfl ?_
          refine lm (v := .slice none 0 0) rfl rfl ?_
          refine lm (v := .int .i64 (((errAt (endR l.length s)) : Nat) : Int)) rfl rfl ?_
          refine lm (v := .int .i64 (((errNo (endR l.length s)) : Nat) : Int)) rfl rfl ?_
          refine wpL_done (fun W10 hW10 => ?_)
          refine (show Code.wp _ _ _ _ _ from ?_)
          refine wp_ret ?_
          try simp only [inBlock_ret, then_ret]
          refine bodyPost_ret (v := .tuple #[.slice none 0 0, .int .i64 (((errAt (endR l.length s)) : Nat) : Int), .int .i64 (((errNo (endR l.length s)) : Nat) : Int)]) ?_ rfl ?_
          · kernel_rfl
          · exact rda_bad (by have z : runS 0 l ⟨[], .out⟩ = .ok s := (by have z := hI; rw [List.take_of_length_le (by omega)] at z; exact z); exact read_bad_end h1 z h3) hW10
        | true =>
          have h3 : (errNo (endR l.length s)) = 0 := of_decide_eq_true hd3
          clear hd3
          have he := endR_ok0 h3
          obtain ⟨hSz, hDz⟩ := hVe s he
          have hSz : RdV W0 g1 (.func (.func (fnOf s.md)) #[.pointer (some ⟨g1, 0, none⟩)] #[]) s.segs (esOf s.md) (csOf s.md) (cOf s.md) K2e := hSz
          obtain ⟨p1z, p2z, p3z, p4z, _, _, _, _, c1z, c2z, c3z, c4z, x1z, x2z, _, _, K1z, T1z, K2z, T2z, K3z, K4z, rfl, rfl, rfl, rfl, rfl, rfl, rfl, hBz, O1z, E1z, O2z, E2z, O3z, O4z, dgz, d1z, d2z, d3z, d4z, d5z⟩ := hSz
          obtain ⟨dj11_0, dj11_1, dj11_2, dj11_3, dj11_4, dj11_5⟩ : Dk g1 K1z ∧ Dk g1 T1z ∧ Dk g1 K2z ∧ Dk g1 T2z ∧ Dk g1 K3z ∧ Dk g1 K4z := by simpa only [dj_app_l, dj_app_r, dj_cons_l, dj_cons_r, dj_nil_l, dj_nil_r, dk_app, dk_cons, dk_nil, and_true, true_and, and_assoc] using (show Dk g1 (K1z ++ (T1z ++ (K2z ++ (T2z ++ (K3z ++ K4z))))) from dgz)
          obtain ⟨dj12_0, dj12_1, dj12_2, dj12_3, dj12_4⟩ : Dj K1z T1z ∧ Dj K1z K2z ∧ Dj K1z T2z ∧ Dj K1z K3z ∧ Dj K1z K4z := by simpa only [dj_app_l, dj_app_r, dj_cons_l, dj_cons_r, dj_nil_l, dj_nil_r, dk_app, dk_cons, dk_nil, and_true, true_and, and_assoc] using (show Dj K1z (T1z ++ (K2z ++ (T2z ++ (K3z ++ K4z)))) from d1z)
          obtain ⟨dj13_0, dj13_1, dj13_2, dj13_3⟩ : Dj T1z K2z ∧ Dj T1z T2z ∧ Dj T1z K3z ∧ Dj T1z K4z := by simpa only [dj_app_l, dj_app_r, dj_cons_l, dj_cons_r, dj_nil_l, dj_nil_r, dk_app, dk_cons, dk_nil, and_true, true_and, and_assoc] using (show Dj T1z (K2z ++ (T2z ++ (K3z ++ K4z))) from d2z)
          obtain ⟨dj14_0, dj14_1, dj14_2⟩ : Dj K2z T2z ∧ Dj K2z K3z ∧ Dj K2z K4z := by simpa only [dj_app_l, dj_app_r, dj_cons_l, dj_cons_r, dj_nil_l, dj_nil_r, dk_app, dk_cons, dk_nil, and_true, true_and, and_assoc] using (show Dj K2z (T2z ++ (K3z ++ K4z)) from d3z)
          obtain ⟨dj15_0, dj15_1⟩ : Dj T2z K3z ∧ Dj T2z K4z := by simpa only [dj_app_l, dj_app_r, dj_cons_l, dj_cons_r, dj_nil_l, dj_nil_r, dk_app, dk_cons, dk_nil, and_true, true_and, and_assoc] using (show Dj T2z (K3z ++ K4z) from d4z)
          obtain dj16_0 : Dj K3z K4z := by simpa only [dj_app_l, dj_app_r, dj_cons_l, dj_cons_r, dj_nil_l, dj_nil_r, dk_app, dk_cons, dk_nil, and_true, true_and, and_assoc] using (show Dj K3z K4z from d5z)
          obtain ⟨dj17_0, dj17_1, dj17_2, dj17_3, dj17_4, dj17_5, dj17_6⟩ : g1 ≠ g2 ∧ Dk g2 K1z ∧ Dk g2 T1z ∧ Dk g2 K2z ∧ Dk g2 T2z ∧ Dk g2 K3z ∧ Dk g2 K4z := by simpa only [dj_app_l, dj_app_r, dj_cons_l, dj_cons_r, dj_nil_l, dj_nil_r, dk_app, dk_cons, dk_nil, and_true, true_and, and_assoc] using (show Dj ((g1, .cells #[.func (.func (fnOf s.md)) #[.pointer (some ⟨g1, 0, none⟩)] #[], .slice p1z s.segs.length c1z, .slice p2z (esOf s.md).length c2z, .slice p3z (csOf s.md).length c3z, .slice p4z (cOf s.md).length c4z] 52 (0, 0)) :: (K1z ++ (T1z ++ (K2z ++ (T2z ++ (K3z ++ K4z)))))) [(g2, .stringIter ⟨l.toArray⟩ k)] from hDz)
          refine wp_cond_false rfl ?_
          refine wp_skip ?_
          refine (show Code.wp _ _ _ _ _ from ?_)
          refine wp_seq ?_
          refine wp_region_L (W0 := W0) ((g1, .cells #[.func (.func (fnOf s.md)) #[.pointer (some ⟨g1, 0, none⟩)] #[], .slice p1z s.segs.length c1z, .slice p2z (esOf s.md).length c2z, .slice p3z (csOf s.md).length c3z, .slice p4z (cOf s.md).length c4z] 52 (0, 0)) :: (g2, .stringIter ⟨l.toArray⟩ k) :: (K1z ++ (T1z ++ (K2z ++ (T2z ++ (K3z ++ K4z)))))) ((hW9.sub (fun p hp => by simp only [List.mem_cons, List.mem_append, List.nil_append, List.not_mem_nil, or_assoc, or_false, false_or, List.cons_append, List.append_assoc] at hp ⊢ <;> grind))) ?_
          refine lm (v := .pointer (some ⟨g1, 0, none⟩)) rfl rfl ?_
          refine lm (v := .pointer (some ⟨g1, 0, none⟩)) rfl rfl ?_
          refine lm (v := .pointer (some ⟨g1, 1, none⟩)) rfl rfl ?_
          refine lv (v := .slice p1z s.segs.length c1z) rfl rfl (yb_cell (off := 1) rfl (by kernel_rfl) (.head _) Try.underlying24 rfl (by kernel_rfl)) ?_
          refine lm (v := .slice p1z s.segs.length c1z) rfl rfl ?_
          refine lm (v := .int .i64 0) rfl rfl ?_
          refine lm (v := .int .i64 0) rfl rfl ?_
          refine wpL_done (fun W11 hW11 => ?_)
          refine (show Code.wp _ _ _ _ _ from ?_)
          refine wp_ret ?_
          try simp only [inBlock_ret, then_ret]
          refine bodyPost_ret (v := .tuple #[.slice p1z s.segs.length c1z, .int .i64 0, .int .i64 0]) ?_ rfl ?_
          · kernel_rfl
          · exact rda_ok (A := s.segs) (by have z : runS 0 l ⟨[], .out⟩ = .ok s := (by have z := hI; rw [List.take_of_length_le (by omega)] at z; exact z); unfold readT; rw [if_neg h1, z, end_endR, he]) (hW11.sub (fun p hp => by simp only [List.mem_cons, List.mem_append, List.nil_append, List.not_mem_nil, or_assoc, or_false, false_or, List.cons_append, List.append_assoc] at hp ⊢ <;> grind)) (MkE.own O1z E1z rfl)
      | true =>
        have h2 : k < l.length := of_decide_eq_true hd2
        clear hd2
        obtain ⟨b18, hb18⟩ : ∃ b, (l : List UInt8)[k]? = some b := ⟨_, List.getElem?_eq_getElem (by omega)⟩
        have lb18 := b18.toNat_lt
        refine wpL_g (NxO l k b18 (fun n => ((g1, .cells #[.func (.func (fnOf s.md)) #[.pointer (some ⟨g1, 0, none⟩)] #[], .slice p1o s.segs.length c1o, .slice p2o (esOf s.md).length c2o, .slice p3o (csOf s.md).length c3o, .slice p4o (cOf s.md).length c4o] 52 (0, 0)) :: (g2, .stringIter ⟨l.toArray⟩ (k + n)) :: (K1o ++ (T1o ++ (K2o ++ (T2o ++ (K3o ++ K4o)))))))) rfl rfl (nx_some (Kf := fun n => ((g1, .cells #[.func (.func (fnOf s.md)) #[.pointer (some ⟨g1, 0, none⟩)] #[], .slice p1o s.segs.length c1o, .slice p2o (esOf s.md).length c2o, .slice p3o (csOf s.md).length c3o, .slice p4o (cOf s.md).length c4o] 52 (0, 0)) :: (g2, .stringIter ⟨l.toArray⟩ (k + n)) :: (K1o ++ (T1o ++ (K2o ++ (T2o ++ (K3o ++ K4o))))))) rfl (by kernel_rfl) (.tail _ (.head _)) Bg2 hb18 (fun n => (List.forall_mem_cons.2 ⟨.inr ⟨(.head _), (by first | assumption | exact Ne.symm (by assumption))⟩, (List.forall_mem_cons.2 ⟨.inl rfl, (fun p hp => .inr ⟨(.tail _ (.tail _ hp)), ((show Dk g2 (K1o ++ (T1o ++ (K2o ++ (T2o ++ (K3o ++ K4o))))) from (by (try simp only [dj_app_l, dj_app_r, dj_cons_l, dj_cons_r, dj_nil_l, dj_nil_r, dk_app, dk_cons, dk_nil, and_true, true_and, and_assoc]); repeat' (first | trivial | assumption | exact Dj.symm (by assumption) | exact Ne.symm (by assumption) | apply And.intro))) _ hp)⟩)⟩)⟩))) (fun _ => by simp only [List.setIfInBounds_toArray, List.set_cons_succ, List.set_cons_zero] <;> rfl) ?_
        rintro _ K9 ⟨r19, n19, rfl, rfl, hr19⟩
        refine lm (v := .bool true) rfl rfl ?_
        refine wpL_done (fun W12 hW12 => ?_)
        refine (show Code.wp _ _ _ _ _ from ?_)
        refine wp_seq ?_
        refine wp_cond_true rfl ?_
        refine wp_skip ?_
        refine (show Code.wp _ _ _ _ _ from ?_)
        refine wp_block ?_
        refine wp_seq ?_
        refine wp_region_L (W0 := W0) ((g1, .cells #[.func (.func (fnOf s.md)) #[.pointer (some ⟨g1, 0, none⟩)] #[], .slice p1o s.segs.length c1o, .slice p2o (esOf s.md).length c2o, .slice p3o (csOf s.md).length c3o, .slice p4o (cOf s.md).length c4o] 52 (0, 0)) :: (g2, .stringIter ⟨l.toArray⟩ (k + n19)) :: (K1o ++ (T1o ++ (K2o ++ (T2o ++ (K3o ++ K4o)))))) (hW12) ?_
        refine lm (v := .int .i64 ((k : Nat) : Int)) rfl rfl ?_
        refine lm (v := .int .i32 ((r19 : Nat) : Int)) rfl rfl ?_
        refine lm (v := .int .i64 ((k : Nat) : Int)) rfl rfl ?_
        refine lm (v := .int .i32 ((r19 : Nat) : Int)) rfl rfl ?_
        refine wpL_done (fun W13 hW13 => ?_)
        refine (show Code.wp _ _ _ _ _ from ?_)
        refine wp_seq ?_
        refine wp_region_L (W0 := W0) ((g1, .cells #[.func (.func (fnOf s.md)) #[.pointer (some ⟨g1, 0, none⟩)] #[], .slice p1o s.segs.length c1o, .slice p2o (esOf s.md).length c2o, .slice p3o (csOf s.md).length c3o, .slice p4o (cOf s.md).length c4o] 52 (0, 0)) :: (g2, .stringIter ⟨l.toArray⟩ (k + n19)) :: (K1o ++ (T1o ++ (K2o ++ (T2o ++ (K3o ++ K4o)))))) (hW13) ?_
        refine lm (v := .pointer (some ⟨g1, 0, none⟩)) rfl rfl ?_
        refine lm (v := .pointer (some ⟨g1, 0, none⟩)) rfl rfl ?_
        refine lm (v := .pointer (some ⟨g1, 0, none⟩)) rfl rfl ?_
        refine lv (v := .func (.func (fnOf s.md)) #[.pointer (some ⟨g1, 0, none⟩)] #[]) rfl rfl (yb_cell (off := 0) rfl (by kernel_rfl) (.head _) Try.underlying50 rfl (by kernel_rfl)) ?_
        refine lm (v := .int .i64 ((k : Nat) : Int)) rfl rfl ?_
        refine lm (v := .int .i32 ((r19 : Nat) : Int)) rfl rfl ?_
        refine wpL_c (f := fnOf s.md) (args := #[.pointer (some ⟨g1, 0, none⟩), .int .i64 ((k : Nat) : Int), .int .i32 ((r19 : Nat) : Int)]) (Ans W0 g1 (step k b18 s) [(g2, .stringIter ⟨l.toArray⟩ (k + n19))]) rfl (by kernel_rfl) (fun w => run_callm rfl (by kernel_rfl) (by kernel_rfl) (by kernel_rfl) (fnOf_enter s.md) w) (fun W hW => step_any (K := ((g1, .cells #[.func (.func (fnOf s.md)) #[.pointer (some ⟨g1, 0, none⟩)] #[], .slice p1o s.segs.length c1o, .slice p2o (esOf s.md).length c2o, .slice p3o (csOf s.md).length c3o, .slice p4o (cOf s.md).length c4o] 52 (0, 0)) :: (K1o ++ (T1o ++ (K2o ++ (T2o ++ (K3o ++ K4o))))))) ⟨_, _, _, _, _, _, _, _, _, _, _, _, _, _, _, _, K1o, T1o, K2o, T2o, K3o, K4o, (by simp [esOf, csOf, cOf]), (by simp [esOf, csOf, cOf]), (by simp [esOf, csOf, cOf]), (by simp [esOf, csOf, cOf]), rfl, rfl, rfl, hBo, O1o, E1o, O2o, E2o, O3o, O4o, (show Dk g1 (K1o ++ (T1o ++ (K2o ++ (T2o ++ (K3o ++ K4o))))) from (by (try simp only [dj_app_l, dj_app_r, dj_cons_l, dj_cons_r, dj_nil_l, dj_nil_r, dk_app, dk_cons, dk_nil, and_true, true_and, and_assoc]); repeat' (first | trivial | assumption | exact Dj.symm (by assumption) | exact Ne.symm (by assumption) | apply And.intro))), (show Dj K1o (T1o ++ (K2o ++ (T2o ++ (K3o ++ K4o)))) from (by (try simp only [dj_app_l, dj_app_r, dj_cons_l, dj_cons_r, dj_nil_l, dj_nil_r, dk_app, dk_cons, dk_nil, and_true, true_and, and_assoc]); repeat' (first | trivial | assumption | exact Dj.symm (by assumption) | exact Ne.symm (by assumption) | apply And.intro))), (show Dj T1o (K2o ++ (T2o ++ (K3o ++ K4o))) from (by (try simp only [dj_app_l, dj_app_r, dj_cons_l, dj_cons_r, dj_nil_l, dj_nil_r, dk_app, dk_cons, dk_nil, and_true, true_and, and_assoc]); repeat' (first | trivial | assumption | exact Dj.symm (by assumption) | exact Ne.symm (by assumption) | apply And.intro))), (show Dj K2o (T2o ++ (K3o ++ K4o)) from (by (try simp only [dj_app_l, dj_app_r, dj_cons_l, dj_cons_r, dj_nil_l, dj_nil_r, dk_app, dk_cons, dk_nil, and_true, true_and, and_assoc]); repeat' (first | trivial | assumption | exact Dj.symm (by assumption) | exact Ne.symm (by assumption) | apply And.intro))), (show Dj T2o (K3o ++ K4o) from (by (try simp only [dj_app_l, dj_app_r, dj_cons_l, dj_cons_r, dj_nil_l, dj_nil_r, dk_app, dk_cons, dk_nil, and_true, true_and, and_assoc]); repeat' (first | trivial | assumption | exact Dj.symm (by assumption) | exact Ne.symm (by assumption) | apply And.intro))), (show Dj K3o K4o from (by (try simp only [dj_app_l, dj_app_r, dj_cons_l, dj_cons_r, dj_nil_l, dj_nil_r, dk_app, dk_cons, dk_nil, and_true, true_and, and_assoc]); repeat' (first | trivial | assumption | exact Dj.symm (by assumption) | exact Ne.symm (by assumption) | apply And.intro)))⟩ (show Dj ((g1, .cells #[.func (.func (fnOf s.md)) #[.pointer (some ⟨g1, 0, none⟩)] #[], .slice p1o s.segs.length c1o, .slice p2o (esOf s.md).length c2o, .slice p3o (csOf s.md).length c3o, .slice p4o (cOf s.md).length c4o] 52 (0, 0)) :: (K1o ++ (T1o ++ (K2o ++ (T2o ++ (K3o ++ K4o)))))) [(g2, .stringIter ⟨l.toArray⟩ (k + n19))] from (by (try simp only [dj_app_l, dj_app_r, dj_cons_l, dj_cons_r, dj_nil_l, dj_nil_r, dk_app, dk_cons, dk_nil, and_true, true_and, and_assoc]); repeat' (first | trivial | assumption | exact Dj.symm (by assumption) | exact Ne.symm (by assumption) | apply And.intro))) hInv (by omega) hr19 W (hW.sub (fun p hp => by simp only [List.mem_cons, List.mem_append, List.nil_append, List.not_mem_nil, or_assoc, or_false, false_or, List.cons_append, List.append_assoc] at hp ⊢ <;> grind))) (fun _ => by simp only [List.setIfInBounds_toArray, List.set_cons_succ, List.set_cons_zero] <;> rfl) ?_
        rintro _ K9 ⟨rfl, K2b, rfl, hVb⟩
        refine lm (v := .tuple #[.int .i64 (((errAt (step k b18 s)) : Nat) : Int), .int .i64 (((errNo (step k b18 s)) : Nat) : Int)]) rfl rfl ?_
        refine lm (v := .int .i64 (((errAt (step k b18 s)) : Nat) : Int)) rfl rfl ?_
        refine lm (v := .int .i64 (((errNo (step k b18 s)) : Nat) : Int)) rfl rfl ?_
        refine lm (v := .int .i64 (((errAt (step k b18 s)) : Nat) : Int)) rfl rfl ?_
        refine lm (v := .int .i64 (((errNo (step k b18 s)) : Nat) : Int)) rfl rfl ?_
        refine wpL_done (fun W14 hW14 => ?_)
        refine (show Code.wp _ _ _ _ _ from ?_)
        refine wp_seq ?_
        refine wp_region_L (W0 := W0) ((g2, .stringIter ⟨l.toArray⟩ (k + n19)) :: K2b) ((hW14.sub (fun p hp => by simp only [List.mem_cons, List.mem_append, List.nil_append, List.not_mem_nil, or_assoc, or_false, false_or, List.cons_append, List.append_assoc] at hp ⊢ <;> grind))) ?_
        refine lm (v := .int .i64 (((errNo (step k b18 s)) : Nat) : Int)) rfl rfl ?_
        refine lp (v := .bool (!(decide ((errNo (step k b18 s)) = 0)))) rfl rfl (run_bin rfl (vx := (.int .i64 (((errNo (step k b18 s)) : Nat) : Int))) (vy := (.int .i64 ((0 : Nat) : Int))) (by kernel_rfl) (by kernel_rfl) fun w => bn_neq rfl w) ?_
        refine wpL_done (fun W15 hW15 => ?_)
        refine (show Code.wp _ _ _ _ _ from ?_)
        cases hd4 : (decide ((errNo (step k b18 s)) = 0)) with
        | false =>
          have h4 : ¬ ((errNo (step k b18 s)) = 0) := of_decide_eq_false hd4
          clear hd4
          refine wp_cond_true rfl ?_
          refine wp_seq ?_
          refine wp_region_L (W0 := W0) ((g2, .stringIter ⟨l.toArray⟩ (k + n19)) :: K2b) (hW15) ?_
          refine lm (v := .int .i64 (((errAt (step k b18 s)) : Nat) : Int)) rfl rfl ?_
          refine lm (v := .int .i64 (((errNo (step k b18 s)) : Nat) : Int)) rfl rfl ?_
          refine lm (v := .slice none 0 0) rfl rfl ?_
          refine lm (v := .int .i64 (((errAt (step k b18 s)) : Nat) : Int)) rfl rfl ?_
          refine lm (v := .int .i64 (((errNo (step k b18 s)) : Nat) : Int)) rfl rfl ?_
          refine wpL_done (fun W16 hW16 => ?_)
          refine (show Code.wp _ _ _ _ _ from ?_)
          refine wp_ret ?_
          try simp only [inBlock_ret, then_ret]
          refine bodyPost_ret (v := .tuple #[.slice none 0 0, .int .i64 (((errAt (step k b18 s)) : Nat) : Int), .int .i64 (((errNo (step k b18 s)) : Nat) : Int)]) ?_ rfl ?_
          · kernel_rfl
          · exact rda_bad (by unfold readT; rw [if_neg h1, run_stops hb18 hI (bad_of h4)]; rfl) hW16
        | true =>
          have h4 : (errNo (step k b18 s)) = 0 := of_decide_eq_true hd4
          clear hd4
          obtain ⟨s', hs'⟩ := step_ok0 h4
          obtain rfl := rn_one hr19 (step_low hs')
          obtain ⟨hS', hD'⟩ := hVb s' hs'
          refine wp_cond_false rfl ?_
          refine wp_skip ?_
          go_roundw
          case rel =>
            repeat apply Exists.intro
            exact ⟨⟨(k + 1), s', K2b, (by omega), (run_snoc hb18 hI hs'), hS', hD', (hW15.sub (fun p hp => by first | exact hp | (simp only [List.mem_cons, List.mem_append, List.nil_append, List.not_mem_nil, or_assoc, or_false, false_or, List.cons_append, List.append_assoc] at hp ⊢ <;> grind)))⟩, rfl⟩
          case measure => have e1 := iterPos_of (hL6.2 _ (.head _)); have e2 := iterPos_of (hW15.2 _ (.head _)); rw [e1, e2]; omega
  | true =>
    have h1 : 65536 < l.length := of_decide_eq_true hd1
    clear hd1
    refine wp_cond_true rfl ?_
    refine wp_seq ?_
    refine wp_region_L (W0 := W0) [] (hW2) ?_
    refine lm (v := .slice none 0 0) rfl rfl ?_
    refine lm (v := .int .i64 0) rfl rfl ?_
    refine lm (v := .int .i64 3) rfl rfl ?_
    refine wpL_done (fun W17 hW17 => ?_)
    refine (show Code.wp _ _ _ _ _ from ?_)
    refine wp_ret ?_
    try simp only [inBlock_ret, then_ret]
    refine bodyPost_ret (v := .tuple #[.slice none 0 0, .int .i64 0, .int .i64 3]) ?_ rfl ?_
    · kernel_rfl
    · exact rda_bad (by unfold readT; rw [if_pos h1]) hW17
end Go.Proofs.Ytppegdbelgobiaa
namespace Go.Proofs.Ytppegdbelgobiaa
open Go Go.RowKit Tw
theorem low_of_may {b : UInt8} (h : may b = true) : b.toNat < 128 := by
  unfold may at h
  simp at h
  omega
set_option maxRecDepth 100000 in
set_option maxHeartbeats 4000000 in
theorem PrightC_any (c : Cmp) (w : World) : Calls Try.prog 45 #[strV c] w fun e w' => e = .returned (.bool (rightC c)) ∧ Below w.heap.size w w' := by
  go_enter Try.func45, Try.ntmps45
  refine wp_seq ?_
  refine wp_region_L (W0 := w) [] (KS.start w) ?_
  refine lm (v := .bool false) rfl rfl ?_
  refine wpL_done (fun W1 hW1 => ?_)
  refine (show Code.wp _ _ _ _ _ from ?_)
  refine wp_seq ?_
  refine wp_seq ?_
  refine wp_region_L (W0 := w) [] (hW1) ?_
  refine lm (v := strV c) rfl rfl ?_
  refine lp (v := .int .i64 ((c.length : Nat) : Int)) rfl rfl (run_lenS (l := c) rfl Try.underlying9 (by kernel_rfl)) ?_
  refine lp (v := .bool (decide (100 < c.length))) rfl rfl (run_bin rfl (vx := (.int .i64 ((c.length : Nat) : Int))) (vy := (.int .i64 ((100 : Nat) : Int))) (by kernel_rfl) (by kernel_rfl) fun w => bn_gtr rfl w) ?_
  refine wpL_done (fun W2 hW2 => ?_)
  refine (show Code.wp _ _ _ _ _ from ?_)
  cases hd1 : (decide (100 < c.length)) with
  | false =>
    have h1 : ¬ (100 < c.length) := of_decide_eq_false hd1
    clear hd1
    refine wp_cond_false rfl ?_
    refine wp_skip ?_
    refine (show Code.wp _ _ _ _ _ from ?_)
    refine wp_seq ?_
    refine wp_seq ?_
    refine wp_region_L (W0 := w) [] (hW2) ?_
    refine lm (v := strV c) rfl rfl ?_
    refine wpL_new (fun g => .pointer (some ⟨g, 0, none⟩)) (obi := .stringIter ⟨c.toArray⟩ 0) rfl rfl (rg_str (l := c) rfl Try.underlying9 (by kernel_rfl)) (fun _ => by simp only [List.setIfInBounds_toArray, List.set_cons_succ, List.set_cons_zero] <;> rfl) fun g1 Bg1 Fg1 => ?_
    refine wpL_done (fun W3 hW3 => ?_)
    refine (show Code.wp _ _ _ _ _ from ?_)
    refine wp_block ?_
    go_loopw [] (fun  wr => ∃ (k : Nat), (k ≤ c.length) ∧ ((c.take k).all may = true) ∧ KS w [(g1, .stringIter ⟨c.toArray⟩ k)] wr) (fun  wz => c.length - World.iterPos wz g1)
    case atStart => exact ⟨0, (Nat.zero_le _), rfl, (hW3.sub (fun p hp => by first | exact hp | (simp only [List.mem_cons, List.mem_append, List.nil_append, List.not_mem_nil, or_assoc, or_false, false_or, List.cons_append, List.append_assoc] at hp ⊢ <;> grind)))⟩
    case round =>
      obtain ⟨k, hk, hA, hL4⟩ := hrel
      refine wp_seq ?_
      refine wp_region_L (W0 := w) [(g1, .stringIter ⟨c.toArray⟩ k)] (hL4) ?_
      cases hd2 : (decide (k < c.length)) with
      | false =>
        have h2 : ¬ (k < c.length) := of_decide_eq_false hd2
        clear hd2
        refine lv (v := .tuple #[.bool false]) rfl rfl (nx_end (l := c) (k := k) rfl (by kernel_rfl) (.head _) h2) ?_
        refine lm (v := .bool false) rfl rfl ?_
        refine wpL_done (fun W5 hW5 => ?_)
        refine (show Code.wp _ _ _ _ _ from ?_)
        refine wp_seq ?_
        refine wp_cond_false rfl ?_
        refine wp_exit ?_
        refine (show Code.wp _ _ _ _ _ from ?_)
        refine wp_seq ?_
        refine wp_region_L (W0 := w) [(g1, .stringIter ⟨c.toArray⟩ k)] (hW5) ?_
        refine lm (v := .bool true) rfl rfl ?_
        refine wpL_done (fun W6 hW6 => ?_)
        refine (show Code.wp _ _ _ _ _ from ?_)
        refine wp_ret ?_
        try simp only [inBlock_ret, then_ret]
        refine bodyPost_ret (v := .bool true) ?_ rfl ?_
        · kernel_rfl
        · exact ⟨(bool_is (cmp_t h1 (all_take hA h2)).symm), hW6.1⟩
      | true =>
        have h2 : k < c.length := of_decide_eq_true hd2
        clear hd2
        obtain ⟨b2, hb2⟩ : ∃ b, (c : List UInt8)[k]? = some b := ⟨_, List.getElem?_eq_getElem (by omega)⟩
        have lb2 := b2.toNat_lt
        refine wpL_g (NxO c k b2 (fun n => [(g1, .stringIter ⟨c.toArray⟩ (k + n))])) rfl rfl (nx_some (Kf := fun n => [(g1, .stringIter ⟨c.toArray⟩ (k + n))]) rfl (by kernel_rfl) (.head _) Bg1 hb2 (fun n => (List.forall_mem_cons.2 ⟨.inl rfl, (List.forall_mem_nil _)⟩))) (fun _ => by simp only [List.setIfInBounds_toArray, List.set_cons_succ, List.set_cons_zero] <;> rfl) ?_
        rintro _ K9 ⟨r3, n3, rfl, rfl, hr3⟩
        refine lm (v := .bool true) rfl rfl ?_
        refine wpL_done (fun W7 hW7 => ?_)
        refine (show Code.wp _ _ _ _ _ from ?_)
        refine wp_seq ?_
        refine wp_cond_true rfl ?_
        refine wp_skip ?_
        refine (show Code.wp _ _ _ _ _ from ?_)
        refine wp_block ?_
        refine wp_seq ?_
        refine wp_region_L (W0 := w) [(g1, .stringIter ⟨c.toArray⟩ (k + n3))] (hW7) ?_
        refine lm (v := .int .i32 ((r3 : Nat) : Int)) rfl rfl ?_
        refine lm (v := .int .i32 ((r3 : Nat) : Int)) rfl rfl ?_
        refine wpL_done (fun W8 hW8 => ?_)
        refine (show Code.wp _ _ _ _ _ from ?_)
        refine wp_seq ?_
        refine wp_region_L (W0 := w) [(g1, .stringIter ⟨c.toArray⟩ (k + n3))] (hW8) ?_
        refine lm (v := .int .i32 ((r3 : Nat) : Int)) rfl rfl ?_
        refine lv (v := .bool (may b2)) rfl rfl (yb_call (f := 54) (args := #[.int .i32 ((r3 : Nat) : Int)]) (fun _ => by kernel_rfl) fun W hW => mayStand_any b2 r3 n3 hr3 W) ?_
        refine lp (v := .bool (!(may b2))) rfl rfl (run_un rfl (by kernel_rfl) fun w => un_not w) ?_
        refine wpL_done (fun W9 hW9 => ?_)
        refine (show Code.wp _ _ _ _ _ from ?_)
        cases h3 : (may b2) with
        | false =>
          refine wp_cond_true rfl ?_
          refine wp_seq ?_
          refine wp_region_L (W0 := w) [(g1, .stringIter ⟨c.toArray⟩ (k + n3))] (hW9) ?_
          refine lm (v := .bool false) rfl rfl ?_
          refine wpL_done (fun W10 hW10 => ?_)
          refine (show Code.wp _ _ _ _ _ from ?_)
          refine wp_ret ?_
          try simp only [inBlock_ret, then_ret]
          refine bodyPost_ret (v := .bool false) ?_ rfl ?_
          · kernel_rfl
          · exact ⟨(bool_is (cmp_fb hb2 h3).symm), hW10.1⟩
        | true =>
          obtain rfl := rn_one hr3 (low_of_may h3)
          refine wp_cond_false rfl ?_
          refine wp_skip ?_
          go_roundw
          case rel =>
            repeat apply Exists.intro
            exact ⟨⟨(k + 1), (by omega), (all_succ hA hb2 h3), (hW9.sub (fun p hp => by first | exact hp | (simp only [List.mem_cons, List.mem_append, List.nil_append, List.not_mem_nil, or_assoc, or_false, false_or, List.cons_append, List.append_assoc] at hp ⊢ <;> grind)))⟩, rfl⟩
          case measure => have e1 := iterPos_of (hL4.2 _ (.head _)); have e2 := iterPos_of (hW9.2 _ (.head _)); rw [e1, e2]; omega
  | true =>
    have h1 : 100 < c.length := of_decide_eq_true hd1
    clear hd1
    refine wp_cond_true rfl ?_
    refine wp_seq ?_
    refine wp_region_L (W0 := w) [] (hW2) ?_
    refine lm (v := .bool false) rfl rfl ?_
    refine wpL_done (fun W11 hW11 => ?_)
    refine (show Code.wp _ _ _ _ _ from ?_)
    refine wp_ret ?_
    try simp only [inBlock_ret, then_ret]
    refine bodyPost_ret (v := .bool false) ?_ rfl ?_
    · kernel_rfl
    · exact ⟨(bool_is (cmp_fl h1).symm), hW11.1⟩
set_option maxRecDepth 100000 in
set_option maxHeartbeats 4000000 in
theorem PrightE_any (A : List (List UInt8)) (pA : Option Addr) (cA : Nat) (w : World) (hA : LVp StrR w pA A) : Calls Try.prog 33 #[.slice pA A.length cA] w fun e w' => e = .returned (.bool (rightE A)) ∧ Below w.heap.size w w' := by
  have HA := Lib.hid hA
  clear hA
  go_enter Try.func33, Try.ntmps33
  refine wp_seq ?_
  refine wp_region_L (W0 := w) [] (KS.start w) ?_
  refine lm (v := .bool false) rfl rfl ?_
  refine wpL_done (fun W1 hW1 => ?_)
  refine (show Code.wp _ _ _ _ _ from ?_)
  refine wp_seq ?_
  refine wp_seq ?_
  refine wp_region_L (W0 := w) [] (hW1) ?_
  refine lm (v := .slice pA A.length cA) rfl rfl ?_
  refine lp (v := .int .i64 ((A.length : Nat) : Int)) rfl rfl (run_lenL (p := pA) (cap := cA) (n := A.length) rfl Try.underlying43 (by kernel_rfl)) ?_
  refine lp (v := .bool (decide (A.length = 0))) rfl rfl (run_bin rfl (vx := (.int .i64 ((A.length : Nat) : Int))) (vy := (.int .i64 ((0 : Nat) : Int))) (by kernel_rfl) (by kernel_rfl) fun w => bn_eql rfl w) ?_
  refine lm (v := .bool (decide (A.length = 0))) rfl rfl ?_
  cases hd1 : (decide (A.length = 0)) with
  | false =>
    have h1 : ¬ (A.length = 0) := of_decide_eq_false hd1
    clear hd1
    refine lm (v := .slice pA A.length cA) rfl rfl ?_
    refine lp (v := .int .i64 ((A.length : Nat) : Int)) rfl rfl (run_lenL (p := pA) (cap := cA) (n := A.length) rfl Try.underlying43 (by kernel_rfl)) ?_
    refine lp (v := .bool (decide (10 < A.length))) rfl rfl (run_bin rfl (vx := (.int .i64 ((A.length : Nat) : Int))) (vy := (.int .i64 ((10 : Nat) : Int))) (by kernel_rfl) (by kernel_rfl) fun w => bn_gtr rfl w) ?_
    refine lm (v := .bool (decide (10 < A.length))) rfl rfl ?_
    refine wpL_done (fun W2 hW2 => ?_)
    refine (show Code.wp _ _ _ _ _ from ?_)
    cases hd2 : (decide (10 < A.length)) with
    | false =>
      have h2 : ¬ (10 < A.length) := of_decide_eq_false hd2
      clear hd2
      refine wp_cond_false rfl ?_
      refine wp_skip ?_
      refine (show Code.wp _ _ _ _ _ from ?_)
      refine wp_seq ?_
      refine wp_seq ?_
      refine wp_region_L (W0 := w) [] (hW2) ?_
      refine lm (v := .slice pA A.length cA) rfl rfl ?_
      refine lp (v := .int .i64 ((A.length : Nat) : Int)) rfl rfl (run_lenL (p := pA) (cap := cA) (n := A.length) rfl Try.underlying43 (by kernel_rfl)) ?_
      refine lm (v := .int .i64 0) rfl rfl ?_
      refine wpL_done (fun W3 hW3 => ?_)
      refine (show Code.wp _ _ _ _ _ from ?_)
      refine wp_block ?_
      go_loopw [15] (fun u15 wr => ∃ (k : Nat), (k ≤ A.length) ∧ ((A.take k).all rightC = true) ∧ u15 = .int .i64 ((k : Nat) : Int) ∧ KS w [] wr) (fun u15 _ => A.length - (intOf u15).toNat)
      case atStart => exact ⟨0, (Nat.zero_le _), rfl, rfl, hW3⟩
      case round =>
        obtain ⟨k, hk, hR, rfl, hL4⟩ := hrel
        refine wp_seq ?_
        refine wp_region_L (W0 := w) [] (hL4) ?_
        refine lp (v := .bool (decide (k < A.length))) rfl rfl (run_bin rfl (vx := (.int .i64 ((k : Nat) : Int))) (vy := (.int .i64 ((A.length : Nat) : Int))) (by kernel_rfl) (by kernel_rfl) fun w => bn_lss rfl w) ?_
        refine wpL_done (fun W5 hW5 => ?_)
        refine (show Code.wp _ _ _ _ _ from ?_)
        refine wp_seq ?_
        cases hd3 : (decide (k < A.length)) with
        | false =>
          have h3 : ¬ (k < A.length) := of_decide_eq_false hd3
          clear hd3
          refine wp_cond_false rfl ?_
          refine wp_exit ?_
          refine (show Code.wp _ _ _ _ _ from ?_)
          refine wp_seq ?_
          refine wp_region_L (W0 := w) [] (hW5) ?_
          refine lm (v := .bool true) rfl rfl ?_
          refine wpL_done (fun W6 hW6 => ?_)
          refine (show Code.wp _ _ _ _ _ from ?_)
          refine wp_ret ?_
          try simp only [inBlock_ret, then_ret]
          refine bodyPost_ret (v := .bool true) ?_ rfl ?_
          · kernel_rfl
          · exact ⟨(bool_is (by rw [eq_comm]; exact elt_t h1 h2 (all_take hR h3))), hW6.1⟩
        | true =>
          have h3 : k < A.length := of_decide_eq_true hd3
          clear hd3
          refine wp_cond_true rfl ?_
          refine wp_skip ?_
          refine (show Code.wp _ _ _ _ _ from ?_)
          refine wp_seq ?_
          refine wp_block ?_
          refine wp_seq ?_
          refine wp_region_L (W0 := w) [] (hW5) ?_
          obtain ⟨y1, b1, f1, hy1, hp1, lt1, hc1⟩ := lvp_str (k := k) HA.out (by omega)
          refine lp (v := .pointer (some ⟨b1, f1 + k * 1, none⟩)) rfl rfl (run_idxQ (p := pA) (cap := cA) (n := A.length) (j := .i64) (k := k) (sz := 1) rfl Try.underlying43 (by kernel_rfl) (by kernel_rfl) hp1 (by kernel_rfl) (by omega)) ?_
          refine lv (v := strV y1) rfl rfl (yb_old (off := f1 + k * 1) rfl (by kernel_rfl) hc1 lt1 Try.underlying9 rfl) ?_
          refine lm (v := strV y1) rfl rfl ?_
          refine wpL_done (fun W7 hW7 => ?_)
          refine (show Code.wp _ _ _ _ _ from ?_)
          refine wp_seq ?_
          refine wp_region_L (W0 := w) [] (hW7) ?_
          refine lm (v := strV y1) rfl rfl ?_
          refine lv (v := .bool (rightC y1)) rfl rfl (yb_call (f := 45) (args := #[strV y1]) (fun _ => by kernel_rfl) fun W hW => PrightC_any y1 W) ?_
          refine lp (v := .bool (!(rightC y1))) rfl rfl (run_un rfl (by kernel_rfl) fun w => un_not w) ?_
          refine wpL_done (fun W8 hW8 => ?_)
          refine (show Code.wp _ _ _ _ _ from ?_)
          cases h4 : (rightC y1) with
          | false =>
            refine wp_cond_true rfl ?_
            refine wp_seq ?_
            refine wp_region_L (W0 := w) [] (hW8) ?_
            refine lm (v := .bool false) rfl rfl ?_
            refine wpL_done (fun W9 hW9 => ?_)
            refine (show Code.wp _ _ _ _ _ from ?_)
            refine wp_ret ?_
            try simp only [inBlock_ret, then_ret]
            refine bodyPost_ret (v := .bool false) ?_ rfl ?_
            · kernel_rfl
            · exact ⟨(bool_is (by rw [eq_comm]; exact elt_fc hy1 h4)), hW9.1⟩
          | true =>
            refine wp_cond_false rfl ?_
            refine wp_skip ?_
            refine (show Code.wp _ _ _ _ _ from ?_)
            refine wp_region_L (W0 := w) [] (hW8) ?_
            refine lp (v := .int .i64 (((k + 1) : Nat) : Int)) rfl rfl (run_bin rfl (vx := (.int .i64 ((k : Nat) : Int))) (vy := (.int .i64 ((1 : Nat) : Int))) (by kernel_rfl) (by kernel_rfl) fun w => bn_add (z := (k + 1)) rfl (wr_i64 (by omega)) w) ?_
            refine lm (v := .int .i64 (((k + 1) : Nat) : Int)) rfl rfl ?_
            refine wpL_done (fun W10 hW10 => ?_)
            go_roundw
            case rel =>
              repeat apply Exists.intro
              exact ⟨⟨k + 1, (by omega), (all_succ hR hy1 h4), rfl, hW10⟩, rfl⟩
            case measure => (show A.length - (intOf (.int .i64 (((k + 1) : Nat) : Int))).toNat < A.length - (intOf (.int .i64 ((k : Nat) : Int))).toNat); simp only [intOf]; omega
    | true =>
      have h2 : 10 < A.length := of_decide_eq_true hd2
      clear hd2
      refine wp_cond_true rfl ?_
      refine wp_seq ?_
      refine wp_region_L (W0 := w) [] (hW2) ?_
      refine lm (v := .bool false) rfl rfl ?_
      refine wpL_done (fun W11 hW11 => ?_)
      refine (show Code.wp _ _ _ _ _ from ?_)
      refine wp_ret ?_
      try simp only [inBlock_ret, then_ret]
      refine bodyPost_ret (v := .bool false) ?_ rfl ?_
      · kernel_rfl
      · exact ⟨(bool_is (by rw [eq_comm]; exact elt_f1 h2)), hW11.1⟩
  | true =>
    have h1 : A.length = 0 := of_decide_eq_true hd1
    clear hd1
    refine ln rfl ?_
    refine ln rfl ?_
    refine ln rfl ?_
    refine lm (v := .bool true) rfl rfl ?_
    refine wpL_done (fun W12 hW12 => ?_)
    refine (show Code.wp _ _ _ _ _ from ?_)
    refine wp_cond_true rfl ?_
    refine wp_seq ?_
    refine wp_region_L (W0 := w) [] (hW12) ?_
    refine lm (v := .bool false) rfl rfl ?_
    refine wpL_done (fun W13 hW13 => ?_)
    refine (show Code.wp _ _ _ _ _ from ?_)
    refine wp_ret ?_
    try simp only [inBlock_ret, then_ret]
    refine bodyPost_ret (v := .bool false) ?_ rfl ?_
    · kernel_rfl
    · exact ⟨(bool_is (by rw [eq_comm]; exact elt_f0 h1)), hW13.1⟩
set_option maxRecDepth 100000 in
set_option maxHeartbeats 4000000 in
theorem PRight_any (A : List (List (List UInt8))) (pA : Option Addr) (cA : Nat) (w : World) (hA : LVp TxR w pA A) : Calls Try.prog 18 #[.slice pA A.length cA] w fun e w' => e = .returned (.bool (rightS A)) ∧ Below w.heap.size w w' := by
  have HA := Lib.hid hA
  clear hA
  go_enter Try.func18, Try.ntmps18
  refine wp_seq ?_
  refine wp_region_L (W0 := w) [] (KS.start w) ?_
  refine lm (v := .bool false) rfl rfl ?_
  refine wpL_done (fun W1 hW1 => ?_)
  refine (show Code.wp _ _ _ _ _ from ?_)
  refine wp_seq ?_
  refine wp_seq ?_
  refine wp_region_L (W0 := w) [] (hW1) ?_
  refine lm (v := .slice pA A.length cA) rfl rfl ?_
  refine lp (v := .int .i64 ((A.length : Nat) : Int)) rfl rfl (run_lenL (p := pA) (cap := cA) (n := A.length) rfl Try.underlying37 (by kernel_rfl)) ?_
  refine lp (v := .bool (decide (A.length = 0))) rfl rfl (run_bin rfl (vx := (.int .i64 ((A.length : Nat) : Int))) (vy := (.int .i64 ((0 : Nat) : Int))) (by kernel_rfl) (by kernel_rfl) fun w => bn_eql rfl w) ?_
  refine lm (v := .bool (decide (A.length = 0))) rfl rfl ?_
  cases hd1 : (decide (A.length = 0)) with
  | false =>
    have h1 : ¬ (A.length = 0) := of_decide_eq_false hd1
    clear hd1
    refine lm (v := .slice pA A.length cA) rfl rfl ?_
    refine lp (v := .int .i64 ((A.length : Nat) : Int)) rfl rfl (run_lenL (p := pA) (cap := cA) (n := A.length) rfl Try.underlying37 (by kernel_rfl)) ?_
    refine lp (v := .bool (decide (30 < A.length))) rfl rfl (run_bin rfl (vx := (.int .i64 ((A.length : Nat) : Int))) (vy := (.int .i64 ((30 : Nat) : Int))) (by kernel_rfl) (by kernel_rfl) fun w => bn_gtr rfl w) ?_
    refine lm (v := .bool (decide (30 < A.length))) rfl rfl ?_
    refine wpL_done (fun W2 hW2 => ?_)
    refine (show Code.wp _ _ _ _ _ from ?_)
    cases hd2 : (decide (30 < A.length)) with
    | false =>
      have h2 : ¬ (30 < A.length) := of_decide_eq_false hd2
      clear hd2
      refine wp_cond_false rfl ?_
      refine wp_skip ?_
      refine (show Code.wp _ _ _ _ _ from ?_)
      refine wp_seq ?_
      refine wp_seq ?_
      refine wp_region_L (W0 := w) [] (hW2) ?_
      refine lm (v := .slice pA A.length cA) rfl rfl ?_
      refine lp (v := .int .i64 ((A.length : Nat) : Int)) rfl rfl (run_lenL (p := pA) (cap := cA) (n := A.length) rfl Try.underlying37 (by kernel_rfl)) ?_
      refine lm (v := .int .i64 0) rfl rfl ?_
      refine wpL_done (fun W3 hW3 => ?_)
      refine (show Code.wp _ _ _ _ _ from ?_)
      refine wp_block ?_
      go_loopw [15] (fun u15 wr => ∃ (k : Nat), (k ≤ A.length) ∧ ((A.take k).all rightE = true) ∧ u15 = .int .i64 ((k : Nat) : Int) ∧ KS w [] wr) (fun u15 _ => A.length - (intOf u15).toNat)
      case atStart => exact ⟨0, (Nat.zero_le _), rfl, rfl, hW3⟩
      case round =>
        obtain ⟨k, hk, hR, rfl, hL4⟩ := hrel
        refine wp_seq ?_
        refine wp_region_L (W0 := w) [] (hL4) ?_
        refine lp (v := .bool (decide (k < A.length))) rfl rfl (run_bin rfl (vx := (.int .i64 ((k : Nat) : Int))) (vy := (.int .i64 ((A.length : Nat) : Int))) (by kernel_rfl) (by kernel_rfl) fun w => bn_lss rfl w) ?_
        refine wpL_done (fun W5 hW5 => ?_)
        refine (show Code.wp _ _ _ _ _ from ?_)
        refine wp_seq ?_
        cases hd3 : (decide (k < A.length)) with
        | false =>
          have h3 : ¬ (k < A.length) := of_decide_eq_false hd3
          clear hd3
          refine wp_cond_false rfl ?_
          refine wp_exit ?_
          refine (show Code.wp _ _ _ _ _ from ?_)
          refine wp_seq ?_
          refine wp_region_L (W0 := w) [] (hW5) ?_
          refine lm (v := .bool true) rfl rfl ?_
          refine wpL_done (fun W6 hW6 => ?_)
          refine (show Code.wp _ _ _ _ _ from ?_)
          refine wp_ret ?_
          try simp only [inBlock_ret, then_ret]
          refine bodyPost_ret (v := .bool true) ?_ rfl ?_
          · kernel_rfl
          · exact ⟨(bool_is (by rw [eq_comm]; exact right_t h1 h2 (all_take hR h3))), hW6.1⟩
        | true =>
          have h3 : k < A.length := of_decide_eq_true hd3
          clear hd3
          refine wp_cond_true rfl ?_
          refine wp_skip ?_
          refine (show Code.wp _ _ _ _ _ from ?_)
          refine wp_seq ?_
          refine wp_block ?_
          refine wp_seq ?_
          refine wp_region_L (W0 := w) [] (hW5) ?_
          obtain ⟨y1, p1, c1, b1, f1, hy1, HY1, hp1, lt1, hc1⟩ := lvp_lst (k := k) HA.out (by omega)
          have HY1 := Lib.hid HY1
          refine lp (v := .pointer (some ⟨b1, f1 + k * 1, none⟩)) rfl rfl (run_idxQ (p := pA) (cap := cA) (n := A.length) (j := .i64) (k := k) (sz := 1) rfl Try.underlying37 (by kernel_rfl) (by kernel_rfl) hp1 (by kernel_rfl) (by omega)) ?_
          refine lv (v := .slice p1 y1.length c1) rfl rfl (yb_old (off := f1 + k * 1) rfl (by kernel_rfl) hc1 lt1 Try.underlying43 rfl) ?_
          refine lm (v := .slice p1 y1.length c1) rfl rfl ?_
          refine wpL_done (fun W7 hW7 => ?_)
          refine (show Code.wp _ _ _ _ _ from ?_)
          refine wp_seq ?_
          refine wp_region_L (W0 := w) [] (hW7) ?_
          refine lm (v := .slice p1 y1.length c1) rfl rfl ?_
          refine lv (v := .bool (rightE y1)) rfl rfl (yb_call (f := 33) (args := #[.slice p1 y1.length c1]) (fun _ => by kernel_rfl) fun W hW => PrightE_any y1 p1 c1 W (HY1.out.keep StrR.keeps hW.1)) ?_
          refine lp (v := .bool (!(rightE y1))) rfl rfl (run_un rfl (by kernel_rfl) fun w => un_not w) ?_
          refine wpL_done (fun W8 hW8 => ?_)
          refine (show Code.wp _ _ _ _ _ from ?_)
          cases h4 : (rightE y1) with
          | false =>
            refine wp_cond_true rfl ?_
            refine wp_seq ?_
            refine wp_region_L (W0 := w) [] (hW8) ?_
            refine lm (v := .bool false) rfl rfl ?_
            refine wpL_done (fun W9 hW9 => ?_)
            refine (show Code.wp _ _ _ _ _ from ?_)
            refine wp_ret ?_
            try simp only [inBlock_ret, then_ret]
            refine bodyPost_ret (v := .bool false) ?_ rfl ?_
            · kernel_rfl
            · exact ⟨(bool_is (by rw [eq_comm]; exact right_fe hy1 h4)), hW9.1⟩
          | true =>
            refine wp_cond_false rfl ?_
            refine wp_skip ?_
            refine (show Code.wp _ _ _ _ _ from ?_)
            refine wp_region_L (W0 := w) [] (hW8) ?_
            refine lp (v := .int .i64 (((k + 1) : Nat) : Int)) rfl rfl (run_bin rfl (vx := (.int .i64 ((k : Nat) : Int))) (vy := (.int .i64 ((1 : Nat) : Int))) (by kernel_rfl) (by kernel_rfl) fun w => bn_add (z := (k + 1)) rfl (wr_i64 (by omega)) w) ?_
            refine lm (v := .int .i64 (((k + 1) : Nat) : Int)) rfl rfl ?_
            refine wpL_done (fun W10 hW10 => ?_)
            go_roundw
            case rel =>
              repeat apply Exists.intro
              exact ⟨⟨k + 1, (by omega), (all_succ hR hy1 h4), rfl, hW10⟩, rfl⟩
            case measure => (show A.length - (intOf (.int .i64 (((k + 1) : Nat) : Int))).toNat < A.length - (intOf (.int .i64 ((k : Nat) : Int))).toNat); simp only [intOf]; omega
    | true =>
      have h2 : 30 < A.length := of_decide_eq_true hd2
      clear hd2
      refine wp_cond_true rfl ?_
      refine wp_seq ?_
      refine wp_region_L (W0 := w) [] (hW2) ?_
      refine lm (v := .bool false) rfl rfl ?_
      refine wpL_done (fun W11 hW11 => ?_)
      refine (show Code.wp _ _ _ _ _ from ?_)
      refine wp_ret ?_
      try simp only [inBlock_ret, then_ret]
      refine bodyPost_ret (v := .bool false) ?_ rfl ?_
      · kernel_rfl
      · exact ⟨(bool_is (by rw [eq_comm]; exact right_f1 h2)), hW11.1⟩
  | true =>
    have h1 : A.length = 0 := of_decide_eq_true hd1
    clear hd1
    refine ln rfl ?_
    refine ln rfl ?_
    refine ln rfl ?_
    refine lm (v := .bool true) rfl rfl ?_
    refine wpL_done (fun W12 hW12 => ?_)
    refine (show Code.wp _ _ _ _ _ from ?_)
    refine wp_cond_true rfl ?_
    refine wp_seq ?_
    refine wp_region_L (W0 := w) [] (hW12) ?_
    refine lm (v := .bool false) rfl rfl ?_
    refine wpL_done (fun W13 hW13 => ?_)
    refine (show Code.wp _ _ _ _ _ from ?_)
    refine wp_ret ?_
    try simp only [inBlock_ret, then_ret]
    refine bodyPost_ret (v := .bool false) ?_ rfl ?_
    · kernel_rfl
    · exact ⟨(bool_is (by rw [eq_comm]; exact right_f0 h1)), hW13.1⟩
end Go.Proofs.Ytppegdbelgobiaa
namespace Go.Proofs.Ytppegdbelgobiaa
open Go Go.RowKit Tw
theorem el_byte : Elem Try.prog 26 5 1 1 (.int .u8 0) := Elem.mk' Try.underlying26 (by kernel_rfl) rfl
theorem sumL_le : ∀ {l : List Cmp}, l.all rightC = true → sumL l ≤ 201 * l.length := by
  intro l
  induction l with
  | nil => intro _; exact Nat.le_refl _
  | cons c l ih =>
    intro h
    simp only [List.all_cons, Bool.and_eq_true] at h
    have h1 := cmp_len h.1
    have h2 := relC_le c
    have h3 := ih h.2
    rw [show c :: l = [c] ++ l from rfl, sumL_append, sumL_one, List.length_append, List.length_singleton]
    unfold lenC
    omega
theorem flat_right : ∀ {s : List Elt}, s.all rightE = true → s.flatten.all rightC = true ∧ s.flatten.length ≤ 10 * s.length := by
  intro s
  induction s with
  | nil => intro _; exact ⟨rfl, Nat.le_refl _⟩
  | cons e s ih =>
    intro h
    simp only [List.all_cons, Bool.and_eq_true] at h
    obtain ⟨h1, h2⟩ := elt_all h.1
    obtain ⟨h3, h4⟩ := ih h.2
    simp only [List.flatten_cons, List.all_append, h1, h3, Bool.and_self, true_and, List.length_append, List.length_cons]
    omega
theorem ext_le (l : List Cmp) : extL l ≤ 1 := by
  unfold extL extC
  split
  · omega
  · split
    · omega
    · split <;> omega
theorem wrS_le {s : Sgm} (h : rightS s = true) : (wrS s).length ≤ 61000 := by
  obtain ⟨h1, h2⟩ := right_all h
  obtain ⟨h3, h4⟩ := flat_right h1
  have h5 := sumL_le h3
  have h6 := ext_le s.flatten
  rw [wrS_len (by rintro rfl; simp [rightS] at h) (right_ne h1)]
  omega
def writeV (A : List Sgm) : Value := if 5000 < A.length then .tuple #[strV [], .int .i64 5] else if A.all rightS = false then .tuple #[strV [], .int .i64 2] else if 65536 < (wrL A).length then .tuple #[strV [], .int .i64 3] else .tuple #[strV (wrL A), .int .i64 0]
theorem wrL_take {A : List Sgm} {i : Nat} {s : Sgm} (h : A[i]? = some s) : wrL (A.take (i + 1)) = wrL (A.take i) ++ wrS s := by
  rw [takeL h]
  simp [wrL]
theorem wrL_part (A : List Sgm) (i : Nat) : (wrL (A.take i)).length ≤ (wrL A).length := by
  have : wrL A = wrL (A.take i) ++ wrL (A.drop i) := by
    unfold wrL
    rw [← List.flatMap_append, List.take_append_drop]
  rw [this, List.length_append]
  omega
theorem own_u8 {W0 : Base} {E : TypeId} {v : Value} {a b c : List UInt8} {K : List (Nat × Obj)} (h : OwnL W0 E 1 v (a.length + b.length) (u8s a ++ u8s b) K) (hc : c = a ++ b) : OwnL W0 E 1 v c.length (u8s c) K := by
  subst hc
  rwa [List.length_append, u8s_app]
set_option maxRecDepth 100000 in
set_option maxHeartbeats 4000000 in
theorem RWrite_any (A : List (List (List (List UInt8)))) (pA : Option Addr) (cA : Nat) (w : World) (hA : LVp ElR w pA A) : Calls Try.prog 21 #[.slice pA A.length cA] w fun e w' => e = .returned (writeV A) ∧ Below w.heap.size w w' := by
  have HA := Lib.hid hA
  clear hA
  go_enter Try.func21, Try.ntmps21
  refine wp_seq ?_
  refine wp_region_L (W0 := w) [] (KS.start w) ?_
  refine lm (v := strV []) rfl rfl ?_
  refine lm (v := .int .i64 0) rfl rfl ?_
  refine wpL_done (fun W1 hW1 => ?_)
  refine (show Code.wp _ _ _ _ _ from ?_)
  refine wp_seq ?_
  refine wp_seq ?_
  refine wp_region_L (W0 := w) [] (hW1) ?_
  refine lm (v := .slice pA A.length cA) rfl rfl ?_
  refine lp (v := .int .i64 ((A.length : Nat) : Int)) rfl rfl (run_lenL (p := pA) (cap := cA) (n := A.length) rfl Try.underlying40 (by kernel_rfl)) ?_
  refine lp (v := .bool (decide (5000 < A.length))) rfl rfl (run_bin rfl (vx := (.int .i64 ((A.length : Nat) : Int))) (vy := (.int .i64 ((5000 : Nat) : Int))) (by kernel_rfl) (by kernel_rfl) fun w => bn_gtr rfl w) ?_
  refine wpL_done (fun W2 hW2 => ?_)
  refine (show Code.wp _ _ _ _ _ from ?_)
  cases hd1 : (decide (5000 < A.length)) with
  | false =>
    have h1 : ¬ (5000 < A.length) := of_decide_eq_false hd1
    clear hd1
    refine wp_cond_false rfl ?_
    refine wp_skip ?_
    refine (show Code.wp _ _ _ _ _ from ?_)
    refine wp_seq ?_
    refine wp_seq ?_
    refine wp_region_L (W0 := w) [] (hW2) ?_
    refine lm (v := .int .i64 0) rfl rfl ?_
    refine wpL_done (fun W3 hW3 => ?_)
    refine (show Code.wp _ _ _ _ _ from ?_)
    refine wp_block ?_
    go_loopw [4] (fun u4 wr => ∃ (i : Nat), (i ≤ A.length) ∧ ((A.take i).all rightS = true) ∧ u4 = .int .i64 ((i : Nat) : Int) ∧ KS w [] wr) (fun u4 _ => A.length - (intOf u4).toNat)
    case atStart => exact ⟨0, (Nat.zero_le _), rfl, rfl, (hW3.sub (fun p hp => by first | exact hp | (simp only [List.mem_cons, List.mem_append, List.nil_append, List.not_mem_nil, or_assoc, or_false, false_or] at hp ⊢ <;> grind)))⟩
    case round =>
      obtain ⟨i, hi, hR, rfl, hL4⟩ := hrel
      refine wp_seq ?_
      refine wp_seq ?_
      refine wp_region_L (W0 := w) [] (hL4) ?_
      refine lm (v := .int .i64 ((i : Nat) : Int)) rfl rfl ?_
      refine lm (v := .slice pA A.length cA) rfl rfl ?_
      refine lp (v := .int .i64 ((A.length : Nat) : Int)) rfl rfl (run_lenL (p := pA) (cap := cA) (n := A.length) rfl Try.underlying40 (by kernel_rfl)) ?_
      refine lp (v := .bool (decide (i < A.length))) rfl rfl (run_bin rfl (vx := (.int .i64 ((i : Nat) : Int))) (vy := (.int .i64 ((A.length : Nat) : Int))) (by kernel_rfl) (by kernel_rfl) fun w => bn_lss rfl w) ?_
      refine wpL_done (fun W5 hW5 => ?_)
      refine (show Code.wp _ _ _ _ _ from ?_)
      cases hd2 : (decide (i < A.length)) with
      | false =>
        have h2 : ¬ (i < A.length) := of_decide_eq_false hd2
        clear hd2
        refine wp_cond_false rfl ?_
        refine wp_exit ?_
        refine (show Code.wp _ _ _ _ _ from ?_)
        refine wp_seq ?_
        refine wp_region_L (W0 := w) [] (hW5) ?_
        refine lm (v := .slice none 0 0) rfl rfl ?_
        refine wpL_done (fun W6 hW6 => ?_)
        refine (show Code.wp _ _ _ _ _ from ?_)
        refine wp_seq ?_
        refine wp_seq ?_
        refine wp_region_L (W0 := w) [] (hW6) ?_
        refine lm (v := .int .i64 0) rfl rfl ?_
        refine wpL_done (fun W7 hW7 => ?_)
        refine (show Code.wp _ _ _ _ _ from ?_)
        refine wp_block ?_
        have hall := all_take hR h2
        go_loopw [5, 6] (fun u5 u6 wr => ∃ (m : Nat) (o : List UInt8) (vo : Value) (Ko : List (Nat × Obj)), (m ≤ A.length) ∧ (o = wrL (A.take m)) ∧ (OwnL w 5 1 vo o.length (u8s o) Ko) ∧ vo = u5 ∧ u6 = .int .i64 ((m : Nat) : Int) ∧ KS w Ko wr) (fun _ u6 _ => A.length - (intOf u6).toNat)
        case atStart => exact ⟨0, [], (.slice none 0 0), [], (Nat.zero_le _), rfl, (OwnL.nil _ _ _), rfl, rfl, (hW7.sub (fun p hp => by first | exact hp | (simp only [List.mem_cons, List.mem_append, List.nil_append, List.not_mem_nil, or_assoc, or_false, false_or] at hp ⊢ <;> grind)))⟩
        case round =>
          obtain ⟨m, o, vo, Ko, hm, ho, hO, rfl, rfl, hL8⟩ := hrel
          refine wp_seq ?_
          refine wp_seq ?_
          refine wp_region_L (W0 := w) Ko (hL8) ?_
          refine lm (v := .int .i64 ((m : Nat) : Int)) rfl rfl ?_
          refine lm (v := .slice pA A.length cA) rfl rfl ?_
          refine lp (v := .int .i64 ((A.length : Nat) : Int)) rfl rfl (run_lenL (p := pA) (cap := cA) (n := A.length) rfl Try.underlying40 (by kernel_rfl)) ?_
          refine lp (v := .bool (decide (m < A.length))) rfl rfl (run_bin rfl (vx := (.int .i64 ((m : Nat) : Int))) (vy := (.int .i64 ((A.length : Nat) : Int))) (by kernel_rfl) (by kernel_rfl) fun w => bn_lss rfl w) ?_
          refine lm (v := .bool (decide (m < A.length))) rfl rfl ?_
          cases hd3 : (decide (m < A.length)) with
          | false =>
            have h3 : ¬ (m < A.length) := of_decide_eq_false hd3
            clear hd3
            refine ln rfl ?_
            refine ln rfl ?_
            refine ln rfl ?_
            refine lm (v := .bool false) rfl rfl ?_
            refine wpL_done (fun W9 hW9 => ?_)
            refine (show Code.wp _ _ _ _ _ from ?_)
            refine wp_cond_false rfl ?_
            refine wp_exit ?_
            refine (show Code.wp _ _ _ _ _ from ?_)
            refine wp_seq ?_
            refine wp_seq ?_
            refine wp_region_L (W0 := w) Ko (hW9) ?_
            refine lm (v := vo) rfl rfl ?_
            refine lp (v := .int .i64 ((o.length : Nat) : Int)) rfl rfl (run_lenO (W0 := w) rfl Try.underlying26 (by kernel_rfl) hO) ?_
            refine lp (v := .bool (decide (65536 < o.length))) rfl rfl (run_bin rfl (vx := (.int .i64 ((o.length : Nat) : Int))) (vy := (.int .i64 ((65536 : Nat) : Int))) (by kernel_rfl) (by kernel_rfl) fun w => bn_gtr rfl w) ?_
            refine wpL_done (fun W10 hW10 => ?_)
            refine (show Code.wp _ _ _ _ _ from ?_)
            cases hd4 : (decide (65536 < o.length)) with
            | false =>
              have h4 : ¬ (65536 < o.length) := of_decide_eq_false hd4
              clear hd4
              refine wp_cond_false rfl ?_
              refine wp_skip ?_
              refine (show Code.wp _ _ _ _ _ from ?_)
              refine wp_seq ?_
              refine wp_region_L (W0 := w) Ko (hW10) ?_
              refine lm (v := vo) rfl rfl ?_
              refine lv (v := strV o) rfl rfl (yb_strO (W0 := w) (l := o) rfl Try.underlying26 Try.underlying5 Try.underlying9 (by kernel_rfl) hO (fun p hp => by simp only [List.mem_cons, List.mem_append, List.nil_append, List.not_mem_nil, or_assoc, or_false, false_or, hp, or_true, true_or])) ?_
              refine lm (v := strV o) rfl rfl ?_
              refine lm (v := .int .i64 0) rfl rfl ?_
              refine wpL_done (fun W11 hW11 => ?_)
              refine (show Code.wp _ _ _ _ _ from ?_)
              refine wp_ret ?_
              try simp only [inBlock_ret, then_ret]
              refine bodyPost_ret (v := .tuple #[strV o, .int .i64 0]) ?_ rfl ?_
              · kernel_rfl
              · exact ⟨(by have e1 : wrL A = o := by { rw [ho, List.take_of_length_le (by omega)] }; unfold writeV; rw [if_neg h1, if_neg (by rw [hall]; simp), e1, if_neg (by omega)]), hW11.1⟩
            | true =>
              have h4 : 65536 < o.length := of_decide_eq_true hd4
              clear hd4
              refine wp_cond_true rfl ?_
              refine wp_seq ?_
              refine wp_region_L (W0 := w) Ko (hW10) ?_
              refine lm (v := strV []) rfl rfl ?_
              refine lm (v := .int .i64 3) rfl rfl ?_
              refine wpL_done (fun W12 hW12 => ?_)
              refine (show Code.wp _ _ _ _ _ from ?_)
              refine wp_ret ?_
              try simp only [inBlock_ret, then_ret]
              refine bodyPost_ret (v := .tuple #[strV [], .int .i64 3]) ?_ rfl ?_
              · kernel_rfl
              · exact ⟨(by have e2 := wrL_part A m; rw [← ho] at e2; unfold writeV; rw [if_neg h1, if_neg (by rw [hall]; simp), if_pos (by omega)]), hW12.1⟩
          | true =>
            have h3 : m < A.length := of_decide_eq_true hd3
            clear hd3
            refine lm (v := vo) rfl rfl ?_
            refine lp (v := .int .i64 ((o.length : Nat) : Int)) rfl rfl (run_lenO (W0 := w) rfl Try.underlying26 (by kernel_rfl) hO) ?_
            refine lp (v := .bool (!(decide (65536 < o.length)))) rfl rfl (run_bin rfl (vx := (.int .i64 ((o.length : Nat) : Int))) (vy := (.int .i64 ((65536 : Nat) : Int))) (by kernel_rfl) (by kernel_rfl) fun w => bn_leq rfl w) ?_
            refine lm (v := .bool (!(decide (65536 < o.length)))) rfl rfl ?_
            refine wpL_done (fun W13 hW13 => ?_)
            refine (show Code.wp _ _ _ _ _ from ?_)
            cases hd5 : (decide (65536 < o.length)) with
            | false =>
              have h5 : ¬ (65536 < o.length) := of_decide_eq_false hd5
              clear hd5
              refine wp_cond_true rfl ?_
              refine wp_skip ?_
              refine (show Code.wp _ _ _ _ _ from ?_)
              refine wp_seq ?_
              refine wp_block ?_
              refine wp_region_L (W0 := w) Ko (hW13) ?_
              refine lm (v := vo) rfl rfl ?_
              refine lm (v := .slice pA A.length cA) rfl rfl ?_
              refine lm (v := .int .i64 ((m : Nat) : Int)) rfl rfl ?_
              obtain ⟨y2, p2, c2, b2, f2, hy2, HY2, hp2, lt2, hc2⟩ := lvp_lst (k := m) HA.out (by omega)
              have HY2 := Lib.hid HY2
              refine lp (v := .pointer (some ⟨b2, f2 + m * 1, none⟩)) rfl rfl (run_idxQ (p := pA) (cap := cA) (n := A.length) (j := .i64) (k := m) (sz := 1) rfl Try.underlying40 (by kernel_rfl) (by kernel_rfl) hp2 (by kernel_rfl) (by omega)) ?_
              have wl2 := wrS_le (all_at hall hy2)
              refine lv (v := .slice p2 y2.length c2) rfl rfl (yb_old (off := f2 + m * 1) rfl (by kernel_rfl) hc2 lt2 Try.underlying36 rfl) ?_
              refine lv (v := strV (wrS y2)) rfl rfl (yb_call (f := 37) (args := #[.slice p2 y2.length c2]) (fun _ => by kernel_rfl) fun W hW => Written_any y2 p2 c2 (all_at hall hy2) W (HY2.out.keep TxR.keeps hW.1)) ?_
              refine wpL_g (AppO w 5 1 [] (o.length + (wrS y2).length) ((u8s o) ++ (u8s (wrS y2)))) rfl rfl (app_any el_byte (m := (wrS y2).length) (news := (u8s (wrS y2))) rfl (by kernel_rfl) (by kernel_rfl) (src_str Try.underlying9 (wrS y2)) hO (fun p hp => by simp only [List.mem_cons, List.mem_append, List.nil_append, List.not_mem_nil, or_assoc, or_false, false_or, hp, or_true, true_or]) (fun _ h => by cases h) (by omega) (by omega)) (fun _ => by simp only [List.setIfInBounds_toArray, List.set_cons_succ, List.set_cons_zero] <;> rfl) ?_
              rintro v3 Kl3 ⟨_, O3, N3, rfl⟩
              refine lm (v := v3) rfl rfl ?_
              refine wpL_done (fun W14 hW14 => ?_)
              refine (show Code.wp _ _ _ _ _ from ?_)
              refine wp_region_L (W0 := w) Kl3 (hW14) ?_
              refine lm (v := .int .i64 ((m : Nat) : Int)) rfl rfl ?_
              refine lp (v := .int .i64 (((m + 1) : Nat) : Int)) rfl rfl (run_bin rfl (vx := (.int .i64 ((m : Nat) : Int))) (vy := (.int .i64 ((1 : Nat) : Int))) (by kernel_rfl) (by kernel_rfl) fun w => bn_add (z := (m + 1)) rfl (wr_i64 (by omega)) w) ?_
              refine lm (v := .int .i64 (((m + 1) : Nat) : Int)) rfl rfl ?_
              refine wpL_done (fun W15 hW15 => ?_)
              go_roundw
              case rel =>
                repeat apply Exists.intro
                exact ⟨⟨m + 1, (o ++ wrS y2), v3, Kl3, (by omega), (by rw [wrL_take hy2, ho]), (own_u8 O3 rfl), rfl, rfl, (hW15.sub (fun p hp => by first | exact hp | (simp only [List.mem_cons, List.mem_append, List.nil_append, List.not_mem_nil, or_assoc, or_false, false_or] at hp ⊢ <;> grind)))⟩, rfl⟩
              case measure => (show A.length - (intOf (.int .i64 (((m + 1) : Nat) : Int))).toNat < A.length - (intOf (.int .i64 ((m : Nat) : Int))).toNat); simp only [intOf]; omega
            | true =>
              have h5 : 65536 < o.length := of_decide_eq_true hd5
              clear hd5
              refine wp_cond_false rfl ?_
              refine wp_exit ?_
              refine (show Code.wp _ _ _ _ _ from ?_)
              refine wp_seq ?_
              refine wp_seq ?_
              refine wp_region_L (W0 := w) Ko (hW13) ?_
              refine lm (v := vo) rfl rfl ?_
              refine lp (v := .int .i64 ((o.length : Nat) : Int)) rfl rfl (run_lenO (W0 := w) rfl Try.underlying26 (by kernel_rfl) hO) ?_
              refine lp (v := .bool true) rfl rfl (run_bin rfl (vx := (.int .i64 ((o.length : Nat) : Int))) (vy := (.int .i64 ((65536 : Nat) : Int))) (by kernel_rfl) (by kernel_rfl) fun w => bn_gtr (decide_eq_true (by assumption)) w) ?_
              refine wpL_done (fun W16 hW16 => ?_)
              refine (show Code.wp _ _ _ _ _ from ?_)
              refine wp_cond_true rfl ?_
              refine wp_seq ?_
              refine wp_region_L (W0 := w) Ko (hW16) ?_
              refine lm (v := strV []) rfl rfl ?_
              refine lm (v := .int .i64 3) rfl rfl ?_
              refine wpL_done (fun W17 hW17 => ?_)
              refine (show Code.wp _ _ _ _ _ from ?_)
              refine wp_ret ?_
              try simp only [inBlock_ret, then_ret]
              refine bodyPost_ret (v := .tuple #[strV [], .int .i64 3]) ?_ rfl ?_
              · kernel_rfl
              · exact ⟨(by have e2 := wrL_part A m; rw [← ho] at e2; unfold writeV; rw [if_neg h1, if_neg (by rw [hall]; simp), if_pos (by omega)]), hW17.1⟩
      | true =>
        have h2 : i < A.length := of_decide_eq_true hd2
        clear hd2
        refine wp_cond_true rfl ?_
        refine wp_skip ?_
        refine (show Code.wp _ _ _ _ _ from ?_)
        refine wp_seq ?_
        refine wp_block ?_
        refine wp_seq ?_
        refine wp_region_L (W0 := w) [] (hW5) ?_
        refine lm (v := .slice pA A.length cA) rfl rfl ?_
        refine lm (v := .int .i64 ((i : Nat) : Int)) rfl rfl ?_
        obtain ⟨y4, p4, c4, b4, f4, hy4, HY4, hp4, lt4, hc4⟩ := lvp_lst (k := i) HA.out (by omega)
        have HY4 := Lib.hid HY4
        refine lp (v := .pointer (some ⟨b4, f4 + i * 1, none⟩)) rfl rfl (run_idxQ (p := pA) (cap := cA) (n := A.length) (j := .i64) (k := i) (sz := 1) rfl Try.underlying40 (by kernel_rfl) (by kernel_rfl) hp4 (by kernel_rfl) (by omega)) ?_
        refine lv (v := .slice p4 y4.length c4) rfl rfl (yb_old (off := f4 + i * 1) rfl (by kernel_rfl) hc4 lt4 Try.underlying36 rfl) ?_
        refine lv (v := .bool (rightS y4)) rfl rfl (yb_call (f := 23) (args := #[.slice p4 y4.length c4]) (fun _ => by kernel_rfl) fun W hW => RRight_any y4 p4 c4 W (HY4.out.keep TxR.keeps hW.1)) ?_
        refine lp (v := .bool (!(rightS y4))) rfl rfl (run_un rfl (by kernel_rfl) fun w => un_not w) ?_
        refine wpL_done (fun W18 hW18 => ?_)
        refine (show Code.wp _ _ _ _ _ from ?_)
        cases h6 : (rightS y4) with
        | false =>
          refine wp_cond_true rfl ?_
          refine wp_seq ?_
          refine wp_region_L (W0 := w) [] (hW18) ?_
          refine lm (v := strV []) rfl rfl ?_
          refine lm (v := .int .i64 2) rfl rfl ?_
          refine wpL_done (fun W19 hW19 => ?_)
          refine (show Code.wp _ _ _ _ _ from ?_)
          refine wp_ret ?_
          try simp only [inBlock_ret, then_ret]
          refine bodyPost_ret (v := .tuple #[strV [], .int .i64 2]) ?_ rfl ?_
          · kernel_rfl
          · exact ⟨(by unfold writeV; rw [if_neg h1, if_pos (all_f hy4 h6)]), hW19.1⟩
        | true =>
          refine wp_cond_false rfl ?_
          refine wp_skip ?_
          refine (show Code.wp _ _ _ _ _ from ?_)
          refine wp_region_L (W0 := w) [] (hW18) ?_
          refine lm (v := .int .i64 ((i : Nat) : Int)) rfl rfl ?_
          refine lp (v := .int .i64 (((i + 1) : Nat) : Int)) rfl rfl (run_bin rfl (vx := (.int .i64 ((i : Nat) : Int))) (vy := (.int .i64 ((1 : Nat) : Int))) (by kernel_rfl) (by kernel_rfl) fun w => bn_add (z := (i + 1)) rfl (wr_i64 (by omega)) w) ?_
          refine lm (v := .int .i64 (((i + 1) : Nat) : Int)) rfl rfl ?_
          refine wpL_done (fun W20 hW20 => ?_)
          go_roundw
          case rel =>
            repeat apply Exists.intro
            exact ⟨⟨i + 1, (by omega), (all_succ hR hy4 h6), rfl, (hW20.sub (fun p hp => by first | exact hp | (simp only [List.mem_cons, List.mem_append, List.nil_append, List.not_mem_nil, or_assoc, or_false, false_or] at hp ⊢ <;> grind)))⟩, rfl⟩
          case measure => (show A.length - (intOf (.int .i64 (((i + 1) : Nat) : Int))).toNat < A.length - (intOf (.int .i64 ((i : Nat) : Int))).toNat); simp only [intOf]; omega
  | true =>
    have h1 : 5000 < A.length := of_decide_eq_true hd1
    clear hd1
    refine wp_cond_true rfl ?_
    refine wp_seq ?_
    refine wp_region_L (W0 := w) [] (hW2) ?_
    refine lm (v := strV []) rfl rfl ?_
    refine lm (v := .int .i64 5) rfl rfl ?_
    refine wpL_done (fun W21 hW21 => ?_)
    refine (show Code.wp _ _ _ _ _ from ?_)
    refine wp_ret ?_
    try simp only [inBlock_ret, then_ret]
    refine bodyPost_ret (v := .tuple #[strV [], .int .i64 5]) ?_ rfl ?_
    · kernel_rfl
    · exact ⟨(by unfold writeV; rw [if_pos h1]), hW21.1⟩
end Go.Proofs.Ytppegdbelgobiaa
namespace Go.Proofs.Ytppegdbelgobiaa
open Go Go.RowKit Tw
def blank (c : Cmp) : Bool := decide (c.take 1 = [32])
theorem relF_blank (c : Cmp) : relF c = (if blank c = true then [63] else []) ++ relC c := by
  match c with
  | [] => rfl
  | b :: l =>
    by_cases hb : b.toNat = 32
    · have e : b = 32 := UInt8.toNat_inj.1 (by rw [hb]; rfl)
      subst e
      rfl
    · have hn : blank (b :: l) = false := by
        unfold blank
        simp
        rintro rfl
        exact hb rfl
      rw [hn]
      simp [relF, relC, hb]
theorem wrE_snoc {l : Elt} (c : Cmp) (h : l ≠ []) : wrE (l ++ [c]) = wrE l ++ 58 :: relC c := by
  match l, h with
  | d :: l, _ => simp only [List.cons_append, wrE, moreC_snoc, List.append_assoc]
def joinE : List Elt → List UInt8
  | [] => []
  | e :: l => wrE e ++ moreE l
theorem joinE_snoc {l : List Elt} (e : Elt) (h : l ≠ []) : joinE (l ++ [e]) = joinE l ++ 43 :: wrE e := by
  match l, h with
  | d :: l, _ => simp only [List.cons_append, joinE, moreE_snoc, List.append_assoc]
theorem wrS_join {s : Sgm} {e : Elt} {c : Cmp} (he : s[0]? = some e) (hc : e[0]? = some c) : wrS s = (if blank c = true then [63] else []) ++ joinE s ++ [39] := by
  match s, he with
  | e0 :: l, he =>
    cases he
    match e, hc with
    | c0 :: m, hc =>
      cases hc
      simp only [wrS, wrF, joinE, wrE, relF_blank, List.append_assoc]
theorem relC_len (l : Cmp) (h : l.length ≤ 100) : (relC l).length ≤ 200 := by have := relC_le l; omega
theorem own_b1 {W0 : Base} {E : TypeId} {v : Value} {p : List UInt8} {n : Nat} {xs : List Value} {K : List (Nat × Obj)} (h : OwnL W0 E 1 v n xs K) (hn : n = p.length) (hx : xs = u8s p) : OwnL W0 E 1 v p.length (u8s p) K := by
  subst hn hx
  exact h
theorem u8s_one (o : List UInt8) (b : UInt8) : u8s (o ++ [b]) = u8s o ++ [.int .u8 ((b.toNat : Nat) : Int)] := by simp [u8s]
theorem relC_one {c : Cmp} {k : Nat} {b : UInt8} (h : c[k]? = some b) : relC (c.take (k + 1)) = relC (c.take k) ++ (if svc b = true then [63, b] else [b]) := by
  rw [takeL h, relC_append]
  simp [relC]
theorem wrE_step {e : Elt} {k : Nat} {c : Cmp} (h : e[k]? = some c) : wrE (e.take (k + 1)) = wrE (e.take k) ++ (if 0 < k then [58] else []) ++ relC c := by
  rw [takeL h]
  by_cases hk : 0 < k
  · rw [if_pos hk, wrE_snoc c (takeL_ne h hk)]
    simp
  · obtain rfl : k = 0 := by omega
    simp [wrE, moreC]
theorem joinE_step {s : Sgm} {k : Nat} {e : Elt} (h : s[k]? = some e) : joinE (s.take (k + 1)) = joinE (s.take k) ++ (if 0 < k then [43] else []) ++ wrE e := by
  rw [takeL h]
  by_cases hk : 0 < k
  · rw [if_pos hk, joinE_snoc e (takeL_ne h hk)]
    simp
  · obtain rfl : k = 0 := by omega
    simp [joinE, moreE]
theorem wrE_le {e : Elt} (h : e.all rightC = true) : (wrE e).length ≤ 201 * e.length := by
  match e with
  | [] => exact Nat.zero_le _
  | c :: l =>
    have h1 := sumL_le h
    have h2 := wrE_len (e := c :: l) (by simp)
    omega
theorem all_tk {α : Type} {f : α → Bool} {l : List α} (k : Nat) (h : l.all f = true) : (l.take k).all f = true := by
  rw [List.all_eq_true] at h ⊢
  exact fun x hx => h x (List.mem_of_mem_take hx)
theorem joinE_le : ∀ {l : List Elt}, l.all rightE = true → (joinE l).length ≤ 2012 * l.length := by
  intro l
  match l with
  | [] => intro _; exact Nat.zero_le _
  | e :: l =>
    intro h
    simp only [List.all_cons, Bool.and_eq_true] at h
    obtain ⟨h1, h2⟩ := elt_all h.1
    have h3 := wrE_le h1
    have h4 := flat_right h.2
    have h5 := sumL_le h4.1
    have h6 := moreE_len (right_ne h.2)
    simp only [joinE, List.length_append, List.length_cons]
    omega
set_option maxRecDepth 100000 in
set_option maxHeartbeats 4000000 in
theorem hpB_any (c : Cmp) (lc : c.length ≤ 4000000000) (w : World) : Calls Try.prog 42 #[strV c, strV [32]] w fun e w' => e = .returned (.bool (blank c)) ∧ Below w.heap.size w w' := by
  go_enter Try.func42, Try.ntmps42
  refine wp_seq ?_
  refine wp_region_L (W0 := w) [] (KS.start w) ?_
  refine lm (v := .bool false) rfl rfl ?_
  refine wpL_done (fun W1 hW1 => ?_)
  refine (show Code.wp _ _ _ _ _ from ?_)
  refine wp_seq ?_
  refine wp_region_L (W0 := w) [] (hW1) ?_
  refine lm (v := strV c) rfl rfl ?_
  refine lp (v := .int .i64 ((c.length : Nat) : Int)) rfl rfl (run_lenS (l := c) rfl Try.underlying9 (by kernel_rfl)) ?_
  refine lm (v := strV [32]) rfl rfl ?_
  refine lm (v := .int .i64 1) rfl rfl ?_
  refine lp (v := .bool (!(decide (c.length < 1)))) rfl rfl (run_bin rfl (vx := (.int .i64 ((c.length : Nat) : Int))) (vy := (.int .i64 ((1 : Nat) : Int))) (by kernel_rfl) (by kernel_rfl) fun w => bn_geq rfl w) ?_
  refine lm (v := .bool (!(decide (c.length < 1)))) rfl rfl ?_
  cases hd1 : (decide (c.length < 1)) with
  | false =>
    have h1 : ¬ (c.length < 1) := of_decide_eq_false hd1
    clear hd1
    refine lm (v := strV c) rfl rfl ?_
    refine lm (v := strV [32]) rfl rfl ?_
    refine lm (v := .int .i64 1) rfl rfl ?_
    refine lp (v := strV (c.take 1)) rfl rfl (run_slH (k2 := .i64) (l := c) (r := (c.take 1)) (j := 1) rfl Try.underlying9 (by kernel_rfl) (by kernel_rfl) (by first | omega | (simp; omega)) rfl) ?_
    refine lm (v := strV [32]) rfl rfl ?_
    refine lp (v := .bool (decide ((c.take 1) = [32]))) rfl rfl (run_bin rfl (vx := strV (c.take 1)) (vy := strV [32]) (by kernel_rfl) (by kernel_rfl) fun w => bs_eql rfl w) ?_
    refine lm (v := .bool (decide ((c.take 1) = [32]))) rfl rfl ?_
    refine lm (v := .bool (decide ((c.take 1) = [32]))) rfl rfl ?_
    refine wpL_done (fun W2 hW2 => ?_)
    refine (show Code.wp _ _ _ _ _ from ?_)
    refine wp_ret ?_
    try simp only [inBlock_ret, then_ret]
    refine bodyPost_ret (v := .bool (decide ((c.take 1) = [32]))) ?_ rfl ?_
    · kernel_rfl
    · exact ⟨(bool_is (by unfold blank; first | rfl | (symm; rw [decide_eq_false_iff_not]; intro e; have := congrArg List.length e; simp at this; omega))), hW2.1⟩
  | true =>
    have h1 : c.length < 1 := of_decide_eq_true hd1
    clear hd1
    refine ln rfl ?_
    refine ln rfl ?_
    refine ln rfl ?_
    refine ln rfl ?_
    refine ln rfl ?_
    refine ln rfl ?_
    refine lm (v := .bool false) rfl rfl ?_
    refine lm (v := .bool false) rfl rfl ?_
    refine wpL_done (fun W3 hW3 => ?_)
    refine (show Code.wp _ _ _ _ _ from ?_)
    refine wp_ret ?_
    try simp only [inBlock_ret, then_ret]
    refine bodyPost_ret (v := .bool false) ?_ rfl ?_
    · kernel_rfl
    · exact ⟨(bool_is (by unfold blank; first | rfl | (symm; rw [decide_eq_false_iff_not]; intro e; have := congrArg List.length e; simp at this; omega))), hW3.1⟩
set_option maxRecDepth 100000 in
set_option maxHeartbeats 4000000 in
theorem hpA_any (c : Cmp) (lc : c.length ≤ 4000000000) (w : World) : Calls Try.prog 28 #[strV c, strV [32]] w fun e w' => e = .returned (.bool (blank c)) ∧ Below w.heap.size w w' := by
  go_enter Try.func28, Try.ntmps28
  refine wp_seq ?_
  refine wp_region_L (W0 := w) [] (KS.start w) ?_
  refine lm (v := .bool false) rfl rfl ?_
  refine wpL_done (fun W1 hW1 => ?_)
  refine (show Code.wp _ _ _ _ _ from ?_)
  refine wp_seq ?_
  refine wp_region_L (W0 := w) [] (hW1) ?_
  refine lm (v := strV c) rfl rfl ?_
  refine lm (v := strV [32]) rfl rfl ?_
  refine lv (v := .bool (blank c)) rfl rfl (yb_call (f := 42) (args := #[strV c, strV [32]]) (fun _ => by kernel_rfl) fun W hW => hpB_any c lc W) ?_
  refine lm (v := .bool (blank c)) rfl rfl ?_
  refine wpL_done (fun W2 hW2 => ?_)
  refine (show Code.wp _ _ _ _ _ from ?_)
  refine wp_ret ?_
  try simp only [inBlock_ret, then_ret]
  refine bodyPost_ret (v := .bool (blank c)) ?_ rfl ?_
  · kernel_rfl
  · exact ⟨rfl, hW2.1⟩
end Go.Proofs.Ytppegdbelgobiaa
