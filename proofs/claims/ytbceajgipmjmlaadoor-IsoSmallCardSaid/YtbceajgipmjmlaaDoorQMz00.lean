import Derived.Test.YtbceajgipmjmlaaDoorG03
/- Part of the proof: QC0, QF, QG, QE0, QH, QJ0, QJ, QK, QL, QI. -/
set_option linter.unusedVariables false
set_option linter.unusedSimpArgs false
set_option linter.unusedSectionVars false
namespace Go.Proofs.YtbceajgipmjmlaaDoor
open Go Go.RowKit Tw
theorem chk_eq (l : List UInt8) : chkN l = 48 + remL l % 10 ∧ remL l < 11 := ⟨rfl, Nat.mod_lt _ (by omega)⟩
theorem judge_app {q : List UInt8} {d : UInt8} (hq : fitB q 10 = true) (hd : 48 ≤ d.toNat ∧ d.toNat ≤ 57) : judgeN (q ++ [d]) = if chkN q = d.toNat then 0 else 31 := by
  have hl := fit_len hq
  have hf : fitB (q ++ [d]) 11 = true := by
    unfold fitB
    rw [fitF_app, fit_fit hq]
    simp [hl, fitF, mayB, isDig, hd]
  have ha : agrB (q ++ [d]) = decide (chkN q = d.toNat) := by
    unfold agrB
    rw [List.take_left' hl, List.getD_eq_getElem?_getD, List.getElem?_append_right (by omega), hl]
    rfl
  unfold judgeN
  rw [hf, ha]
  by_cases h : chkN q = d.toNat <;> simp [h]
def GMd (K : List (Nat × Obj)) (v : Value) (K' : List (Nat × Obj)) : Prop := ∃ (p : List UInt8) (d : UInt8), v = .tuple #[strV p, .int .u8 ((d.toNat : Nat) : Int), .bool true] ∧ fitB p 10 = true ∧ d.toNat = chkN p ∧ K' = K
theorem calls_md {W0 : Base} {W : World} {K : List (Nat × Obj)} (n : Nat) (hn : n ≤ 18446744073709551615) (hW : KS W0 K W) : Calls Tryd.prog 17 #[.int .u64 ((n : Nat) : Int)] W fun e w' => ∃ v K', e = .returned v ∧ KS W0 K' w' ∧ GMd K v K' :=
  (Made_any n hn W).mono fun e w' ⟨l, he, hf, hb⟩ => by
    have hc := chkN_le l
    have e1 : (UInt8.ofNat (chkN l)).toNat = chkN l := by rw [UInt8.toNat_ofNat']; omega
    exact ⟨_, K, he, hW.below hb, l, UInt8.ofNat (chkN l), by rw [e1], hf, e1, rfl⟩
end Go.Proofs.YtbceajgipmjmlaaDoor
namespace Go.Proofs.YtbceajgipmjmlaaDoor
open Go Go.RowKit Tw
def letN (j : Nat) : Nat := 10 + j + (j + 9) / 10
theorem let_step : ∀ j, j < 25 → (if (letN j + 1) % 11 = 0 then letN j + 2 else letN j + 1) = letN (j + 1) := by decide
theorem let_yes {j : Nat} (h : j < 25) (h2 : (letN j + 1) % 11 = 0) : letN j + 1 + 1 = letN (j + 1) := by have := let_step j h; rw [if_pos h2] at this; exact this
theorem let_no {j : Nat} (h : j < 25) (h2 : ¬ (letN j + 1) % 11 = 0) : letN j + 1 = letN (j + 1) := by have := let_step j h; rw [if_neg h2] at this; exact this
theorem let_le {j : Nat} (h : j ≤ 25) : letN j ≤ 100 := by unfold letN; omega
theorem rem_step (S v p : Nat) : (S % 11 + v * (p % 11)) % 11 = (S + v * p) % 11 := by
  rw [Nat.add_mod, Nat.mul_mod, Nat.mod_mod, Nat.mod_mod, ← Nat.mul_mod, ← Nat.add_mod]
theorem pow_step (k : Nat) : 2 ^ k % 11 * 2 % 11 = 2 ^ (k + 1) % 11 := by rw [Nat.pow_succ, Nat.mul_mod, Nat.mod_mod, ← Nat.mul_mod]
set_option maxRecDepth 100000 in
set_option maxHeartbeats 4000000 in
theorem RValue_any (b : UInt8) (w : World) : Calls Tryd.prog 15 #[.int .u8 ((b.toNat : Nat) : Int)] w fun e w' => e = .returned (.tuple #[.int .i64 (((vN b) : Nat) : Int), .bool (isDig b || isCap b)]) ∧ Below w.heap.size w w' := by
  have lb := b.toNat_lt
  go_enter Tryd.func15, Tryd.ntmps15
  refine wp_seq ?_
  refine wp_region_L (W0 := w) [] (KS.start w) ?_
  refine lm (v := .int .i64 0) rfl rfl ?_
  refine lm (v := .bool false) rfl rfl ?_
  refine wpL_done (fun W1 hW1 => ?_)
  refine (show Code.wp _ _ _ _ _ from ?_)
  refine wp_seq ?_
  refine wp_seq ?_
  refine wp_region_L (W0 := w) [] (hW1) ?_
  refine lm (v := .int .u8 ((b.toNat : Nat) : Int)) rfl rfl ?_
  refine lp (v := .bool (!(decide (b.toNat < 48)))) rfl rfl (run_bin rfl (vx := (.int .u8 ((b.toNat : Nat) : Int))) (vy := (.int .u8 ((48 : Nat) : Int))) (by kernel_rfl) (by kernel_rfl) fun w => bn_geq rfl w) ?_
  refine lm (v := .bool (!(decide (b.toNat < 48)))) rfl rfl ?_
  cases hd1 : (decide (b.toNat < 48)) with
  | false =>
    have h1 : ¬ (b.toNat < 48) := of_decide_eq_false hd1
    clear hd1
    refine lm (v := .int .u8 ((b.toNat : Nat) : Int)) rfl rfl ?_
    refine lp (v := .bool (!(decide (57 < b.toNat)))) rfl rfl (run_bin rfl (vx := (.int .u8 ((b.toNat : Nat) : Int))) (vy := (.int .u8 ((57 : Nat) : Int))) (by kernel_rfl) (by kernel_rfl) fun w => bn_leq rfl w) ?_
    refine lm (v := .bool (!(decide (57 < b.toNat)))) rfl rfl ?_
    refine wpL_done (fun W2 hW2 => ?_)
    refine (show Code.wp _ _ _ _ _ from ?_)
    cases hd2 : (decide (57 < b.toNat)) with
    | false =>
      have h2 : ¬ (57 < b.toNat) := of_decide_eq_false hd2
      clear hd2
      refine wp_cond_true rfl ?_
      refine wp_seq ?_
      refine wp_region_L (W0 := w) [] (hW2) ?_
      refine lm (v := .int .u8 ((b.toNat : Nat) : Int)) rfl rfl ?_
      refine lp (v := .int .i64 ((b.toNat : Nat) : Int)) rfl rfl (run_conv rfl (vx := (.int .u8 ((b.toNat : Nat) : Int))) (by kernel_rfl) fun w => cv_int Tryd.underlying5 Tryd.underlying3 (wr_i64 (by omega)) w) ?_
      refine lp (v := .int .i64 (((b.toNat - 48) : Nat) : Int)) rfl rfl (run_bin rfl (vx := (.int .i64 ((b.toNat : Nat) : Int))) (vy := (.int .i64 ((48 : Nat) : Int))) (by kernel_rfl) (by kernel_rfl) fun w => bn_sub (z := (b.toNat - 48)) rfl (by omega) (wr_i64 (by omega)) w) ?_
      refine lm (v := .int .i64 (((b.toNat - 48) : Nat) : Int)) rfl rfl ?_
      refine lm (v := .bool true) rfl rfl ?_
      refine wpL_done (fun W3 hW3 => ?_)
      refine (show Code.wp _ _ _ _ _ from ?_)
      refine wp_ret ?_
      try simp only [inBlock_ret, then_ret]
      refine bodyPost_ret (v := .tuple #[.int .i64 (((b.toNat - 48) : Nat) : Int), .bool true]) ?_ rfl ?_
      · kernel_rfl
      · exact ⟨(congrArg Ending.returned (val_is (b.toNat - 48) true (by unfold vN isDig isCap; simp only [Bool.and_eq_true, decide_eq_true_eq]; (repeat' split) <;> omega) (by unfold isDig isCap; simp; omega))), hW3.1⟩
    | true =>
      have h2 : 57 < b.toNat := of_decide_eq_true hd2
      clear hd2
      refine wp_cond_false rfl ?_
      refine wp_skip ?_
      refine (show Code.wp _ _ _ _ _ from ?_)
      refine wp_seq ?_
      refine wp_seq ?_
      refine wp_region_L (W0 := w) [] (hW2) ?_
      refine lm (v := .int .u8 ((b.toNat : Nat) : Int)) rfl rfl ?_
      refine lp (v := .bool (decide (b.toNat < 65))) rfl rfl (run_bin rfl (vx := (.int .u8 ((b.toNat : Nat) : Int))) (vy := (.int .u8 ((65 : Nat) : Int))) (by kernel_rfl) (by kernel_rfl) fun w => bn_lss rfl w) ?_
      refine lm (v := .bool (decide (b.toNat < 65))) rfl rfl ?_
      cases hd3 : (decide (b.toNat < 65)) with
      | false =>
        have h3 : ¬ (b.toNat < 65) := of_decide_eq_false hd3
        clear hd3
        refine lm (v := .int .u8 ((b.toNat : Nat) : Int)) rfl rfl ?_
        refine lp (v := .bool (decide (90 < b.toNat))) rfl rfl (run_bin rfl (vx := (.int .u8 ((b.toNat : Nat) : Int))) (vy := (.int .u8 ((90 : Nat) : Int))) (by kernel_rfl) (by kernel_rfl) fun w => bn_gtr rfl w) ?_
        refine lm (v := .bool (decide (90 < b.toNat))) rfl rfl ?_
        refine wpL_done (fun W4 hW4 => ?_)
        refine (show Code.wp _ _ _ _ _ from ?_)
        cases hd4 : (decide (90 < b.toNat)) with
        | false =>
          have h4 : ¬ (90 < b.toNat) := of_decide_eq_false hd4
          clear hd4
          refine wp_cond_false rfl ?_
          refine wp_skip ?_
          refine (show Code.wp _ _ _ _ _ from ?_)
          refine wp_seq ?_
          refine wp_region_L (W0 := w) [] (hW4) ?_
          refine lm (v := .int .i64 10) rfl rfl ?_
          refine wpL_done (fun W5 hW5 => ?_)
          refine (show Code.wp _ _ _ _ _ from ?_)
          refine wp_seq ?_
          refine wp_seq ?_
          refine wp_region_L (W0 := w) [] (hW5) ?_
          refine lm (v := .int .u8 65) rfl rfl ?_
          refine wpL_done (fun W6 hW6 => ?_)
          refine (show Code.wp _ _ _ _ _ from ?_)
          refine wp_block ?_
          go_loopw [4, 5] (fun u4 u5 wr => ∃ (j : Nat), (j ≤ b.toNat - 65) ∧ u4 = .int .i64 (((letN j) : Nat) : Int) ∧ u5 = .int .u8 (((65 + j) : Nat) : Int) ∧ KS w [] wr) (fun _ u5 _ => b.toNat - (intOf u5).toNat)
          case atStart => exact ⟨0, (Nat.zero_le _), rfl, rfl, hW6⟩
          case round =>
            obtain ⟨j, hj, rfl, rfl, hL7⟩ := hrel
            have lj := let_le (show j ≤ 25 by omega)
            refine wp_seq ?_
            refine wp_seq ?_
            refine wp_region_L (W0 := w) [] (hL7) ?_
            refine lm (v := .int .u8 (((65 + j) : Nat) : Int)) rfl rfl ?_
            refine lm (v := .int .u8 ((b.toNat : Nat) : Int)) rfl rfl ?_
            refine lp (v := .bool (decide ((65 + j) < b.toNat))) rfl rfl (run_bin rfl (vx := (.int .u8 (((65 + j) : Nat) : Int))) (vy := (.int .u8 ((b.toNat : Nat) : Int))) (by kernel_rfl) (by kernel_rfl) fun w => bn_lss rfl w) ?_
            refine wpL_done (fun W8 hW8 => ?_)
            refine (show Code.wp _ _ _ _ _ from ?_)
            cases hd5 : (decide ((65 + j) < b.toNat)) with
            | false =>
              have h5 : ¬ ((65 + j) < b.toNat) := of_decide_eq_false hd5
              clear hd5
              refine wp_cond_false rfl ?_
              refine wp_exit ?_
              refine (show Code.wp _ _ _ _ _ from ?_)
              refine wp_seq ?_
              refine wp_region_L (W0 := w) [] (hW8) ?_
              refine lm (v := .int .i64 (((letN j) : Nat) : Int)) rfl rfl ?_
              refine lm (v := .int .i64 (((letN j) : Nat) : Int)) rfl rfl ?_
              refine lm (v := .bool true) rfl rfl ?_
              refine wpL_done (fun W9 hW9 => ?_)
              refine (show Code.wp _ _ _ _ _ from ?_)
              refine wp_ret ?_
              try simp only [inBlock_ret, then_ret]
              refine bodyPost_ret (v := .tuple #[.int .i64 (((letN j) : Nat) : Int), .bool true]) ?_ rfl ?_
              · kernel_rfl
              · exact ⟨(congrArg Ending.returned (val_is (letN j) true (by unfold letN vN isDig isCap; simp only [Bool.and_eq_true, decide_eq_true_eq]; (repeat' split) <;> omega) (by unfold isDig isCap; simp; omega))), hW9.1⟩
            | true =>
              have h5 : (65 + j) < b.toNat := of_decide_eq_true hd5
              clear hd5
              refine wp_cond_true rfl ?_
              refine wp_skip ?_
              refine (show Code.wp _ _ _ _ _ from ?_)
              refine wp_seq ?_
              refine wp_block ?_
              refine wp_seq ?_
              refine wp_region_L (W0 := w) [] (hW8) ?_
              refine lm (v := .int .i64 (((letN j) : Nat) : Int)) rfl rfl ?_
              refine lp (v := .int .i64 ((((letN j) + 1) : Nat) : Int)) rfl rfl (run_bin rfl (vx := (.int .i64 (((letN j) : Nat) : Int))) (vy := (.int .i64 ((1 : Nat) : Int))) (by kernel_rfl) (by kernel_rfl) fun w => bn_add (z := ((letN j) + 1)) rfl (wr_i64 (by omega)) w) ?_
              refine lm (v := .int .i64 ((((letN j) + 1) : Nat) : Int)) rfl rfl ?_
              refine wpL_done (fun W10 hW10 => ?_)
              refine (show Code.wp _ _ _ _ _ from ?_)
              refine wp_seq ?_
              refine wp_region_L (W0 := w) [] (hW10) ?_
              refine lm (v := .int .i64 ((((letN j) + 1) : Nat) : Int)) rfl rfl ?_
              refine lp (v := .int .i64 (((((letN j) + 1) % 11) : Nat) : Int)) rfl rfl (run_bin rfl (vx := (.int .i64 ((((letN j) + 1) : Nat) : Int))) (vy := (.int .i64 ((11 : Nat) : Int))) (by kernel_rfl) (by kernel_rfl) fun w => bn_rem (z := (((letN j) + 1) % 11)) rfl (by omega) w) ?_
              refine lp (v := .bool (decide ((((letN j) + 1) % 11) = 0))) rfl rfl (run_bin rfl (vx := (.int .i64 (((((letN j) + 1) % 11) : Nat) : Int))) (vy := (.int .i64 ((0 : Nat) : Int))) (by kernel_rfl) (by kernel_rfl) fun w => bn_eql rfl w) ?_
              refine wpL_done (fun W11 hW11 => ?_)
              refine (show Code.wp _ _ _ _ _ from ?_)
              cases hd6 : (decide ((((letN j) + 1) % 11) = 0)) with
              | false =>
                have h6 : ¬ ((((letN j) + 1) % 11) = 0) := of_decide_eq_false hd6
                clear hd6
                refine wp_cond_false rfl ?_
                refine wp_skip ?_
                refine (show Code.wp _ _ _ _ _ from ?_)
                refine wp_region_L (W0 := w) [] (hW11) ?_
                refine lm (v := .int .u8 (((65 + j) : Nat) : Int)) rfl rfl ?_
                have e12 := let_no (by omega) h6
                rw [e12]
                refine lp (v := .int .u8 (((65 + (j + 1)) : Nat) : Int)) rfl rfl (run_bin rfl (vx := (.int .u8 (((65 + j) : Nat) : Int))) (vy := (.int .u8 ((1 : Nat) : Int))) (by kernel_rfl) (by kernel_rfl) fun w => bn_add (z := (65 + (j + 1))) (by omega) (wr_u8 (by omega)) w) ?_
                refine lm (v := .int .u8 (((65 + (j + 1)) : Nat) : Int)) rfl rfl ?_
                refine wpL_done (fun W12 hW12 => ?_)
                go_roundw
                case rel =>
                  repeat apply Exists.intro
                  exact ⟨⟨j + 1, (by omega), rfl, rfl, hW12⟩, rfl⟩
                case measure => (show b.toNat - (intOf (.int .u8 (((65 + (j + 1)) : Nat) : Int))).toNat < b.toNat - (intOf (.int .u8 (((65 + j) : Nat) : Int))).toNat); simp only [intOf]; omega
              | true =>
                have h6 : (((letN j) + 1) % 11) = 0 := of_decide_eq_true hd6
                clear hd6
                refine wp_cond_true rfl ?_
                refine wp_region_L (W0 := w) [] (hW11) ?_
                refine lm (v := .int .i64 ((((letN j) + 1) : Nat) : Int)) rfl rfl ?_
                refine lp (v := .int .i64 (((((letN j) + 1) + 1) : Nat) : Int)) rfl rfl (run_bin rfl (vx := (.int .i64 ((((letN j) + 1) : Nat) : Int))) (vy := (.int .i64 ((1 : Nat) : Int))) (by kernel_rfl) (by kernel_rfl) fun w => bn_add (z := (((letN j) + 1) + 1)) rfl (wr_i64 (by omega)) w) ?_
                have e11 := let_yes (by omega) h6
                refine lp (v := .int .i64 (((letN (j + 1)) : Nat) : Int)) rfl rfl (fun _ => by rw [← e11]; kernel_rfl) ?_
                refine wpL_done (fun W13 hW13 => ?_)
                refine (show Code.wp _ _ _ _ _ from ?_)
                refine wp_region_L (W0 := w) [] (hW13) ?_
                refine lm (v := .int .u8 (((65 + j) : Nat) : Int)) rfl rfl ?_
                refine lp (v := .int .u8 (((65 + (j + 1)) : Nat) : Int)) rfl rfl (run_bin rfl (vx := (.int .u8 (((65 + j) : Nat) : Int))) (vy := (.int .u8 ((1 : Nat) : Int))) (by kernel_rfl) (by kernel_rfl) fun w => bn_add (z := (65 + (j + 1))) (by omega) (wr_u8 (by omega)) w) ?_
                refine lm (v := .int .u8 (((65 + (j + 1)) : Nat) : Int)) rfl rfl ?_
                refine wpL_done (fun W14 hW14 => ?_)
                go_roundw
                case rel =>
                  repeat apply Exists.intro
                  exact ⟨⟨j + 1, (by omega), rfl, rfl, hW14⟩, rfl⟩
                case measure => (show b.toNat - (intOf (.int .u8 (((65 + (j + 1)) : Nat) : Int))).toNat < b.toNat - (intOf (.int .u8 (((65 + j) : Nat) : Int))).toNat); simp only [intOf]; omega
        | true =>
          have h4 : 90 < b.toNat := of_decide_eq_true hd4
          clear hd4
          refine wp_cond_true rfl ?_
          refine wp_seq ?_
          refine wp_region_L (W0 := w) [] (hW4) ?_
          refine lm (v := .int .i64 0) rfl rfl ?_
          refine lm (v := .bool false) rfl rfl ?_
          refine wpL_done (fun W15 hW15 => ?_)
          refine (show Code.wp _ _ _ _ _ from ?_)
          refine wp_ret ?_
          try simp only [inBlock_ret, then_ret]
          refine bodyPost_ret (v := .tuple #[.int .i64 0, .bool false]) ?_ rfl ?_
          · kernel_rfl
          · exact ⟨(congrArg Ending.returned (val_is 0 false (by unfold vN isDig isCap; simp only [Bool.and_eq_true, decide_eq_true_eq]; (repeat' split) <;> omega) (by unfold isDig isCap; simp; omega))), hW15.1⟩
      | true =>
        have h3 : b.toNat < 65 := of_decide_eq_true hd3
        clear hd3
        refine ln rfl ?_
        refine ln rfl ?_
        refine lm (v := .bool true) rfl rfl ?_
        refine wpL_done (fun W16 hW16 => ?_)
        refine (show Code.wp _ _ _ _ _ from ?_)
        refine wp_cond_true rfl ?_
        refine wp_seq ?_
        refine wp_region_L (W0 := w) [] (hW16) ?_
        refine lm (v := .int .i64 0) rfl rfl ?_
        refine lm (v := .bool false) rfl rfl ?_
        refine wpL_done (fun W17 hW17 => ?_)
        refine (show Code.wp _ _ _ _ _ from ?_)
        refine wp_ret ?_
        try simp only [inBlock_ret, then_ret]
        refine bodyPost_ret (v := .tuple #[.int .i64 0, .bool false]) ?_ rfl ?_
        · kernel_rfl
        · exact ⟨(congrArg Ending.returned (val_is 0 false (by unfold vN isDig isCap; simp only [Bool.and_eq_true, decide_eq_true_eq]; (repeat' split) <;> omega) (by unfold isDig isCap; simp; omega))), hW17.1⟩
  | true =>
    have h1 : b.toNat < 48 := of_decide_eq_true hd1
    clear hd1
    refine ln rfl ?_
    refine ln rfl ?_
    refine lm (v := .bool false) rfl rfl ?_
    refine wpL_done (fun W18 hW18 => ?_)
    refine (show Code.wp _ _ _ _ _ from ?_)
    refine wp_cond_false rfl ?_
    refine wp_skip ?_
    refine (show Code.wp _ _ _ _ _ from ?_)
    refine wp_seq ?_
    refine wp_seq ?_
    refine wp_region_L (W0 := w) [] (hW18) ?_
    refine lm (v := .int .u8 ((b.toNat : Nat) : Int)) rfl rfl ?_
    refine lp (v := .bool (decide (b.toNat < 65))) rfl rfl (run_bin rfl (vx := (.int .u8 ((b.toNat : Nat) : Int))) (vy := (.int .u8 ((65 : Nat) : Int))) (by kernel_rfl) (by kernel_rfl) fun w => bn_lss rfl w) ?_
    refine lm (v := .bool (decide (b.toNat < 65))) rfl rfl ?_
    cases hd7 : (decide (b.toNat < 65)) with
    | false =>
      have h7 : ¬ (b.toNat < 65) := of_decide_eq_false hd7
      clear hd7
      refine lm (v := .int .u8 ((b.toNat : Nat) : Int)) rfl rfl ?_
      refine lp (v := .bool (decide (90 < b.toNat))) rfl rfl (run_bin rfl (vx := (.int .u8 ((b.toNat : Nat) : Int))) (vy := (.int .u8 ((90 : Nat) : Int))) (by kernel_rfl) (by kernel_rfl) fun w => bn_gtr rfl w) ?_
      refine lm (v := .bool (decide (90 < b.toNat))) rfl rfl ?_
      refine wpL_done (fun W19 hW19 => ?_)
      refine (show Code.wp _ _ _ _ _ from ?_)
      cases hd8 : (decide (90 < b.toNat)) with
      | false =>
        have h8 : ¬ (90 < b.toNat) := of_decide_eq_false hd8
        clear hd8
        refine wp_cond_false rfl ?_
        refine wp_skip ?_
        refine (show Code.wp _ _ _ _ _ from ?_)
        refine wp_seq ?_
        refine wp_region_L (W0 := w) [] (hW19) ?_
        refine lm (v := .int .i64 10) rfl rfl ?_
        refine wpL_done (fun W20 hW20 => ?_)
        refine (show Code.wp _ _ _ _ _ from ?_)
        refine wp_seq ?_
        refine wp_seq ?_
        refine wp_region_L (W0 := w) [] (hW20) ?_
        refine lm (v := .int .u8 65) rfl rfl ?_
        refine wpL_done (fun W21 hW21 => ?_)
        refine (show Code.wp _ _ _ _ _ from ?_)
        refine wp_block ?_
        go_loopw [4, 5] (fun u4 u5 wr => ∃ (j : Nat), (j ≤ b.toNat - 65) ∧ u4 = .int .i64 (((letN j) : Nat) : Int) ∧ u5 = .int .u8 (((65 + j) : Nat) : Int) ∧ KS w [] wr) (fun _ u5 _ => b.toNat - (intOf u5).toNat)
        case atStart => exact ⟨0, (Nat.zero_le _), rfl, rfl, hW21⟩
        case round =>
          obtain ⟨j, hj, rfl, rfl, hL22⟩ := hrel
          have lj := let_le (show j ≤ 25 by omega)
          refine wp_seq ?_
          refine wp_seq ?_
          refine wp_region_L (W0 := w) [] (hL22) ?_
          refine lm (v := .int .u8 (((65 + j) : Nat) : Int)) rfl rfl ?_
          refine lm (v := .int .u8 ((b.toNat : Nat) : Int)) rfl rfl ?_
          refine lp (v := .bool (decide ((65 + j) < b.toNat))) rfl rfl (run_bin rfl (vx := (.int .u8 (((65 + j) : Nat) : Int))) (vy := (.int .u8 ((b.toNat : Nat) : Int))) (by kernel_rfl) (by kernel_rfl) fun w => bn_lss rfl w) ?_
          refine wpL_done (fun W23 hW23 => ?_)
          refine (show Code.wp _ _ _ _ _ from ?_)
          cases hd9 : (decide ((65 + j) < b.toNat)) with
          | false =>
            have h9 : ¬ ((65 + j) < b.toNat) := of_decide_eq_false hd9
            clear hd9
            refine wp_cond_false rfl ?_
            refine wp_exit ?_
            refine (show Code.wp _ _ _ _ _ from ?_)
            refine wp_seq ?_
            refine wp_region_L (W0 := w) [] (hW23) ?_
            refine lm (v := .int .i64 (((letN j) : Nat) : Int)) rfl rfl ?_
            refine lm (v := .int .i64 (((letN j) : Nat) : Int)) rfl rfl ?_
            refine lm (v := .bool true) rfl rfl ?_
            refine wpL_done (fun W24 hW24 => ?_)
            refine (show Code.wp _ _ _ _ _ from ?_)
            refine wp_ret ?_
            try simp only [inBlock_ret, then_ret]
            refine bodyPost_ret (v := .tuple #[.int .i64 (((letN j) : Nat) : Int), .bool true]) ?_ rfl ?_
            · kernel_rfl
            · exact ⟨(congrArg Ending.returned (val_is (letN j) true (by unfold letN vN isDig isCap; simp only [Bool.and_eq_true, decide_eq_true_eq]; (repeat' split) <;> omega) (by unfold isDig isCap; simp; omega))), hW24.1⟩
          | true =>
            have h9 : (65 + j) < b.toNat := of_decide_eq_true hd9
            clear hd9
            refine wp_cond_true rfl ?_
            refine wp_skip ?_
            refine (show Code.wp _ _ _ _ _ from ?_)
            refine wp_seq ?_
            refine wp_block ?_
            refine wp_seq ?_
            refine wp_region_L (W0 := w) [] (hW23) ?_
            refine lm (v := .int .i64 (((letN j) : Nat) : Int)) rfl rfl ?_
            refine lp (v := .int .i64 ((((letN j) + 1) : Nat) : Int)) rfl rfl (run_bin rfl (vx := (.int .i64 (((letN j) : Nat) : Int))) (vy := (.int .i64 ((1 : Nat) : Int))) (by kernel_rfl) (by kernel_rfl) fun w => bn_add (z := ((letN j) + 1)) rfl (wr_i64 (by omega)) w) ?_
            refine lm (v := .int .i64 ((((letN j) + 1) : Nat) : Int)) rfl rfl ?_
            refine wpL_done (fun W25 hW25 => ?_)
            refine (show Code.wp _ _ _ _ _ from ?_)
            refine wp_seq ?_
            refine wp_region_L (W0 := w) [] (hW25) ?_
            refine lm (v := .int .i64 ((((letN j) + 1) : Nat) : Int)) rfl rfl ?_
            refine lp (v := .int .i64 (((((letN j) + 1) % 11) : Nat) : Int)) rfl rfl (run_bin rfl (vx := (.int .i64 ((((letN j) + 1) : Nat) : Int))) (vy := (.int .i64 ((11 : Nat) : Int))) (by kernel_rfl) (by kernel_rfl) fun w => bn_rem (z := (((letN j) + 1) % 11)) rfl (by omega) w) ?_
            refine lp (v := .bool (decide ((((letN j) + 1) % 11) = 0))) rfl rfl (run_bin rfl (vx := (.int .i64 (((((letN j) + 1) % 11) : Nat) : Int))) (vy := (.int .i64 ((0 : Nat) : Int))) (by kernel_rfl) (by kernel_rfl) fun w => bn_eql rfl w) ?_
            refine wpL_done (fun W26 hW26 => ?_)
            refine (show Code.wp _ _ _ _ _ from ?_)
            cases hd10 : (decide ((((letN j) + 1) % 11) = 0)) with
            | false =>
              have h10 : ¬ ((((letN j) + 1) % 11) = 0) := of_decide_eq_false hd10
              clear hd10
              refine wp_cond_false rfl ?_
              refine wp_skip ?_
              refine (show Code.wp _ _ _ _ _ from ?_)
              refine wp_region_L (W0 := w) [] (hW26) ?_
              refine lm (v := .int .u8 (((65 + j) : Nat) : Int)) rfl rfl ?_
              have e12 := let_no (by omega) h10
              rw [e12]
              refine lp (v := .int .u8 (((65 + (j + 1)) : Nat) : Int)) rfl rfl (run_bin rfl (vx := (.int .u8 (((65 + j) : Nat) : Int))) (vy := (.int .u8 ((1 : Nat) : Int))) (by kernel_rfl) (by kernel_rfl) fun w => bn_add (z := (65 + (j + 1))) (by omega) (wr_u8 (by omega)) w) ?_
              refine lm (v := .int .u8 (((65 + (j + 1)) : Nat) : Int)) rfl rfl ?_
              refine wpL_done (fun W27 hW27 => ?_)
              go_roundw
              case rel =>
                repeat apply Exists.intro
                exact ⟨⟨j + 1, (by omega), rfl, rfl, hW27⟩, rfl⟩
              case measure => (show b.toNat - (intOf (.int .u8 (((65 + (j + 1)) : Nat) : Int))).toNat < b.toNat - (intOf (.int .u8 (((65 + j) : Nat) : Int))).toNat); simp only [intOf]; omega
            | true =>
              have h10 : (((letN j) + 1) % 11) = 0 := of_decide_eq_true hd10
              clear hd10
              refine wp_cond_true rfl ?_
              refine wp_region_L (W0 := w) [] (hW26) ?_
              refine lm (v := .int .i64 ((((letN j) + 1) : Nat) : Int)) rfl rfl ?_
              refine lp (v := .int .i64 (((((letN j) + 1) + 1) : Nat) : Int)) rfl rfl (run_bin rfl (vx := (.int .i64 ((((letN j) + 1) : Nat) : Int))) (vy := (.int .i64 ((1 : Nat) : Int))) (by kernel_rfl) (by kernel_rfl) fun w => bn_add (z := (((letN j) + 1) + 1)) rfl (wr_i64 (by omega)) w) ?_
              have e11 := let_yes (by omega) h10
              refine lp (v := .int .i64 (((letN (j + 1)) : Nat) : Int)) rfl rfl (fun _ => by rw [← e11]; kernel_rfl) ?_
              refine wpL_done (fun W28 hW28 => ?_)
              refine (show Code.wp _ _ _ _ _ from ?_)
              refine wp_region_L (W0 := w) [] (hW28) ?_
              refine lm (v := .int .u8 (((65 + j) : Nat) : Int)) rfl rfl ?_
              refine lp (v := .int .u8 (((65 + (j + 1)) : Nat) : Int)) rfl rfl (run_bin rfl (vx := (.int .u8 (((65 + j) : Nat) : Int))) (vy := (.int .u8 ((1 : Nat) : Int))) (by kernel_rfl) (by kernel_rfl) fun w => bn_add (z := (65 + (j + 1))) (by omega) (wr_u8 (by omega)) w) ?_
              refine lm (v := .int .u8 (((65 + (j + 1)) : Nat) : Int)) rfl rfl ?_
              refine wpL_done (fun W29 hW29 => ?_)
              go_roundw
              case rel =>
                repeat apply Exists.intro
                exact ⟨⟨j + 1, (by omega), rfl, rfl, hW29⟩, rfl⟩
              case measure => (show b.toNat - (intOf (.int .u8 (((65 + (j + 1)) : Nat) : Int))).toNat < b.toNat - (intOf (.int .u8 (((65 + j) : Nat) : Int))).toNat); simp only [intOf]; omega
      | true =>
        have h8 : 90 < b.toNat := of_decide_eq_true hd8
        clear hd8
        refine wp_cond_true rfl ?_
        refine wp_seq ?_
        refine wp_region_L (W0 := w) [] (hW19) ?_
        refine lm (v := .int .i64 0) rfl rfl ?_
        refine lm (v := .bool false) rfl rfl ?_
        refine wpL_done (fun W30 hW30 => ?_)
        refine (show Code.wp _ _ _ _ _ from ?_)
        refine wp_ret ?_
        try simp only [inBlock_ret, then_ret]
        refine bodyPost_ret (v := .tuple #[.int .i64 0, .bool false]) ?_ rfl ?_
        · kernel_rfl
        · exact ⟨(congrArg Ending.returned (val_is 0 false (by unfold vN isDig isCap; simp only [Bool.and_eq_true, decide_eq_true_eq]; (repeat' split) <;> omega) (by unfold isDig isCap; simp; omega))), hW30.1⟩
    | true =>
      have h7 : b.toNat < 65 := of_decide_eq_true hd7
      clear hd7
      refine ln rfl ?_
      refine ln rfl ?_
      refine lm (v := .bool true) rfl rfl ?_
      refine wpL_done (fun W31 hW31 => ?_)
      refine (show Code.wp _ _ _ _ _ from ?_)
      refine wp_cond_true rfl ?_
      refine wp_seq ?_
      refine wp_region_L (W0 := w) [] (hW31) ?_
      refine lm (v := .int .i64 0) rfl rfl ?_
      refine lm (v := .bool false) rfl rfl ?_
      refine wpL_done (fun W32 hW32 => ?_)
      refine (show Code.wp _ _ _ _ _ from ?_)
      refine wp_ret ?_
      try simp only [inBlock_ret, then_ret]
      refine bodyPost_ret (v := .tuple #[.int .i64 0, .bool false]) ?_ rfl ?_
      · kernel_rfl
      · exact ⟨(congrArg Ending.returned (val_is 0 false (by unfold vN isDig isCap; simp only [Bool.and_eq_true, decide_eq_true_eq]; (repeat' split) <;> omega) (by unfold isDig isCap; simp; omega))), hW32.1⟩
set_option maxRecDepth 100000 in
set_option maxHeartbeats 4000000 in
theorem form_any (l : List UInt8) (n : Nat) (hn : n ≤ 11) (w : World) : Calls Tryd.prog 47 #[strV l, .int .i64 ((n : Nat) : Int)] w fun e w' => e = .returned (.bool (fitB l n)) ∧ Below w.heap.size w w' := by
  go_enter Tryd.func47, Tryd.ntmps47
  refine wp_seq ?_
  refine wp_region_L (W0 := w) [] (KS.start w) ?_
  refine lm (v := .bool false) rfl rfl ?_
  refine wpL_done (fun W1 hW1 => ?_)
  refine (show Code.wp _ _ _ _ _ from ?_)
  refine wp_seq ?_
  refine wp_seq ?_
  refine wp_region_L (W0 := w) [] (hW1) ?_
  refine lm (v := strV l) rfl rfl ?_
  refine lp (v := .int .i64 ((l.length : Nat) : Int)) rfl rfl (run_lenS (l := l) rfl Tryd.underlying9 (by kernel_rfl)) ?_
  refine lm (v := .int .i64 ((n : Nat) : Int)) rfl rfl ?_
  refine lp (v := .bool (!(decide (l.length = n)))) rfl rfl (run_bin rfl (vx := (.int .i64 ((l.length : Nat) : Int))) (vy := (.int .i64 ((n : Nat) : Int))) (by kernel_rfl) (by kernel_rfl) fun w => bn_neq rfl w) ?_
  refine wpL_done (fun W2 hW2 => ?_)
  refine (show Code.wp _ _ _ _ _ from ?_)
  cases hd1 : (decide (l.length = n)) with
  | false =>
    have h1 : ¬ (l.length = n) := of_decide_eq_false hd1
    clear hd1
    refine wp_cond_true rfl ?_
    refine wp_seq ?_
    refine wp_region_L (W0 := w) [] (hW2) ?_
    refine lm (v := .bool false) rfl rfl ?_
    refine wpL_done (fun W3 hW3 => ?_)
    refine (show Code.wp _ _ _ _ _ from ?_)
    refine wp_ret ?_
    try simp only [inBlock_ret, then_ret]
    refine bodyPost_ret (v := .bool false) ?_ rfl ?_
    · kernel_rfl
    · exact ⟨(bool_is (by unfold fitB; simp [*])), hW3.1⟩
  | true =>
    have h1 : l.length = n := of_decide_eq_true hd1
    clear hd1
    refine wp_cond_false rfl ?_
    refine wp_skip ?_
    refine (show Code.wp _ _ _ _ _ from ?_)
    refine wp_seq ?_
    refine wp_seq ?_
    refine wp_region_L (W0 := w) [] (hW2) ?_
    refine lm (v := .int .i64 0) rfl rfl ?_
    refine wpL_done (fun W4 hW4 => ?_)
    refine (show Code.wp _ _ _ _ _ from ?_)
    refine wp_block ?_
    go_loopw [5] (fun u5 wr => ∃ (k : Nat), (k ≤ n) ∧ (fitF 0 l = fitF k (l.drop k)) ∧ u5 = .int .i64 ((k : Nat) : Int) ∧ KS w [] wr) (fun u5 _ => n - (intOf u5).toNat)
    case atStart => exact ⟨0, (Nat.zero_le _), rfl, rfl, hW4⟩
    case round =>
      obtain ⟨k, hk, hf, rfl, hL5⟩ := hrel
      refine wp_seq ?_
      refine wp_seq ?_
      refine wp_region_L (W0 := w) [] (hL5) ?_
      refine lm (v := .int .i64 ((k : Nat) : Int)) rfl rfl ?_
      refine lm (v := .int .i64 ((n : Nat) : Int)) rfl rfl ?_
      refine lp (v := .bool (decide (k < n))) rfl rfl (run_bin rfl (vx := (.int .i64 ((k : Nat) : Int))) (vy := (.int .i64 ((n : Nat) : Int))) (by kernel_rfl) (by kernel_rfl) fun w => bn_lss rfl w) ?_
      refine wpL_done (fun W6 hW6 => ?_)
      refine (show Code.wp _ _ _ _ _ from ?_)
      cases hd2 : (decide (k < n)) with
      | false =>
        have h2 : ¬ (k < n) := of_decide_eq_false hd2
        clear hd2
        have hff : fitF 0 l = true := by rw [hf, List.drop_eq_nil_of_le (by omega)]; rfl
        refine wp_cond_false rfl ?_
        refine wp_exit ?_
        refine (show Code.wp _ _ _ _ _ from ?_)
        refine wp_seq ?_
        refine wp_region_L (W0 := w) [] (hW6) ?_
        refine lm (v := .bool true) rfl rfl ?_
        refine wpL_done (fun W7 hW7 => ?_)
        refine (show Code.wp _ _ _ _ _ from ?_)
        refine wp_ret ?_
        try simp only [inBlock_ret, then_ret]
        refine bodyPost_ret (v := .bool true) ?_ rfl ?_
        · kernel_rfl
        · exact ⟨(bool_is (by unfold fitB; rw [hff]; simp [*])), hW7.1⟩
      | true =>
        have h2 : k < n := of_decide_eq_true hd2
        clear hd2
        obtain ⟨b1, hb1⟩ : ∃ b, (l : List UInt8)[k]? = some b := ⟨_, List.getElem?_eq_getElem (by omega)⟩
        have lb1 := b1.toNat_lt
        refine wp_cond_true rfl ?_
        refine wp_skip ?_
        refine (show Code.wp _ _ _ _ _ from ?_)
        refine wp_seq ?_
        refine wp_block ?_
        refine wp_joins (JoinR (fun z => List.toArray ((strV l) :: (.int .i64 ((n : Nat) : Int)) :: undef :: undef :: z 4 :: (.int .i64 ((k : Nat) : Int)) :: (.bool (isDig b1)) :: (strV l) :: (.int .i64 ((l.length : Nat) : Int)) :: (.int .i64 ((n : Nat) : Int)) :: (.bool false) :: (.int .i64 ((k : Nat) : Int)) :: (.int .i64 ((n : Nat) : Int)) :: (.bool true) :: z 14 :: z 15 :: z 16 :: z 17 :: z 18 :: z 19 :: z 20 :: z 21 :: z 22 :: z 23 :: z 24 :: z 25 :: z 26 :: z 27 :: z 28 :: z 29 :: z 30 :: z 31 :: z 32 :: z 33 :: z 34 :: z 35 :: z 36 :: z 37 :: z 38 :: z 39 :: z 40 :: z 41 :: z 42 :: z 43 :: z 44 :: z 45 :: z 46 :: z 47 :: z 48 :: z 49 :: z 50 :: z 51 :: z 52 :: z 53 :: z 54 :: z 55 :: z 56 :: z 57 :: z 58 :: z 59 :: z 60 :: z 61 :: z 62 :: z 63 :: z 64 :: z 65 :: z 66 :: z 67 :: z 68 :: z 69 :: [])) w []) 1 ?_ ?_
        · refine (show Code.wp _ _ _ _ _ from ?_)
          refine wp_region_L (W0 := w) [] (hW6) ?_
          refine lm (v := strV l) rfl rfl ?_
          refine lm (v := .int .i64 ((k : Nat) : Int)) rfl rfl ?_
          refine lp (v := .int .u8 ((b1.toNat : Nat) : Int)) rfl rfl (run_idxS (j := .i64) (l := l) (k := k) (b := b1) rfl Tryd.underlying9 (by kernel_rfl) (by kernel_rfl) hb1) ?_
          refine lp (v := .bool (!(decide (b1.toNat < 48)))) rfl rfl (run_bin rfl (vx := (.int .u8 ((b1.toNat : Nat) : Int))) (vy := (.int .u8 ((48 : Nat) : Int))) (by kernel_rfl) (by kernel_rfl) fun w => bn_geq rfl w) ?_
          refine lm (v := .bool (!(decide (b1.toNat < 48)))) rfl rfl ?_
          cases hd3 : (decide (b1.toNat < 48)) with
          | false =>
            have h3 : ¬ (b1.toNat < 48) := of_decide_eq_false hd3
            clear hd3
            refine lm (v := strV l) rfl rfl ?_
            refine lm (v := .int .i64 ((k : Nat) : Int)) rfl rfl ?_
            refine lp (v := .int .u8 ((b1.toNat : Nat) : Int)) rfl rfl (run_idxS (j := .i64) (l := l) (k := k) (b := b1) rfl Tryd.underlying9 (by kernel_rfl) (by kernel_rfl) hb1) ?_
            refine lp (v := .bool (!(decide (57 < b1.toNat)))) rfl rfl (run_bin rfl (vx := (.int .u8 ((b1.toNat : Nat) : Int))) (vy := (.int .u8 ((57 : Nat) : Int))) (by kernel_rfl) (by kernel_rfl) fun w => bn_leq rfl w) ?_
            refine lm (v := .bool (!(decide (57 < b1.toNat)))) rfl rfl ?_
            refine lm (v := .bool (!(decide (57 < b1.toNat)))) rfl rfl ?_
            refine wpL_done (fun W8 hW8 => ?_)
            have e6 : isDig b1 = (!(decide (57 < b1.toNat))) := by unfold isDig; rw [Bool.eq_iff_iff]; simp <;> omega
            exact join_mk (by rw [e6]; kernel_rfl) hW8
          | true =>
            have h3 : b1.toNat < 48 := of_decide_eq_true hd3
            clear hd3
            refine ln rfl ?_
            refine ln rfl ?_
            refine ln rfl ?_
            refine ln rfl ?_
            refine lm (v := .bool false) rfl rfl ?_
            refine lm (v := .bool false) rfl rfl ?_
            refine wpL_done (fun W9 hW9 => ?_)
            have e6 : isDig b1 = false := by unfold isDig; rw [Bool.eq_iff_iff]; simp <;> omega
            exact join_mk (by rw [e6]; kernel_rfl) hW9
        · rintro a1 W1j ⟨⟨z, rfl⟩, hW1j⟩
          dsimp only [cutT]
          refine wp_joins (JoinR (fun z => List.toArray ((strV l) :: (.int .i64 ((n : Nat) : Int)) :: undef :: undef :: z 4 :: (.int .i64 ((k : Nat) : Int)) :: z 6 :: (strV l) :: (.int .i64 ((l.length : Nat) : Int)) :: (.int .i64 ((n : Nat) : Int)) :: (.bool false) :: (.int .i64 ((k : Nat) : Int)) :: (.int .i64 ((n : Nat) : Int)) :: (.bool true) :: z 14 :: z 15 :: z 16 :: z 17 :: z 18 :: z 19 :: z 20 :: z 21 :: z 22 :: z 23 :: z 24 :: z 25 :: z 26 :: z 27 :: z 28 :: z 29 :: z 30 :: z 31 :: z 32 :: z 33 :: z 34 :: z 35 :: z 36 :: z 37 :: z 38 :: z 39 :: z 40 :: z 41 :: z 42 :: z 43 :: z 44 :: z 45 :: z 46 :: z 47 :: z 48 :: z 49 :: z 50 :: z 51 :: z 52 :: z 53 :: z 54 :: z 55 :: z 56 :: z 57 :: z 58 :: z 59 :: z 60 :: z 61 :: z 62 :: z 63 :: z 64 :: z 65 :: z 66 :: z 67 :: z 68 :: (.bool (!(mayB k b1))) :: [])) w []) 1 ?_ ?_
          · refine (show Code.wp _ _ _ _ _ from ?_)
            refine wp_region_L (W0 := w) [] (hW1j) ?_
            refine lm (v := .int .i64 ((k : Nat) : Int)) rfl rfl ?_
            refine lp (v := .bool (decide (k < 3))) rfl rfl (run_bin rfl (vx := (.int .i64 ((k : Nat) : Int))) (vy := (.int .i64 ((3 : Nat) : Int))) (by kernel_rfl) (by kernel_rfl) fun w => bn_lss rfl w) ?_
            refine lm (v := .bool (decide (k < 3))) rfl rfl ?_
            cases hd4 : (decide (k < 3)) with
            | false =>
              have h4 : ¬ (k < 3) := of_decide_eq_false hd4
              clear hd4
              refine ln rfl ?_
              refine ln rfl ?_
              refine ln rfl ?_
              refine ln rfl ?_
              refine ln rfl ?_
              refine ln rfl ?_
              refine ln rfl ?_
              refine ln rfl ?_
              refine ln rfl ?_
              refine ln rfl ?_
              refine lm (v := .bool false) rfl rfl ?_
              refine lm (v := .bool false) rfl rfl ?_
              refine lm (v := .int .i64 ((k : Nat) : Int)) rfl rfl ?_
              refine lp (v := .bool (decide (k = 3))) rfl rfl (run_bin rfl (vx := (.int .i64 ((k : Nat) : Int))) (vy := (.int .i64 ((3 : Nat) : Int))) (by kernel_rfl) (by kernel_rfl) fun w => bn_eql rfl w) ?_
              refine lm (v := .bool (decide (k = 3))) rfl rfl ?_
              cases hd5 : (decide (k = 3)) with
              | false =>
                have h5 : ¬ (k = 3) := of_decide_eq_false hd5
                clear hd5
                refine ln rfl ?_
                refine ln rfl ?_
                refine ln rfl ?_
                refine ln rfl ?_
                refine lm (v := .bool false) rfl rfl ?_
                refine lm (v := .bool false) rfl rfl ?_
                refine ln rfl ?_
                refine ln rfl ?_
                refine ln rfl ?_
                refine ln rfl ?_
                refine lm (v := .bool false) rfl rfl ?_
                refine lm (v := .bool false) rfl rfl ?_
                refine ln rfl ?_
                refine ln rfl ?_
                refine ln rfl ?_
                refine ln rfl ?_
                refine lm (v := .bool false) rfl rfl ?_
                refine lm (v := .bool false) rfl rfl ?_
                refine lm (v := .bool false) rfl rfl ?_
                refine lm (v := .int .i64 ((k : Nat) : Int)) rfl rfl ?_
                refine lp (v := .bool true) rfl rfl (run_bin rfl (vx := (.int .i64 ((k : Nat) : Int))) (vy := (.int .i64 ((3 : Nat) : Int))) (by kernel_rfl) (by kernel_rfl) fun w => bn_gtr (decide_eq_true (by omega)) w) ?_
                refine lm (v := .bool true) rfl rfl ?_
                refine lm (v := .bool (isDig b1)) rfl rfl ?_
                refine lp (v := .bool (!(isDig b1))) rfl rfl (run_un rfl (by kernel_rfl) fun w => un_not w) ?_
                refine lm (v := .bool (!(isDig b1))) rfl rfl ?_
                refine lm (v := .bool (!(isDig b1))) rfl rfl ?_
                refine wpL_done (fun W10 hW10 => ?_)
                have e69 : (!(mayB k b1)) = (!(isDig b1)) := by unfold mayB isCap isCat; simp [h4, h5] <;> omega
                exact join_mk (by rw [e69]; kernel_rfl) hW10
              | true =>
                have h5 : k = 3 := of_decide_eq_true hd5
                clear hd5
                refine lm (v := strV l) rfl rfl ?_
                refine lm (v := .int .i64 ((k : Nat) : Int)) rfl rfl ?_
                refine lp (v := .int .u8 ((b1.toNat : Nat) : Int)) rfl rfl (run_idxS (j := .i64) (l := l) (k := k) (b := b1) rfl Tryd.underlying9 (by kernel_rfl) (by kernel_rfl) hb1) ?_
                refine lp (v := .bool (!(decide (b1.toNat = 85)))) rfl rfl (run_bin rfl (vx := (.int .u8 ((b1.toNat : Nat) : Int))) (vy := (.int .u8 ((85 : Nat) : Int))) (by kernel_rfl) (by kernel_rfl) fun w => bn_neq rfl w) ?_
                refine lm (v := .bool (!(decide (b1.toNat = 85)))) rfl rfl ?_
                refine lm (v := .bool (!(decide (b1.toNat = 85)))) rfl rfl ?_
                cases hd6 : (decide (b1.toNat = 85)) with
                | false =>
                  have h6 : ¬ (b1.toNat = 85) := of_decide_eq_false hd6
                  clear hd6
                  refine lm (v := strV l) rfl rfl ?_
                  refine lm (v := .int .i64 ((k : Nat) : Int)) rfl rfl ?_
                  refine lp (v := .int .u8 ((b1.toNat : Nat) : Int)) rfl rfl (run_idxS (j := .i64) (l := l) (k := k) (b := b1) rfl Tryd.underlying9 (by kernel_rfl) (by kernel_rfl) hb1) ?_
                  refine lp (v := .bool (!(decide (b1.toNat = 74)))) rfl rfl (run_bin rfl (vx := (.int .u8 ((b1.toNat : Nat) : Int))) (vy := (.int .u8 ((74 : Nat) : Int))) (by kernel_rfl) (by kernel_rfl) fun w => bn_neq rfl w) ?_
                  refine lm (v := .bool (!(decide (b1.toNat = 74)))) rfl rfl ?_
                  refine lm (v := .bool (!(decide (b1.toNat = 74)))) rfl rfl ?_
                  cases hd7 : (decide (b1.toNat = 74)) with
                  | false =>
                    have h7 : ¬ (b1.toNat = 74) := of_decide_eq_false hd7
                    clear hd7
                    refine lm (v := strV l) rfl rfl ?_
                    refine lm (v := .int .i64 ((k : Nat) : Int)) rfl rfl ?_
                    refine lp (v := .int .u8 ((b1.toNat : Nat) : Int)) rfl rfl (run_idxS (j := .i64) (l := l) (k := k) (b := b1) rfl Tryd.underlying9 (by kernel_rfl) (by kernel_rfl) hb1) ?_
                    refine lp (v := .bool (!(decide (b1.toNat = 90)))) rfl rfl (run_bin rfl (vx := (.int .u8 ((b1.toNat : Nat) : Int))) (vy := (.int .u8 ((90 : Nat) : Int))) (by kernel_rfl) (by kernel_rfl) fun w => bn_neq rfl w) ?_
                    refine lm (v := .bool (!(decide (b1.toNat = 90)))) rfl rfl ?_
                    refine lm (v := .bool (!(decide (b1.toNat = 90)))) rfl rfl ?_
                    refine lm (v := .bool (!(decide (b1.toNat = 90)))) rfl rfl ?_
                    cases hd8 : (decide (b1.toNat = 90)) with
                    | false =>
                      have h8 : ¬ (b1.toNat = 90) := of_decide_eq_false hd8
                      clear hd8
                      refine ln rfl ?_
                      refine ln rfl ?_
                      refine ln rfl ?_
                      refine ln rfl ?_
                      refine ln rfl ?_
                      refine ln rfl ?_
                      refine lm (v := .bool true) rfl rfl ?_
                      refine wpL_done (fun W11 hW11 => ?_)
                      have e69 : (!(mayB k b1)) = true := by unfold mayB isCap isCat; simp [h4, h5, h6, h7, h8] <;> omega
                      exact join_mk (by rw [e69]; kernel_rfl) hW11
                    | true =>
                      have h8 : b1.toNat = 90 := of_decide_eq_true hd8
                      clear hd8
                      refine lm (v := .int .i64 ((k : Nat) : Int)) rfl rfl ?_
                      refine lp (v := .bool false) rfl rfl (run_bin rfl (vx := (.int .i64 ((k : Nat) : Int))) (vy := (.int .i64 ((3 : Nat) : Int))) (by kernel_rfl) (by kernel_rfl) fun w => bn_gtr (decide_eq_false (by omega)) w) ?_
                      refine lm (v := .bool false) rfl rfl ?_
                      refine ln rfl ?_
                      refine ln rfl ?_
                      refine lm (v := .bool false) rfl rfl ?_
                      refine lm (v := .bool false) rfl rfl ?_
                      refine wpL_done (fun W12 hW12 => ?_)
                      have e69 : (!(mayB k b1)) = false := by unfold mayB isCap isCat; simp [h4, h5, h6, h7, h8] <;> omega
                      exact join_mk (by rw [e69]; kernel_rfl) hW12
                  | true =>
                    have h7 : b1.toNat = 74 := of_decide_eq_true hd7
                    clear hd7
                    refine ln rfl ?_
                    refine ln rfl ?_
                    refine ln rfl ?_
                    refine ln rfl ?_
                    refine lm (v := .bool false) rfl rfl ?_
                    refine lm (v := .bool false) rfl rfl ?_
                    refine lm (v := .bool false) rfl rfl ?_
                    refine lm (v := .int .i64 ((k : Nat) : Int)) rfl rfl ?_
                    refine lp (v := .bool false) rfl rfl (run_bin rfl (vx := (.int .i64 ((k : Nat) : Int))) (vy := (.int .i64 ((3 : Nat) : Int))) (by kernel_rfl) (by kernel_rfl) fun w => bn_gtr (decide_eq_false (by omega)) w) ?_
                    refine lm (v := .bool false) rfl rfl ?_
                    refine ln rfl ?_
                    refine ln rfl ?_
                    refine lm (v := .bool false) rfl rfl ?_
                    refine lm (v := .bool false) rfl rfl ?_
                    refine wpL_done (fun W13 hW13 => ?_)
                    have e69 : (!(mayB k b1)) = false := by unfold mayB isCap isCat; simp [h4, h5, h6, h7] <;> omega
                    exact join_mk (by rw [e69]; kernel_rfl) hW13
                | true =>
                  have h6 : b1.toNat = 85 := of_decide_eq_true hd6
                  clear hd6
                  refine ln rfl ?_
                  refine ln rfl ?_
                  refine ln rfl ?_
                  refine ln rfl ?_
                  refine lm (v := .bool false) rfl rfl ?_
                  refine lm (v := .bool false) rfl rfl ?_
                  refine ln rfl ?_
                  refine ln rfl ?_
                  refine ln rfl ?_
                  refine ln rfl ?_
                  refine lm (v := .bool false) rfl rfl ?_
                  refine lm (v := .bool false) rfl rfl ?_
                  refine lm (v := .bool false) rfl rfl ?_
                  refine lm (v := .int .i64 ((k : Nat) : Int)) rfl rfl ?_
                  refine lp (v := .bool false) rfl rfl (run_bin rfl (vx := (.int .i64 ((k : Nat) : Int))) (vy := (.int .i64 ((3 : Nat) : Int))) (by kernel_rfl) (by kernel_rfl) fun w => bn_gtr (decide_eq_false (by omega)) w) ?_
                  refine lm (v := .bool false) rfl rfl ?_
                  refine ln rfl ?_
                  refine ln rfl ?_
                  refine lm (v := .bool false) rfl rfl ?_
                  refine lm (v := .bool false) rfl rfl ?_
                  refine wpL_done (fun W14 hW14 => ?_)
                  have e69 : (!(mayB k b1)) = false := by unfold mayB isCap isCat; simp [h4, h5, h6] <;> omega
                  exact join_mk (by rw [e69]; kernel_rfl) hW14
            | true =>
              have h4 : k < 3 := of_decide_eq_true hd4
              clear hd4
              refine lm (v := strV l) rfl rfl ?_
              refine lm (v := .int .i64 ((k : Nat) : Int)) rfl rfl ?_
              refine lp (v := .int .u8 ((b1.toNat : Nat) : Int)) rfl rfl (run_idxS (j := .i64) (l := l) (k := k) (b := b1) rfl Tryd.underlying9 (by kernel_rfl) (by kernel_rfl) hb1) ?_
              refine lp (v := .bool (decide (b1.toNat < 65))) rfl rfl (run_bin rfl (vx := (.int .u8 ((b1.toNat : Nat) : Int))) (vy := (.int .u8 ((65 : Nat) : Int))) (by kernel_rfl) (by kernel_rfl) fun w => bn_lss rfl w) ?_
              refine lm (v := .bool (decide (b1.toNat < 65))) rfl rfl ?_
              cases hd9 : (decide (b1.toNat < 65)) with
              | false =>
                have h9 : ¬ (b1.toNat < 65) := of_decide_eq_false hd9
                clear hd9
                refine lm (v := strV l) rfl rfl ?_
                refine lm (v := .int .i64 ((k : Nat) : Int)) rfl rfl ?_
                refine lp (v := .int .u8 ((b1.toNat : Nat) : Int)) rfl rfl (run_idxS (j := .i64) (l := l) (k := k) (b := b1) rfl Tryd.underlying9 (by kernel_rfl) (by kernel_rfl) hb1) ?_
                refine lp (v := .bool (decide (90 < b1.toNat))) rfl rfl (run_bin rfl (vx := (.int .u8 ((b1.toNat : Nat) : Int))) (vy := (.int .u8 ((90 : Nat) : Int))) (by kernel_rfl) (by kernel_rfl) fun w => bn_gtr rfl w) ?_
                refine lm (v := .bool (decide (90 < b1.toNat))) rfl rfl ?_
                refine lm (v := .bool (decide (90 < b1.toNat))) rfl rfl ?_
                refine lm (v := .bool (decide (90 < b1.toNat))) rfl rfl ?_
                cases hd10 : (decide (90 < b1.toNat)) with
                | false =>
                  have h10 : ¬ (90 < b1.toNat) := of_decide_eq_false hd10
                  clear hd10
                  refine lm (v := .int .i64 ((k : Nat) : Int)) rfl rfl ?_
                  refine lp (v := .bool false) rfl rfl (run_bin rfl (vx := (.int .i64 ((k : Nat) : Int))) (vy := (.int .i64 ((3 : Nat) : Int))) (by kernel_rfl) (by kernel_rfl) fun w => bn_eql (decide_eq_false (by omega)) w) ?_
                  refine lm (v := .bool false) rfl rfl ?_
                  refine ln rfl ?_
                  refine ln rfl ?_
                  refine ln rfl ?_
                  refine ln rfl ?_
                  refine lm (v := .bool false) rfl rfl ?_
                  refine lm (v := .bool false) rfl rfl ?_
                  refine ln rfl ?_
                  refine ln rfl ?_
                  refine ln rfl ?_
                  refine ln rfl ?_
                  refine lm (v := .bool false) rfl rfl ?_
                  refine lm (v := .bool false) rfl rfl ?_
                  refine ln rfl ?_
                  refine ln rfl ?_
                  refine ln rfl ?_
                  refine ln rfl ?_
                  refine lm (v := .bool false) rfl rfl ?_
                  refine lm (v := .bool false) rfl rfl ?_
                  refine lm (v := .bool false) rfl rfl ?_
                  refine lm (v := .int .i64 ((k : Nat) : Int)) rfl rfl ?_
                  refine lp (v := .bool false) rfl rfl (run_bin rfl (vx := (.int .i64 ((k : Nat) : Int))) (vy := (.int .i64 ((3 : Nat) : Int))) (by kernel_rfl) (by kernel_rfl) fun w => bn_gtr (decide_eq_false (by omega)) w) ?_
                  refine lm (v := .bool false) rfl rfl ?_
                  refine ln rfl ?_
                  refine ln rfl ?_
                  refine lm (v := .bool false) rfl rfl ?_
                  refine lm (v := .bool false) rfl rfl ?_
                  refine wpL_done (fun W15 hW15 => ?_)
                  have e69 : (!(mayB k b1)) = false := by unfold mayB isCap isCat; simp [h4, h9, h10] <;> omega
                  exact join_mk (by rw [e69]; kernel_rfl) hW15
                | true =>
                  have h10 : 90 < b1.toNat := of_decide_eq_true hd10
                  clear hd10
                  refine ln rfl ?_
                  refine ln rfl ?_
                  refine ln rfl ?_
                  refine ln rfl ?_
                  refine ln rfl ?_
                  refine ln rfl ?_
                  refine ln rfl ?_
                  refine ln rfl ?_
                  refine ln rfl ?_
                  refine ln rfl ?_
                  refine ln rfl ?_
                  refine ln rfl ?_
                  refine ln rfl ?_
                  refine ln rfl ?_
                  refine ln rfl ?_
                  refine ln rfl ?_
                  refine ln rfl ?_
                  refine ln rfl ?_
                  refine ln rfl ?_
                  refine ln rfl ?_
                  refine lm (v := .bool true) rfl rfl ?_
                  refine lm (v := .bool true) rfl rfl ?_
                  refine ln rfl ?_
                  refine ln rfl ?_
                  refine ln rfl ?_
                  refine ln rfl ?_
                  refine ln rfl ?_
                  refine ln rfl ?_
                  refine lm (v := .bool true) rfl rfl ?_
                  refine wpL_done (fun W16 hW16 => ?_)
                  have e69 : (!(mayB k b1)) = true := by unfold mayB isCap isCat; simp [h4, h9, h10] <;> omega
                  exact join_mk (by rw [e69]; kernel_rfl) hW16
              | true =>
                have h9 : b1.toNat < 65 := of_decide_eq_true hd9
                clear hd9
                refine ln rfl ?_
                refine ln rfl ?_
                refine ln rfl ?_
                refine ln rfl ?_
                refine lm (v := .bool true) rfl rfl ?_
                refine lm (v := .bool true) rfl rfl ?_
                refine lm (v := .bool true) rfl rfl ?_
                refine ln rfl ?_
                refine ln rfl ?_
                refine ln rfl ?_
                refine ln rfl ?_
                refine ln rfl ?_
                refine ln rfl ?_
                refine ln rfl ?_
                refine ln rfl ?_
                refine ln rfl ?_
                refine ln rfl ?_
                refine ln rfl ?_
                refine ln rfl ?_
                refine ln rfl ?_
                refine ln rfl ?_
                refine ln rfl ?_
                refine ln rfl ?_
                refine ln rfl ?_
                refine ln rfl ?_
                refine ln rfl ?_
                refine ln rfl ?_
                refine lm (v := .bool true) rfl rfl ?_
                refine lm (v := .bool true) rfl rfl ?_
                refine ln rfl ?_
                refine ln rfl ?_
                refine ln rfl ?_
                refine ln rfl ?_
                refine ln rfl ?_
                refine ln rfl ?_
                refine lm (v := .bool true) rfl rfl ?_
                refine wpL_done (fun W17 hW17 => ?_)
                have e69 : (!(mayB k b1)) = true := by unfold mayB isCap isCat; simp [h4, h9] <;> omega
                exact join_mk (by rw [e69]; kernel_rfl) hW17
          · rintro a2 W2j ⟨⟨z, rfl⟩, hW2j⟩
            dsimp only [cutT]
            cases h11 : (mayB k b1) with
            | false =>
              have hff : fitF 0 l = false := by rw [hf, fitF_drop hb1, h11]; rfl
              refine wp_cond_true rfl ?_
              refine wp_seq ?_
              refine wp_region_L (W0 := w) [] (hW2j) ?_
              refine lm (v := .bool false) rfl rfl ?_
              refine wpL_done (fun W18 hW18 => ?_)
              refine (show Code.wp _ _ _ _ _ from ?_)
              refine wp_ret ?_
              try simp only [inBlock_ret, then_ret]
              refine bodyPost_ret (v := .bool false) ?_ rfl ?_
              · kernel_rfl
              · exact ⟨(bool_is (by unfold fitB; rw [hff]; simp [*])), hW18.1⟩
            | true =>
              refine wp_cond_false rfl ?_
              refine wp_skip ?_
              refine (show Code.wp _ _ _ _ _ from ?_)
              refine wp_region_L (W0 := w) [] (hW2j) ?_
              refine lm (v := .int .i64 ((k : Nat) : Int)) rfl rfl ?_
              refine lp (v := .int .i64 (((k + 1) : Nat) : Int)) rfl rfl (run_bin rfl (vx := (.int .i64 ((k : Nat) : Int))) (vy := (.int .i64 ((1 : Nat) : Int))) (by kernel_rfl) (by kernel_rfl) fun w => bn_add (z := (k + 1)) rfl (wr_i64 (by omega)) w) ?_
              refine lm (v := .int .i64 (((k + 1) : Nat) : Int)) rfl rfl ?_
              refine wpL_done (fun W19 hW19 => ?_)
              go_roundw
              case rel =>
                repeat apply Exists.intro
                exact ⟨⟨k + 1, (by omega), (by rw [hf, fitF_drop hb1, h11]; rfl), rfl, hW19⟩, rfl⟩
              case measure => (show n - (intOf (.int .i64 (((k + 1) : Nat) : Int))).toNat < n - (intOf (.int .i64 ((k : Nat) : Int))).toNat); simp only [intOf]; omega
set_option maxRecDepth 100000 in
set_option maxHeartbeats 4000000 in
theorem Remainder_any (l : List UInt8) (hl : l.length = 10) (w : World) : Calls Tryd.prog 48 #[strV l] w fun e w' => e = .returned (.int .i64 (((remL l) : Nat) : Int)) ∧ Below w.heap.size w w' := by
  go_enter Tryd.func48, Tryd.ntmps48
  refine wp_seq ?_
  refine wp_region_L (W0 := w) [] (KS.start w) ?_
  refine lm (v := .int .i64 0) rfl rfl ?_
  refine wpL_done (fun W1 hW1 => ?_)
  refine (show Code.wp _ _ _ _ _ from ?_)
  refine wp_seq ?_
  refine wp_region_L (W0 := w) [] (hW1) ?_
  refine lm (v := .int .i64 0) rfl rfl ?_
  refine lm (v := .int .i64 1) rfl rfl ?_
  refine wpL_done (fun W2 hW2 => ?_)
  refine (show Code.wp _ _ _ _ _ from ?_)
  refine wp_seq ?_
  refine wp_seq ?_
  refine wp_region_L (W0 := w) [] (hW2) ?_
  refine lm (v := .int .i64 0) rfl rfl ?_
  refine wpL_done (fun W3 hW3 => ?_)
  refine (show Code.wp _ _ _ _ _ from ?_)
  refine wp_block ?_
  go_loopw [3, 4, 5] (fun u3 u4 u5 wr => ∃ (k : Nat), (k ≤ 10) ∧ u3 = .int .i64 (((sumF 0 (l.take k) % 11) : Nat) : Int) ∧ u4 = .int .i64 (((2 ^ k % 11) : Nat) : Int) ∧ u5 = .int .i64 ((k : Nat) : Int) ∧ KS w [] wr) (fun _ _ u5 _ => 10 - (intOf u5).toNat)
  case atStart => exact ⟨0, (Nat.zero_le _), rfl, rfl, rfl, hW3⟩
  case round =>
    obtain ⟨k, hk, rfl, rfl, rfl, hL4⟩ := hrel
    have hm1 := Nat.mod_lt (sumF 0 (l.take k)) (show 0 < 11 by omega)
    have hm2 := Nat.mod_lt (2 ^ k) (show 0 < 11 by omega)
    refine wp_seq ?_
    refine wp_seq ?_
    refine wp_region_L (W0 := w) [] (hL4) ?_
    refine lm (v := .int .i64 ((k : Nat) : Int)) rfl rfl ?_
    refine lp (v := .bool (decide (k < 10))) rfl rfl (run_bin rfl (vx := (.int .i64 ((k : Nat) : Int))) (vy := (.int .i64 ((10 : Nat) : Int))) (by kernel_rfl) (by kernel_rfl) fun w => bn_lss rfl w) ?_
    refine wpL_done (fun W5 hW5 => ?_)
    refine (show Code.wp _ _ _ _ _ from ?_)
    cases hd1 : (decide (k < 10)) with
    | false =>
      have h1 : ¬ (k < 10) := of_decide_eq_false hd1
      clear hd1
      have hlk : l.take k = l := List.take_of_length_le (by omega)
      refine wp_cond_false rfl ?_
      refine wp_exit ?_
      refine (show Code.wp _ _ _ _ _ from ?_)
      refine wp_seq ?_
      refine wp_region_L (W0 := w) [] (hW5) ?_
      refine lm (v := .int .i64 (((sumF 0 (l.take k) % 11) : Nat) : Int)) rfl rfl ?_
      refine lm (v := .int .i64 (((sumF 0 (l.take k) % 11) : Nat) : Int)) rfl rfl ?_
      refine wpL_done (fun W6 hW6 => ?_)
      refine (show Code.wp _ _ _ _ _ from ?_)
      refine wp_ret ?_
      try simp only [inBlock_ret, then_ret]
      refine bodyPost_ret (v := .int .i64 (((sumF 0 (l.take k) % 11) : Nat) : Int)) ?_ rfl ?_
      · kernel_rfl
      · exact ⟨(int_is (by unfold remL; rw [hlk])), hW6.1⟩
    | true =>
      have h1 : k < 10 := of_decide_eq_true hd1
      clear hd1
      refine wp_cond_true rfl ?_
      refine wp_skip ?_
      refine (show Code.wp _ _ _ _ _ from ?_)
      refine wp_seq ?_
      refine wp_block ?_
      refine wp_seq ?_
      refine wp_region_L (W0 := w) [] (hW5) ?_
      refine lm (v := strV l) rfl rfl ?_
      refine lm (v := .int .i64 ((k : Nat) : Int)) rfl rfl ?_
      obtain ⟨b1, hb1⟩ : ∃ b, (l : List UInt8)[k]? = some b := ⟨_, List.getElem?_eq_getElem (by omega)⟩
      have lb1 := b1.toNat_lt
      refine lp (v := .int .u8 ((b1.toNat : Nat) : Int)) rfl rfl (run_idxS (j := .i64) (l := l) (k := k) (b := b1) rfl Tryd.underlying9 (by kernel_rfl) (by kernel_rfl) hb1) ?_
      refine lv (v := .tuple #[.int .i64 (((vN b1) : Nat) : Int), .bool (isDig b1 || isCap b1)]) rfl rfl (yb_call (f := 15) (args := #[.int .u8 ((b1.toNat : Nat) : Int)]) (fun _ => by kernel_rfl) fun W hW => RValue_any b1 W) ?_
      refine lm (v := .tuple #[.int .i64 (((vN b1) : Nat) : Int), .bool (isDig b1 || isCap b1)]) rfl rfl ?_
      refine lm (v := .int .i64 (((vN b1) : Nat) : Int)) rfl rfl ?_
      refine lm (v := .bool (isDig b1 || isCap b1)) rfl rfl ?_
      refine lm (v := .int .i64 (((vN b1) : Nat) : Int)) rfl rfl ?_
      refine lm (v := .bool (isDig b1 || isCap b1)) rfl rfl ?_
      refine wpL_done (fun W7 hW7 => ?_)
      refine (show Code.wp _ _ _ _ _ from ?_)
      refine wp_seq ?_
      refine wp_region_L (W0 := w) [] (hW7) ?_
      refine lm (v := .int .i64 (((sumF 0 (l.take k) % 11) : Nat) : Int)) rfl rfl ?_
      refine lm (v := .int .i64 (((vN b1) : Nat) : Int)) rfl rfl ?_
      refine lm (v := .int .i64 (((2 ^ k % 11) : Nat) : Int)) rfl rfl ?_
      have hv := vN_le b1
      have hmu : vN b1 * (2 ^ k % 11) ≤ 38 * 10 := Nat.mul_le_mul hv (by omega)
      refine lp (v := .int .i64 ((((vN b1) * (2 ^ k % 11)) : Nat) : Int)) rfl rfl (run_bin rfl (vx := (.int .i64 (((vN b1) : Nat) : Int))) (vy := (.int .i64 (((2 ^ k % 11) : Nat) : Int))) (by kernel_rfl) (by kernel_rfl) fun w => bn_mul (z := ((vN b1) * (2 ^ k % 11))) rfl (wr_i64 (by omega)) w) ?_
      refine lp (v := .int .i64 ((((sumF 0 (l.take k) % 11) + ((vN b1) * (2 ^ k % 11))) : Nat) : Int)) rfl rfl (run_bin rfl (vx := (.int .i64 (((sumF 0 (l.take k) % 11) : Nat) : Int))) (vy := (.int .i64 ((((vN b1) * (2 ^ k % 11)) : Nat) : Int))) (by kernel_rfl) (by kernel_rfl) fun w => bn_add (z := ((sumF 0 (l.take k) % 11) + ((vN b1) * (2 ^ k % 11)))) rfl (wr_i64 (by omega)) w) ?_
      refine lp (v := .int .i64 (((sumF 0 (l.take (k + 1)) % 11) : Nat) : Int)) rfl rfl (run_bin rfl (vx := (.int .i64 ((((sumF 0 (l.take k) % 11) + ((vN b1) * (2 ^ k % 11))) : Nat) : Int))) (vy := (.int .i64 ((11 : Nat) : Int))) (by kernel_rfl) (by kernel_rfl) fun w => bn_rem (z := (sumF 0 (l.take (k + 1)) % 11)) ((rem_step _ _ _).trans (by rw [sumF_snoc hb1])) (by omega) w) ?_
      refine lm (v := .int .i64 (((sumF 0 (l.take (k + 1)) % 11) : Nat) : Int)) rfl rfl ?_
      refine wpL_done (fun W8 hW8 => ?_)
      refine (show Code.wp _ _ _ _ _ from ?_)
      refine wp_region_L (W0 := w) [] (hW8) ?_
      refine lm (v := .int .i64 (((2 ^ k % 11) : Nat) : Int)) rfl rfl ?_
      refine lp (v := .int .i64 ((((2 ^ k % 11) * 2) : Nat) : Int)) rfl rfl (run_bin rfl (vx := (.int .i64 (((2 ^ k % 11) : Nat) : Int))) (vy := (.int .i64 ((2 : Nat) : Int))) (by kernel_rfl) (by kernel_rfl) fun w => bn_mul (z := ((2 ^ k % 11) * 2)) rfl (wr_i64 (by omega)) w) ?_
      refine lp (v := .int .i64 (((2 ^ (k + 1) % 11) : Nat) : Int)) rfl rfl (run_bin rfl (vx := (.int .i64 ((((2 ^ k % 11) * 2) : Nat) : Int))) (vy := (.int .i64 ((11 : Nat) : Int))) (by kernel_rfl) (by kernel_rfl) fun w => bn_rem (z := (2 ^ (k + 1) % 11)) (pow_step k) (by omega) w) ?_
      refine lm (v := .int .i64 (((2 ^ (k + 1) % 11) : Nat) : Int)) rfl rfl ?_
      refine wpL_done (fun W9 hW9 => ?_)
      refine (show Code.wp _ _ _ _ _ from ?_)
      refine wp_region_L (W0 := w) [] (hW9) ?_
      refine lm (v := .int .i64 ((k : Nat) : Int)) rfl rfl ?_
      refine lp (v := .int .i64 (((k + 1) : Nat) : Int)) rfl rfl (run_bin rfl (vx := (.int .i64 ((k : Nat) : Int))) (vy := (.int .i64 ((1 : Nat) : Int))) (by kernel_rfl) (by kernel_rfl) fun w => bn_add (z := (k + 1)) rfl (wr_i64 (by omega)) w) ?_
      refine lm (v := .int .i64 (((k + 1) : Nat) : Int)) rfl rfl ?_
      refine wpL_done (fun W10 hW10 => ?_)
      go_roundw
      case rel =>
        repeat apply Exists.intro
        exact ⟨⟨k + 1, (by omega), rfl, rfl, rfl, hW10⟩, rfl⟩
      case measure => (show 10 - (intOf (.int .i64 (((k + 1) : Nat) : Int))).toNat < 10 - (intOf (.int .i64 ((k : Nat) : Int))).toNat); simp only [intOf]; omega
set_option maxRecDepth 100000 in
set_option maxHeartbeats 4000000 in
theorem RCheck_any (l : List UInt8) (w : World) : Calls Tryd.prog 27 #[strV l] w fun e w' => e = .returned ((if fitB l 10 = true then .tuple #[.int .u8 (((chkN l) : Nat) : Int), .int .i64 0] else .tuple #[.int .u8 0, .int .i64 30])) ∧ Below w.heap.size w w' := by
  go_enter Tryd.func27, Tryd.ntmps27
  refine wp_seq ?_
  refine wp_region_L (W0 := w) [] (KS.start w) ?_
  refine lm (v := .int .u8 0) rfl rfl ?_
  refine lm (v := .int .i64 0) rfl rfl ?_
  refine wpL_done (fun W1 hW1 => ?_)
  refine (show Code.wp _ _ _ _ _ from ?_)
  refine wp_seq ?_
  refine wp_seq ?_
  refine wp_region_L (W0 := w) [] (hW1) ?_
  refine lm (v := strV l) rfl rfl ?_
  refine lv (v := .bool (fitB l 10)) rfl rfl (yb_call (f := 47) (args := #[strV l, .int .i64 10]) (fun _ => by kernel_rfl) fun W hW => form_any l 10 (by omega) W) ?_
  refine lp (v := .bool (!(fitB l 10))) rfl rfl (run_un rfl (by kernel_rfl) fun w => un_not w) ?_
  refine wpL_done (fun W2 hW2 => ?_)
  refine (show Code.wp _ _ _ _ _ from ?_)
  cases h1 : (fitB l 10) with
  | false =>
    refine wp_cond_true rfl ?_
    refine wp_seq ?_
    refine wp_region_L (W0 := w) [] (hW2) ?_
    refine lm (v := .int .u8 0) rfl rfl ?_
    refine lm (v := .int .i64 30) rfl rfl ?_
    refine wpL_done (fun W3 hW3 => ?_)
    refine (show Code.wp _ _ _ _ _ from ?_)
    refine wp_ret ?_
    try simp only [inBlock_ret, then_ret]
    refine bodyPost_ret (v := .tuple #[.int .u8 0, .int .i64 30]) ?_ rfl ?_
    · kernel_rfl
    · exact ⟨(by simp), hW3.1⟩
  | true =>
    have hlen := fit_len h1
    have hrl := chk_eq l
    refine wp_cond_false rfl ?_
    refine wp_skip ?_
    refine (show Code.wp _ _ _ _ _ from ?_)
    refine wp_seq ?_
    refine wp_region_L (W0 := w) [] (hW2) ?_
    refine lm (v := strV l) rfl rfl ?_
    refine lv (v := .int .i64 (((remL l) : Nat) : Int)) rfl rfl (yb_call (f := 48) (args := #[strV l]) (fun _ => by kernel_rfl) fun W hW => Remainder_any l (by omega) W) ?_
    refine lm (v := .int .i64 (((remL l) : Nat) : Int)) rfl rfl ?_
    refine wpL_done (fun W4 hW4 => ?_)
    refine (show Code.wp _ _ _ _ _ from ?_)
    refine wp_seq ?_
    refine wp_seq ?_
    refine wp_region_L (W0 := w) [] (hW4) ?_
    refine lm (v := .int .i64 (((remL l) : Nat) : Int)) rfl rfl ?_
    refine lp (v := .bool (decide ((remL l) = 10))) rfl rfl (run_bin rfl (vx := (.int .i64 (((remL l) : Nat) : Int))) (vy := (.int .i64 ((10 : Nat) : Int))) (by kernel_rfl) (by kernel_rfl) fun w => bn_eql rfl w) ?_
    refine wpL_done (fun W5 hW5 => ?_)
    refine (show Code.wp _ _ _ _ _ from ?_)
    cases hd2 : (decide ((remL l) = 10)) with
    | false =>
      have h2 : ¬ ((remL l) = 10) := of_decide_eq_false hd2
      clear hd2
      refine wp_cond_false rfl ?_
      refine wp_skip ?_
      refine (show Code.wp _ _ _ _ _ from ?_)
      refine wp_seq ?_
      refine wp_region_L (W0 := w) [] (hW5) ?_
      refine lm (v := .int .i64 (((remL l) : Nat) : Int)) rfl rfl ?_
      refine lp (v := .int .i64 (((48 + (remL l)) : Nat) : Int)) rfl rfl (run_bin rfl (vx := (.int .i64 ((48 : Nat) : Int))) (vy := (.int .i64 (((remL l) : Nat) : Int))) (by kernel_rfl) (by kernel_rfl) fun w => bn_add (z := (48 + (remL l))) rfl (wr_i64 (by omega)) w) ?_
      refine lp (v := .int .u8 (((48 + (remL l)) : Nat) : Int)) rfl rfl (run_conv rfl (vx := (.int .i64 (((48 + (remL l)) : Nat) : Int))) (by kernel_rfl) fun w => cv_int Tryd.underlying3 Tryd.underlying5 (wr_u8 (by omega)) w) ?_
      refine lm (v := .int .u8 (((48 + (remL l)) : Nat) : Int)) rfl rfl ?_
      refine lm (v := .int .i64 0) rfl rfl ?_
      refine wpL_done (fun W6 hW6 => ?_)
      refine (show Code.wp _ _ _ _ _ from ?_)
      refine wp_ret ?_
      try simp only [inBlock_ret, then_ret]
      refine bodyPost_ret (v := .tuple #[.int .u8 (((48 + (remL l)) : Nat) : Int), .int .i64 0]) ?_ rfl ?_
      · kernel_rfl
      · exact ⟨(by simp only [if_true]; exact congrArg Ending.returned (by rw [show chkN l = (48 + (remL l)) from by omega] <;> rfl)), hW6.1⟩
    | true =>
      have h2 : (remL l) = 10 := of_decide_eq_true hd2
      clear hd2
      refine wp_cond_true rfl ?_
      refine wp_region_L (W0 := w) [] (hW5) ?_
      refine lm (v := .int .i64 0) rfl rfl ?_
      refine wpL_done (fun W7 hW7 => ?_)
      refine (show Code.wp _ _ _ _ _ from ?_)
      refine wp_seq ?_
      refine wp_region_L (W0 := w) [] (hW7) ?_
      refine lm (v := .int .i64 0) rfl rfl ?_
      refine lm (v := .int .i64 48) rfl rfl ?_
      refine lm (v := .int .u8 48) rfl rfl ?_
      refine lm (v := .int .u8 48) rfl rfl ?_
      refine lm (v := .int .i64 0) rfl rfl ?_
      refine wpL_done (fun W8 hW8 => ?_)
      refine (show Code.wp _ _ _ _ _ from ?_)
      refine wp_ret ?_
      try simp only [inBlock_ret, then_ret]
      refine bodyPost_ret (v := .tuple #[.int .u8 48, .int .i64 0]) ?_ rfl ?_
      · kernel_rfl
      · exact ⟨(by simp only [if_true]; exact congrArg Ending.returned (by rw [show chkN l = 48 from by omega] <;> rfl)), hW8.1⟩
theorem RCheck_ok {l : List UInt8} (h : fitB l 10 = true) (W : World) : Calls Tryd.prog 27 #[strV l] W fun e w' => e = .returned (.tuple #[.int .u8 ((chkN l : Nat) : Int), .int .i64 0]) ∧ Below W.heap.size W w' := by
  have h1 := RCheck_any l W
  rw [if_pos h] at h1
  exact h1
theorem RCheck_no {l : List UInt8} (h : fitB l 10 = false) (W : World) : Calls Tryd.prog 27 #[strV l] W fun e w' => e = .returned (.tuple #[.int .u8 0, .int .i64 30]) ∧ Below W.heap.size W w' := by
  have h1 := RCheck_any l W
  rw [if_neg (by rw [h]; decide)] at h1
  exact h1
theorem fit_take {l : List UInt8} (h : fitB l 11 = true) : fitB (l.take 10) 10 = true := by
  have hl := fit_len h
  have hf := fit_fit h
  rw [← List.take_append_drop 10 l, fitF_app] at hf
  simp only [Bool.and_eq_true] at hf
  unfold fitB
  rw [hf.1]
  simp [hl]
set_option maxRecDepth 100000 in
set_option maxHeartbeats 4000000 in
theorem Of_any (l : List UInt8) (w : World) : Calls Tryd.prog 30 #[strV l] w fun e w' => e = .returned (.int .i64 (((judgeN l) : Nat) : Int)) ∧ Below w.heap.size w w' := by
  go_enter Tryd.func30, Tryd.ntmps30
  refine wp_seq ?_
  refine wp_region_L (W0 := w) [] (KS.start w) ?_
  refine lm (v := .int .i64 0) rfl rfl ?_
  refine wpL_done (fun W1 hW1 => ?_)
  refine (show Code.wp _ _ _ _ _ from ?_)
  refine wp_seq ?_
  refine wp_seq ?_
  refine wp_region_L (W0 := w) [] (hW1) ?_
  refine lm (v := strV l) rfl rfl ?_
  refine lv (v := .bool (fitB l 11)) rfl rfl (yb_call (f := 47) (args := #[strV l, .int .i64 11]) (fun _ => by kernel_rfl) fun W hW => form_any l 11 (by omega) W) ?_
  refine lp (v := .bool (!(fitB l 11))) rfl rfl (run_un rfl (by kernel_rfl) fun w => un_not w) ?_
  refine wpL_done (fun W2 hW2 => ?_)
  refine (show Code.wp _ _ _ _ _ from ?_)
  cases h1 : (fitB l 11) with
  | false =>
    refine wp_cond_true rfl ?_
    refine wp_seq ?_
    refine wp_region_L (W0 := w) [] (hW2) ?_
    refine lm (v := .int .i64 30) rfl rfl ?_
    refine wpL_done (fun W3 hW3 => ?_)
    refine (show Code.wp _ _ _ _ _ from ?_)
    refine wp_ret ?_
    try simp only [inBlock_ret, then_ret]
    refine bodyPost_ret (v := .int .i64 30) ?_ rfl ?_
    · kernel_rfl
    · exact ⟨(int_is (m := 30) (by unfold judgeN; simp [h1])), hW3.1⟩
  | true =>
    have hlen := fit_len h1
    have hft := fit_take h1
    refine wp_cond_false rfl ?_
    refine wp_skip ?_
    refine (show Code.wp _ _ _ _ _ from ?_)
    refine wp_seq ?_
    refine wp_region_L (W0 := w) [] (hW2) ?_
    refine lm (v := strV l) rfl rfl ?_
    refine lp (v := strV (l.take 10)) rfl rfl (run_slH (k2 := .i64) (l := l) (r := (l.take 10)) (j := 10) rfl Tryd.underlying9 (by kernel_rfl) (by kernel_rfl) (by first | omega | (simp; omega)) rfl) ?_
    refine lv (v := .tuple #[.int .u8 (((chkN (l.take 10)) : Nat) : Int), .int .i64 0]) rfl rfl (yb_call (f := 27) (args := #[strV (l.take 10)]) (fun _ => by kernel_rfl) fun W hW => RCheck_ok hft W) ?_
    refine lm (v := .tuple #[.int .u8 (((chkN (l.take 10)) : Nat) : Int), .int .i64 0]) rfl rfl ?_
    refine lm (v := .int .u8 (((chkN (l.take 10)) : Nat) : Int)) rfl rfl ?_
    refine lm (v := .int .i64 0) rfl rfl ?_
    refine lm (v := .int .u8 (((chkN (l.take 10)) : Nat) : Int)) rfl rfl ?_
    refine lm (v := .int .i64 0) rfl rfl ?_
    refine wpL_done (fun W4 hW4 => ?_)
    refine (show Code.wp _ _ _ _ _ from ?_)
    refine wp_seq ?_
    refine wp_seq ?_
    refine wp_region_L (W0 := w) [] (hW4) ?_
    refine lm (v := .int .u8 (((chkN (l.take 10)) : Nat) : Int)) rfl rfl ?_
    refine lm (v := strV l) rfl rfl ?_
    obtain ⟨b1, hb1⟩ : ∃ b, (l : List UInt8)[10]? = some b := ⟨_, List.getElem?_eq_getElem (by omega)⟩
    have lb1 := b1.toNat_lt
    refine lp (v := .int .u8 ((b1.toNat : Nat) : Int)) rfl rfl (run_idxS (j := .i64) (l := l) (k := 10) (b := b1) rfl Tryd.underlying9 (by kernel_rfl) (by kernel_rfl) hb1) ?_
    refine lp (v := .bool (!(decide ((chkN (l.take 10)) = b1.toNat)))) rfl rfl (run_bin rfl (vx := (.int .u8 (((chkN (l.take 10)) : Nat) : Int))) (vy := (.int .u8 ((b1.toNat : Nat) : Int))) (by kernel_rfl) (by kernel_rfl) fun w => bn_neq rfl w) ?_
    refine wpL_done (fun W5 hW5 => ?_)
    refine (show Code.wp _ _ _ _ _ from ?_)
    cases hd2 : (decide ((chkN (l.take 10)) = b1.toNat)) with
    | false =>
      have h2 : ¬ ((chkN (l.take 10)) = b1.toNat) := of_decide_eq_false hd2
      clear hd2
      refine wp_cond_true rfl ?_
      refine wp_seq ?_
      refine wp_region_L (W0 := w) [] (hW5) ?_
      refine lm (v := .int .i64 31) rfl rfl ?_
      refine wpL_done (fun W6 hW6 => ?_)
      refine (show Code.wp _ _ _ _ _ from ?_)
      refine wp_ret ?_
      try simp only [inBlock_ret, then_ret]
      refine bodyPost_ret (v := .int .i64 31) ?_ rfl ?_
      · kernel_rfl
      · exact ⟨(int_is (m := 31) (by unfold judgeN agrB; rw [getD_some hb1]; simp [h1, h2])), hW6.1⟩
    | true =>
      have h2 : (chkN (l.take 10)) = b1.toNat := of_decide_eq_true hd2
      clear hd2
      refine wp_cond_false rfl ?_
      refine wp_skip ?_
      refine (show Code.wp _ _ _ _ _ from ?_)
      refine wp_seq ?_
      refine wp_region_L (W0 := w) [] (hW5) ?_
      refine lm (v := .int .i64 0) rfl rfl ?_
      refine wpL_done (fun W7 hW7 => ?_)
      refine (show Code.wp _ _ _ _ _ from ?_)
      refine wp_ret ?_
      try simp only [inBlock_ret, then_ret]
      refine bodyPost_ret (v := .int .i64 0) ?_ rfl ?_
      · kernel_rfl
      · exact ⟨(int_is (m := 0) (by unfold judgeN agrB; rw [getD_some hb1]; simp [h1, h2])), hW7.1⟩
end Go.Proofs.YtbceajgipmjmlaaDoor
namespace Go.Proofs.YtbceajgipmjmlaaDoor
open Go Go.RowKit Tw
set_option maxRecDepth 100000 in
set_option maxHeartbeats 4000000 in
theorem RRead_any (l : List UInt8) (w : World) : Calls Tryd.prog 28 #[strV l] w fun e w' => e = .returned (.tuple #[strV (readL l), .int .i64 (((readE l) : Nat) : Int)]) ∧ Below w.heap.size w w' := by
  go_enter Tryd.func28, Tryd.ntmps28
  refine wp_seq ?_
  refine wp_region_L (W0 := w) [] (KS.start w) ?_
  refine lm (v := strV []) rfl rfl ?_
  refine lm (v := .int .i64 0) rfl rfl ?_
  refine wpL_done (fun W1 hW1 => ?_)
  refine (show Code.wp _ _ _ _ _ from ?_)
  refine wp_seq ?_
  refine wp_seq ?_
  refine wp_region_L (W0 := w) [] (hW1) ?_
  refine lm (v := strV l) rfl rfl ?_
  refine lp (v := .int .i64 ((l.length : Nat) : Int)) rfl rfl (run_lenS (l := l) rfl Tryd.underlying9 (by kernel_rfl)) ?_
  refine lp (v := .bool (decide (40 < l.length))) rfl rfl (run_bin rfl (vx := (.int .i64 ((l.length : Nat) : Int))) (vy := (.int .i64 ((40 : Nat) : Int))) (by kernel_rfl) (by kernel_rfl) fun w => bn_gtr rfl w) ?_
  refine wpL_done (fun W2 hW2 => ?_)
  refine (show Code.wp _ _ _ _ _ from ?_)
  cases hd1 : (decide (40 < l.length)) with
  | false =>
    have h1 : ¬ (40 < l.length) := of_decide_eq_false hd1
    clear hd1
    refine wp_cond_false rfl ?_
    refine wp_skip ?_
    refine (show Code.wp _ _ _ _ _ from ?_)
    refine wp_seq ?_
    refine wp_region_L (W0 := w) [] (hW2) ?_
    refine lm (v := .slice none 0 0) rfl rfl ?_
    refine wpL_done (fun W3 hW3 => ?_)
    refine (show Code.wp _ _ _ _ _ from ?_)
    refine wp_seq ?_
    refine wp_seq ?_
    refine wp_region_L (W0 := w) [] (hW3) ?_
    refine lm (v := .int .i64 0) rfl rfl ?_
    refine wpL_done (fun W4 hW4 => ?_)
    refine (show Code.wp _ _ _ _ _ from ?_)
    refine wp_block ?_
    go_loopw [4, 5] (fun u4 u5 wr => ∃ (k : Nat) (va : Value) (Kl : List (Nat × Obj)), (k ≤ l.length) ∧ (OwnL w 5 1 va (stripL (l.take k)).length (u8s (stripL (l.take k))) Kl) ∧ va = u4 ∧ u5 = .int .i64 ((k : Nat) : Int) ∧ KS w Kl wr) (fun _ u5 _ => l.length - (intOf u5).toNat)
    case atStart => exact ⟨0, (.slice none 0 0), [], (Nat.zero_le _), (OwnL.nil _ _ _), rfl, rfl, (hW4.sub (fun p hp => hp))⟩
    case round =>
      obtain ⟨k, va, Kl, hk, hO, rfl, rfl, hL5⟩ := hrel
      have hsl : (stripL (l.take k)).length ≤ k := Nat.le_trans (strip_len _) (List.length_take_le _ _)
      refine wp_seq ?_
      refine wp_seq ?_
      refine wp_region_L (W0 := w) Kl (hL5) ?_
      refine lm (v := .int .i64 ((k : Nat) : Int)) rfl rfl ?_
      refine lm (v := strV l) rfl rfl ?_
      refine lp (v := .int .i64 ((l.length : Nat) : Int)) rfl rfl (run_lenS (l := l) rfl Tryd.underlying9 (by kernel_rfl)) ?_
      refine lp (v := .bool (decide (k < l.length))) rfl rfl (run_bin rfl (vx := (.int .i64 ((k : Nat) : Int))) (vy := (.int .i64 ((l.length : Nat) : Int))) (by kernel_rfl) (by kernel_rfl) fun w => bn_lss rfl w) ?_
      refine wpL_done (fun W6 hW6 => ?_)
      refine (show Code.wp _ _ _ _ _ from ?_)
      cases hd2 : (decide (k < l.length)) with
      | false =>
        have h2 : ¬ (k < l.length) := of_decide_eq_false hd2
        clear hd2
        have hlk : l.take k = l := List.take_of_length_le (by omega)
        rw [hlk] at hO
        refine wp_cond_false rfl ?_
        refine wp_exit ?_
        refine (show Code.wp _ _ _ _ _ from ?_)
        refine wp_seq ?_
        refine wp_seq ?_
        refine wp_region_L (W0 := w) Kl (hW6) ?_
        refine lm (v := va) rfl rfl ?_
        refine lv (v := strV (stripL l)) rfl rfl (yb_strO (W0 := w) (l := (stripL l)) rfl Tryd.underlying31 Tryd.underlying5 Tryd.underlying9 (by kernel_rfl) hO (fun p hp => hp)) ?_
        refine lv (v := .int .i64 (((judgeN (stripL l)) : Nat) : Int)) rfl rfl (yb_call (f := 30) (args := #[strV (stripL l)]) (fun _ => by kernel_rfl) fun W hW => Of_any (stripL l) W) ?_
        refine lm (v := .int .i64 (((judgeN (stripL l)) : Nat) : Int)) rfl rfl ?_
        refine wpL_done (fun W7 hW7 => ?_)
        refine (show Code.wp _ _ _ _ _ from ?_)
        refine wp_seq ?_
        refine wp_region_L (W0 := w) Kl (hW7) ?_
        refine lm (v := .int .i64 (((judgeN (stripL l)) : Nat) : Int)) rfl rfl ?_
        refine lp (v := .bool (!(decide ((judgeN (stripL l)) = 0)))) rfl rfl (run_bin rfl (vx := (.int .i64 (((judgeN (stripL l)) : Nat) : Int))) (vy := (.int .i64 ((0 : Nat) : Int))) (by kernel_rfl) (by kernel_rfl) fun w => bn_neq rfl w) ?_
        refine wpL_done (fun W8 hW8 => ?_)
        refine (show Code.wp _ _ _ _ _ from ?_)
        cases hd3 : (decide ((judgeN (stripL l)) = 0)) with
        | false =>
          have h3 : ¬ ((judgeN (stripL l)) = 0) := of_decide_eq_false hd3
          clear hd3
          refine wp_cond_true rfl ?_
          refine wp_seq ?_
          refine wp_region_L (W0 := w) Kl (hW8) ?_
          refine lm (v := .int .i64 (((judgeN (stripL l)) : Nat) : Int)) rfl rfl ?_
          refine lm (v := strV []) rfl rfl ?_
          refine lm (v := .int .i64 (((judgeN (stripL l)) : Nat) : Int)) rfl rfl ?_
          refine wpL_done (fun W9 hW9 => ?_)
          refine (show Code.wp _ _ _ _ _ from ?_)
          refine wp_ret ?_
          try simp only [inBlock_ret, then_ret]
          refine bodyPost_ret (v := .tuple #[strV [], .int .i64 (((judgeN (stripL l)) : Nat) : Int)]) ?_ rfl ?_
          · kernel_rfl
          · exact ⟨(by unfold readL readE; simp [h1, h3]), hW9.1⟩
        | true =>
          have h3 : (judgeN (stripL l)) = 0 := of_decide_eq_true hd3
          clear hd3
          refine wp_cond_false rfl ?_
          refine wp_skip ?_
          refine (show Code.wp _ _ _ _ _ from ?_)
          refine wp_seq ?_
          refine wp_region_L (W0 := w) Kl (hW8) ?_
          refine lm (v := va) rfl rfl ?_
          refine lv (v := strV (stripL l)) rfl rfl (yb_strO (W0 := w) (l := (stripL l)) rfl Tryd.underlying31 Tryd.underlying5 Tryd.underlying9 (by kernel_rfl) hO (fun p hp => hp)) ?_
          refine lm (v := strV (stripL l)) rfl rfl ?_
          refine lm (v := .int .i64 0) rfl rfl ?_
          refine wpL_done (fun W10 hW10 => ?_)
          refine (show Code.wp _ _ _ _ _ from ?_)
          refine wp_ret ?_
          try simp only [inBlock_ret, then_ret]
          refine bodyPost_ret (v := .tuple #[strV (stripL l), .int .i64 0]) ?_ rfl ?_
          · kernel_rfl
          · exact ⟨(by unfold readL readE; simp [h1, h3]), hW10.1⟩
      | true =>
        have h2 : k < l.length := of_decide_eq_true hd2
        clear hd2
        refine wp_cond_true rfl ?_
        refine wp_skip ?_
        refine (show Code.wp _ _ _ _ _ from ?_)
        refine wp_seq ?_
        refine wp_block ?_
        refine wp_seq ?_
        refine wp_region_L (W0 := w) Kl (hW6) ?_
        refine lm (v := strV l) rfl rfl ?_
        refine lm (v := .int .i64 ((k : Nat) : Int)) rfl rfl ?_
        obtain ⟨b1, hb1⟩ : ∃ b, (l : List UInt8)[k]? = some b := ⟨_, List.getElem?_eq_getElem (by omega)⟩
        have lb1 := b1.toNat_lt
        refine lp (v := .int .u8 ((b1.toNat : Nat) : Int)) rfl rfl (run_idxS (j := .i64) (l := l) (k := k) (b := b1) rfl Tryd.underlying9 (by kernel_rfl) (by kernel_rfl) hb1) ?_
        refine lm (v := .int .u8 ((b1.toNat : Nat) : Int)) rfl rfl ?_
        refine wpL_done (fun W11 hW11 => ?_)
        refine (show Code.wp _ _ _ _ _ from ?_)
        refine wp_seq ?_
        refine wp_seq ?_
        refine wp_region_L (W0 := w) Kl (hW11) ?_
        refine lm (v := .int .u8 ((b1.toNat : Nat) : Int)) rfl rfl ?_
        refine lp (v := .bool (decide (b1.toNat = 32))) rfl rfl (run_bin rfl (vx := (.int .u8 ((b1.toNat : Nat) : Int))) (vy := (.int .u8 ((32 : Nat) : Int))) (by kernel_rfl) (by kernel_rfl) fun w => bn_eql rfl w) ?_
        refine lm (v := .bool (decide (b1.toNat = 32))) rfl rfl ?_
        cases hd4 : (decide (b1.toNat = 32)) with
        | false =>
          have h4 : ¬ (b1.toNat = 32) := of_decide_eq_false hd4
          clear hd4
          refine lm (v := .int .u8 ((b1.toNat : Nat) : Int)) rfl rfl ?_
          refine lp (v := .bool (decide (b1.toNat = 45))) rfl rfl (run_bin rfl (vx := (.int .u8 ((b1.toNat : Nat) : Int))) (vy := (.int .u8 ((45 : Nat) : Int))) (by kernel_rfl) (by kernel_rfl) fun w => bn_eql rfl w) ?_
          refine lm (v := .bool (decide (b1.toNat = 45))) rfl rfl ?_
          refine wpL_done (fun W12 hW12 => ?_)
          refine (show Code.wp _ _ _ _ _ from ?_)
          cases hd5 : (decide (b1.toNat = 45)) with
          | false =>
            have h5 : ¬ (b1.toNat = 45) := of_decide_eq_false hd5
            clear hd5
            refine wp_cond_false rfl ?_
            refine wp_skip ?_
            refine (show Code.wp _ _ _ _ _ from ?_)
            refine wp_seq ?_
            refine wp_seq ?_
            refine wp_region_L (W0 := w) Kl (hW12) ?_
            refine lm (v := .int .u8 ((b1.toNat : Nat) : Int)) rfl rfl ?_
            refine lp (v := .bool (!(decide (b1.toNat < 97)))) rfl rfl (run_bin rfl (vx := (.int .u8 ((b1.toNat : Nat) : Int))) (vy := (.int .u8 ((97 : Nat) : Int))) (by kernel_rfl) (by kernel_rfl) fun w => bn_geq rfl w) ?_
            refine lm (v := .bool (!(decide (b1.toNat < 97)))) rfl rfl ?_
            cases hd6 : (decide (b1.toNat < 97)) with
            | false =>
              have h6 : ¬ (b1.toNat < 97) := of_decide_eq_false hd6
              clear hd6
              refine lm (v := .int .u8 ((b1.toNat : Nat) : Int)) rfl rfl ?_
              refine lp (v := .bool (!(decide (122 < b1.toNat)))) rfl rfl (run_bin rfl (vx := (.int .u8 ((b1.toNat : Nat) : Int))) (vy := (.int .u8 ((122 : Nat) : Int))) (by kernel_rfl) (by kernel_rfl) fun w => bn_leq rfl w) ?_
              refine lm (v := .bool (!(decide (122 < b1.toNat)))) rfl rfl ?_
              refine wpL_done (fun W13 hW13 => ?_)
              refine (show Code.wp _ _ _ _ _ from ?_)
              cases hd7 : (decide (122 < b1.toNat)) with
              | false =>
                have h7 : ¬ (122 < b1.toNat) := of_decide_eq_false hd7
                clear hd7
                refine wp_cond_true rfl ?_
                refine wp_region_L (W0 := w) Kl (hW13) ?_
                refine lm (v := .int .u8 ((b1.toNat : Nat) : Int)) rfl rfl ?_
                refine lp (v := .int .u8 (((b1.toNat - 32) : Nat) : Int)) rfl rfl (run_bin rfl (vx := (.int .u8 ((b1.toNat : Nat) : Int))) (vy := (.int .u8 ((32 : Nat) : Int))) (by kernel_rfl) (by kernel_rfl) fun w => bn_sub (z := (b1.toNat - 32)) rfl (by omega) (wr_u8 (by omega)) w) ?_
                refine lm (v := .int .u8 (((b1.toNat - 32) : Nat) : Int)) rfl rfl ?_
                refine wpL_done (fun W14 hW14 => ?_)
                refine (show Code.wp _ _ _ _ _ from ?_)
                refine wp_region_L (W0 := w) Kl (hW14) ?_
                refine lm (v := va) rfl rfl ?_
                refine lm (v := .int .u8 (((b1.toNat - 32) : Nat) : Int)) rfl rfl ?_
                refine wpL_new (fun g => .slice (some ⟨g, 0, none⟩) 1 1) (obi := .cells #[.int .u8 (((b1.toNat - 32) : Nat) : Int)] 5 (0, 0)) rfl rfl (fun _ => by kernel_rfl) (fun _ => by simp only [List.setIfInBounds_toArray, List.set_cons_succ, List.set_cons_zero] <;> rfl) fun g2 Bg2 Fg2 => ?_
                refine wpL_g (AppO w 5 1 [] (((stripL (l.take k)).length) + 1) ((u8s (stripL (l.take k))) ++ [.int .u8 (((b1.toNat - 32) : Nat) : Int)])) rfl rfl (app_own el_u8 (m := 1) (c := 1) (news := [.int .u8 (((b1.toNat - 32) : Nat) : Int)]) rfl (by kernel_rfl) (by kernel_rfl) (.head _) hO (fun p hp => (.tail _ hp)) (List.forall_mem_nil _) rfl (by simp [Value.oneCell']) (by omega) (by omega) (by omega)) (fun _ => by simp only [List.setIfInBounds_toArray, List.set_cons_succ, List.set_cons_zero] <;> rfl) ?_
                rintro v3 Kl3 ⟨_, O3, N3, rfl⟩
                refine lm (v := v3) rfl rfl ?_
                refine wpL_done (fun W15 hW15 => ?_)
                refine (show Code.wp _ _ _ _ _ from ?_)
                refine wp_region_L (W0 := w) Kl3 (hW15) ?_
                refine lm (v := .int .i64 ((k : Nat) : Int)) rfl rfl ?_
                refine lp (v := .int .i64 (((k + 1) : Nat) : Int)) rfl rfl (run_bin rfl (vx := (.int .i64 ((k : Nat) : Int))) (vy := (.int .i64 ((1 : Nat) : Int))) (by kernel_rfl) (by kernel_rfl) fun w => bn_add (z := (k + 1)) rfl (wr_i64 (by omega)) w) ?_
                refine lm (v := .int .i64 (((k + 1) : Nat) : Int)) rfl rfl ?_
                refine wpL_done (fun W16 hW16 => ?_)
                go_roundw
                case rel =>
                  repeat apply Exists.intro
                  exact ⟨⟨k + 1, v3, Kl3, (by omega), (own_snoc O3 (up_yes (by omega) (by omega)) (strip_keep hb1 (by omega) (by omega))), rfl, rfl, hW16⟩, rfl⟩
                case measure => (show l.length - (intOf (.int .i64 (((k + 1) : Nat) : Int))).toNat < l.length - (intOf (.int .i64 ((k : Nat) : Int))).toNat); simp only [intOf]; omega
              | true =>
                have h7 : 122 < b1.toNat := of_decide_eq_true hd7
                clear hd7
                refine wp_cond_false rfl ?_
                refine wp_skip ?_
                refine (show Code.wp _ _ _ _ _ from ?_)
                refine wp_region_L (W0 := w) Kl (hW13) ?_
                refine lm (v := va) rfl rfl ?_
                refine lm (v := .int .u8 ((b1.toNat : Nat) : Int)) rfl rfl ?_
                refine wpL_new (fun g => .slice (some ⟨g, 0, none⟩) 1 1) (obi := .cells #[.int .u8 ((b1.toNat : Nat) : Int)] 5 (0, 0)) rfl rfl (fun _ => by kernel_rfl) (fun _ => by simp only [List.setIfInBounds_toArray, List.set_cons_succ, List.set_cons_zero] <;> rfl) fun g4 Bg4 Fg4 => ?_
                refine wpL_g (AppO w 5 1 [] (((stripL (l.take k)).length) + 1) ((u8s (stripL (l.take k))) ++ [.int .u8 ((b1.toNat : Nat) : Int)])) rfl rfl (app_own el_u8 (m := 1) (c := 1) (news := [.int .u8 ((b1.toNat : Nat) : Int)]) rfl (by kernel_rfl) (by kernel_rfl) (.head _) hO (fun p hp => (.tail _ hp)) (List.forall_mem_nil _) rfl (by simp [Value.oneCell']) (by omega) (by omega) (by omega)) (fun _ => by simp only [List.setIfInBounds_toArray, List.set_cons_succ, List.set_cons_zero] <;> rfl) ?_
                rintro v5 Kl5 ⟨_, O5, N5, rfl⟩
                refine lm (v := v5) rfl rfl ?_
                refine wpL_done (fun W17 hW17 => ?_)
                refine (show Code.wp _ _ _ _ _ from ?_)
                refine wp_region_L (W0 := w) Kl5 (hW17) ?_
                refine lm (v := .int .i64 ((k : Nat) : Int)) rfl rfl ?_
                refine lp (v := .int .i64 (((k + 1) : Nat) : Int)) rfl rfl (run_bin rfl (vx := (.int .i64 ((k : Nat) : Int))) (vy := (.int .i64 ((1 : Nat) : Int))) (by kernel_rfl) (by kernel_rfl) fun w => bn_add (z := (k + 1)) rfl (wr_i64 (by omega)) w) ?_
                refine lm (v := .int .i64 (((k + 1) : Nat) : Int)) rfl rfl ?_
                refine wpL_done (fun W18 hW18 => ?_)
                go_roundw
                case rel =>
                  repeat apply Exists.intro
                  exact ⟨⟨k + 1, v5, Kl5, (by omega), (own_snoc O5 (up_no (by omega)) (strip_keep hb1 (by omega) (by omega))), rfl, rfl, hW18⟩, rfl⟩
                case measure => (show l.length - (intOf (.int .i64 (((k + 1) : Nat) : Int))).toNat < l.length - (intOf (.int .i64 ((k : Nat) : Int))).toNat); simp only [intOf]; omega
            | true =>
              have h6 : b1.toNat < 97 := of_decide_eq_true hd6
              clear hd6
              refine ln rfl ?_
              refine ln rfl ?_
              refine lm (v := .bool false) rfl rfl ?_
              refine wpL_done (fun W19 hW19 => ?_)
              refine (show Code.wp _ _ _ _ _ from ?_)
              refine wp_cond_false rfl ?_
              refine wp_skip ?_
              refine (show Code.wp _ _ _ _ _ from ?_)
              refine wp_region_L (W0 := w) Kl (hW19) ?_
              refine lm (v := va) rfl rfl ?_
              refine lm (v := .int .u8 ((b1.toNat : Nat) : Int)) rfl rfl ?_
              refine wpL_new (fun g => .slice (some ⟨g, 0, none⟩) 1 1) (obi := .cells #[.int .u8 ((b1.toNat : Nat) : Int)] 5 (0, 0)) rfl rfl (fun _ => by kernel_rfl) (fun _ => by simp only [List.setIfInBounds_toArray, List.set_cons_succ, List.set_cons_zero] <;> rfl) fun g6 Bg6 Fg6 => ?_
              refine wpL_g (AppO w 5 1 [] (((stripL (l.take k)).length) + 1) ((u8s (stripL (l.take k))) ++ [.int .u8 ((b1.toNat : Nat) : Int)])) rfl rfl (app_own el_u8 (m := 1) (c := 1) (news := [.int .u8 ((b1.toNat : Nat) : Int)]) rfl (by kernel_rfl) (by kernel_rfl) (.head _) hO (fun p hp => (.tail _ hp)) (List.forall_mem_nil _) rfl (by simp [Value.oneCell']) (by omega) (by omega) (by omega)) (fun _ => by simp only [List.setIfInBounds_toArray, List.set_cons_succ, List.set_cons_zero] <;> rfl) ?_
              rintro v7 Kl7 ⟨_, O7, N7, rfl⟩
              refine lm (v := v7) rfl rfl ?_
              refine wpL_done (fun W20 hW20 => ?_)
              refine (show Code.wp _ _ _ _ _ from ?_)
              refine wp_region_L (W0 := w) Kl7 (hW20) ?_
              refine lm (v := .int .i64 ((k : Nat) : Int)) rfl rfl ?_
              refine lp (v := .int .i64 (((k + 1) : Nat) : Int)) rfl rfl (run_bin rfl (vx := (.int .i64 ((k : Nat) : Int))) (vy := (.int .i64 ((1 : Nat) : Int))) (by kernel_rfl) (by kernel_rfl) fun w => bn_add (z := (k + 1)) rfl (wr_i64 (by omega)) w) ?_
              refine lm (v := .int .i64 (((k + 1) : Nat) : Int)) rfl rfl ?_
              refine wpL_done (fun W21 hW21 => ?_)
              go_roundw
              case rel =>
                repeat apply Exists.intro
                exact ⟨⟨k + 1, v7, Kl7, (by omega), (own_snoc O7 (up_no (by omega)) (strip_keep hb1 (by omega) (by omega))), rfl, rfl, hW21⟩, rfl⟩
              case measure => (show l.length - (intOf (.int .i64 (((k + 1) : Nat) : Int))).toNat < l.length - (intOf (.int .i64 ((k : Nat) : Int))).toNat); simp only [intOf]; omega
          | true =>
            have h5 : b1.toNat = 45 := of_decide_eq_true hd5
            clear hd5
            refine wp_cond_true rfl ?_
            refine wp_exit ?_
            refine (show Code.wp _ _ _ _ _ from ?_)
            refine wp_region_L (W0 := w) Kl (hW12) ?_
            refine lm (v := .int .i64 ((k : Nat) : Int)) rfl rfl ?_
            refine lp (v := .int .i64 (((k + 1) : Nat) : Int)) rfl rfl (run_bin rfl (vx := (.int .i64 ((k : Nat) : Int))) (vy := (.int .i64 ((1 : Nat) : Int))) (by kernel_rfl) (by kernel_rfl) fun w => bn_add (z := (k + 1)) rfl (wr_i64 (by omega)) w) ?_
            refine lm (v := .int .i64 (((k + 1) : Nat) : Int)) rfl rfl ?_
            refine wpL_done (fun W22 hW22 => ?_)
            go_roundw
            case rel =>
              repeat apply Exists.intro
              exact ⟨⟨k + 1, va, Kl, (by omega), (by rw [strip_skip hb1 (by omega)]; exact hO), rfl, rfl, hW22⟩, rfl⟩
            case measure => (show l.length - (intOf (.int .i64 (((k + 1) : Nat) : Int))).toNat < l.length - (intOf (.int .i64 ((k : Nat) : Int))).toNat); simp only [intOf]; omega
        | true =>
          have h4 : b1.toNat = 32 := of_decide_eq_true hd4
          clear hd4
          refine ln rfl ?_
          refine ln rfl ?_
          refine lm (v := .bool true) rfl rfl ?_
          refine wpL_done (fun W23 hW23 => ?_)
          refine (show Code.wp _ _ _ _ _ from ?_)
          refine wp_cond_true rfl ?_
          refine wp_exit ?_
          refine (show Code.wp _ _ _ _ _ from ?_)
          refine wp_region_L (W0 := w) Kl (hW23) ?_
          refine lm (v := .int .i64 ((k : Nat) : Int)) rfl rfl ?_
          refine lp (v := .int .i64 (((k + 1) : Nat) : Int)) rfl rfl (run_bin rfl (vx := (.int .i64 ((k : Nat) : Int))) (vy := (.int .i64 ((1 : Nat) : Int))) (by kernel_rfl) (by kernel_rfl) fun w => bn_add (z := (k + 1)) rfl (wr_i64 (by omega)) w) ?_
          refine lm (v := .int .i64 (((k + 1) : Nat) : Int)) rfl rfl ?_
          refine wpL_done (fun W24 hW24 => ?_)
          go_roundw
          case rel =>
            repeat apply Exists.intro
            exact ⟨⟨k + 1, va, Kl, (by omega), (by rw [strip_skip hb1 (by omega)]; exact hO), rfl, rfl, hW24⟩, rfl⟩
          case measure => (show l.length - (intOf (.int .i64 (((k + 1) : Nat) : Int))).toNat < l.length - (intOf (.int .i64 ((k : Nat) : Int))).toNat); simp only [intOf]; omega
  | true =>
    have h1 : 40 < l.length := of_decide_eq_true hd1
    clear hd1
    refine wp_cond_true rfl ?_
    refine wp_seq ?_
    refine wp_region_L (W0 := w) [] (hW2) ?_
    refine lm (v := strV []) rfl rfl ?_
    refine lm (v := .int .i64 3) rfl rfl ?_
    refine wpL_done (fun W25 hW25 => ?_)
    refine (show Code.wp _ _ _ _ _ from ?_)
    refine wp_ret ?_
    try simp only [inBlock_ret, then_ret]
    refine bodyPost_ret (v := .tuple #[strV [], .int .i64 3]) ?_ rfl ?_
    · kernel_rfl
    · exact ⟨(by unfold readL readE; simp [h1]), hW25.1⟩
set_option maxRecDepth 100000 in
set_option maxHeartbeats 4000000 in
theorem RWrite_any (l : List UInt8) (w : World) : Calls Tryd.prog 29 #[strV l] w fun e w' => e = .returned ((if judgeN l = 0 then .tuple #[strV (l.take 4 ++ [32] ++ (l.take 10).drop 4 ++ [32] ++ l.drop 10), .int .i64 0] else .tuple #[strV [], .int .i64 (((judgeN l) : Nat) : Int)])) ∧ Below w.heap.size w w' := by
  go_enter Tryd.func29, Tryd.ntmps29
  refine wp_seq ?_
  refine wp_region_L (W0 := w) [] (KS.start w) ?_
  refine lm (v := strV []) rfl rfl ?_
  refine lm (v := .int .i64 0) rfl rfl ?_
  refine wpL_done (fun W1 hW1 => ?_)
  refine (show Code.wp _ _ _ _ _ from ?_)
  refine wp_seq ?_
  refine wp_seq ?_
  refine wp_region_L (W0 := w) [] (hW1) ?_
  refine lm (v := strV l) rfl rfl ?_
  refine lv (v := .int .i64 (((judgeN l) : Nat) : Int)) rfl rfl (yb_call (f := 30) (args := #[strV l]) (fun _ => by kernel_rfl) fun W hW => Of_any l W) ?_
  refine lm (v := .int .i64 (((judgeN l) : Nat) : Int)) rfl rfl ?_
  refine wpL_done (fun W2 hW2 => ?_)
  refine (show Code.wp _ _ _ _ _ from ?_)
  refine wp_seq ?_
  refine wp_region_L (W0 := w) [] (hW2) ?_
  refine lm (v := .int .i64 (((judgeN l) : Nat) : Int)) rfl rfl ?_
  refine lp (v := .bool (!(decide ((judgeN l) = 0)))) rfl rfl (run_bin rfl (vx := (.int .i64 (((judgeN l) : Nat) : Int))) (vy := (.int .i64 ((0 : Nat) : Int))) (by kernel_rfl) (by kernel_rfl) fun w => bn_neq rfl w) ?_
  refine wpL_done (fun W3 hW3 => ?_)
  refine (show Code.wp _ _ _ _ _ from ?_)
  cases hd1 : (decide ((judgeN l) = 0)) with
  | false =>
    have h1 : ¬ ((judgeN l) = 0) := of_decide_eq_false hd1
    clear hd1
    refine wp_cond_true rfl ?_
    refine wp_seq ?_
    refine wp_region_L (W0 := w) [] (hW3) ?_
    refine lm (v := .int .i64 (((judgeN l) : Nat) : Int)) rfl rfl ?_
    refine lm (v := strV []) rfl rfl ?_
    refine lm (v := .int .i64 (((judgeN l) : Nat) : Int)) rfl rfl ?_
    refine wpL_done (fun W4 hW4 => ?_)
    refine (show Code.wp _ _ _ _ _ from ?_)
    refine wp_ret ?_
    try simp only [inBlock_ret, then_ret]
    refine bodyPost_ret (v := .tuple #[strV [], .int .i64 (((judgeN l) : Nat) : Int)]) ?_ rfl ?_
    · kernel_rfl
    · exact ⟨(by rw [if_neg h1]), hW4.1⟩
  | true =>
    have h1 : (judgeN l) = 0 := of_decide_eq_true hd1
    clear hd1
    have hlen := judge_len h1
    refine wp_cond_false rfl ?_
    refine wp_skip ?_
    refine (show Code.wp _ _ _ _ _ from ?_)
    refine wp_seq ?_
    refine wp_region_V (W0 := w) [] (by kernel_rfl) (hW3) ?_
    refine vm (i := 0) (v := strV l) rfl rfl rfl ?_
    refine vp (i := 1) (v := strV (l.take 4)) rfl rfl rfl (run_slH (k2 := .i64) (l := l) (r := (l.take 4)) (j := 4) rfl Tryd.underlying9 (by kernel_rfl) (by kernel_rfl) (by first | omega | (simp; omega)) rfl) ?_
    refine vp (i := 2) (v := strV ((l.take 4) ++ [32])) rfl rfl rfl (run_bin rfl (vx := strV (l.take 4)) (vy := strV [32]) (by kernel_rfl) (by kernel_rfl) fun w => bs_add (c := ((l.take 4) ++ [32])) rfl (by simp; omega) w) ?_
    refine vm (i := 3) (v := strV l) rfl rfl rfl ?_
    refine vp (i := 4) (v := strV ((l.take 10).drop 4)) rfl rfl rfl (run_slT (k1 := .i64) (k2 := .i64) (l := l) (r := ((l.take 10).drop 4)) (i := 4) (j := 10) rfl Tryd.underlying9 (by kernel_rfl) (by kernel_rfl) (by kernel_rfl) (by omega) (by first | omega | (simp; omega)) rfl) ?_
    refine vp (i := 5) (v := strV (((l.take 4) ++ [32]) ++ ((l.take 10).drop 4))) rfl rfl rfl (run_bin rfl (vx := strV ((l.take 4) ++ [32])) (vy := strV ((l.take 10).drop 4)) (by kernel_rfl) (by kernel_rfl) fun w => bs_add (c := (((l.take 4) ++ [32]) ++ ((l.take 10).drop 4))) rfl (by simp; omega) w) ?_
    refine vp (i := 6) (v := strV ((((l.take 4) ++ [32]) ++ ((l.take 10).drop 4)) ++ [32])) rfl rfl rfl (run_bin rfl (vx := strV (((l.take 4) ++ [32]) ++ ((l.take 10).drop 4))) (vy := strV [32]) (by kernel_rfl) (by kernel_rfl) fun w => bs_add (c := ((((l.take 4) ++ [32]) ++ ((l.take 10).drop 4)) ++ [32])) rfl (by simp; omega) w) ?_
    refine vm (i := 7) (v := strV l) rfl rfl rfl ?_
    refine vp (i := 8) (v := strV (l.drop 10)) rfl rfl rfl (run_slL (k1 := .i64) (l := l) (r := (l.drop 10)) (i := 10) rfl Tryd.underlying9 (by kernel_rfl) (by kernel_rfl) (by first | omega | (simp; omega)) rfl) ?_
    refine vp (i := 9) (v := strV (((((l.take 4) ++ [32]) ++ ((l.take 10).drop 4)) ++ [32]) ++ (l.drop 10))) rfl rfl rfl (run_bin rfl (vx := strV ((((l.take 4) ++ [32]) ++ ((l.take 10).drop 4)) ++ [32])) (vy := strV (l.drop 10)) (by kernel_rfl) (by kernel_rfl) fun w => bs_add (c := (((((l.take 4) ++ [32]) ++ ((l.take 10).drop 4)) ++ [32]) ++ (l.drop 10))) rfl (by simp; omega) w) ?_
    refine vm (i := 10) (v := strV (((((l.take 4) ++ [32]) ++ ((l.take 10).drop 4)) ++ [32]) ++ (l.drop 10))) rfl rfl rfl ?_
    refine vm (i := 11) (v := .int .i64 0) rfl rfl rfl ?_
    refine wpV_done (by kernel_rfl) (fun W5 hW5 => ?_) _
    refine (show Code.wp _ _ _ _ _ from ?_)
    refine wp_ret ?_
    try simp only [inBlock_ret, then_ret]
    refine bodyPost_ret (v := .tuple #[strV (((((l.take 4) ++ [32]) ++ ((l.take 10).drop 4)) ++ [32]) ++ (l.drop 10)), .int .i64 0]) ?_ rfl ?_
    · kernel_rfl
    · exact ⟨(by rw [if_pos h1]), hW5.1⟩
end Go.Proofs.YtbceajgipmjmlaaDoor
namespace Go.Proofs.YtbceajgipmjmlaaDoor
open Go Go.RowKit Tw
def ltM (y x : Nat × UInt8) : Prop := y.1 < x.1 ∨ (y.1 = x.1 ∧ y.2.toNat < x.2.toNat)
theorem row_sorted (l : List UInt8) (i k : Nat) (hk : k ≤ 256) : (rowM l i k).Pairwise ltM := by
  unfold rowM
  rw [List.pairwise_map]
  refine List.Pairwise.sublist List.filter_sublist ?_
  rw [List.pairwise_map]
  refine List.Pairwise.imp_of_mem ?_ (List.pairwise_lt_range (n := k))
  intro a b ha hb hab
  rw [List.mem_range] at ha hb
  refine .inr ⟨rfl, ?_⟩
  rw [UInt8.toNat_ofNat', UInt8.toNat_ofNat']
  show a % 256 < b % 256
  omega
theorem row_fst {l : List UInt8} {i k : Nat} {x : Nat × UInt8} (h : x ∈ rowM l i k) : x.1 = i := by
  unfold rowM at h
  obtain ⟨b, _, rfl⟩ := List.mem_map.1 h
  rfl
theorem miss_pair (l : List UInt8) : (missL l).Pairwise ltM := by
  unfold missL missTo
  rw [List.pairwise_flatMap]
  refine ⟨fun i _ => row_sorted l i 256 (Nat.le_refl _), ?_⟩
  refine List.Pairwise.imp ?_ (List.pairwise_lt_range (n := 11))
  intro a b hab x hx y hy
  exact .inl (by rw [row_fst hx, row_fst hy]; exact hab)
theorem miss_sorted {l M : List (Nat × UInt8)} {j k : Nat} {x y : Nat × UInt8} (h : M.Pairwise ltM) (hx : M[k]? = some x) (hy : M[j]? = some y) (hjk : j < k) : ltM y x := by
  obtain ⟨h1, rfl⟩ := List.getElem?_eq_some_iff.1 hx
  obtain ⟨h2, rfl⟩ := List.getElem?_eq_some_iff.1 hy
  exact (List.pairwise_iff_getElem.1 h) _ _ _ _ hjk
theorem miss_mem {l : List UInt8} {i : Nat} {c : UInt8} (hi : i < 11) : (i, c) ∈ missL l ↔ hitB l i c = true := by
  unfold missL missTo
  rw [List.mem_flatMap]
  constructor
  · rintro ⟨j, hj, hx⟩
    have hji : i = j := row_fst hx
    subst hji
    unfold rowM at hx
    obtain ⟨b, hb, he⟩ := List.mem_map.1 hx
    cases he
    exact (List.mem_filter.1 hb).2
  · intro h
    refine ⟨i, List.mem_range.2 hi, List.mem_map.2 ⟨c, List.mem_filter.2 ⟨List.mem_map.2 ⟨c.toNat, List.mem_range.2 c.toNat_lt, by simp⟩, h⟩, rfl⟩⟩
theorem mem_take {M : List (Nat × UInt8)} {k : Nat} {x y : Nat × UInt8} (hx : M[k]? = some x) : y ∈ M.take (k + 1) ↔ (y ∈ M.take k ∨ y = x) := by
  obtain ⟨h1, rfl⟩ := List.getElem?_eq_some_iff.1 hx
  rw [List.take_succ_eq_append_getElem h1, List.mem_append, List.mem_singleton]
theorem mem_mono {M : List (Nat × UInt8)} {k : Nat} {y : Nat × UInt8} (h : y ∈ M.take k) : y ∈ M.take (k + 1) := by rw [List.take_add_one]; exact List.mem_append_left _ h
def badB (s : List UInt8) (i : Nat) (c : UInt8) : Bool := decide (c.toNat = (s.getD i 0).toNat) || !mayB i c
theorem hit_is (s : List UInt8) (i : Nat) (c : UInt8) : hitB s i c = (!badB s i c && agrB (s.set i c)) := by
  unfold hitB badB
  simp
theorem sum_set : ∀ {p : List UInt8} {i : Nat} {b c : UInt8} (j : Nat), p[i]? = some b → sumF j (p.set i c) + vN b * 2 ^ (j + i) = sumF j p + vN c * 2 ^ (j + i)
  | [], _, _, _, _, h => by simp at h
  | x :: p, 0, b, c, j, h => by
    simp only [List.getElem?_cons_zero, Option.some.injEq] at h
    subst h
    simp only [List.set_cons_zero, sumF, Nat.add_zero]
    omega
  | x :: p, i + 1, b, c, j, h => by
    simp only [List.getElem?_cons_succ] at h
    have := sum_set (c := c) (j + 1) h
    simp only [List.set_cons_succ, sumF]
    rw [show j + (i + 1) = j + 1 + i from by omega]
    omega
theorem rem_digit {p : List UInt8} {i : Nat} {b c : UInt8} (hb : p[i]? = some b) (h3 : 3 < i) (h10 : i < 10) (hd : isDig b = true) (hc : isDig c = true) (h : remL p = remL (p.set i c)) : c.toNat = b.toNat := by
  have hs := sum_set (c := c) 0 hb
  have hv : ∀ {x : UInt8}, isDig x = true → vN x = x.toNat - 48 ∧ 48 ≤ x.toNat ∧ x.toNat ≤ 57 := fun {x} hx => by
    unfold vN
    rw [if_pos hx]
    unfold isDig at hx
    simp at hx
    exact ⟨rfl, hx⟩
  obtain ⟨e1, e2, e3⟩ := hv hd
  obtain ⟨f1, f2, f3⟩ := hv hc
  rw [e1, f1, Nat.zero_add] at hs
  unfold remL at h
  rcases (show i = 4 ∨ i = 5 ∨ i = 6 ∨ i = 7 ∨ i = 8 ∨ i = 9 by omega) with rfl | rfl | rfl | rfl | rfl | rfl <;> simp only [Nat.reducePow] at hs <;> omega
theorem fitF_get : ∀ {p : List UInt8} {i : Nat} {b : UInt8} (j : Nat), fitF j p = true → p[i]? = some b → mayB (j + i) b = true
  | [], _, _, _, _, h => by simp at h
  | x :: p, 0, b, j, hf, h => by
    simp only [List.getElem?_cons_zero, Option.some.injEq] at h
    subst h
    simp only [fitF, Bool.and_eq_true] at hf
    exact hf.1
  | x :: p, i + 1, b, j, hf, h => by
    simp only [List.getElem?_cons_succ] at h
    simp only [fitF, Bool.and_eq_true] at hf
    rw [show j + (i + 1) = j + 1 + i from by omega]
    exact fitF_get (j + 1) hf.2 h
theorem fitF_set : ∀ {p : List UInt8} {i : Nat} {c : UInt8} (j : Nat), fitF j p = true → mayB (j + i) c = true → fitF j (p.set i c) = true
  | [], _, _, _, h, _ => by simpa using h
  | x :: p, 0, c, j, hf, h => by
    simp only [fitF, Bool.and_eq_true] at hf
    simp only [List.set_cons_zero, fitF, Bool.and_eq_true]
    exact ⟨h, hf.2⟩
  | x :: p, i + 1, c, j, hf, h => by
    simp only [fitF, Bool.and_eq_true] at hf
    simp only [List.set_cons_succ, fitF, Bool.and_eq_true]
    exact ⟨hf.1, fitF_set (j + 1) hf.2 (by rwa [show j + 1 + i = j + (i + 1) from by omega])⟩
theorem fit_set {p : List UInt8} {i : Nat} {c : UInt8} (hf : fitB p 10 = true) (h : mayB i c = true) : fitB (p.set i c) 10 = true := by
  unfold fitB
  rw [fitF_set 0 (fit_fit hf) (by rwa [Nat.zero_add]), List.length_set, fit_len hf]
  rfl
theorem set_app {p : List UInt8} {i : Nat} {c d : UInt8} (hi : i < p.length) : (p ++ [d]).set i c = p.set i c ++ [d] := by rw [List.set_append_left _ _ hi]
theorem agr_app {q : List UInt8} {d : UInt8} (hl : q.length = 10) : agrB (q ++ [d]) = decide (chkN q = d.toNat) := by
  unfold agrB
  rw [List.take_left' hl, List.getD_eq_getElem?_getD, List.getElem?_append_right (by omega), hl]
  rfl
theorem agr_last {p : List UInt8} {c d : UInt8} (hl : p.length = 10) : agrB ((p ++ [d]).set 10 c) = decide (chkN p = c.toNat) := by
  rw [List.set_append_right _ _ (by omega), hl]
  exact agr_app hl
theorem dig_not {i : Nat} {c : UInt8} (h : mayB i c = true) (hd : isDig c = true) : 3 < i := by
  refine Nat.lt_of_not_le fun hi => ?_
  unfold mayB isCap isCat at h
  unfold isDig at hd
  simp at hd
  split at h
  · simp at h; omega
  · split at h
    · simp at h; omega
    · omega
theorem may_dig {i : Nat} {c : UInt8} (h : mayB i c = true) (hi : 3 < i) : isDig c = true := by
  unfold mayB at h
  rwa [if_neg (by omega), if_neg (by omega)] at h
theorem set_mid {p : List UInt8} {i : Nat} {c : UInt8} (hi : i < p.length) : p.take i ++ [c] ++ p.drop (i + 1) = p.set i c := by
  rw [List.set_eq_take_append_cons_drop, if_pos hi, List.append_assoc]
  rfl
end Go.Proofs.YtbceajgipmjmlaaDoor
namespace Go.Proofs.YtbceajgipmjmlaaDoor
open Go Go.RowKit Tw
theorem el_rmiss : Elem Tryd.prog 63 66 2 16 (.agg #[.int .i64 0, .int .u8 0]) := Elem.mk' Tryd.underlying63 (by kernel_rfl) rfl
theorem set_fit {l : List UInt8} {i : Nat} {c : UInt8} (hl : judgeN l = 0) (hi : i < 11) (h : judgeN (l.set i c) = 0) : mayB i c = true ∧ agrB (l.set i c) = true := by
  have hlen := judge_len hl
  unfold judgeN at h
  split at h
  · rename_i hf
    split at h
    · rename_i ha
      have h1 := fitF_get (i := i) (b := c) 0 (fit_fit hf) (by rw [List.getElem?_set_self (by omega)])
      rw [Nat.zero_add] at h1
      exact ⟨h1, ha⟩
    · omega
  · omega
theorem fit_set2 {l : List UInt8} {i : Nat} {c : UInt8} (hl : judgeN l = 0) (h1 : mayB i c = true) (h2 : agrB (l.set i c) = true) : judgeN (l.set i c) = 0 := by
  have hlen := judge_len hl
  have hf : fitB l 11 = true := by unfold judgeN at hl; split at hl; assumption; omega
  have hf2 : fitB (l.set i c) 11 = true := by
    unfold fitB
    rw [fitF_set 0 (fit_fit hf) (by rwa [Nat.zero_add]), List.length_set, hlen]
    rfl
  unfold judgeN
  rw [if_pos hf2, if_pos h2]
theorem no_hit {l : List UInt8} {i : Nat} {c : UInt8} (hl : judgeN l = 0) (h : ¬ (judgeN (l.set i c) = 0)) : hitB l i c = false := by
  cases hm : mayB i c with
  | false => exact hit_may hm
  | true =>
    cases ha : agrB (l.set i c) with
    | false => exact hit_agr ha
    | true => exact absurd (fit_set2 hl hm ha) h
theorem size_len {l : List UInt8} (h : ¬ (l.length = 4)) : sizeV l = .tuple #[.agg #[.int .u8 0, .bool false, .bool false], .int .i64 32] := by
  unfold sizeV
  rw [if_neg, if_neg, if_neg, if_neg, if_neg, if_neg] <;> (rintro rfl; exact h rfl)
theorem size_last {l : List UInt8} {b : UInt8} (hb : l[3]? = some b) (h : ¬ (b.toNat = 49)) : sizeV l = .tuple #[.agg #[.int .u8 0, .bool false, .bool false], .int .i64 32] := by
  unfold sizeV
  rw [if_neg, if_neg, if_neg, if_neg, if_neg, if_neg] <;> (rintro rfl; cases hb; exact h rfl)
theorem size_third {l : List UInt8} {b : UInt8} (hb : l[2]? = some b) (h : ¬ (b.toNat = 71)) (h2 : ¬ (b.toNat = 82)) : sizeV l = .tuple #[.agg #[.int .u8 0, .bool false, .bool false], .int .i64 32] := by
  unfold sizeV
  rw [if_neg, if_neg, if_neg, if_neg, if_neg, if_neg] <;> (rintro rfl; cases hb; first | exact h rfl | exact h2 rfl)
theorem size_none {l : List UInt8} (h1 : ¬ (l.take 2 = [50, 50])) (h2 : ¬ (l.take 2 = [52, 50])) (h3 : ¬ (l.take 2 = [52, 53])) : sizeV l = .tuple #[.agg #[.int .u8 0, .bool false, .bool false], .int .i64 32] := by
  unfold sizeV
  rw [if_neg, if_neg, if_neg, if_neg, if_neg, if_neg] <;> (rintro rfl; first | exact h1 rfl | exact h2 rfl | exact h3 rfl)
theorem size_lit {l : List UInt8} {x y b d : UInt8} (b' d' : UInt8) (hl : l.length = 4) (ht : l.take 2 = [x, y]) (h2 : l[2]? = some b) (h3 : l[3]? = some d) (hb : b.toNat = b'.toNat) (hd : d.toNat = d'.toNat) : l = [x, y, b', d'] := by
  match l, hl with
  | [a0, a1, a2, a3], _ =>
    simp at ht h2 h3
    obtain ⟨rfl, rfl⟩ := ht
    subst h2 h3
    rw [UInt8.toNat_inj.1 hb, UInt8.toNat_inj.1 hd]
theorem take_snd {l : List UInt8} {x y : UInt8} (ht : l.take 2 = [x, y]) : l[1]? = some y := by
  have : (l.take 2)[1]? = some y := by rw [ht]; rfl
  rwa [List.getElem?_take, if_pos (by omega)] at this
set_option maxRecDepth 100000 in
set_option maxHeartbeats 4000000 in
theorem RMisses_any (l : List UInt8) (w : World) : Calls Tryd.prog 32 #[strV l] w fun e w' => ∃ v, e = .returned (.tuple #[v, .int .i64 ((judgeN l : Nat) : Int)]) ∧ OutV w w' 66 2 v (missOf l).length (mcells (missOf l)) ∧ Below w.heap.size w w' := by
  go_enter Tryd.func32, Tryd.ntmps32
  refine wp_seq ?_
  refine wp_region_L (W0 := w) [] (KS.start w) ?_
  refine lm (v := .slice none 0 0) rfl rfl ?_
  refine lm (v := .int .i64 0) rfl rfl ?_
  refine wpL_done (fun W1 hW1 => ?_)
  refine (show Code.wp _ _ _ _ _ from ?_)
  refine wp_seq ?_
  refine wp_seq ?_
  refine wp_region_L (W0 := w) [] (hW1) ?_
  refine lm (v := strV l) rfl rfl ?_
  refine lv (v := .int .i64 (((judgeN l) : Nat) : Int)) rfl rfl (yb_call (f := 30) (args := #[strV l]) (fun _ => by kernel_rfl) fun W hW => Of_any l W) ?_
  refine lm (v := .int .i64 (((judgeN l) : Nat) : Int)) rfl rfl ?_
  refine wpL_done (fun W2 hW2 => ?_)
  refine (show Code.wp _ _ _ _ _ from ?_)
  refine wp_seq ?_
  refine wp_region_L (W0 := w) [] (hW2) ?_
  refine lm (v := .int .i64 (((judgeN l) : Nat) : Int)) rfl rfl ?_
  refine lp (v := .bool (!(decide ((judgeN l) = 0)))) rfl rfl (run_bin rfl (vx := (.int .i64 (((judgeN l) : Nat) : Int))) (vy := (.int .i64 ((0 : Nat) : Int))) (by kernel_rfl) (by kernel_rfl) fun w => bn_neq rfl w) ?_
  refine wpL_done (fun W3 hW3 => ?_)
  refine (show Code.wp _ _ _ _ _ from ?_)
  cases hd1 : (decide ((judgeN l) = 0)) with
  | false =>
    have h1 : ¬ ((judgeN l) = 0) := of_decide_eq_false hd1
    clear hd1
    refine wp_cond_true rfl ?_
    refine wp_seq ?_
    refine wp_region_L (W0 := w) [] (hW3) ?_
    refine lm (v := .int .i64 (((judgeN l) : Nat) : Int)) rfl rfl ?_
    refine lm (v := .slice none 0 0) rfl rfl ?_
    refine lm (v := .int .i64 (((judgeN l) : Nat) : Int)) rfl rfl ?_
    refine wpL_done (fun W4 hW4 => ?_)
    refine (show Code.wp _ _ _ _ _ from ?_)
    refine wp_ret ?_
    try simp only [inBlock_ret, then_ret]
    refine bodyPost_ret (v := .tuple #[.slice none 0 0, .int .i64 (((judgeN l) : Nat) : Int)]) ?_ rfl ?_
    · kernel_rfl
    · exact ⟨_, rfl, .inl ⟨by unfold missOf; rw [if_neg h1]; rfl, by unfold missOf; rw [if_neg h1]; rfl, rfl⟩, hW4.1⟩
  | true =>
    have h1 : (judgeN l) = 0 := of_decide_eq_true hd1
    clear hd1
    have hj0 := h1
    have hlen := judge_len h1
    refine wp_cond_false rfl ?_
    refine wp_skip ?_
    refine (show Code.wp _ _ _ _ _ from ?_)
    refine wp_seq ?_
    refine wp_region_L (W0 := w) [] (hW3) ?_
    refine lm (v := .slice none 0 0) rfl rfl ?_
    refine wpL_done (fun W5 hW5 => ?_)
    refine (show Code.wp _ _ _ _ _ from ?_)
    refine wp_seq ?_
    refine wp_seq ?_
    refine wp_region_L (W0 := w) [] (hW5) ?_
    refine lm (v := .int .i64 0) rfl rfl ?_
    refine wpL_done (fun W6 hW6 => ?_)
    refine (show Code.wp _ _ _ _ _ from ?_)
    refine wp_block ?_
    go_loopw [5, 6] (fun u5 u6 wr => ∃ (i : Nat) (v1 : Value) (Kl1 : List (Nat × Obj)), (i ≤ 11) ∧ (OwnL w 66 2 v1 (missTo l i).length (mcells (missTo l i)) Kl1) ∧ v1 = u5 ∧ u6 = .int .i64 ((i : Nat) : Int) ∧ KS w Kl1 wr) (fun _ u6 _ => 11 - (intOf u6).toNat)
    case atStart => exact ⟨0, (.slice none 0 0), [], (Nat.zero_le _), (OwnL.nil _ _ _), rfl, rfl, (hW6.sub (fun p hp => hp))⟩
    case round =>
      obtain ⟨i, v1, Kl1, hi, hO1, rfl, rfl, hL7⟩ := hrel
      have hml := missTo_len l i
      refine wp_seq ?_
      refine wp_seq ?_
      refine wp_region_L (W0 := w) Kl1 (hL7) ?_
      refine lm (v := .int .i64 ((i : Nat) : Int)) rfl rfl ?_
      refine lp (v := .bool (decide (i < 11))) rfl rfl (run_bin rfl (vx := (.int .i64 ((i : Nat) : Int))) (vy := (.int .i64 ((11 : Nat) : Int))) (by kernel_rfl) (by kernel_rfl) fun w => bn_lss rfl w) ?_
      refine wpL_done (fun W8 hW8 => ?_)
      refine (show Code.wp _ _ _ _ _ from ?_)
      cases hd2 : (decide (i < 11)) with
      | false =>
        have h2 : ¬ (i < 11) := of_decide_eq_false hd2
        clear hd2
        refine wp_cond_false rfl ?_
        refine wp_exit ?_
        refine (show Code.wp _ _ _ _ _ from ?_)
        refine wp_seq ?_
        refine wp_region_L (W0 := w) Kl1 (hW8) ?_
        refine lm (v := v1) rfl rfl ?_
        refine lm (v := v1) rfl rfl ?_
        refine lm (v := .int .i64 0) rfl rfl ?_
        refine wpL_done (fun W9 hW9 => ?_)
        refine (show Code.wp _ _ _ _ _ from ?_)
        refine wp_ret ?_
        try simp only [inBlock_ret, then_ret]
        refine bodyPost_ret (v := .tuple #[v1, .int .i64 0]) ?_ rfl ?_
        · kernel_rfl
        · exact ⟨v1, (by rw [h1] <;> rfl), (by unfold missOf missL; rw [if_pos h1]; obtain rfl : i = 11 := (by omega); exact OwnL.out hO1 (fun p hp => hp) hW9), hW9.1⟩
      | true =>
        have h2 : i < 11 := of_decide_eq_true hd2
        clear hd2
        refine wp_cond_true rfl ?_
        refine wp_skip ?_
        refine (show Code.wp _ _ _ _ _ from ?_)
        refine wp_seq ?_
        refine wp_block ?_
        refine wp_seq ?_
        refine wp_region_L (W0 := w) Kl1 (hW8) ?_
        refine lm (v := .int .i64 0) rfl rfl ?_
        refine wpL_done (fun W10 hW10 => ?_)
        refine (show Code.wp _ _ _ _ _ from ?_)
        refine wp_block ?_
        obtain ⟨b1, hb1⟩ : ∃ b, (l : List UInt8)[i]? = some b := ⟨_, List.getElem?_eq_getElem (by omega)⟩
        have lb1 := b1.toNat_lt
        go_loopw [5, 7] (fun u5 u7 wr => ∃ (k : Nat) (v2 : Value) (Kl2 : List (Nat × Obj)), (k ≤ 256) ∧ (OwnL w 66 2 v2 (missTo l i ++ rowM l i k).length (mcells (missTo l i ++ rowM l i k)) Kl2) ∧ v2 = u5 ∧ u7 = .int .i64 ((k : Nat) : Int) ∧ KS w Kl2 wr) (fun _ u7 _ => 256 - (intOf u7).toNat)
        case atStart => exact ⟨0, v1, Kl1, (Nat.zero_le _), (by rw [show (missTo l i ++ rowM l i 0) = missTo l i from by simp [rowM]]; exact hO1), rfl, rfl, hW10⟩
        case round =>
          obtain ⟨k, v2, Kl2, hk, hO2, rfl, rfl, hL11⟩ := hrel
          have hrl := rowM_len l i k
          have hal : (missTo l i ++ rowM l i k).length ≤ 256 * i + k := by rw [List.length_append]; omega
          refine wp_seq ?_
          refine wp_seq ?_
          refine wp_region_L (W0 := w) Kl2 (hL11) ?_
          refine lm (v := .int .i64 ((k : Nat) : Int)) rfl rfl ?_
          refine lp (v := .bool (decide (k < 256))) rfl rfl (run_bin rfl (vx := (.int .i64 ((k : Nat) : Int))) (vy := (.int .i64 ((256 : Nat) : Int))) (by kernel_rfl) (by kernel_rfl) fun w => bn_lss rfl w) ?_
          refine wpL_done (fun W12 hW12 => ?_)
          refine (show Code.wp _ _ _ _ _ from ?_)
          cases hd3 : (decide (k < 256)) with
          | false =>
            have h3 : ¬ (k < 256) := of_decide_eq_false hd3
            clear hd3
            obtain rfl : k = 256 := by omega
            refine wp_cond_false rfl ?_
            refine wp_exit ?_
            refine (show Code.wp _ _ _ _ _ from ?_)
            refine wp_region_L (W0 := w) Kl2 (hW12) ?_
            refine lm (v := .int .i64 ((i : Nat) : Int)) rfl rfl ?_
            refine lp (v := .int .i64 (((i + 1) : Nat) : Int)) rfl rfl (run_bin rfl (vx := (.int .i64 ((i : Nat) : Int))) (vy := (.int .i64 ((1 : Nat) : Int))) (by kernel_rfl) (by kernel_rfl) fun w => bn_add (z := (i + 1)) rfl (wr_i64 (by omega)) w) ?_
            refine lm (v := .int .i64 (((i + 1) : Nat) : Int)) rfl rfl ?_
            refine wpL_done (fun W13 hW13 => ?_)
            go_roundw
            case rel =>
              repeat apply Exists.intro
              exact ⟨⟨i + 1, v2, Kl2, (by omega), (by rw [missTo_succ]; exact hO2), rfl, rfl, hW13⟩, rfl⟩
            case measure => (show 11 - (intOf (.int .i64 (((i + 1) : Nat) : Int))).toNat < 11 - (intOf (.int .i64 ((i : Nat) : Int))).toNat); simp only [intOf]; omega
          | true =>
            have h3 : k < 256 := of_decide_eq_true hd3
            clear hd3
            obtain ⟨c, hc⟩ : ∃ c : UInt8, c.toNat = k := ⟨UInt8.ofNat k, by simp; omega⟩
            refine wp_cond_true rfl ?_
            refine wp_skip ?_
            refine (show Code.wp _ _ _ _ _ from ?_)
            refine wp_seq ?_
            refine wp_block ?_
            refine wp_seq ?_
            refine wp_region_V (W0 := w) Kl2 (by kernel_rfl) (hW12) ?_
            refine vm (i := 0) (v := .int .i64 ((k : Nat) : Int)) rfl rfl rfl ?_
            refine vp (i := 1) (v := .int .u8 ((c.toNat : Nat) : Int)) rfl rfl rfl (run_conv rfl (vx := (.int .i64 ((k : Nat) : Int))) (by kernel_rfl) fun w => cv_int Tryd.underlying3 Tryd.underlying5 (by rw [hc]; exact wr_u8 (by omega)) w) ?_
            refine vm (i := 2) (v := strV l) rfl rfl rfl ?_
            refine vm (i := 3) (v := .int .i64 ((i : Nat) : Int)) rfl rfl rfl ?_
            refine vp (i := 4) (v := .int .u8 ((b1.toNat : Nat) : Int)) rfl rfl rfl (run_idxS (j := .i64) (l := l) (k := i) (b := b1) rfl Tryd.underlying9 (by kernel_rfl) (by kernel_rfl) hb1) ?_
            refine vp (i := 5) (v := .bool (!(decide (c.toNat = b1.toNat)))) rfl rfl rfl (run_bin rfl (vx := (.int .u8 ((c.toNat : Nat) : Int))) (vy := (.int .u8 ((b1.toNat : Nat) : Int))) (by kernel_rfl) (by kernel_rfl) fun w => bn_neq rfl w) ?_
            refine vm (i := 6) (v := .bool (!(decide (c.toNat = b1.toNat)))) rfl rfl rfl ?_
            cases hd4 : (decide (c.toNat = b1.toNat)) with
            | false =>
              have h4 : ¬ (c.toNat = b1.toNat) := of_decide_eq_false hd4
              clear hd4
              refine vm (i := 7) (v := strV l) rfl rfl rfl ?_
              refine vm (i := 8) (v := .int .i64 ((i : Nat) : Int)) rfl rfl rfl ?_
              refine vp (i := 9) (v := strV (l.take i)) rfl rfl rfl (run_slH (k2 := .i64) (l := l) (r := (l.take i)) (j := i) rfl Tryd.underlying9 (by kernel_rfl) (by kernel_rfl) (by first | omega | (simp; omega)) rfl) ?_
              refine vm (i := 10) (v := .int .i64 ((k : Nat) : Int)) rfl rfl rfl ?_
              refine vp (i := 11) (v := .int .u8 ((c.toNat : Nat) : Int)) rfl rfl rfl (run_conv rfl (vx := (.int .i64 ((k : Nat) : Int))) (by kernel_rfl) fun w => cv_int Tryd.underlying3 Tryd.underlying5 (by rw [hc]; exact wr_u8 (by omega)) w) ?_
              refine vm (i := 15) (v := strV l) rfl rfl rfl ?_
              refine vm (i := 16) (v := .int .i64 ((i : Nat) : Int)) rfl rfl rfl ?_
              refine vp (i := 17) (v := .int .i64 (((i + 1) : Nat) : Int)) rfl rfl rfl (run_bin rfl (vx := (.int .i64 ((i : Nat) : Int))) (vy := (.int .i64 ((1 : Nat) : Int))) (by kernel_rfl) (by kernel_rfl) fun w => bn_add (z := (i + 1)) rfl (wr_i64 (by omega)) w) ?_
              refine vp (i := 18) (v := strV (l.drop (i + 1))) rfl rfl rfl (run_slL (k1 := .i64) (l := l) (r := (l.drop (i + 1))) (i := (i + 1)) rfl Tryd.underlying9 (by kernel_rfl) (by kernel_rfl) (by first | omega | (simp; omega)) rfl) ?_
              refine wpV_nsg (fun g => .slice (some ⟨g, 0, none⟩) 1 1) (i := 12) (obi := .cells #[.int .u8 ((c.toNat : Nat) : Int)] 5 (0, 0)) rfl rfl rfl (by kernel_rfl) (fun _ => by kernel_rfl) (fun _ => by simp only [List.setIfInBounds_toArray, List.set_cons_succ, List.set_cons_zero] <;> rfl) fun g2 Bg2 Fg2 => ?_
              refine vv (i := 13) (v := strV [c]) rfl rfl rfl (yb_str (n := 1) (cap := 1) (l := [c]) rfl Tryd.underlying31 Tryd.underlying5 Tryd.underlying9 (by kernel_rfl) rfl (.head _) (by first | rfl | (simp [RowB, u8s]; omega))) ?_
              refine vp (i := 14) (v := strV ((l.take i) ++ [c])) rfl rfl rfl (run_bin rfl (vx := strV (l.take i)) (vy := strV [c]) (by kernel_rfl) (by kernel_rfl) fun w => bs_add (c := ((l.take i) ++ [c])) rfl (by simp; omega) w) ?_
              refine vp (i := 19) (v := strV (l.set i c)) rfl rfl rfl (run_bin rfl (vx := strV ((l.take i) ++ [c])) (vy := strV (l.drop (i + 1))) (by kernel_rfl) (by kernel_rfl) fun w => bs_add (c := (l.set i c)) (set_mid (by omega)) (by simp; omega) w) ?_
              refine vv (i := 20) (v := .int .i64 (((judgeN (l.set i c)) : Nat) : Int)) rfl rfl rfl (yb_call (f := 30) (args := #[strV (l.set i c)]) (fun _ => by kernel_rfl) fun W hW => Of_any (l.set i c) W) ?_
              refine vp (i := 21) (v := .bool (decide ((judgeN (l.set i c)) = 0))) rfl rfl rfl (run_bin rfl (vx := (.int .i64 (((judgeN (l.set i c)) : Nat) : Int))) (vy := (.int .i64 ((0 : Nat) : Int))) (by kernel_rfl) (by kernel_rfl) fun w => bn_eql rfl w) ?_
              refine vm (i := 22) (v := .bool (decide ((judgeN (l.set i c)) = 0))) rfl rfl rfl ?_
              refine wpV_done (by kernel_rfl) (fun W14 hW14 => ?_) _
              refine (show Code.wp _ _ _ _ _ from ?_)
              cases hd5 : (decide ((judgeN (l.set i c)) = 0)) with
              | false =>
                have h5 : ¬ ((judgeN (l.set i c)) = 0) := of_decide_eq_false hd5
                clear hd5
                refine wp_cond_false rfl ?_
                refine wp_skip ?_
                refine (show Code.wp _ _ _ _ _ from ?_)
                refine wp_region_L (W0 := w) ((g2, .cells #[.int .u8 ((c.toNat : Nat) : Int)] 5 (0, 0)) :: Kl2) (hW14) ?_
                refine lm (v := .int .i64 ((k : Nat) : Int)) rfl rfl ?_
                refine lp (v := .int .i64 (((k + 1) : Nat) : Int)) rfl rfl (run_bin rfl (vx := (.int .i64 ((k : Nat) : Int))) (vy := (.int .i64 ((1 : Nat) : Int))) (by kernel_rfl) (by kernel_rfl) fun w => bn_add (z := (k + 1)) rfl (wr_i64 (by omega)) w) ?_
                refine lm (v := .int .i64 (((k + 1) : Nat) : Int)) rfl rfl ?_
                refine wpL_done (fun W15 hW15 => ?_)
                go_roundw
                case rel =>
                  repeat apply Exists.intro
                  exact ⟨⟨k + 1, v2, Kl2, (by omega), (by rw [acc_no hc (no_hit hj0 h5)]; exact hO2), rfl, rfl, (hW15.sub (fun p hp => (.tail _ hp)))⟩, rfl⟩
                case measure => (show 256 - (intOf (.int .i64 (((k + 1) : Nat) : Int))).toNat < 256 - (intOf (.int .i64 ((k : Nat) : Int))).toNat); simp only [intOf]; omega
              | true =>
                have h5 : (judgeN (l.set i c)) = 0 := of_decide_eq_true hd5
                clear hd5
                refine wp_cond_true rfl ?_
                refine wp_region_L (W0 := w) ((g2, .cells #[.int .u8 ((c.toNat : Nat) : Int)] 5 (0, 0)) :: Kl2) (hW14) ?_
                refine lm (v := v2) rfl rfl ?_
                refine lm (v := .int .i64 ((i : Nat) : Int)) rfl rfl ?_
                refine lm (v := .int .i64 ((k : Nat) : Int)) rfl rfl ?_
                refine lp (v := .int .u8 ((c.toNat : Nat) : Int)) rfl rfl (run_conv rfl (vx := (.int .i64 ((k : Nat) : Int))) (by kernel_rfl) fun w => cv_int Tryd.underlying3 Tryd.underlying5 (by rw [hc]; exact wr_u8 (by omega)) w) ?_
                refine lm (v := .agg #[.int .i64 ((i : Nat) : Int), .int .u8 ((c.toNat : Nat) : Int)]) rfl rfl ?_
                refine wpL_new (fun g => .slice (some ⟨g, 0, none⟩) 1 1) (obi := .cells #[.int .i64 ((i : Nat) : Int), .int .u8 ((c.toNat : Nat) : Int)] 66 (0, 0)) rfl rfl (fun _ => by kernel_rfl) (fun _ => by simp only [List.setIfInBounds_toArray, List.set_cons_succ, List.set_cons_zero] <;> rfl) fun g3 Bg3 Fg3 => ?_
                refine wpL_g (AppO w 66 2 [(g2, .cells #[.int .u8 ((c.toNat : Nat) : Int)] 5 (0, 0))] (((missTo l i ++ rowM l i k).length) + 1) ((mcells (missTo l i ++ rowM l i k)) ++ [.int .i64 ((i : Nat) : Int), .int .u8 ((c.toNat : Nat) : Int)])) rfl rfl (app_own el_rmiss (m := 1) (c := 1) (news := [.int .i64 ((i : Nat) : Int), .int .u8 ((c.toNat : Nat) : Int)]) rfl (by kernel_rfl) (by kernel_rfl) (.head _) hO2 (fun p hp => (.tail _ (.tail _ hp))) (List.forall_mem_cons.2 ⟨⟨(.tail _ (.head _)), (fun q hq => (Fg2 _ hq))⟩, (List.forall_mem_nil _)⟩) rfl (by simp [Value.oneCell']) (by omega) (by omega) (by omega)) (fun _ => by simp only [List.setIfInBounds_toArray, List.set_cons_succ, List.set_cons_zero] <;> rfl) ?_
                rintro v4 K9 ⟨Kl4, O4, N4, rfl⟩
                refine lm (v := v4) rfl rfl ?_
                refine wpL_done (fun W16 hW16 => ?_)
                refine (show Code.wp _ _ _ _ _ from ?_)
                refine wp_region_L (W0 := w) ((g2, .cells #[.int .u8 ((c.toNat : Nat) : Int)] 5 (0, 0)) :: Kl4) (hW16) ?_
                refine lm (v := .int .i64 ((k : Nat) : Int)) rfl rfl ?_
                refine lp (v := .int .i64 (((k + 1) : Nat) : Int)) rfl rfl (run_bin rfl (vx := (.int .i64 ((k : Nat) : Int))) (vy := (.int .i64 ((1 : Nat) : Int))) (by kernel_rfl) (by kernel_rfl) fun w => bn_add (z := (k + 1)) rfl (wr_i64 (by omega)) w) ?_
                refine lm (v := .int .i64 (((k + 1) : Nat) : Int)) rfl rfl ?_
                refine wpL_done (fun W17 hW17 => ?_)
                go_roundw
                case rel =>
                  repeat apply Exists.intro
                  exact ⟨⟨k + 1, v4, Kl4, (by omega), (own_miss O4 (acc_hit hc (hit_yes hb1 h4 (set_fit hj0 (by omega) h5).1 (set_fit hj0 (by omega) h5).2))), rfl, rfl, (hW17.sub (fun p hp => (.tail _ hp)))⟩, rfl⟩
                case measure => (show 256 - (intOf (.int .i64 (((k + 1) : Nat) : Int))).toNat < 256 - (intOf (.int .i64 ((k : Nat) : Int))).toNat); simp only [intOf]; omega
            | true =>
              have h4 : c.toNat = b1.toNat := of_decide_eq_true hd4
              clear hd4
              refine vn (i := 7) rfl rfl ?_
              refine vn (i := 8) rfl rfl ?_
              refine vn (i := 9) rfl rfl ?_
              refine vn (i := 10) rfl rfl ?_
              refine vn (i := 11) rfl rfl ?_
              refine vn (i := 15) rfl rfl ?_
              refine vn (i := 16) rfl rfl ?_
              refine vn (i := 17) rfl rfl ?_
              refine vn (i := 18) rfl rfl ?_
              refine vn (i := 12) rfl rfl ?_
              refine vn (i := 13) rfl rfl ?_
              refine vn (i := 14) rfl rfl ?_
              refine vn (i := 19) rfl rfl ?_
              refine vn (i := 20) rfl rfl ?_
              refine vn (i := 21) rfl rfl ?_
              refine vm (i := 22) (v := .bool false) rfl rfl rfl ?_
              refine wpV_done (by kernel_rfl) (fun W18 hW18 => ?_) _
              refine (show Code.wp _ _ _ _ _ from ?_)
              refine wp_cond_false rfl ?_
              refine wp_skip ?_
              refine (show Code.wp _ _ _ _ _ from ?_)
              refine wp_region_L (W0 := w) Kl2 (hW18) ?_
              refine lm (v := .int .i64 ((k : Nat) : Int)) rfl rfl ?_
              refine lp (v := .int .i64 (((k + 1) : Nat) : Int)) rfl rfl (run_bin rfl (vx := (.int .i64 ((k : Nat) : Int))) (vy := (.int .i64 ((1 : Nat) : Int))) (by kernel_rfl) (by kernel_rfl) fun w => bn_add (z := (k + 1)) rfl (wr_i64 (by omega)) w) ?_
              refine lm (v := .int .i64 (((k + 1) : Nat) : Int)) rfl rfl ?_
              refine wpL_done (fun W19 hW19 => ?_)
              go_roundw
              case rel =>
                repeat apply Exists.intro
                exact ⟨⟨k + 1, v2, Kl2, (by omega), (by rw [acc_no hc (hit_eq hb1 h4)]; exact hO2), rfl, rfl, hW19⟩, rfl⟩
              case measure => (show 256 - (intOf (.int .i64 (((k + 1) : Nat) : Int))).toNat < 256 - (intOf (.int .i64 ((k : Nat) : Int))).toNat); simp only [intOf]; omega
set_option maxRecDepth 100000 in
set_option maxHeartbeats 4000000 in
theorem RSize_any (l : List UInt8) (w : World) : Calls Tryd.prog 31 #[strV l] w fun e w' => e = .returned (sizeV l) ∧ Below w.heap.size w w' := by
  go_enter Tryd.func31, Tryd.ntmps31
  refine wp_seq ?_
  refine wp_region_L (W0 := w) [] (KS.start w) ?_
  refine wpL_new (fun g => .pointer (some ⟨g, 0, none⟩)) (obi := .cells #[.int .u8 0, .bool false, .bool false] 60 (0, 0)) rfl rfl (fun _ => by kernel_rfl) (fun _ => by simp only [List.setIfInBounds_toArray, List.set_cons_succ, List.set_cons_zero] <;> rfl) fun g1 Bg1 Fg1 => ?_
  refine lm (v := .int .i64 0) rfl rfl ?_
  refine wpL_done (fun W1 hW1 => ?_)
  refine (show Code.wp _ _ _ _ _ from ?_)
  refine wp_seq ?_
  refine wp_seq ?_
  refine wp_region_L (W0 := w) [(g1, .cells #[.int .u8 0, .bool false, .bool false] 60 (0, 0))] (hW1) ?_
  refine lm (v := strV l) rfl rfl ?_
  refine lp (v := .int .i64 ((l.length : Nat) : Int)) rfl rfl (run_lenS (l := l) rfl Tryd.underlying9 (by kernel_rfl)) ?_
  refine lp (v := .bool (!(decide (l.length = 4)))) rfl rfl (run_bin rfl (vx := (.int .i64 ((l.length : Nat) : Int))) (vy := (.int .i64 ((4 : Nat) : Int))) (by kernel_rfl) (by kernel_rfl) fun w => bn_neq rfl w) ?_
  refine lm (v := .bool (!(decide (l.length = 4)))) rfl rfl ?_
  cases hd1 : (decide (l.length = 4)) with
  | false =>
    have h1 : ¬ (l.length = 4) := of_decide_eq_false hd1
    clear hd1
    refine ln rfl ?_
    refine ln rfl ?_
    refine ln rfl ?_
    refine lm (v := .bool true) rfl rfl ?_
    refine lm (v := .bool true) rfl rfl ?_
    refine ln rfl ?_
    refine ln rfl ?_
    refine ln rfl ?_
    refine ln rfl ?_
    refine ln rfl ?_
    refine ln rfl ?_
    refine ln rfl ?_
    refine ln rfl ?_
    refine lm (v := .bool true) rfl rfl ?_
    refine wpL_done (fun W2 hW2 => ?_)
    refine (show Code.wp _ _ _ _ _ from ?_)
    refine wp_cond_true rfl ?_
    refine wp_seq ?_
    refine wp_region_L (W0 := w) [(g1, .cells #[.int .u8 0, .bool false, .bool false] 60 (0, 0))] (hW2) ?_
    refine lm (v := .agg #[.int .u8 0, .bool false, .bool false]) rfl rfl ?_
    refine wpL_s [(g1, .cells #[.int .u8 0, .bool false, .bool false] 60 (0, 0))] rfl rfl (st_row (off := 0) (v := .agg #[.int .u8 0, .bool false, .bool false]) rfl (by kernel_rfl) (by kernel_rfl) (.head _) Bg1 (by kernel_rfl) (by simp [Value.cells]) (by intro v hv; simp [Value.cells] at hv; first | (subst hv; rfl) | (rcases hv with rfl | rfl | rfl <;> rfl)) (by kernel_rfl) (List.forall_mem_cons.2 ⟨.inl rfl, (List.forall_mem_nil _)⟩)) ?_
    refine lm (v := .int .i64 32) rfl rfl ?_
    refine wpL_done (fun W3 hW3 => ?_)
    refine (show Code.wp _ _ _ _ _ from ?_)
    refine wp_ret ?_
    try simp only [inBlock_ret, then_ret]
    refine bodyPost_ret (v := .tuple #[.agg #[.int .u8 0, .bool false, .bool false], .int .i64 32]) ?_ rfl ?_
    · exact (res_cell_tmp (p := 2) (q := 3) rfl rfl (hW3.2 _ (.head _)) Tryd.underlying60 rfl (by kernel_rfl))
    · exact ⟨(by rw [size_len h1]), hW3.1⟩
  | true =>
    have h1 : l.length = 4 := of_decide_eq_true hd1
    clear hd1
    refine lm (v := strV l) rfl rfl ?_
    obtain ⟨b2, hb2⟩ : ∃ b, (l : List UInt8)[3]? = some b := ⟨_, List.getElem?_eq_getElem (by omega)⟩
    have lb2 := b2.toNat_lt
    refine lp (v := .int .u8 ((b2.toNat : Nat) : Int)) rfl rfl (run_idxS (j := .i64) (l := l) (k := 3) (b := b2) rfl Tryd.underlying9 (by kernel_rfl) (by kernel_rfl) hb2) ?_
    refine lp (v := .bool (!(decide (b2.toNat = 49)))) rfl rfl (run_bin rfl (vx := (.int .u8 ((b2.toNat : Nat) : Int))) (vy := (.int .u8 ((49 : Nat) : Int))) (by kernel_rfl) (by kernel_rfl) fun w => bn_neq rfl w) ?_
    refine lm (v := .bool (!(decide (b2.toNat = 49)))) rfl rfl ?_
    refine lm (v := .bool (!(decide (b2.toNat = 49)))) rfl rfl ?_
    cases hd2 : (decide (b2.toNat = 49)) with
    | false =>
      have h2 : ¬ (b2.toNat = 49) := of_decide_eq_false hd2
      clear hd2
      refine ln rfl ?_
      refine ln rfl ?_
      refine ln rfl ?_
      refine ln rfl ?_
      refine ln rfl ?_
      refine ln rfl ?_
      refine ln rfl ?_
      refine ln rfl ?_
      refine lm (v := .bool true) rfl rfl ?_
      refine wpL_done (fun W4 hW4 => ?_)
      refine (show Code.wp _ _ _ _ _ from ?_)
      refine wp_cond_true rfl ?_
      refine wp_seq ?_
      refine wp_region_L (W0 := w) [(g1, .cells #[.int .u8 0, .bool false, .bool false] 60 (0, 0))] (hW4) ?_
      refine lm (v := .agg #[.int .u8 0, .bool false, .bool false]) rfl rfl ?_
      refine wpL_s [(g1, .cells #[.int .u8 0, .bool false, .bool false] 60 (0, 0))] rfl rfl (st_row (off := 0) (v := .agg #[.int .u8 0, .bool false, .bool false]) rfl (by kernel_rfl) (by kernel_rfl) (.head _) Bg1 (by kernel_rfl) (by simp [Value.cells]) (by intro v hv; simp [Value.cells] at hv; first | (subst hv; rfl) | (rcases hv with rfl | rfl | rfl <;> rfl)) (by kernel_rfl) (List.forall_mem_cons.2 ⟨.inl rfl, (List.forall_mem_nil _)⟩)) ?_
      refine lm (v := .int .i64 32) rfl rfl ?_
      refine wpL_done (fun W5 hW5 => ?_)
      refine (show Code.wp _ _ _ _ _ from ?_)
      refine wp_ret ?_
      try simp only [inBlock_ret, then_ret]
      refine bodyPost_ret (v := .tuple #[.agg #[.int .u8 0, .bool false, .bool false], .int .i64 32]) ?_ rfl ?_
      · exact (res_cell_tmp (p := 2) (q := 3) rfl rfl (hW5.2 _ (.head _)) Tryd.underlying60 rfl (by kernel_rfl))
      · exact ⟨(by rw [size_last hb2 h2]), hW5.1⟩
    | true =>
      have h2 : b2.toNat = 49 := of_decide_eq_true hd2
      clear hd2
      refine lm (v := strV l) rfl rfl ?_
      obtain ⟨b3, hb3⟩ : ∃ b, (l : List UInt8)[2]? = some b := ⟨_, List.getElem?_eq_getElem (by omega)⟩
      have lb3 := b3.toNat_lt
      refine lp (v := .int .u8 ((b3.toNat : Nat) : Int)) rfl rfl (run_idxS (j := .i64) (l := l) (k := 2) (b := b3) rfl Tryd.underlying9 (by kernel_rfl) (by kernel_rfl) hb3) ?_
      refine lp (v := .bool (!(decide (b3.toNat = 71)))) rfl rfl (run_bin rfl (vx := (.int .u8 ((b3.toNat : Nat) : Int))) (vy := (.int .u8 ((71 : Nat) : Int))) (by kernel_rfl) (by kernel_rfl) fun w => bn_neq rfl w) ?_
      refine lm (v := .bool (!(decide (b3.toNat = 71)))) rfl rfl ?_
      cases hd3 : (decide (b3.toNat = 71)) with
      | false =>
        have h3 : ¬ (b3.toNat = 71) := of_decide_eq_false hd3
        clear hd3
        refine lm (v := strV l) rfl rfl ?_
        refine lp (v := .int .u8 ((b3.toNat : Nat) : Int)) rfl rfl (run_idxS (j := .i64) (l := l) (k := 2) (b := b3) rfl Tryd.underlying9 (by kernel_rfl) (by kernel_rfl) hb3) ?_
        refine lp (v := .bool (!(decide (b3.toNat = 82)))) rfl rfl (run_bin rfl (vx := (.int .u8 ((b3.toNat : Nat) : Int))) (vy := (.int .u8 ((82 : Nat) : Int))) (by kernel_rfl) (by kernel_rfl) fun w => bn_neq rfl w) ?_
        refine lm (v := .bool (!(decide (b3.toNat = 82)))) rfl rfl ?_
        refine lm (v := .bool (!(decide (b3.toNat = 82)))) rfl rfl ?_
        refine wpL_done (fun W6 hW6 => ?_)
        refine (show Code.wp _ _ _ _ _ from ?_)
        cases hd4 : (decide (b3.toNat = 82)) with
        | false =>
          have h4 : ¬ (b3.toNat = 82) := of_decide_eq_false hd4
          clear hd4
          refine wp_cond_true rfl ?_
          refine wp_seq ?_
          refine wp_region_L (W0 := w) [(g1, .cells #[.int .u8 0, .bool false, .bool false] 60 (0, 0))] (hW6) ?_
          refine lm (v := .agg #[.int .u8 0, .bool false, .bool false]) rfl rfl ?_
          refine wpL_s [(g1, .cells #[.int .u8 0, .bool false, .bool false] 60 (0, 0))] rfl rfl (st_row (off := 0) (v := .agg #[.int .u8 0, .bool false, .bool false]) rfl (by kernel_rfl) (by kernel_rfl) (.head _) Bg1 (by kernel_rfl) (by simp [Value.cells]) (by intro v hv; simp [Value.cells] at hv; first | (subst hv; rfl) | (rcases hv with rfl | rfl | rfl <;> rfl)) (by kernel_rfl) (List.forall_mem_cons.2 ⟨.inl rfl, (List.forall_mem_nil _)⟩)) ?_
          refine lm (v := .int .i64 32) rfl rfl ?_
          refine wpL_done (fun W7 hW7 => ?_)
          refine (show Code.wp _ _ _ _ _ from ?_)
          refine wp_ret ?_
          try simp only [inBlock_ret, then_ret]
          refine bodyPost_ret (v := .tuple #[.agg #[.int .u8 0, .bool false, .bool false], .int .i64 32]) ?_ rfl ?_
          · exact (res_cell_tmp (p := 2) (q := 3) rfl rfl (hW7.2 _ (.head _)) Tryd.underlying60 rfl (by kernel_rfl))
          · exact ⟨(by rw [size_third hb3 h3 h4]), hW7.1⟩
        | true =>
          have h4 : b3.toNat = 82 := of_decide_eq_true hd4
          clear hd4
          refine wp_cond_false rfl ?_
          refine wp_skip ?_
          refine (show Code.wp _ _ _ _ _ from ?_)
          refine wp_seq ?_
          refine wp_region_L (W0 := w) [(g1, .cells #[.int .u8 0, .bool false, .bool false] 60 (0, 0))] (hW6) ?_
          refine lm (v := strV l) rfl rfl ?_
          refine lp (v := .int .u8 ((b3.toNat : Nat) : Int)) rfl rfl (run_idxS (j := .i64) (l := l) (k := 2) (b := b3) rfl Tryd.underlying9 (by kernel_rfl) (by kernel_rfl) hb3) ?_
          refine lp (v := .bool true) rfl rfl (run_bin rfl (vx := (.int .u8 ((b3.toNat : Nat) : Int))) (vy := (.int .u8 ((82 : Nat) : Int))) (by kernel_rfl) (by kernel_rfl) fun w => bn_eql (decide_eq_true (by assumption)) w) ?_
          refine lm (v := .agg #[.int .u8 20, .bool false, .bool true]) rfl rfl ?_
          refine wpL_new (fun g => .pointer (some ⟨g, 0, none⟩)) (obi := .cells #[.int .u8 0, .bool false, .bool false] 60 (0, 0)) rfl rfl (fun _ => by kernel_rfl) (fun _ => by simp only [List.setIfInBounds_toArray, List.set_cons_succ, List.set_cons_zero] <;> rfl) fun g4 Bg4 Fg4 => ?_
          refine wpL_s [(g4, .cells #[.int .u8 20, .bool false, .bool true] 60 (0, 0)), (g1, .cells #[.int .u8 0, .bool false, .bool false] 60 (0, 0))] rfl rfl (st_row (off := 0) (v := .agg #[.int .u8 20, .bool false, .bool true]) rfl (by kernel_rfl) (by kernel_rfl) (.head _) Bg4 (by kernel_rfl) (by simp [Value.cells]) (by intro v hv; simp [Value.cells] at hv; first | (subst hv; rfl) | (rcases hv with rfl | rfl | rfl <;> rfl)) (by kernel_rfl) (List.forall_mem_cons.2 ⟨.inl rfl, (List.forall_mem_cons.2 ⟨.inr ⟨(.tail _ (.head _)), (Fg4 _ (.head _))⟩, (List.forall_mem_nil _)⟩)⟩)) ?_
          refine wpL_done (fun W8 hW8 => ?_)
          refine (show Code.wp _ _ _ _ _ from ?_)
          refine wp_seq ?_
          refine wp_seq ?_
          refine wp_region_L (W0 := w) [(g4, .cells #[.int .u8 20, .bool false, .bool true] 60 (0, 0)), (g1, .cells #[.int .u8 0, .bool false, .bool false] 60 (0, 0))] (hW8) ?_
          refine lm (v := strV l) rfl rfl ?_
          refine lp (v := strV (l.take 2)) rfl rfl (run_slH (k2 := .i64) (l := l) (r := (l.take 2)) (j := 2) rfl Tryd.underlying9 (by kernel_rfl) (by kernel_rfl) (by first | omega | (simp; omega)) rfl) ?_
          refine wpL_done (fun W9 hW9 => ?_)
          refine (show Code.wp _ _ _ _ _ from ?_)
          refine wp_block ?_
          refine wp_seq ?_
          refine wp_region_L (W0 := w) [(g4, .cells #[.int .u8 20, .bool false, .bool true] 60 (0, 0)), (g1, .cells #[.int .u8 0, .bool false, .bool false] 60 (0, 0))] (hW9) ?_
          refine lp (v := .bool (decide ((l.take 2) = [50, 50]))) rfl rfl (run_bin rfl (vx := strV (l.take 2)) (vy := strV [50, 50]) (by kernel_rfl) (by kernel_rfl) fun w => bs_eql rfl w) ?_
          refine lm (v := .bool (decide ((l.take 2) = [50, 50]))) rfl rfl ?_
          refine wpL_done (fun W10 hW10 => ?_)
          refine (show Code.wp _ _ _ _ _ from ?_)
          cases hd5 : (decide ((l.take 2) = [50, 50])) with
          | false =>
            have h5 : ¬ ((l.take 2) = [50, 50]) := of_decide_eq_false hd5
            clear hd5
            refine wp_cond_false rfl ?_
            refine wp_seq ?_
            refine wp_seq ?_
            refine wp_region_L (W0 := w) [(g4, .cells #[.int .u8 20, .bool false, .bool true] 60 (0, 0)), (g1, .cells #[.int .u8 0, .bool false, .bool false] 60 (0, 0))] (hW10) ?_
            refine lp (v := .bool (decide ((l.take 2) = [52, 50]))) rfl rfl (run_bin rfl (vx := strV (l.take 2)) (vy := strV [52, 50]) (by kernel_rfl) (by kernel_rfl) fun w => bs_eql rfl w) ?_
            refine lm (v := .bool (decide ((l.take 2) = [52, 50]))) rfl rfl ?_
            refine wpL_done (fun W11 hW11 => ?_)
            refine (show Code.wp _ _ _ _ _ from ?_)
            cases hd6 : (decide ((l.take 2) = [52, 50])) with
            | false =>
              have h6 : ¬ ((l.take 2) = [52, 50]) := of_decide_eq_false hd6
              clear hd6
              refine wp_cond_false rfl ?_
              refine wp_region_L (W0 := w) [(g4, .cells #[.int .u8 20, .bool false, .bool true] 60 (0, 0)), (g1, .cells #[.int .u8 0, .bool false, .bool false] 60 (0, 0))] (hW11) ?_
              refine lp (v := .bool (decide ((l.take 2) = [52, 53]))) rfl rfl (run_bin rfl (vx := strV (l.take 2)) (vy := strV [52, 53]) (by kernel_rfl) (by kernel_rfl) fun w => bs_eql rfl w) ?_
              refine lm (v := .bool (decide ((l.take 2) = [52, 53]))) rfl rfl ?_
              refine wpL_done (fun W12 hW12 => ?_)
              refine (show Code.wp _ _ _ _ _ from ?_)
              cases hd7 : (decide ((l.take 2) = [52, 53])) with
              | false =>
                have h7 : ¬ ((l.take 2) = [52, 53]) := of_decide_eq_false hd7
                clear hd7
                refine wp_cond_false rfl ?_
                refine wp_skip ?_
                refine (show Code.wp _ _ _ _ _ from ?_)
                refine wp_seq ?_
                refine wp_region_L (W0 := w) [(g4, .cells #[.int .u8 20, .bool false, .bool true] 60 (0, 0)), (g1, .cells #[.int .u8 0, .bool false, .bool false] 60 (0, 0))] (hW12) ?_
                refine lm (v := .agg #[.int .u8 0, .bool false, .bool false]) rfl rfl ?_
                refine wpL_s [(g4, .cells #[.int .u8 20, .bool false, .bool true] 60 (0, 0)), (g1, .cells #[.int .u8 0, .bool false, .bool false] 60 (0, 0))] rfl rfl (st_row (off := 0) (v := .agg #[.int .u8 0, .bool false, .bool false]) rfl (by kernel_rfl) (by kernel_rfl) (.tail _ (.head _)) Bg1 (by kernel_rfl) (by simp [Value.cells]) (by intro v hv; simp [Value.cells] at hv; first | (subst hv; rfl) | (rcases hv with rfl | rfl | rfl <;> rfl)) (by kernel_rfl) (List.forall_mem_cons.2 ⟨.inr ⟨(.head _), (Ne.symm (Fg4 _ (.head _)))⟩, (List.forall_mem_cons.2 ⟨.inl rfl, (List.forall_mem_nil _)⟩)⟩)) ?_
                refine lm (v := .int .i64 32) rfl rfl ?_
                refine wpL_done (fun W13 hW13 => ?_)
                refine (show Code.wp _ _ _ _ _ from ?_)
                refine wp_ret ?_
                try simp only [inBlock_ret, then_ret]
                refine bodyPost_ret (v := .tuple #[.agg #[.int .u8 0, .bool false, .bool false], .int .i64 32]) ?_ rfl ?_
                · exact (res_cell_tmp (p := 2) (q := 3) rfl rfl (hW13.2 _ (.tail _ (.head _))) Tryd.underlying60 rfl (by kernel_rfl))
                · exact ⟨(by rw [size_none h5 h6 h7]), hW13.1⟩
              | true =>
                have h7 : (l.take 2) = [52, 53] := of_decide_eq_true hd7
                clear hd7
                refine wp_cond_true rfl ?_
                refine wp_seq ?_
                refine wp_region_L (W0 := w) [(g4, .cells #[.int .u8 20, .bool false, .bool true] 60 (0, 0)), (g1, .cells #[.int .u8 0, .bool false, .bool false] 60 (0, 0))] (hW12) ?_
                refine lm (v := .pointer (some ⟨g4, 0, none⟩)) rfl rfl ?_
                refine wpL_s [(g4, .cells #[.int .u8 40, .bool false, .bool true] 60 (0, 0)), (g1, .cells #[.int .u8 0, .bool false, .bool false] 60 (0, 0))] rfl rfl (st_row (off := 0) (v := .int .u8 40) rfl (by kernel_rfl) (by kernel_rfl) (.head _) Bg4 (by kernel_rfl) (by simp [Value.cells]) (by intro v hv; simp [Value.cells] at hv; first | (subst hv; rfl) | (rcases hv with rfl <;> rfl)) (by kernel_rfl) (List.forall_mem_cons.2 ⟨.inl rfl, (List.forall_mem_cons.2 ⟨.inr ⟨(.tail _ (.head _)), (Fg4 _ (.head _))⟩, (List.forall_mem_nil _)⟩)⟩)) ?_
                refine wpL_done (fun W14 hW14 => ?_)
                refine (show Code.wp _ _ _ _ _ from ?_)
                refine wp_seq ?_
                refine wp_region_L (W0 := w) [(g4, .cells #[.int .u8 40, .bool false, .bool true] 60 (0, 0)), (g1, .cells #[.int .u8 0, .bool false, .bool false] 60 (0, 0))] (hW14) ?_
                refine lm (v := strV l) rfl rfl ?_
                obtain ⟨b5, hb5⟩ : ∃ b, (l : List UInt8)[1]? = some b := ⟨_, List.getElem?_eq_getElem (by omega)⟩
                have lb5 := b5.toNat_lt
                refine lp (v := .int .u8 ((b5.toNat : Nat) : Int)) rfl rfl (run_idxS (j := .i64) (l := l) (k := 1) (b := b5) rfl Tryd.underlying9 (by kernel_rfl) (by kernel_rfl) hb5) ?_
                refine lp (v := .bool true) rfl rfl (run_bin rfl (vx := (.int .u8 ((b5.toNat : Nat) : Int))) (vy := (.int .u8 ((53 : Nat) : Int))) (by kernel_rfl) (by kernel_rfl) fun w => bn_eql (decide_eq_true (by have h1 := take_snd h7; rw [hb5] at h1; cases h1; decide)) w) ?_
                refine lm (v := .pointer (some ⟨g4, 1, none⟩)) rfl rfl ?_
                refine wpL_s [(g4, .cells #[.int .u8 40, .bool true, .bool true] 60 (0, 0)), (g1, .cells #[.int .u8 0, .bool false, .bool false] 60 (0, 0))] rfl rfl (st_row (off := 1) (v := .bool true) rfl (by kernel_rfl) (by kernel_rfl) (.head _) Bg4 (by kernel_rfl) (by simp [Value.cells]) (by intro v hv; simp [Value.cells] at hv; first | (subst hv; rfl) | (rcases hv with rfl <;> rfl)) (by kernel_rfl) (List.forall_mem_cons.2 ⟨.inl rfl, (List.forall_mem_cons.2 ⟨.inr ⟨(.tail _ (.head _)), (Fg4 _ (.head _))⟩, (List.forall_mem_nil _)⟩)⟩)) ?_
                refine wpL_done (fun W15 hW15 => ?_)
                refine (show Code.wp _ _ _ _ _ from ?_)
                refine wp_seq ?_
                refine wp_region_L (W0 := w) [(g4, .cells #[.int .u8 40, .bool true, .bool true] 60 (0, 0)), (g1, .cells #[.int .u8 0, .bool false, .bool false] 60 (0, 0))] (hW15) ?_
                refine lv (v := .agg #[.int .u8 40, .bool true, .bool true]) rfl rfl (yb_load (n := 3) (off := 0) rfl (by kernel_rfl) (.head _) Tryd.underlying60 rfl (by kernel_rfl) (by simp) (by kernel_rfl)) ?_
                refine wpL_s [(g4, .cells #[.int .u8 40, .bool true, .bool true] 60 (0, 0)), (g1, .cells #[.int .u8 40, .bool true, .bool true] 60 (0, 0))] rfl rfl (st_row (off := 0) (v := .agg #[.int .u8 40, .bool true, .bool true]) rfl (by kernel_rfl) (by kernel_rfl) (.tail _ (.head _)) Bg1 (by kernel_rfl) (by simp [Value.cells]) (by intro v hv; simp [Value.cells] at hv; first | (subst hv; rfl) | (rcases hv with rfl | rfl | rfl <;> rfl)) (by kernel_rfl) (List.forall_mem_cons.2 ⟨.inr ⟨(.head _), (Ne.symm (Fg4 _ (.head _)))⟩, (List.forall_mem_cons.2 ⟨.inl rfl, (List.forall_mem_nil _)⟩)⟩)) ?_
                refine lm (v := .int .i64 0) rfl rfl ?_
                refine wpL_done (fun W16 hW16 => ?_)
                refine (show Code.wp _ _ _ _ _ from ?_)
                refine wp_ret ?_
                try simp only [inBlock_ret, then_ret]
                refine bodyPost_ret (v := .tuple #[.agg #[.int .u8 40, .bool true, .bool true], .int .i64 0]) ?_ rfl ?_
                · exact (res_cell_tmp (p := 2) (q := 3) rfl rfl (hW16.2 _ (.tail _ (.head _))) Tryd.underlying60 rfl (by kernel_rfl))
                · exact ⟨(by rw [size_lit 82 49 h1 h7 hb3 hb2 h4 h2]; rfl), hW16.1⟩
            | true =>
              have h6 : (l.take 2) = [52, 50] := of_decide_eq_true hd6
              clear hd6
              refine wp_cond_true rfl ?_
              refine wp_skip ?_
              refine (show Code.wp _ _ _ _ _ from ?_)
              refine wp_cond_true rfl ?_
              refine wp_seq ?_
              refine wp_region_L (W0 := w) [(g4, .cells #[.int .u8 20, .bool false, .bool true] 60 (0, 0)), (g1, .cells #[.int .u8 0, .bool false, .bool false] 60 (0, 0))] (hW11) ?_
              refine lm (v := .pointer (some ⟨g4, 0, none⟩)) rfl rfl ?_
              refine wpL_s [(g4, .cells #[.int .u8 40, .bool false, .bool true] 60 (0, 0)), (g1, .cells #[.int .u8 0, .bool false, .bool false] 60 (0, 0))] rfl rfl (st_row (off := 0) (v := .int .u8 40) rfl (by kernel_rfl) (by kernel_rfl) (.head _) Bg4 (by kernel_rfl) (by simp [Value.cells]) (by intro v hv; simp [Value.cells] at hv; first | (subst hv; rfl) | (rcases hv with rfl <;> rfl)) (by kernel_rfl) (List.forall_mem_cons.2 ⟨.inl rfl, (List.forall_mem_cons.2 ⟨.inr ⟨(.tail _ (.head _)), (Fg4 _ (.head _))⟩, (List.forall_mem_nil _)⟩)⟩)) ?_
              refine wpL_done (fun W17 hW17 => ?_)
              refine (show Code.wp _ _ _ _ _ from ?_)
              refine wp_seq ?_
              refine wp_region_L (W0 := w) [(g4, .cells #[.int .u8 40, .bool false, .bool true] 60 (0, 0)), (g1, .cells #[.int .u8 0, .bool false, .bool false] 60 (0, 0))] (hW17) ?_
              refine lm (v := strV l) rfl rfl ?_
              obtain ⟨b6, hb6⟩ : ∃ b, (l : List UInt8)[1]? = some b := ⟨_, List.getElem?_eq_getElem (by omega)⟩
              have lb6 := b6.toNat_lt
              refine lp (v := .int .u8 ((b6.toNat : Nat) : Int)) rfl rfl (run_idxS (j := .i64) (l := l) (k := 1) (b := b6) rfl Tryd.underlying9 (by kernel_rfl) (by kernel_rfl) hb6) ?_
              refine lp (v := .bool false) rfl rfl (run_bin rfl (vx := (.int .u8 ((b6.toNat : Nat) : Int))) (vy := (.int .u8 ((53 : Nat) : Int))) (by kernel_rfl) (by kernel_rfl) fun w => bn_eql (decide_eq_false (by have h1 := take_snd h6; rw [hb6] at h1; cases h1; decide)) w) ?_
              refine lm (v := .pointer (some ⟨g4, 1, none⟩)) rfl rfl ?_
              refine wpL_s [(g4, .cells #[.int .u8 40, .bool false, .bool true] 60 (0, 0)), (g1, .cells #[.int .u8 0, .bool false, .bool false] 60 (0, 0))] rfl rfl (st_row (off := 1) (v := .bool false) rfl (by kernel_rfl) (by kernel_rfl) (.head _) Bg4 (by kernel_rfl) (by simp [Value.cells]) (by intro v hv; simp [Value.cells] at hv; first | (subst hv; rfl) | (rcases hv with rfl <;> rfl)) (by kernel_rfl) (List.forall_mem_cons.2 ⟨.inl rfl, (List.forall_mem_cons.2 ⟨.inr ⟨(.tail _ (.head _)), (Fg4 _ (.head _))⟩, (List.forall_mem_nil _)⟩)⟩)) ?_
              refine wpL_done (fun W18 hW18 => ?_)
              refine (show Code.wp _ _ _ _ _ from ?_)
              refine wp_seq ?_
              refine wp_region_L (W0 := w) [(g4, .cells #[.int .u8 40, .bool false, .bool true] 60 (0, 0)), (g1, .cells #[.int .u8 0, .bool false, .bool false] 60 (0, 0))] (hW18) ?_
              refine lv (v := .agg #[.int .u8 40, .bool false, .bool true]) rfl rfl (yb_load (n := 3) (off := 0) rfl (by kernel_rfl) (.head _) Tryd.underlying60 rfl (by kernel_rfl) (by simp) (by kernel_rfl)) ?_
              refine wpL_s [(g4, .cells #[.int .u8 40, .bool false, .bool true] 60 (0, 0)), (g1, .cells #[.int .u8 40, .bool false, .bool true] 60 (0, 0))] rfl rfl (st_row (off := 0) (v := .agg #[.int .u8 40, .bool false, .bool true]) rfl (by kernel_rfl) (by kernel_rfl) (.tail _ (.head _)) Bg1 (by kernel_rfl) (by simp [Value.cells]) (by intro v hv; simp [Value.cells] at hv; first | (subst hv; rfl) | (rcases hv with rfl | rfl | rfl <;> rfl)) (by kernel_rfl) (List.forall_mem_cons.2 ⟨.inr ⟨(.head _), (Ne.symm (Fg4 _ (.head _)))⟩, (List.forall_mem_cons.2 ⟨.inl rfl, (List.forall_mem_nil _)⟩)⟩)) ?_
              refine lm (v := .int .i64 0) rfl rfl ?_
              refine wpL_done (fun W19 hW19 => ?_)
              refine (show Code.wp _ _ _ _ _ from ?_)
              refine wp_ret ?_
              try simp only [inBlock_ret, then_ret]
              refine bodyPost_ret (v := .tuple #[.agg #[.int .u8 40, .bool false, .bool true], .int .i64 0]) ?_ rfl ?_
              · exact (res_cell_tmp (p := 2) (q := 3) rfl rfl (hW19.2 _ (.tail _ (.head _))) Tryd.underlying60 rfl (by kernel_rfl))
              · exact ⟨(by rw [size_lit 82 49 h1 h6 hb3 hb2 h4 h2]; rfl), hW19.1⟩
          | true =>
            have h5 : (l.take 2) = [50, 50] := of_decide_eq_true hd5
            clear hd5
            refine wp_cond_true rfl ?_
            refine wp_seq ?_
            refine wp_region_L (W0 := w) [(g4, .cells #[.int .u8 20, .bool false, .bool true] 60 (0, 0)), (g1, .cells #[.int .u8 0, .bool false, .bool false] 60 (0, 0))] (hW10) ?_
            refine lv (v := .agg #[.int .u8 20, .bool false, .bool true]) rfl rfl (yb_load (n := 3) (off := 0) rfl (by kernel_rfl) (.head _) Tryd.underlying60 rfl (by kernel_rfl) (by simp) (by kernel_rfl)) ?_
            refine wpL_s [(g4, .cells #[.int .u8 20, .bool false, .bool true] 60 (0, 0)), (g1, .cells #[.int .u8 20, .bool false, .bool true] 60 (0, 0))] rfl rfl (st_row (off := 0) (v := .agg #[.int .u8 20, .bool false, .bool true]) rfl (by kernel_rfl) (by kernel_rfl) (.tail _ (.head _)) Bg1 (by kernel_rfl) (by simp [Value.cells]) (by intro v hv; simp [Value.cells] at hv; first | (subst hv; rfl) | (rcases hv with rfl | rfl | rfl <;> rfl)) (by kernel_rfl) (List.forall_mem_cons.2 ⟨.inr ⟨(.head _), (Ne.symm (Fg4 _ (.head _)))⟩, (List.forall_mem_cons.2 ⟨.inl rfl, (List.forall_mem_nil _)⟩)⟩)) ?_
            refine lm (v := .int .i64 0) rfl rfl ?_
            refine wpL_done (fun W20 hW20 => ?_)
            refine (show Code.wp _ _ _ _ _ from ?_)
            refine wp_ret ?_
            try simp only [inBlock_ret, then_ret]
            refine bodyPost_ret (v := .tuple #[.agg #[.int .u8 20, .bool false, .bool true], .int .i64 0]) ?_ rfl ?_
            · exact (res_cell_tmp (p := 2) (q := 3) rfl rfl (hW20.2 _ (.tail _ (.head _))) Tryd.underlying60 rfl (by kernel_rfl))
            · exact ⟨(by rw [size_lit 82 49 h1 h5 hb3 hb2 h4 h2]; rfl), hW20.1⟩
      | true =>
        have h3 : b3.toNat = 71 := of_decide_eq_true hd3
        clear hd3
        refine ln rfl ?_
        refine ln rfl ?_
        refine ln rfl ?_
        refine lm (v := .bool false) rfl rfl ?_
        refine lm (v := .bool false) rfl rfl ?_
        refine wpL_done (fun W21 hW21 => ?_)
        refine (show Code.wp _ _ _ _ _ from ?_)
        refine wp_cond_false rfl ?_
        refine wp_skip ?_
        refine (show Code.wp _ _ _ _ _ from ?_)
        refine wp_seq ?_
        refine wp_region_L (W0 := w) [(g1, .cells #[.int .u8 0, .bool false, .bool false] 60 (0, 0))] (hW21) ?_
        refine lm (v := strV l) rfl rfl ?_
        refine lp (v := .int .u8 ((b3.toNat : Nat) : Int)) rfl rfl (run_idxS (j := .i64) (l := l) (k := 2) (b := b3) rfl Tryd.underlying9 (by kernel_rfl) (by kernel_rfl) hb3) ?_
        refine lp (v := .bool false) rfl rfl (run_bin rfl (vx := (.int .u8 ((b3.toNat : Nat) : Int))) (vy := (.int .u8 ((82 : Nat) : Int))) (by kernel_rfl) (by kernel_rfl) fun w => bn_eql (decide_eq_false (by omega)) w) ?_
        refine lm (v := .agg #[.int .u8 20, .bool false, .bool false]) rfl rfl ?_
        refine wpL_new (fun g => .pointer (some ⟨g, 0, none⟩)) (obi := .cells #[.int .u8 0, .bool false, .bool false] 60 (0, 0)) rfl rfl (fun _ => by kernel_rfl) (fun _ => by simp only [List.setIfInBounds_toArray, List.set_cons_succ, List.set_cons_zero] <;> rfl) fun g7 Bg7 Fg7 => ?_
        refine wpL_s [(g7, .cells #[.int .u8 20, .bool false, .bool false] 60 (0, 0)), (g1, .cells #[.int .u8 0, .bool false, .bool false] 60 (0, 0))] rfl rfl (st_row (off := 0) (v := .agg #[.int .u8 20, .bool false, .bool false]) rfl (by kernel_rfl) (by kernel_rfl) (.head _) Bg7 (by kernel_rfl) (by simp [Value.cells]) (by intro v hv; simp [Value.cells] at hv; first | (subst hv; rfl) | (rcases hv with rfl | rfl | rfl <;> rfl)) (by kernel_rfl) (List.forall_mem_cons.2 ⟨.inl rfl, (List.forall_mem_cons.2 ⟨.inr ⟨(.tail _ (.head _)), (Fg7 _ (.head _))⟩, (List.forall_mem_nil _)⟩)⟩)) ?_
        refine wpL_done (fun W22 hW22 => ?_)
        refine (show Code.wp _ _ _ _ _ from ?_)
        refine wp_seq ?_
        refine wp_seq ?_
        refine wp_region_L (W0 := w) [(g7, .cells #[.int .u8 20, .bool false, .bool false] 60 (0, 0)), (g1, .cells #[.int .u8 0, .bool false, .bool false] 60 (0, 0))] (hW22) ?_
        refine lm (v := strV l) rfl rfl ?_
        refine lp (v := strV (l.take 2)) rfl rfl (run_slH (k2 := .i64) (l := l) (r := (l.take 2)) (j := 2) rfl Tryd.underlying9 (by kernel_rfl) (by kernel_rfl) (by first | omega | (simp; omega)) rfl) ?_
        refine wpL_done (fun W23 hW23 => ?_)
        refine (show Code.wp _ _ _ _ _ from ?_)
        refine wp_block ?_
        refine wp_seq ?_
        refine wp_region_L (W0 := w) [(g7, .cells #[.int .u8 20, .bool false, .bool false] 60 (0, 0)), (g1, .cells #[.int .u8 0, .bool false, .bool false] 60 (0, 0))] (hW23) ?_
        refine lp (v := .bool (decide ((l.take 2) = [50, 50]))) rfl rfl (run_bin rfl (vx := strV (l.take 2)) (vy := strV [50, 50]) (by kernel_rfl) (by kernel_rfl) fun w => bs_eql rfl w) ?_
        refine lm (v := .bool (decide ((l.take 2) = [50, 50]))) rfl rfl ?_
        refine wpL_done (fun W24 hW24 => ?_)
        refine (show Code.wp _ _ _ _ _ from ?_)
        cases hd8 : (decide ((l.take 2) = [50, 50])) with
        | false =>
          have h8 : ¬ ((l.take 2) = [50, 50]) := of_decide_eq_false hd8
          clear hd8
          refine wp_cond_false rfl ?_
          refine wp_seq ?_
          refine wp_seq ?_
          refine wp_region_L (W0 := w) [(g7, .cells #[.int .u8 20, .bool false, .bool false] 60 (0, 0)), (g1, .cells #[.int .u8 0, .bool false, .bool false] 60 (0, 0))] (hW24) ?_
          refine lp (v := .bool (decide ((l.take 2) = [52, 50]))) rfl rfl (run_bin rfl (vx := strV (l.take 2)) (vy := strV [52, 50]) (by kernel_rfl) (by kernel_rfl) fun w => bs_eql rfl w) ?_
          refine lm (v := .bool (decide ((l.take 2) = [52, 50]))) rfl rfl ?_
          refine wpL_done (fun W25 hW25 => ?_)
          refine (show Code.wp _ _ _ _ _ from ?_)
          cases hd9 : (decide ((l.take 2) = [52, 50])) with
          | false =>
            have h9 : ¬ ((l.take 2) = [52, 50]) := of_decide_eq_false hd9
            clear hd9
            refine wp_cond_false rfl ?_
            refine wp_region_L (W0 := w) [(g7, .cells #[.int .u8 20, .bool false, .bool false] 60 (0, 0)), (g1, .cells #[.int .u8 0, .bool false, .bool false] 60 (0, 0))] (hW25) ?_
            refine lp (v := .bool (decide ((l.take 2) = [52, 53]))) rfl rfl (run_bin rfl (vx := strV (l.take 2)) (vy := strV [52, 53]) (by kernel_rfl) (by kernel_rfl) fun w => bs_eql rfl w) ?_
            refine lm (v := .bool (decide ((l.take 2) = [52, 53]))) rfl rfl ?_
            refine wpL_done (fun W26 hW26 => ?_)
            refine (show Code.wp _ _ _ _ _ from ?_)
            cases hd10 : (decide ((l.take 2) = [52, 53])) with
            | false =>
              have h10 : ¬ ((l.take 2) = [52, 53]) := of_decide_eq_false hd10
              clear hd10
              refine wp_cond_false rfl ?_
              refine wp_skip ?_
              refine (show Code.wp _ _ _ _ _ from ?_)
              refine wp_seq ?_
              refine wp_region_L (W0 := w) [(g7, .cells #[.int .u8 20, .bool false, .bool false] 60 (0, 0)), (g1, .cells #[.int .u8 0, .bool false, .bool false] 60 (0, 0))] (hW26) ?_
              refine lm (v := .agg #[.int .u8 0, .bool false, .bool false]) rfl rfl ?_
              refine wpL_s [(g7, .cells #[.int .u8 20, .bool false, .bool false] 60 (0, 0)), (g1, .cells #[.int .u8 0, .bool false, .bool false] 60 (0, 0))] rfl rfl (st_row (off := 0) (v := .agg #[.int .u8 0, .bool false, .bool false]) rfl (by kernel_rfl) (by kernel_rfl) (.tail _ (.head _)) Bg1 (by kernel_rfl) (by simp [Value.cells]) (by intro v hv; simp [Value.cells] at hv; first | (subst hv; rfl) | (rcases hv with rfl | rfl | rfl <;> rfl)) (by kernel_rfl) (List.forall_mem_cons.2 ⟨.inr ⟨(.head _), (Ne.symm (Fg7 _ (.head _)))⟩, (List.forall_mem_cons.2 ⟨.inl rfl, (List.forall_mem_nil _)⟩)⟩)) ?_
              refine lm (v := .int .i64 32) rfl rfl ?_
              refine wpL_done (fun W27 hW27 => ?_)
              refine (show Code.wp _ _ _ _ _ from ?_)
              refine wp_ret ?_
              try simp only [inBlock_ret, then_ret]
              refine bodyPost_ret (v := .tuple #[.agg #[.int .u8 0, .bool false, .bool false], .int .i64 32]) ?_ rfl ?_
              · exact (res_cell_tmp (p := 2) (q := 3) rfl rfl (hW27.2 _ (.tail _ (.head _))) Tryd.underlying60 rfl (by kernel_rfl))
              · exact ⟨(by rw [size_none h8 h9 h10]), hW27.1⟩
            | true =>
              have h10 : (l.take 2) = [52, 53] := of_decide_eq_true hd10
              clear hd10
              refine wp_cond_true rfl ?_
              refine wp_seq ?_
              refine wp_region_L (W0 := w) [(g7, .cells #[.int .u8 20, .bool false, .bool false] 60 (0, 0)), (g1, .cells #[.int .u8 0, .bool false, .bool false] 60 (0, 0))] (hW26) ?_
              refine lm (v := .pointer (some ⟨g7, 0, none⟩)) rfl rfl ?_
              refine wpL_s [(g7, .cells #[.int .u8 40, .bool false, .bool false] 60 (0, 0)), (g1, .cells #[.int .u8 0, .bool false, .bool false] 60 (0, 0))] rfl rfl (st_row (off := 0) (v := .int .u8 40) rfl (by kernel_rfl) (by kernel_rfl) (.head _) Bg7 (by kernel_rfl) (by simp [Value.cells]) (by intro v hv; simp [Value.cells] at hv; first | (subst hv; rfl) | (rcases hv with rfl <;> rfl)) (by kernel_rfl) (List.forall_mem_cons.2 ⟨.inl rfl, (List.forall_mem_cons.2 ⟨.inr ⟨(.tail _ (.head _)), (Fg7 _ (.head _))⟩, (List.forall_mem_nil _)⟩)⟩)) ?_
              refine wpL_done (fun W28 hW28 => ?_)
              refine (show Code.wp _ _ _ _ _ from ?_)
              refine wp_seq ?_
              refine wp_region_L (W0 := w) [(g7, .cells #[.int .u8 40, .bool false, .bool false] 60 (0, 0)), (g1, .cells #[.int .u8 0, .bool false, .bool false] 60 (0, 0))] (hW28) ?_
              refine lm (v := strV l) rfl rfl ?_
              obtain ⟨b8, hb8⟩ : ∃ b, (l : List UInt8)[1]? = some b := ⟨_, List.getElem?_eq_getElem (by omega)⟩
              have lb8 := b8.toNat_lt
              refine lp (v := .int .u8 ((b8.toNat : Nat) : Int)) rfl rfl (run_idxS (j := .i64) (l := l) (k := 1) (b := b8) rfl Tryd.underlying9 (by kernel_rfl) (by kernel_rfl) hb8) ?_
              refine lp (v := .bool true) rfl rfl (run_bin rfl (vx := (.int .u8 ((b8.toNat : Nat) : Int))) (vy := (.int .u8 ((53 : Nat) : Int))) (by kernel_rfl) (by kernel_rfl) fun w => bn_eql (decide_eq_true (by have h1 := take_snd h10; rw [hb8] at h1; cases h1; decide)) w) ?_
              refine lm (v := .pointer (some ⟨g7, 1, none⟩)) rfl rfl ?_
              refine wpL_s [(g7, .cells #[.int .u8 40, .bool true, .bool false] 60 (0, 0)), (g1, .cells #[.int .u8 0, .bool false, .bool false] 60 (0, 0))] rfl rfl (st_row (off := 1) (v := .bool true) rfl (by kernel_rfl) (by kernel_rfl) (.head _) Bg7 (by kernel_rfl) (by simp [Value.cells]) (by intro v hv; simp [Value.cells] at hv; first | (subst hv; rfl) | (rcases hv with rfl <;> rfl)) (by kernel_rfl) (List.forall_mem_cons.2 ⟨.inl rfl, (List.forall_mem_cons.2 ⟨.inr ⟨(.tail _ (.head _)), (Fg7 _ (.head _))⟩, (List.forall_mem_nil _)⟩)⟩)) ?_
              refine wpL_done (fun W29 hW29 => ?_)
              refine (show Code.wp _ _ _ _ _ from ?_)
              refine wp_seq ?_
              refine wp_region_L (W0 := w) [(g7, .cells #[.int .u8 40, .bool true, .bool false] 60 (0, 0)), (g1, .cells #[.int .u8 0, .bool false, .bool false] 60 (0, 0))] (hW29) ?_
              refine lv (v := .agg #[.int .u8 40, .bool true, .bool false]) rfl rfl (yb_load (n := 3) (off := 0) rfl (by kernel_rfl) (.head _) Tryd.underlying60 rfl (by kernel_rfl) (by simp) (by kernel_rfl)) ?_
              refine wpL_s [(g7, .cells #[.int .u8 40, .bool true, .bool false] 60 (0, 0)), (g1, .cells #[.int .u8 40, .bool true, .bool false] 60 (0, 0))] rfl rfl (st_row (off := 0) (v := .agg #[.int .u8 40, .bool true, .bool false]) rfl (by kernel_rfl) (by kernel_rfl) (.tail _ (.head _)) Bg1 (by kernel_rfl) (by simp [Value.cells]) (by intro v hv; simp [Value.cells] at hv; first | (subst hv; rfl) | (rcases hv with rfl | rfl | rfl <;> rfl)) (by kernel_rfl) (List.forall_mem_cons.2 ⟨.inr ⟨(.head _), (Ne.symm (Fg7 _ (.head _)))⟩, (List.forall_mem_cons.2 ⟨.inl rfl, (List.forall_mem_nil _)⟩)⟩)) ?_
              refine lm (v := .int .i64 0) rfl rfl ?_
              refine wpL_done (fun W30 hW30 => ?_)
              refine (show Code.wp _ _ _ _ _ from ?_)
              refine wp_ret ?_
              try simp only [inBlock_ret, then_ret]
              refine bodyPost_ret (v := .tuple #[.agg #[.int .u8 40, .bool true, .bool false], .int .i64 0]) ?_ rfl ?_
              · exact (res_cell_tmp (p := 2) (q := 3) rfl rfl (hW30.2 _ (.tail _ (.head _))) Tryd.underlying60 rfl (by kernel_rfl))
              · exact ⟨(by rw [size_lit 71 49 h1 h10 hb3 hb2 h3 h2]; rfl), hW30.1⟩
          | true =>
            have h9 : (l.take 2) = [52, 50] := of_decide_eq_true hd9
            clear hd9
            refine wp_cond_true rfl ?_
            refine wp_skip ?_
            refine (show Code.wp _ _ _ _ _ from ?_)
            refine wp_cond_true rfl ?_
            refine wp_seq ?_
            refine wp_region_L (W0 := w) [(g7, .cells #[.int .u8 20, .bool false, .bool false] 60 (0, 0)), (g1, .cells #[.int .u8 0, .bool false, .bool false] 60 (0, 0))] (hW25) ?_
            refine lm (v := .pointer (some ⟨g7, 0, none⟩)) rfl rfl ?_
            refine wpL_s [(g7, .cells #[.int .u8 40, .bool false, .bool false] 60 (0, 0)), (g1, .cells #[.int .u8 0, .bool false, .bool false] 60 (0, 0))] rfl rfl (st_row (off := 0) (v := .int .u8 40) rfl (by kernel_rfl) (by kernel_rfl) (.head _) Bg7 (by kernel_rfl) (by simp [Value.cells]) (by intro v hv; simp [Value.cells] at hv; first | (subst hv; rfl) | (rcases hv with rfl <;> rfl)) (by kernel_rfl) (List.forall_mem_cons.2 ⟨.inl rfl, (List.forall_mem_cons.2 ⟨.inr ⟨(.tail _ (.head _)), (Fg7 _ (.head _))⟩, (List.forall_mem_nil _)⟩)⟩)) ?_
            refine wpL_done (fun W31 hW31 => ?_)
            refine (show Code.wp _ _ _ _ _ from ?_)
            refine wp_seq ?_
            refine wp_region_L (W0 := w) [(g7, .cells #[.int .u8 40, .bool false, .bool false] 60 (0, 0)), (g1, .cells #[.int .u8 0, .bool false, .bool false] 60 (0, 0))] (hW31) ?_
            refine lm (v := strV l) rfl rfl ?_
            obtain ⟨b9, hb9⟩ : ∃ b, (l : List UInt8)[1]? = some b := ⟨_, List.getElem?_eq_getElem (by omega)⟩
            have lb9 := b9.toNat_lt
            refine lp (v := .int .u8 ((b9.toNat : Nat) : Int)) rfl rfl (run_idxS (j := .i64) (l := l) (k := 1) (b := b9) rfl Tryd.underlying9 (by kernel_rfl) (by kernel_rfl) hb9) ?_
            refine lp (v := .bool false) rfl rfl (run_bin rfl (vx := (.int .u8 ((b9.toNat : Nat) : Int))) (vy := (.int .u8 ((53 : Nat) : Int))) (by kernel_rfl) (by kernel_rfl) fun w => bn_eql (decide_eq_false (by have h1 := take_snd h9; rw [hb9] at h1; cases h1; decide)) w) ?_
            refine lm (v := .pointer (some ⟨g7, 1, none⟩)) rfl rfl ?_
            refine wpL_s [(g7, .cells #[.int .u8 40, .bool false, .bool false] 60 (0, 0)), (g1, .cells #[.int .u8 0, .bool false, .bool false] 60 (0, 0))] rfl rfl (st_row (off := 1) (v := .bool false) rfl (by kernel_rfl) (by kernel_rfl) (.head _) Bg7 (by kernel_rfl) (by simp [Value.cells]) (by intro v hv; simp [Value.cells] at hv; first | (subst hv; rfl) | (rcases hv with rfl <;> rfl)) (by kernel_rfl) (List.forall_mem_cons.2 ⟨.inl rfl, (List.forall_mem_cons.2 ⟨.inr ⟨(.tail _ (.head _)), (Fg7 _ (.head _))⟩, (List.forall_mem_nil _)⟩)⟩)) ?_
            refine wpL_done (fun W32 hW32 => ?_)
            refine (show Code.wp _ _ _ _ _ from ?_)
            refine wp_seq ?_
            refine wp_region_L (W0 := w) [(g7, .cells #[.int .u8 40, .bool false, .bool false] 60 (0, 0)), (g1, .cells #[.int .u8 0, .bool false, .bool false] 60 (0, 0))] (hW32) ?_
            refine lv (v := .agg #[.int .u8 40, .bool false, .bool false]) rfl rfl (yb_load (n := 3) (off := 0) rfl (by kernel_rfl) (.head _) Tryd.underlying60 rfl (by kernel_rfl) (by simp) (by kernel_rfl)) ?_
            refine wpL_s [(g7, .cells #[.int .u8 40, .bool false, .bool false] 60 (0, 0)), (g1, .cells #[.int .u8 40, .bool false, .bool false] 60 (0, 0))] rfl rfl (st_row (off := 0) (v := .agg #[.int .u8 40, .bool false, .bool false]) rfl (by kernel_rfl) (by kernel_rfl) (.tail _ (.head _)) Bg1 (by kernel_rfl) (by simp [Value.cells]) (by intro v hv; simp [Value.cells] at hv; first | (subst hv; rfl) | (rcases hv with rfl | rfl | rfl <;> rfl)) (by kernel_rfl) (List.forall_mem_cons.2 ⟨.inr ⟨(.head _), (Ne.symm (Fg7 _ (.head _)))⟩, (List.forall_mem_cons.2 ⟨.inl rfl, (List.forall_mem_nil _)⟩)⟩)) ?_
            refine lm (v := .int .i64 0) rfl rfl ?_
            refine wpL_done (fun W33 hW33 => ?_)
            refine (show Code.wp _ _ _ _ _ from ?_)
            refine wp_ret ?_
            try simp only [inBlock_ret, then_ret]
            refine bodyPost_ret (v := .tuple #[.agg #[.int .u8 40, .bool false, .bool false], .int .i64 0]) ?_ rfl ?_
            · exact (res_cell_tmp (p := 2) (q := 3) rfl rfl (hW33.2 _ (.tail _ (.head _))) Tryd.underlying60 rfl (by kernel_rfl))
            · exact ⟨(by rw [size_lit 71 49 h1 h9 hb3 hb2 h3 h2]; rfl), hW33.1⟩
        | true =>
          have h8 : (l.take 2) = [50, 50] := of_decide_eq_true hd8
          clear hd8
          refine wp_cond_true rfl ?_
          refine wp_seq ?_
          refine wp_region_L (W0 := w) [(g7, .cells #[.int .u8 20, .bool false, .bool false] 60 (0, 0)), (g1, .cells #[.int .u8 0, .bool false, .bool false] 60 (0, 0))] (hW24) ?_
          refine lv (v := .agg #[.int .u8 20, .bool false, .bool false]) rfl rfl (yb_load (n := 3) (off := 0) rfl (by kernel_rfl) (.head _) Tryd.underlying60 rfl (by kernel_rfl) (by simp) (by kernel_rfl)) ?_
          refine wpL_s [(g7, .cells #[.int .u8 20, .bool false, .bool false] 60 (0, 0)), (g1, .cells #[.int .u8 20, .bool false, .bool false] 60 (0, 0))] rfl rfl (st_row (off := 0) (v := .agg #[.int .u8 20, .bool false, .bool false]) rfl (by kernel_rfl) (by kernel_rfl) (.tail _ (.head _)) Bg1 (by kernel_rfl) (by simp [Value.cells]) (by intro v hv; simp [Value.cells] at hv; first | (subst hv; rfl) | (rcases hv with rfl | rfl | rfl <;> rfl)) (by kernel_rfl) (List.forall_mem_cons.2 ⟨.inr ⟨(.head _), (Ne.symm (Fg7 _ (.head _)))⟩, (List.forall_mem_cons.2 ⟨.inl rfl, (List.forall_mem_nil _)⟩)⟩)) ?_
          refine lm (v := .int .i64 0) rfl rfl ?_
          refine wpL_done (fun W34 hW34 => ?_)
          refine (show Code.wp _ _ _ _ _ from ?_)
          refine wp_ret ?_
          try simp only [inBlock_ret, then_ret]
          refine bodyPost_ret (v := .tuple #[.agg #[.int .u8 20, .bool false, .bool false], .int .i64 0]) ?_ rfl ?_
          · exact (res_cell_tmp (p := 2) (q := 3) rfl rfl (hW34.2 _ (.tail _ (.head _))) Tryd.underlying60 rfl (by kernel_rfl))
          · exact ⟨(by rw [size_lit 71 49 h1 h8 hb3 hb2 h3 h2]; rfl), hW34.1⟩
end Go.Proofs.YtbceajgipmjmlaaDoor
namespace Go.Proofs.YtbceajgipmjmlaaDoor
open Go Go.RowKit Tw
def GN (f : FuncId) (W0 : Base) (K : List (Nat × Obj)) (m : List (Nat × UInt8)) (e : Nat) (v : Value) (K' : List (Nat × Obj)) : Prop := ∃ u Kl E, v = .tuple #[u, .int .i64 ((e : Nat) : Int)] ∧ (E = f ∧ OwnL W0 E 2 u m.length (mcells m) Kl) ∧ (∀ p ∈ K, ∀ q ∈ Kl, q.1 ≠ p.1) ∧ K' = K ++ Kl
theorem calls_gn {W0 : Base} {W : World} {K : List (Nat × Obj)} (l : List UInt8) (hW : KS W0 K W) : Calls Tryd.prog 20 #[strV l] W fun e w' => ∃ v K', e = .returned v ∧ KS W0 K' w' ∧ GN 42 W0 K (missOf l) (judgeN l) v K' :=
  (Misses_any l W).mono fun e w' ⟨v, he, hO, hb⟩ => by
    obtain ⟨Kl, h1, h2, h3⟩ := hO.own hW hb
    exact ⟨_, _, he, h3, v, Kl, _, rfl, ⟨rfl, h1⟩, h2, rfl⟩
theorem calls_gr {W0 : Base} {W : World} {K : List (Nat × Obj)} (l : List UInt8) (hW : KS W0 K W) : Calls Tryd.prog 32 #[strV l] W fun e w' => ∃ v K', e = .returned v ∧ KS W0 K' w' ∧ GN 66 W0 K (missOf l) (judgeN l) v K' :=
  (RMisses_any l W).mono fun e w' ⟨v, he, hO, hb⟩ => by
    obtain ⟨Kl, h1, h2, h3⟩ := hO.own hW hb
    exact ⟨_, _, he, h3, v, Kl, _, rfl, ⟨rfl, h1⟩, h2, rfl⟩
theorem st_own {P : Program} {W0 : Base} {o : Oper} {a : Act} {K : List (Nat × Obj)} {ty E : TypeId} {x y : Operand} {g n cap sz k : Nat} {cur : Array Value} {xs : List Value} {v : Value} (ho : o.op = .store ty x y) (hx : a.eval x = .pointer (some ⟨g, 0 + k * sz, none⟩)) (hv : a.eval y = v)
    (hB : W0.B ≤ g) (hR : RowN sz cur cap n xs) (hm : (g, .cells cur E (0, 0)) ∈ K) (hi : (P.info? ty).map (·.size) = some sz) (hvs : v.cells.size = sz) (hk : k < n) (h1 : ∀ u ∈ v.cells.toList, u.oneCell' = true) :
    ∀ w, KS W0 K w → ∃ w', (execOp a.eval o).run P w = .ok .skip w' ∧ KS W0 [(g, .cells (cur.toList.take (k * sz) ++ v.cells.toList ++ cur.toList.drop (k * sz + v.cells.toList.length)).toArray E (0, 0))] w' := by
  obtain ⟨r1, r2, r3, r4, r5⟩ := hR
  have hfit : k * sz + sz ≤ cur.size := by
    rw [r1, ← Nat.succ_mul]
    exact Nat.mul_le_mul_right _ (by omega)
  refine st_row ho hx hv hm hB (by rw [hi, hvs]) (by rw [hvs]; omega) h1 (by rw [Nat.zero_add]) (fun p hp => ?_)
  exact .inl (List.mem_singleton.1 hp)
theorem own_stored {sz cap n k : Nat} {cur : Array Value} {xs vs : List Value} (hR : RowN sz cur cap n xs) (hv : vs.length = sz) (hk : k < n) : RowN sz (cur.toList.take (k * sz) ++ vs ++ cur.toList.drop (k * sz + vs.length)).toArray cap n ((cur.toList.take (k * sz) ++ vs ++ cur.toList.drop (k * sz + vs.length)).take (n * sz)) := by
  obtain ⟨r1, r2, r3, r4, r5⟩ := hR
  have hfit : k * sz + sz ≤ cap * sz := by rw [← Nat.succ_mul]; exact Nat.mul_le_mul_right _ (by omega)
  have hn : n * sz ≤ cap * sz := Nat.mul_le_mul_right _ r3
  have hl : (cur.toList.take (k * sz) ++ vs ++ cur.toList.drop (k * sz + vs.length)).length = cap * sz := by
    simp only [List.length_append, List.length_take, List.length_drop, Array.length_toList, r1, hv]
    omega
  exact ⟨by rw [List.size_toArray, hl], r2, r3, by rw [List.length_take, hl]; omega, rfl⟩
theorem mcells_snoc {M : List (Nat × UInt8)} {k : Nat} {x : Nat × UInt8} (h : M[k]? = some x) : mcells (M.take (k + 1)) = mcells (M.take k) ++ [.int .i64 ((x.1 : Nat) : Int), .int .u8 ((x.2.toNat : Nat) : Int)] := by
  obtain ⟨h1, rfl⟩ := List.getElem?_eq_some_iff.1 h
  rw [List.take_succ_eq_append_getElem h1]
  unfold mcells
  rw [List.flatMap_append]
  rfl
theorem own_take {W0 : Base} {E : TypeId} {v : Value} {M : List (Nat × UInt8)} {k : Nat} {x : Nat × UInt8} {K : List (Nat × Obj)} (h : OwnL W0 E 2 v (k + 1) (mcells (M.take k) ++ [.int .i64 ((x.1 : Nat) : Int), .int .u8 ((x.2.toNat : Nat) : Int)]) K) (hx : M[k]? = some x) : OwnL W0 E 2 v (k + 1) (mcells (M.take (k + 1))) K := by
  rw [mcells_snoc hx]
  exact h
def chkF (l : List UInt8) : Nat := if fitB l 10 = true then chkN l else 0
def chkE (l : List UInt8) : Nat := if fitB l 10 = true then 0 else 30
theorem chk_pair (l : List UInt8) : (if fitB l 10 = true then Value.tuple #[.int .u8 ((chkN l : Nat) : Int), .int .i64 0] else .tuple #[.int .u8 0, .int .i64 30]) = .tuple #[.int .u8 ((chkF l : Nat) : Int), .int .i64 ((chkE l : Nat) : Int)] := by
  unfold chkF chkE
  split <;> rfl
theorem check_sym (l : List UInt8) (W : World) : Calls Tryd.prog 24 #[strV l] W fun e w' => e = .returned (.tuple #[.int .u8 ((chkF l : Nat) : Int), .int .i64 ((chkE l : Nat) : Int)]) ∧ Below W.heap.size W w' := chk_pair l ▸ Check_any l W
theorem rcheck_sym (l : List UInt8) (W : World) : Calls Tryd.prog 27 #[strV l] W fun e w' => e = .returned (.tuple #[.int .u8 ((chkF l : Nat) : Int), .int .i64 ((chkE l : Nat) : Int)]) ∧ Below W.heap.size W w' := chk_pair l ▸ RCheck_any l W
def writS (l : List UInt8) : List UInt8 := if judgeN l = 0 then l.take 4 ++ [32] ++ (l.take 10).drop 4 ++ [32] ++ l.drop 10 else []
theorem writ_pair (l : List UInt8) : (if judgeN l = 0 then Value.tuple #[strV (l.take 4 ++ [32] ++ (l.take 10).drop 4 ++ [32] ++ l.drop 10), .int .i64 0] else .tuple #[strV [], .int .i64 ((judgeN l : Nat) : Int)]) = .tuple #[strV (writS l), .int .i64 ((judgeN l : Nat) : Int)] := by
  unfold writS
  split
  · rename_i h
    rw [h] <;> rfl
  · rfl
theorem write_sym (l : List UInt8) (W : World) : Calls Tryd.prog 22 #[strV l] W fun e w' => e = .returned (.tuple #[strV (writS l), .int .i64 ((judgeN l : Nat) : Int)]) ∧ Below W.heap.size W w' := writ_pair l ▸ Write_any l W
theorem rwrite_sym (l : List UInt8) (W : World) : Calls Tryd.prog 29 #[strV l] W fun e w' => e = .returned (.tuple #[strV (writS l), .int .i64 ((judgeN l : Nat) : Int)]) ∧ Below W.heap.size W w' := writ_pair l ▸ RWrite_any l W
def sizeN (l : List UInt8) : Nat := if [50, 50, 71, 49] = l then 20 else if [50, 50, 82, 49] = l then 20 else if [52, 50, 71, 49] = l then 40 else if [52, 50, 82, 49] = l then 40 else if [52, 53, 71, 49] = l then 40 else if [52, 53, 82, 49] = l then 40 else 0
def sizeH (l : List UInt8) : Bool := if [50, 50, 71, 49] = l then false else if [50, 50, 82, 49] = l then false else if [52, 50, 71, 49] = l then false else if [52, 50, 82, 49] = l then false else if [52, 53, 71, 49] = l then true else if [52, 53, 82, 49] = l then true else false
def sizeR (l : List UInt8) : Bool := if [50, 50, 71, 49] = l then false else if [50, 50, 82, 49] = l then true else if [52, 50, 71, 49] = l then false else if [52, 50, 82, 49] = l then true else if [52, 53, 71, 49] = l then false else if [52, 53, 82, 49] = l then true else false
def sizeE (l : List UInt8) : Nat := if [50, 50, 71, 49] = l then 0 else if [50, 50, 82, 49] = l then 0 else if [52, 50, 71, 49] = l then 0 else if [52, 50, 82, 49] = l then 0 else if [52, 53, 71, 49] = l then 0 else if [52, 53, 82, 49] = l then 0 else 32
theorem size_pair (l : List UInt8) : sizeV l = .tuple #[.agg #[.int .u8 ((sizeN l : Nat) : Int), .bool (sizeH l), .bool (sizeR l)], .int .i64 ((sizeE l : Nat) : Int)] := by
  unfold sizeV sizeN sizeH sizeR sizeE
  repeat' split
  all_goals rfl
theorem size_sym (l : List UInt8) (W : World) (hE : Env W) : Calls Tryd.prog 26 #[strV l] W fun e w' => e = .returned (.tuple #[.agg #[.int .u8 ((sizeN l : Nat) : Int), .bool (sizeH l), .bool (sizeR l)], .int .i64 ((sizeE l : Nat) : Int)]) ∧ Below W.heap.size W w' := size_pair l ▸ Size_any l W hE
theorem rsize_sym (l : List UInt8) (W : World) : Calls Tryd.prog 31 #[strV l] W fun e w' => e = .returned (.tuple #[.agg #[.int .u8 ((sizeN l : Nat) : Int), .bool (sizeH l), .bool (sizeR l)], .int .i64 ((sizeE l : Nat) : Int)]) ∧ Below W.heap.size W w' := size_pair l ▸ RSize_any l W
end Go.Proofs.YtbceajgipmjmlaaDoor
namespace Go.Proofs.YtbceajgipmjmlaaDoor
open Go Go.RowKit Tw
set_option maxRecDepth 100000 in
set_option maxHeartbeats 40000000 in
theorem misses_any (s : List UInt8) (w : World) : Calls Tryd.prog 11 #[strV s] w fun e w' => e = .returned (.bool true) ∧ Below w.heap.size w w' := by
  obtain ⟨M, hM⟩ : ∃ M, missOf s = M := ⟨_, rfl⟩
  obtain ⟨J, hJ⟩ : ∃ J, judgeN s = J := ⟨_, rfl⟩
  have lM : M.length ≤ 2816 := by
    rw [← hM]
    unfold missOf
    split
    · exact missTo_len s 11
    · simp
  go_enter Tryd.func11, Tryd.ntmps11
  refine wp_seq ?_
  refine wp_region_L (W0 := w) [] (KS.start w) ?_
  refine lm (v := .bool false) rfl rfl ?_
  refine wpL_done (fun W1 hW1 => ?_)
  refine (show Code.wp _ _ _ _ _ from ?_)
  refine wp_seq ?_
  refine wp_region_L (W0 := w) [] (hW1) ?_
  refine lm (v := strV s) rfl rfl ?_
  refine wpL_c (f := 20) (args := #[strV s]) (GN 42 w [] M J) rfl (by kernel_rfl) (fun _ => (by kernel_rfl)) (fun W hW => (by have h := calls_gn s hW; rw [hM, hJ] at h; exact h)) (fun _ => by simp only [List.setIfInBounds_toArray, List.set_cons_succ, List.set_cons_zero] <;> rfl) ?_
  rintro v KlA ⟨uA_, _, EA, rfl, ⟨rfl, OA⟩, NA, rfl⟩
  obtain ⟨pA, cA, rfl, SA⟩ := own_slice OA
  have SA := Lib.hid SA
  refine lm (v := .tuple #[.slice pA M.length cA, .int .i64 ((J : Nat) : Int)]) rfl rfl ?_
  refine lm (v := .slice pA M.length cA) rfl rfl ?_
  refine lm (v := .int .i64 ((J : Nat) : Int)) rfl rfl ?_
  refine lm (v := .slice pA M.length cA) rfl rfl ?_
  refine lm (v := .int .i64 ((J : Nat) : Int)) rfl rfl ?_
  refine wpL_done (fun W2 hW2 => ?_)
  have hmA := SA.out W2 _ hW2 (fun q hq => hq)
  have hbw1 := hW2.1
  have hre1 : KS W2 [] W2 := ⟨Below.refl _ _, fun p hp => hW2.2 p (List.mem_append_left _ hp)⟩
  clear SA OA NA
  refine (show Code.wp _ _ _ _ _ from ?_)
  refine wp_seq ?_
  refine wp_region_L (W0 := W2) [] (hre1) ?_
  refine lm (v := strV s) rfl rfl ?_
  refine wpL_c (f := 32) (args := #[strV s]) (GN 66 W2 [] M J) rfl (by kernel_rfl) (fun _ => (by kernel_rfl)) (fun W hW => (by have h := calls_gr s hW; rw [hM, hJ] at h; exact h)) (fun _ => by simp only [List.setIfInBounds_toArray, List.set_cons_succ, List.set_cons_zero] <;> rfl) ?_
  rintro v KlB ⟨uB_, _, EB, rfl, ⟨rfl, OB⟩, NB, rfl⟩
  obtain ⟨pB, cB, rfl, SB⟩ := own_slice OB
  have SB := Lib.hid SB
  refine lm (v := .tuple #[.slice pB M.length cB, .int .i64 ((J : Nat) : Int)]) rfl rfl ?_
  refine lm (v := .slice pB M.length cB) rfl rfl ?_
  refine lm (v := .int .i64 ((J : Nat) : Int)) rfl rfl ?_
  refine lm (v := .slice pB M.length cB) rfl rfl ?_
  refine lm (v := .int .i64 ((J : Nat) : Int)) rfl rfl ?_
  refine wpL_done (fun W3 hW3 => ?_)
  have hmB := SB.out W3 _ hW3 (fun q hq => hq)
  have hbw2 := (hbw1.trans (hW3.1.mono hbw1.size))
  have hre2 : KS W3 [] W3 := ⟨Below.refl _ _, fun p hp => hW3.2 p (List.mem_append_left _ hp)⟩
  have hmA := hmA.keep hW3.1
  clear SB OB NB
  refine (show Code.wp _ _ _ _ _ from ?_)
  refine wp_seq ?_
  refine wp_region_L (W0 := W3) [] (hre2) ?_
  refine lm (v := .slice none 0 0) rfl rfl ?_
  refine wpL_done (fun W4 hW4 => ?_)
  refine (show Code.wp _ _ _ _ _ from ?_)
  refine wp_seq ?_
  refine wp_seq ?_
  refine wp_region_L (W0 := W3) [] (hW4) ?_
  refine lm (v := .int .i64 0) rfl rfl ?_
  refine wpL_done (fun W5 hW5 => ?_)
  refine (show Code.wp _ _ _ _ _ from ?_)
  refine wp_block ?_
  go_loopw [7, 8] (fun u7 u8 wr => ∃ (k : Nat) (vw : Value) (Kl : List (Nat × Obj)), (k ≤ M.length) ∧ (OwnL W3 42 2 vw k (mcells (M.take k)) Kl) ∧ vw = u7 ∧ u8 = .int .i64 ((k : Nat) : Int) ∧ KS W3 Kl wr) (fun _ u8 _ => M.length - (intOf u8).toNat)
  case atStart => exact ⟨0, (.slice none 0 0), [], (Nat.zero_le _), (OwnL.nil _ _ _), rfl, rfl, (hW5.sub (fun p hp => hp))⟩
  case round =>
    obtain ⟨k, vw, Kl, hk, hO, rfl, rfl, hL6⟩ := hrel
    refine wp_seq ?_
    refine wp_seq ?_
    refine wp_region_L (W0 := W3) Kl (hL6) ?_
    refine lm (v := .int .i64 ((k : Nat) : Int)) rfl rfl ?_
    refine lm (v := .slice pB M.length cB) rfl rfl ?_
    refine lp (v := .int .i64 ((M.length : Nat) : Int)) rfl rfl (run_lenL (p := pB) (cap := cB) (n := M.length) rfl Tryd.underlying63 (by kernel_rfl)) ?_
    refine lp (v := .bool (decide (k < M.length))) rfl rfl (run_bin rfl (vx := (.int .i64 ((k : Nat) : Int))) (vy := (.int .i64 ((M.length : Nat) : Int))) (by kernel_rfl) (by kernel_rfl) fun w => bn_lss rfl w) ?_
    refine wpL_done (fun W7 hW7 => ?_)
    refine (show Code.wp _ _ _ _ _ from ?_)
    cases hd1 : (decide (k < M.length)) with
    | false =>
      have h1 : ¬ (k < M.length) := of_decide_eq_false hd1
      clear hd1
      obtain rfl : k = M.length := by omega
      rw [List.take_length] at hO
      refine wp_cond_false rfl ?_
      refine wp_exit ?_
      refine (show Code.wp _ _ _ _ _ from ?_)
      refine wp_seq ?_
      refine wp_seq ?_
      obtain ⟨pW, cW, rfl, SW⟩ := own_slice hO
      have hmW := SW _ _ hW7 (fun q hq => hq)
      have hbw3 := (hbw2.trans (hW7.1.mono hbw2.size))
      have hre3 : KS W7 [] W7 := ⟨Below.refl _ _, fun p hp => hW7.2 p (List.mem_append_left _ hp)⟩
      have hmA := hmA.keep hW7.1
      have hmB := hmB.keep hW7.1
      refine wp_region_L (W0 := W7) [] (hre3) ?_
      refine lm (v := .int .i64 ((J : Nat) : Int)) rfl rfl ?_
      refine lm (v := .int .i64 ((J : Nat) : Int)) rfl rfl ?_
      refine lp (v := .bool false) rfl rfl (run_bin rfl (vx := (.int .i64 ((J : Nat) : Int))) (vy := (.int .i64 ((J : Nat) : Int))) (by kernel_rfl) (by kernel_rfl) fun w => bn_neq (decide_eq_true rfl) w) ?_
      refine lm (v := .bool false) rfl rfl ?_
      refine lm (v := .slice pA M.length cA) rfl rfl ?_
      refine lm (v := .slice pW M.length cW) rfl rfl ?_
      refine lv (v := .bool true) rfl rfl (yb_call (f := 33) (args := #[.slice pA M.length cA, .slice pW M.length cW]) (fun _ => by kernel_rfl) fun W hW => (by have h := same_any M M pA pW cA cW (by omega) W (hmA.keep hW.1) (hmW.keep hW.1); rw [decide_eq_true rfl] at h; exact h)) ?_
      refine lm (v := .bool false) rfl rfl ?_
      refine lm (v := .bool false) rfl rfl ?_
      refine wpL_done (fun W8 hW8 => ?_)
      refine (show Code.wp _ _ _ _ _ from ?_)
      refine wp_cond_false rfl ?_
      refine wp_skip ?_
      refine (show Code.wp _ _ _ _ _ from ?_)
      refine wp_seq ?_
      refine wp_region_L (W0 := W7) [] (hW8) ?_
      refine lm (v := strV s) rfl rfl ?_
      refine wpL_c (f := 20) (args := #[strV s]) (GN 42 W7 [] M J) rfl (by kernel_rfl) (fun _ => (by kernel_rfl)) (fun W hW => (by have h := calls_gn s hW; rw [hM, hJ] at h; exact h)) (fun _ => by simp only [List.setIfInBounds_toArray, List.set_cons_succ, List.set_cons_zero] <;> rfl) ?_
      rintro v KlC ⟨uC, _, EC, rfl, ⟨rfl, OC⟩, NC, rfl⟩
      refine lm (v := .tuple #[uC, .int .i64 ((J : Nat) : Int)]) rfl rfl ?_
      refine lm (v := uC) rfl rfl ?_
      refine lm (v := .int .i64 ((J : Nat) : Int)) rfl rfl ?_
      refine lm (v := uC) rfl rfl ?_
      refine lm (v := .int .i64 ((J : Nat) : Int)) rfl rfl ?_
      refine wpL_done (fun W9 hW9 => ?_)
      refine (show Code.wp _ _ _ _ _ from ?_)
      refine wp_seq ?_
      refine wp_seq ?_
      refine wp_region_L (W0 := W7) KlC (hW9) ?_
      refine lm (v := .int .i64 0) rfl rfl ?_
      refine wpL_done (fun W10 hW10 => ?_)
      refine (show Code.wp _ _ _ _ _ from ?_)
      refine wp_block ?_
      rcases OC with ⟨hn0, _, rfl, rfl⟩ | ⟨gc, capc, curc0, rfl, hBc, hRc0, rfl⟩
      · refine wp_loop_rounds 1 ?_
        refine (show Code.wp _ _ _ _ _ from ?_)
        refine wp_seq ?_
        refine wp_seq ?_
        refine wp_region_L (W0 := W7) [] (hW10) ?_
        refine lm (v := .int .i64 0) rfl rfl ?_
        refine lm (v := .slice none 0 0) rfl rfl ?_
        refine lm (v := .int .i64 0) rfl rfl ?_
        refine lm (v := .bool false) rfl rfl ?_
        refine wpL_done (fun W11 hW11 => ?_)
        refine (show Code.wp _ _ _ _ _ from ?_)
        refine wp_cond_false rfl ?_
        refine wp_exit ?_
        refine (show Code.wp _ _ _ _ _ from ?_)
        refine wp_seq ?_
        refine wp_region_L (W0 := W7) [] (hW11) ?_
        refine lm (v := .slice pA M.length cA) rfl rfl ?_
        refine lm (v := .slice pW M.length cW) rfl rfl ?_
        refine lv (v := .bool true) rfl rfl (yb_call (f := 33) (args := #[.slice pA M.length cA, .slice pW M.length cW]) (fun _ => by kernel_rfl) fun W hW => (by have h := same_any M M pA pW cA cW (by omega) W (hmA.keep hW.1) (hmW.keep hW.1); rw [decide_eq_true rfl] at h; exact h)) ?_
        refine lm (v := .bool true) rfl rfl ?_
        refine wpL_done (fun W12 hW12 => ?_)
        refine (show Code.wp _ _ _ _ _ from ?_)
        refine wp_ret ?_
        try simp only [inBlock_ret, then_ret]
        refine bodyPost_ret (v := .bool true) ?_ rfl ?_
        · kernel_rfl
        · exact ⟨rfl, (hbw3.trans (hW12.1.mono hbw3.size))⟩
      · go_loopw [11] (fun u11 wr => ∃ (kc : Nat) (curc : Array Value) (xs : List Value), (kc ≤ M.length) ∧ (RowN 2 curc capc M.length xs) ∧ u11 = .int .i64 ((kc : Nat) : Int) ∧ KS W7 [(gc, .cells curc 42 (0, 0))] wr) (fun u11 _ => M.length - (intOf u11).toNat)
        case atStart => exact ⟨0, curc0, (mcells M), (Nat.zero_le _), hRc0, rfl, hW10⟩
        case round =>
          obtain ⟨kc, curc, xs, hkc, hRc, rfl, hL13⟩ := hrel
          refine wp_seq ?_
          refine wp_seq ?_
          refine wp_region_L (W0 := W7) [(gc, .cells curc 42 (0, 0))] (hL13) ?_
          refine lm (v := .int .i64 ((kc : Nat) : Int)) rfl rfl ?_
          refine lm (v := .slice (some ⟨gc, 0, none⟩) M.length capc) rfl rfl ?_
          refine lp (v := .int .i64 ((M.length : Nat) : Int)) rfl rfl (run_lenL (p := (some ⟨gc, 0, none⟩)) (cap := capc) (n := M.length) rfl Tryd.underlying37 (by kernel_rfl)) ?_
          refine lp (v := .bool (decide (kc < M.length))) rfl rfl (run_bin rfl (vx := (.int .i64 ((kc : Nat) : Int))) (vy := (.int .i64 ((M.length : Nat) : Int))) (by kernel_rfl) (by kernel_rfl) fun w => bn_lss rfl w) ?_
          refine wpL_done (fun W14 hW14 => ?_)
          refine (show Code.wp _ _ _ _ _ from ?_)
          cases hd2 : (decide (kc < M.length)) with
          | false =>
            have h2 : ¬ (kc < M.length) := of_decide_eq_false hd2
            clear hd2
            refine wp_cond_false rfl ?_
            refine wp_exit ?_
            refine (show Code.wp _ _ _ _ _ from ?_)
            refine wp_seq ?_
            refine wp_region_L (W0 := W7) [(gc, .cells curc 42 (0, 0))] (hW14) ?_
            refine lm (v := .slice pA M.length cA) rfl rfl ?_
            refine lm (v := .slice pW M.length cW) rfl rfl ?_
            refine lv (v := .bool true) rfl rfl (yb_call (f := 33) (args := #[.slice pA M.length cA, .slice pW M.length cW]) (fun _ => by kernel_rfl) fun W hW => (by have h := same_any M M pA pW cA cW (by omega) W (hmA.keep hW.1) (hmW.keep hW.1); rw [decide_eq_true rfl] at h; exact h)) ?_
            refine lm (v := .bool true) rfl rfl ?_
            refine wpL_done (fun W15 hW15 => ?_)
            refine (show Code.wp _ _ _ _ _ from ?_)
            refine wp_ret ?_
            try simp only [inBlock_ret, then_ret]
            refine bodyPost_ret (v := .bool true) ?_ rfl ?_
            · kernel_rfl
            · exact ⟨rfl, (hbw3.trans (hW15.1.mono hbw3.size))⟩
          | true =>
            have h2 : kc < M.length := of_decide_eq_true hd2
            clear hd2
            refine wp_cond_true rfl ?_
            refine wp_skip ?_
            refine (show Code.wp _ _ _ _ _ from ?_)
            refine wp_seq ?_
            refine wp_block ?_
            refine wp_region_L (W0 := W7) [(gc, .cells curc 42 (0, 0))] (hW14) ?_
            refine lm (v := .slice (some ⟨gc, 0, none⟩) M.length capc) rfl rfl ?_
            refine lm (v := .int .i64 ((kc : Nat) : Int)) rfl rfl ?_
            refine lm (v := .agg #[.int .i64 (-1), .int .u8 0]) rfl rfl ?_
            refine lp (v := .pointer (some ⟨gc, 0 + kc * 2, none⟩)) rfl rfl (run_idxL (j := .i64) (n := M.length) (cap := capc) (b := gc) (off := 0) (k := kc) (sz := 2) rfl Tryd.underlying37 (by kernel_rfl) (by kernel_rfl) (by kernel_rfl) (by omega)) ?_
            refine wpL_s [(gc, .cells (curc.toList.take (kc * 2) ++ [Value.int .i64 (-1), Value.int .u8 0] ++ curc.toList.drop (kc * 2 + 2)).toArray 42 (0, 0))] rfl rfl (st_own (v := .agg #[.int .i64 (-1), .int .u8 0]) rfl (by kernel_rfl) (by kernel_rfl) hBc hRc (.head _) (by kernel_rfl) rfl (by omega) (by intro u hu; simp [Value.cells] at hu; rcases hu with rfl | rfl <;> rfl)) ?_
            refine wpL_done (fun W16 hW16 => ?_)
            refine (show Code.wp _ _ _ _ _ from ?_)
            refine wp_region_L (W0 := W7) [(gc, .cells (curc.toList.take (kc * 2) ++ [Value.int .i64 (-1), Value.int .u8 0] ++ curc.toList.drop (kc * 2 + 2)).toArray 42 (0, 0))] (hW16) ?_
            refine lm (v := .int .i64 ((kc : Nat) : Int)) rfl rfl ?_
            refine lp (v := .int .i64 (((kc + 1) : Nat) : Int)) rfl rfl (run_bin rfl (vx := (.int .i64 ((kc : Nat) : Int))) (vy := (.int .i64 ((1 : Nat) : Int))) (by kernel_rfl) (by kernel_rfl) fun w => bn_add (z := (kc + 1)) rfl (wr_i64 (by omega)) w) ?_
            refine lm (v := .int .i64 (((kc + 1) : Nat) : Int)) rfl rfl ?_
            refine wpL_done (fun W17 hW17 => ?_)
            go_roundw
            case rel =>
              repeat apply Exists.intro
              exact ⟨⟨kc + 1, ((curc.toList.take (kc * 2) ++ [Value.int .i64 (-1), Value.int .u8 0] ++ curc.toList.drop (kc * 2 + 2)).toArray), _, (by omega), (own_stored (k := kc) (vs := [Value.int .i64 (-1), Value.int .u8 0]) hRc rfl (by omega)), rfl, hW17⟩, rfl⟩
            case measure => (show M.length - (intOf (.int .i64 (((kc + 1) : Nat) : Int))).toNat < M.length - (intOf (.int .i64 ((kc : Nat) : Int))).toNat); simp only [intOf]; omega
    | true =>
      have h1 : k < M.length := of_decide_eq_true hd1
      clear hd1
      refine wp_cond_true rfl ?_
      refine wp_skip ?_
      refine (show Code.wp _ _ _ _ _ from ?_)
      refine wp_seq ?_
      refine wp_block ?_
      refine wp_region_L (W0 := W3) Kl (hW7) ?_
      refine lm (v := vw) rfl rfl ?_
      refine lm (v := .slice pB M.length cB) rfl rfl ?_
      refine lm (v := .int .i64 ((k : Nat) : Int)) rfl rfl ?_
      obtain ⟨x4, b4, f4, hx4, hp4, lt4, hc4⟩ := miss_at (k := k) hmB (by omega)
      have lx4 := x4.2.toNat_lt
      refine lp (v := .pointer (some ⟨b4, f4 + k * 2, none⟩)) rfl rfl (run_idxQ (p := pB) (cap := cB) (n := M.length) (j := .i64) (k := k) (sz := 2) rfl Tryd.underlying63 (by kernel_rfl) (by kernel_rfl) hp4 (by kernel_rfl) (by omega)) ?_
      refine lv (v := .agg #[.int .i64 ((x4.1 : Nat) : Int), .int .u8 ((x4.2.toNat : Nat) : Int)]) rfl rfl (yb_olds (cs := [.int .i64 ((x4.1 : Nat) : Int), .int .u8 ((x4.2.toNat : Nat) : Int)]) rfl (by kernel_rfl) hc4 lt4 Tryd.underlying66 rfl (by kernel_rfl)) ?_
      refine wpL_new (fun g => .slice (some ⟨g, 0, none⟩) 1 1) (obi := .cells #[.int .i64 ((x4.1 : Nat) : Int), .int .u8 ((x4.2.toNat : Nat) : Int)] 42 (0, 0)) rfl rfl (fun _ => by kernel_rfl) (fun _ => by simp only [List.setIfInBounds_toArray, List.set_cons_succ, List.set_cons_zero] <;> rfl) fun g5 Bg5 Fg5 => ?_
      refine wpL_g (AppO W3 42 2 [] (k + 1) ((mcells (M.take k)) ++ [.int .i64 ((x4.1 : Nat) : Int), .int .u8 ((x4.2.toNat : Nat) : Int)])) rfl rfl (app_own el_miss (m := 1) (c := 1) (news := [.int .i64 ((x4.1 : Nat) : Int), .int .u8 ((x4.2.toNat : Nat) : Int)]) rfl (by kernel_rfl) (by kernel_rfl) (.head _) hO (fun p hp => (.tail _ hp)) (List.forall_mem_nil _) rfl (by simp [Value.oneCell']) (by omega) (by omega) (by omega)) (fun _ => by simp only [List.setIfInBounds_toArray, List.set_cons_succ, List.set_cons_zero] <;> rfl) ?_
      rintro v6 Kl6 ⟨_, O6, N6, rfl⟩
      refine lm (v := v6) rfl rfl ?_
      refine wpL_done (fun W18 hW18 => ?_)
      refine (show Code.wp _ _ _ _ _ from ?_)
      refine wp_region_L (W0 := W3) Kl6 (hW18) ?_
      refine lm (v := .int .i64 ((k : Nat) : Int)) rfl rfl ?_
      refine lp (v := .int .i64 (((k + 1) : Nat) : Int)) rfl rfl (run_bin rfl (vx := (.int .i64 ((k : Nat) : Int))) (vy := (.int .i64 ((1 : Nat) : Int))) (by kernel_rfl) (by kernel_rfl) fun w => bn_add (z := (k + 1)) rfl (wr_i64 (by omega)) w) ?_
      refine lm (v := .int .i64 (((k + 1) : Nat) : Int)) rfl rfl ?_
      refine wpL_done (fun W19 hW19 => ?_)
      go_roundw
      case rel =>
        repeat apply Exists.intro
        exact ⟨⟨k + 1, v6, Kl6, (by omega), (own_take O6 hx4), rfl, rfl, hW19⟩, rfl⟩
      case measure => (show M.length - (intOf (.int .i64 (((k + 1) : Nat) : Int))).toNat < M.length - (intOf (.int .i64 ((k : Nat) : Int))).toNat); simp only [intOf]; omega
end Go.Proofs.YtbceajgipmjmlaaDoor
namespace Go.Proofs.YtbceajgipmjmlaaDoor
open Go Go.RowKit Tw
set_option maxRecDepth 100000 in
set_option maxHeartbeats 4000000 in
theorem tells_any (l : List UInt8) (w : World) (hE : Env w) : Calls Tryd.prog 10 #[strV l] w fun e w' => e = .returned (.bool true) ∧ Below w.heap.size w w' := by
  have HE := Lib.hid hE
  clear hE
  go_enter Tryd.func10, Tryd.ntmps10
  refine wp_seq ?_
  refine wp_region_L (W0 := w) [] (KS.start w) ?_
  refine lm (v := .bool false) rfl rfl ?_
  refine wpL_done (fun W1 hW1 => ?_)
  refine (show Code.wp _ _ _ _ _ from ?_)
  refine wp_seq ?_
  refine wp_region_L (W0 := w) [] (hW1) ?_
  refine lm (v := strV l) rfl rfl ?_
  refine lv (v := .tuple #[.int .u8 (((chkF l) : Nat) : Int), .int .i64 (((chkE l) : Nat) : Int)]) rfl rfl (yb_call (f := 24) (args := #[strV l]) (fun _ => by kernel_rfl) fun W hW => check_sym l W) ?_
  refine lm (v := .tuple #[.int .u8 (((chkF l) : Nat) : Int), .int .i64 (((chkE l) : Nat) : Int)]) rfl rfl ?_
  refine lm (v := .int .u8 (((chkF l) : Nat) : Int)) rfl rfl ?_
  refine lm (v := .int .i64 (((chkE l) : Nat) : Int)) rfl rfl ?_
  refine lm (v := .int .u8 (((chkF l) : Nat) : Int)) rfl rfl ?_
  refine lm (v := .int .i64 (((chkE l) : Nat) : Int)) rfl rfl ?_
  refine wpL_done (fun W2 hW2 => ?_)
  refine (show Code.wp _ _ _ _ _ from ?_)
  refine wp_seq ?_
  refine wp_region_L (W0 := w) [] (hW2) ?_
  refine lm (v := strV l) rfl rfl ?_
  refine lv (v := .tuple #[.int .u8 (((chkF l) : Nat) : Int), .int .i64 (((chkE l) : Nat) : Int)]) rfl rfl (yb_call (f := 27) (args := #[strV l]) (fun _ => by kernel_rfl) fun W hW => rcheck_sym l W) ?_
  refine lm (v := .tuple #[.int .u8 (((chkF l) : Nat) : Int), .int .i64 (((chkE l) : Nat) : Int)]) rfl rfl ?_
  refine lm (v := .int .u8 (((chkF l) : Nat) : Int)) rfl rfl ?_
  refine lm (v := .int .i64 (((chkE l) : Nat) : Int)) rfl rfl ?_
  refine lm (v := .int .u8 (((chkF l) : Nat) : Int)) rfl rfl ?_
  refine lm (v := .int .i64 (((chkE l) : Nat) : Int)) rfl rfl ?_
  refine wpL_done (fun W3 hW3 => ?_)
  refine (show Code.wp _ _ _ _ _ from ?_)
  refine wp_seq ?_
  refine wp_region_L (W0 := w) [] (hW3) ?_
  refine lm (v := strV l) rfl rfl ?_
  refine lv (v := .tuple #[strV (readL l), .int .i64 (((readE l) : Nat) : Int)]) rfl rfl (yb_call (f := 23) (args := #[strV l]) (fun _ => by kernel_rfl) fun W hW => Read_any l W) ?_
  refine lm (v := .tuple #[strV (readL l), .int .i64 (((readE l) : Nat) : Int)]) rfl rfl ?_
  refine lm (v := strV (readL l)) rfl rfl ?_
  refine lm (v := .int .i64 (((readE l) : Nat) : Int)) rfl rfl ?_
  refine lm (v := strV (readL l)) rfl rfl ?_
  refine lm (v := .int .i64 (((readE l) : Nat) : Int)) rfl rfl ?_
  refine wpL_done (fun W4 hW4 => ?_)
  refine (show Code.wp _ _ _ _ _ from ?_)
  refine wp_seq ?_
  refine wp_region_L (W0 := w) [] (hW4) ?_
  refine lm (v := strV l) rfl rfl ?_
  refine lv (v := .tuple #[strV (readL l), .int .i64 (((readE l) : Nat) : Int)]) rfl rfl (yb_call (f := 28) (args := #[strV l]) (fun _ => by kernel_rfl) fun W hW => RRead_any l W) ?_
  refine lm (v := .tuple #[strV (readL l), .int .i64 (((readE l) : Nat) : Int)]) rfl rfl ?_
  refine lm (v := strV (readL l)) rfl rfl ?_
  refine lm (v := .int .i64 (((readE l) : Nat) : Int)) rfl rfl ?_
  refine lm (v := strV (readL l)) rfl rfl ?_
  refine lm (v := .int .i64 (((readE l) : Nat) : Int)) rfl rfl ?_
  refine wpL_done (fun W5 hW5 => ?_)
  refine (show Code.wp _ _ _ _ _ from ?_)
  refine wp_seq ?_
  refine wp_region_L (W0 := w) [] (hW5) ?_
  refine lm (v := strV l) rfl rfl ?_
  refine lv (v := .tuple #[strV (writS l), .int .i64 (((judgeN l) : Nat) : Int)]) rfl rfl (yb_call (f := 22) (args := #[strV l]) (fun _ => by kernel_rfl) fun W hW => write_sym l W) ?_
  refine lm (v := .tuple #[strV (writS l), .int .i64 (((judgeN l) : Nat) : Int)]) rfl rfl ?_
  refine lm (v := strV (writS l)) rfl rfl ?_
  refine lm (v := .int .i64 (((judgeN l) : Nat) : Int)) rfl rfl ?_
  refine lm (v := strV (writS l)) rfl rfl ?_
  refine lm (v := .int .i64 (((judgeN l) : Nat) : Int)) rfl rfl ?_
  refine wpL_done (fun W6 hW6 => ?_)
  refine (show Code.wp _ _ _ _ _ from ?_)
  refine wp_seq ?_
  refine wp_region_L (W0 := w) [] (hW6) ?_
  refine lm (v := strV l) rfl rfl ?_
  refine lv (v := .tuple #[strV (writS l), .int .i64 (((judgeN l) : Nat) : Int)]) rfl rfl (yb_call (f := 29) (args := #[strV l]) (fun _ => by kernel_rfl) fun W hW => rwrite_sym l W) ?_
  refine lm (v := .tuple #[strV (writS l), .int .i64 (((judgeN l) : Nat) : Int)]) rfl rfl ?_
  refine lm (v := strV (writS l)) rfl rfl ?_
  refine lm (v := .int .i64 (((judgeN l) : Nat) : Int)) rfl rfl ?_
  refine lm (v := strV (writS l)) rfl rfl ?_
  refine lm (v := .int .i64 (((judgeN l) : Nat) : Int)) rfl rfl ?_
  refine wpL_done (fun W7 hW7 => ?_)
  refine (show Code.wp _ _ _ _ _ from ?_)
  refine wp_seq ?_
  refine wp_seq ?_
  refine wp_region_L (W0 := w) [] (hW7) ?_
  refine lm (v := .int .u8 (((chkF l) : Nat) : Int)) rfl rfl ?_
  refine lm (v := .int .u8 (((chkF l) : Nat) : Int)) rfl rfl ?_
  refine lp (v := .bool false) rfl rfl (run_bin rfl (vx := (.int .u8 (((chkF l) : Nat) : Int))) (vy := (.int .u8 (((chkF l) : Nat) : Int))) (by kernel_rfl) (by kernel_rfl) fun w => bn_neq (decide_eq_true rfl) w) ?_
  refine lm (v := .bool false) rfl rfl ?_
  refine lm (v := .int .i64 (((chkE l) : Nat) : Int)) rfl rfl ?_
  refine lm (v := .int .i64 (((chkE l) : Nat) : Int)) rfl rfl ?_
  refine lp (v := .bool false) rfl rfl (run_bin rfl (vx := (.int .i64 (((chkE l) : Nat) : Int))) (vy := (.int .i64 (((chkE l) : Nat) : Int))) (by kernel_rfl) (by kernel_rfl) fun w => bn_neq (decide_eq_true rfl) w) ?_
  refine lm (v := .bool false) rfl rfl ?_
  refine lm (v := .bool false) rfl rfl ?_
  refine lm (v := strV (readL l)) rfl rfl ?_
  refine lm (v := strV (readL l)) rfl rfl ?_
  refine lp (v := .bool false) rfl rfl (run_bin rfl (vx := strV (readL l)) (vy := strV (readL l)) (by kernel_rfl) (by kernel_rfl) fun w => bs_neq (decide_eq_true rfl) w) ?_
  refine lm (v := .bool false) rfl rfl ?_
  refine lm (v := .bool false) rfl rfl ?_
  refine lm (v := .int .i64 (((readE l) : Nat) : Int)) rfl rfl ?_
  refine lm (v := .int .i64 (((readE l) : Nat) : Int)) rfl rfl ?_
  refine lp (v := .bool false) rfl rfl (run_bin rfl (vx := (.int .i64 (((readE l) : Nat) : Int))) (vy := (.int .i64 (((readE l) : Nat) : Int))) (by kernel_rfl) (by kernel_rfl) fun w => bn_neq (decide_eq_true rfl) w) ?_
  refine lm (v := .bool false) rfl rfl ?_
  refine lm (v := .bool false) rfl rfl ?_
  refine lm (v := strV (writS l)) rfl rfl ?_
  refine lm (v := strV (writS l)) rfl rfl ?_
  refine lp (v := .bool false) rfl rfl (run_bin rfl (vx := strV (writS l)) (vy := strV (writS l)) (by kernel_rfl) (by kernel_rfl) fun w => bs_neq (decide_eq_true rfl) w) ?_
  refine lm (v := .bool false) rfl rfl ?_
  refine lm (v := .bool false) rfl rfl ?_
  refine lm (v := .int .i64 (((judgeN l) : Nat) : Int)) rfl rfl ?_
  refine lm (v := .int .i64 (((judgeN l) : Nat) : Int)) rfl rfl ?_
  refine lp (v := .bool false) rfl rfl (run_bin rfl (vx := (.int .i64 (((judgeN l) : Nat) : Int))) (vy := (.int .i64 (((judgeN l) : Nat) : Int))) (by kernel_rfl) (by kernel_rfl) fun w => bn_neq (decide_eq_true rfl) w) ?_
  refine lm (v := .bool false) rfl rfl ?_
  refine lm (v := .bool false) rfl rfl ?_
  refine lm (v := strV l) rfl rfl ?_
  refine lv (v := .bool (decide ((judgeN l) = 0))) rfl rfl (yb_call (f := 18) (args := #[strV l]) (fun _ => by kernel_rfl) fun W hW => Right_any l W) ?_
  refine lm (v := strV l) rfl rfl ?_
  refine lv (v := .int .i64 (((judgeN l) : Nat) : Int)) rfl rfl (yb_call (f := 30) (args := #[strV l]) (fun _ => by kernel_rfl) fun W hW => Of_any l W) ?_
  refine lp (v := .bool (decide ((judgeN l) = 0))) rfl rfl (run_bin rfl (vx := (.int .i64 (((judgeN l) : Nat) : Int))) (vy := (.int .i64 ((0 : Nat) : Int))) (by kernel_rfl) (by kernel_rfl) fun w => bn_eql rfl w) ?_
  cases hd1 : (decide ((judgeN l) = 0)) with
  | false =>
    have h1 : ¬ ((judgeN l) = 0) := of_decide_eq_false hd1
    clear hd1
    refine lm (v := .bool false) rfl rfl ?_
    refine lm (v := .bool false) rfl rfl ?_
    refine wpL_done (fun W8 hW8 => ?_)
    refine (show Code.wp _ _ _ _ _ from ?_)
    refine wp_cond_false rfl ?_
    refine wp_skip ?_
    refine (show Code.wp _ _ _ _ _ from ?_)
    refine wp_seq ?_
    refine wp_region_L (W0 := w) [] (hW8) ?_
    refine lm (v := strV l) rfl rfl ?_
    refine lv (v := .tuple #[.agg #[.int .u8 (((sizeN l) : Nat) : Int), .bool (sizeH l), .bool (sizeR l)], .int .i64 (((sizeE l) : Nat) : Int)]) rfl rfl (yb_call (f := 26) (args := #[strV l]) (fun _ => by kernel_rfl) fun W hW => size_sym l W (HE.out.keep hW.1)) ?_
    refine lm (v := .tuple #[.agg #[.int .u8 (((sizeN l) : Nat) : Int), .bool (sizeH l), .bool (sizeR l)], .int .i64 (((sizeE l) : Nat) : Int)]) rfl rfl ?_
    refine lm (v := .agg #[.int .u8 (((sizeN l) : Nat) : Int), .bool (sizeH l), .bool (sizeR l)]) rfl rfl ?_
    refine lm (v := .int .i64 (((sizeE l) : Nat) : Int)) rfl rfl ?_
    refine wpL_new (fun g => .pointer (some ⟨g, 0, none⟩)) (obi := .cells #[.int .u8 0, .bool false, .bool false] 26 (0, 0)) rfl rfl (fun _ => by kernel_rfl) (fun _ => by simp only [List.setIfInBounds_toArray, List.set_cons_succ, List.set_cons_zero] <;> rfl) fun g1 Bg1 Fg1 => ?_
    refine wpL_s [(g1, .cells #[.int .u8 (((sizeN l) : Nat) : Int), .bool (sizeH l), .bool (sizeR l)] 26 (0, 0))] rfl rfl (st_row (off := 0) (v := .agg #[.int .u8 (((sizeN l) : Nat) : Int), .bool (sizeH l), .bool (sizeR l)]) rfl (by kernel_rfl) (by kernel_rfl) (.head _) Bg1 (by kernel_rfl) (by simp [Value.cells]) (by intro v hv; simp [Value.cells] at hv; first | (subst hv; rfl) | (rcases hv with rfl | rfl | rfl <;> rfl)) (by kernel_rfl) (List.forall_mem_cons.2 ⟨.inl rfl, (List.forall_mem_nil _)⟩)) ?_
    refine lm (v := .int .i64 (((sizeE l) : Nat) : Int)) rfl rfl ?_
    refine wpL_done (fun W9 hW9 => ?_)
    refine (show Code.wp _ _ _ _ _ from ?_)
    refine wp_seq ?_
    refine wp_region_L (W0 := w) [(g1, .cells #[.int .u8 (((sizeN l) : Nat) : Int), .bool (sizeH l), .bool (sizeR l)] 26 (0, 0))] (hW9) ?_
    refine lm (v := strV l) rfl rfl ?_
    refine lv (v := .tuple #[.agg #[.int .u8 (((sizeN l) : Nat) : Int), .bool (sizeH l), .bool (sizeR l)], .int .i64 (((sizeE l) : Nat) : Int)]) rfl rfl (yb_call (f := 31) (args := #[strV l]) (fun _ => by kernel_rfl) fun W hW => rsize_sym l W) ?_
    refine lm (v := .tuple #[.agg #[.int .u8 (((sizeN l) : Nat) : Int), .bool (sizeH l), .bool (sizeR l)], .int .i64 (((sizeE l) : Nat) : Int)]) rfl rfl ?_
    refine lm (v := .agg #[.int .u8 (((sizeN l) : Nat) : Int), .bool (sizeH l), .bool (sizeR l)]) rfl rfl ?_
    refine lm (v := .int .i64 (((sizeE l) : Nat) : Int)) rfl rfl ?_
    refine wpL_new (fun g => .pointer (some ⟨g, 0, none⟩)) (obi := .cells #[.int .u8 0, .bool false, .bool false] 60 (0, 0)) rfl rfl (fun _ => by kernel_rfl) (fun _ => by simp only [List.setIfInBounds_toArray, List.set_cons_succ, List.set_cons_zero] <;> rfl) fun g2 Bg2 Fg2 => ?_
    refine wpL_s [(g2, .cells #[.int .u8 (((sizeN l) : Nat) : Int), .bool (sizeH l), .bool (sizeR l)] 60 (0, 0)), (g1, .cells #[.int .u8 (((sizeN l) : Nat) : Int), .bool (sizeH l), .bool (sizeR l)] 26 (0, 0))] rfl rfl (st_row (off := 0) (v := .agg #[.int .u8 (((sizeN l) : Nat) : Int), .bool (sizeH l), .bool (sizeR l)]) rfl (by kernel_rfl) (by kernel_rfl) (.head _) Bg2 (by kernel_rfl) (by simp [Value.cells]) (by intro v hv; simp [Value.cells] at hv; first | (subst hv; rfl) | (rcases hv with rfl | rfl | rfl <;> rfl)) (by kernel_rfl) (List.forall_mem_cons.2 ⟨.inl rfl, (List.forall_mem_cons.2 ⟨.inr ⟨(.tail _ (.head _)), (Fg2 _ (.head _))⟩, (List.forall_mem_nil _)⟩)⟩)) ?_
    refine lm (v := .int .i64 (((sizeE l) : Nat) : Int)) rfl rfl ?_
    refine wpL_done (fun W10 hW10 => ?_)
    refine (show Code.wp _ _ _ _ _ from ?_)
    refine wp_seq ?_
    refine wp_region_L (W0 := w) [(g2, .cells #[.int .u8 (((sizeN l) : Nat) : Int), .bool (sizeH l), .bool (sizeR l)] 60 (0, 0)), (g1, .cells #[.int .u8 (((sizeN l) : Nat) : Int), .bool (sizeH l), .bool (sizeR l)] 26 (0, 0))] (hW10) ?_
    refine lm (v := .int .i64 (((sizeE l) : Nat) : Int)) rfl rfl ?_
    refine lm (v := .int .i64 (((sizeE l) : Nat) : Int)) rfl rfl ?_
    refine lp (v := .bool true) rfl rfl (run_bin rfl (vx := (.int .i64 (((sizeE l) : Nat) : Int))) (vy := (.int .i64 (((sizeE l) : Nat) : Int))) (by kernel_rfl) (by kernel_rfl) fun w => bn_eql (decide_eq_true rfl) w) ?_
    refine lm (v := .bool true) rfl rfl ?_
    refine lv (v := .agg #[.int .u8 (((sizeN l) : Nat) : Int), .bool (sizeH l), .bool (sizeR l)]) rfl rfl (yb_load (n := 3) (off := 0) rfl (by kernel_rfl) (.tail _ (.head _)) Tryd.underlying26 rfl (by kernel_rfl) (by simp) (by kernel_rfl)) ?_
    refine lv (v := .agg #[.int .u8 (((sizeN l) : Nat) : Int), .bool (sizeH l), .bool (sizeR l)]) rfl rfl (yb_load (n := 3) (off := 0) rfl (by kernel_rfl) (.head _) Tryd.underlying60 rfl (by kernel_rfl) (by simp) (by kernel_rfl)) ?_
    refine lp (v := .bool true) rfl rfl (run_bin rfl (vx := .agg #[.int .u8 (((sizeN l) : Nat) : Int), .bool (sizeH l), .bool (sizeR l)]) (vy := .agg #[.int .u8 (((sizeN l) : Nat) : Int), .bool (sizeH l), .bool (sizeR l)]) (by kernel_rfl) (by kernel_rfl) fun w => eq_kind (decide_eq_true (by simp)) w) ?_
    refine lm (v := .bool true) rfl rfl ?_
    refine lm (v := .bool true) rfl rfl ?_
    refine wpL_done (fun W11 hW11 => ?_)
    refine (show Code.wp _ _ _ _ _ from ?_)
    refine wp_ret ?_
    try simp only [inBlock_ret, then_ret]
    refine bodyPost_ret (v := .bool true) ?_ rfl ?_
    · kernel_rfl
    · exact ⟨rfl, hW11.1⟩
  | true =>
    have h1 : (judgeN l) = 0 := of_decide_eq_true hd1
    clear hd1
    refine lm (v := .bool false) rfl rfl ?_
    refine lm (v := .bool false) rfl rfl ?_
    refine wpL_done (fun W12 hW12 => ?_)
    refine (show Code.wp _ _ _ _ _ from ?_)
    refine wp_cond_false rfl ?_
    refine wp_skip ?_
    refine (show Code.wp _ _ _ _ _ from ?_)
    refine wp_seq ?_
    refine wp_region_L (W0 := w) [] (hW12) ?_
    refine lm (v := strV l) rfl rfl ?_
    refine lv (v := .tuple #[.agg #[.int .u8 (((sizeN l) : Nat) : Int), .bool (sizeH l), .bool (sizeR l)], .int .i64 (((sizeE l) : Nat) : Int)]) rfl rfl (yb_call (f := 26) (args := #[strV l]) (fun _ => by kernel_rfl) fun W hW => size_sym l W (HE.out.keep hW.1)) ?_
    refine lm (v := .tuple #[.agg #[.int .u8 (((sizeN l) : Nat) : Int), .bool (sizeH l), .bool (sizeR l)], .int .i64 (((sizeE l) : Nat) : Int)]) rfl rfl ?_
    refine lm (v := .agg #[.int .u8 (((sizeN l) : Nat) : Int), .bool (sizeH l), .bool (sizeR l)]) rfl rfl ?_
    refine lm (v := .int .i64 (((sizeE l) : Nat) : Int)) rfl rfl ?_
    refine wpL_new (fun g => .pointer (some ⟨g, 0, none⟩)) (obi := .cells #[.int .u8 0, .bool false, .bool false] 26 (0, 0)) rfl rfl (fun _ => by kernel_rfl) (fun _ => by simp only [List.setIfInBounds_toArray, List.set_cons_succ, List.set_cons_zero] <;> rfl) fun g3 Bg3 Fg3 => ?_
    refine wpL_s [(g3, .cells #[.int .u8 (((sizeN l) : Nat) : Int), .bool (sizeH l), .bool (sizeR l)] 26 (0, 0))] rfl rfl (st_row (off := 0) (v := .agg #[.int .u8 (((sizeN l) : Nat) : Int), .bool (sizeH l), .bool (sizeR l)]) rfl (by kernel_rfl) (by kernel_rfl) (.head _) Bg3 (by kernel_rfl) (by simp [Value.cells]) (by intro v hv; simp [Value.cells] at hv; first | (subst hv; rfl) | (rcases hv with rfl | rfl | rfl <;> rfl)) (by kernel_rfl) (List.forall_mem_cons.2 ⟨.inl rfl, (List.forall_mem_nil _)⟩)) ?_
    refine lm (v := .int .i64 (((sizeE l) : Nat) : Int)) rfl rfl ?_
    refine wpL_done (fun W13 hW13 => ?_)
    refine (show Code.wp _ _ _ _ _ from ?_)
    refine wp_seq ?_
    refine wp_region_L (W0 := w) [(g3, .cells #[.int .u8 (((sizeN l) : Nat) : Int), .bool (sizeH l), .bool (sizeR l)] 26 (0, 0))] (hW13) ?_
    refine lm (v := strV l) rfl rfl ?_
    refine lv (v := .tuple #[.agg #[.int .u8 (((sizeN l) : Nat) : Int), .bool (sizeH l), .bool (sizeR l)], .int .i64 (((sizeE l) : Nat) : Int)]) rfl rfl (yb_call (f := 31) (args := #[strV l]) (fun _ => by kernel_rfl) fun W hW => rsize_sym l W) ?_
    refine lm (v := .tuple #[.agg #[.int .u8 (((sizeN l) : Nat) : Int), .bool (sizeH l), .bool (sizeR l)], .int .i64 (((sizeE l) : Nat) : Int)]) rfl rfl ?_
    refine lm (v := .agg #[.int .u8 (((sizeN l) : Nat) : Int), .bool (sizeH l), .bool (sizeR l)]) rfl rfl ?_
    refine lm (v := .int .i64 (((sizeE l) : Nat) : Int)) rfl rfl ?_
    refine wpL_new (fun g => .pointer (some ⟨g, 0, none⟩)) (obi := .cells #[.int .u8 0, .bool false, .bool false] 60 (0, 0)) rfl rfl (fun _ => by kernel_rfl) (fun _ => by simp only [List.setIfInBounds_toArray, List.set_cons_succ, List.set_cons_zero] <;> rfl) fun g4 Bg4 Fg4 => ?_
    refine wpL_s [(g4, .cells #[.int .u8 (((sizeN l) : Nat) : Int), .bool (sizeH l), .bool (sizeR l)] 60 (0, 0)), (g3, .cells #[.int .u8 (((sizeN l) : Nat) : Int), .bool (sizeH l), .bool (sizeR l)] 26 (0, 0))] rfl rfl (st_row (off := 0) (v := .agg #[.int .u8 (((sizeN l) : Nat) : Int), .bool (sizeH l), .bool (sizeR l)]) rfl (by kernel_rfl) (by kernel_rfl) (.head _) Bg4 (by kernel_rfl) (by simp [Value.cells]) (by intro v hv; simp [Value.cells] at hv; first | (subst hv; rfl) | (rcases hv with rfl | rfl | rfl <;> rfl)) (by kernel_rfl) (List.forall_mem_cons.2 ⟨.inl rfl, (List.forall_mem_cons.2 ⟨.inr ⟨(.tail _ (.head _)), (Fg4 _ (.head _))⟩, (List.forall_mem_nil _)⟩)⟩)) ?_
    refine lm (v := .int .i64 (((sizeE l) : Nat) : Int)) rfl rfl ?_
    refine wpL_done (fun W14 hW14 => ?_)
    refine (show Code.wp _ _ _ _ _ from ?_)
    refine wp_seq ?_
    refine wp_region_L (W0 := w) [(g4, .cells #[.int .u8 (((sizeN l) : Nat) : Int), .bool (sizeH l), .bool (sizeR l)] 60 (0, 0)), (g3, .cells #[.int .u8 (((sizeN l) : Nat) : Int), .bool (sizeH l), .bool (sizeR l)] 26 (0, 0))] (hW14) ?_
    refine lm (v := .int .i64 (((sizeE l) : Nat) : Int)) rfl rfl ?_
    refine lm (v := .int .i64 (((sizeE l) : Nat) : Int)) rfl rfl ?_
    refine lp (v := .bool true) rfl rfl (run_bin rfl (vx := (.int .i64 (((sizeE l) : Nat) : Int))) (vy := (.int .i64 (((sizeE l) : Nat) : Int))) (by kernel_rfl) (by kernel_rfl) fun w => bn_eql (decide_eq_true rfl) w) ?_
    refine lm (v := .bool true) rfl rfl ?_
    refine lv (v := .agg #[.int .u8 (((sizeN l) : Nat) : Int), .bool (sizeH l), .bool (sizeR l)]) rfl rfl (yb_load (n := 3) (off := 0) rfl (by kernel_rfl) (.tail _ (.head _)) Tryd.underlying26 rfl (by kernel_rfl) (by simp) (by kernel_rfl)) ?_
    refine lv (v := .agg #[.int .u8 (((sizeN l) : Nat) : Int), .bool (sizeH l), .bool (sizeR l)]) rfl rfl (yb_load (n := 3) (off := 0) rfl (by kernel_rfl) (.head _) Tryd.underlying60 rfl (by kernel_rfl) (by simp) (by kernel_rfl)) ?_
    refine lp (v := .bool true) rfl rfl (run_bin rfl (vx := .agg #[.int .u8 (((sizeN l) : Nat) : Int), .bool (sizeH l), .bool (sizeR l)]) (vy := .agg #[.int .u8 (((sizeN l) : Nat) : Int), .bool (sizeH l), .bool (sizeR l)]) (by kernel_rfl) (by kernel_rfl) fun w => eq_kind (decide_eq_true (by simp)) w) ?_
    refine lm (v := .bool true) rfl rfl ?_
    refine lm (v := .bool true) rfl rfl ?_
    refine wpL_done (fun W15 hW15 => ?_)
    refine (show Code.wp _ _ _ _ _ from ?_)
    refine wp_ret ?_
    try simp only [inBlock_ret, then_ret]
    refine bodyPost_ret (v := .bool true) ?_ rfl ?_
    · kernel_rfl
    · exact ⟨rfl, hW15.1⟩
end Go.Proofs.YtbceajgipmjmlaaDoor
namespace Go.Proofs.YtbceajgipmjmlaaDoor
open Go Go.RowKit Tw
set_option maxRecDepth 100000 in
set_option maxHeartbeats 40000000 in
theorem IsoTells_law (w : World) (hE : Env w) (l0 : List UInt8) (rr0 : l0.length ≤ 281474976710656) : Calls Tryd.prog 3 #[strV l0] w fun e w' => e = .returned (.bool true) ∧ Below w.heap.size w w' := by
  have HE := Lib.hid hE
  clear hE
  go_enter Tryd.func3, Tryd.ntmps3
  refine wp_seq ?_
  refine wp_region_L (W0 := w) [] (KS.start w) ?_
  refine lm (v := .bool false) rfl rfl ?_
  refine wpL_done (fun W1 hW1 => ?_)
  refine (show Code.wp _ _ _ _ _ from ?_)
  refine wp_seq ?_
  refine wp_region_L (W0 := w) [] (hW1) ?_
  refine lm (v := strV l0) rfl rfl ?_
  refine lp (v := .int .i64 ((l0.length : Nat) : Int)) rfl rfl (run_lenS (l := l0) rfl Tryd.underlying9 (by kernel_rfl)) ?_
  refine lp (v := .bool (decide (60 < l0.length))) rfl rfl (run_bin rfl (vx := (.int .i64 ((l0.length : Nat) : Int))) (vy := (.int .i64 ((60 : Nat) : Int))) (by kernel_rfl) (by kernel_rfl) fun w => bn_gtr rfl w) ?_
  refine lm (v := .bool (decide (60 < l0.length))) rfl rfl ?_
  cases hd1 : (decide (60 < l0.length)) with
  | false =>
    have h1 : ¬ (60 < l0.length) := of_decide_eq_false hd1
    clear hd1
    refine lm (v := strV l0) rfl rfl ?_
    refine lv (v := .bool true) rfl rfl (yb_call (f := 10) (args := #[strV l0]) (fun _ => by kernel_rfl) fun W hW => tells_any l0 W (HE.out.keep hW.1)) ?_
    refine lm (v := .bool true) rfl rfl ?_
    refine lm (v := strV l0) rfl rfl ?_
    refine lv (v := .bool true) rfl rfl (yb_call (f := 11) (args := #[strV l0]) (fun _ => by kernel_rfl) fun W hW => misses_any l0 W) ?_
    refine lm (v := .bool true) rfl rfl ?_
    refine lm (v := .bool true) rfl rfl ?_
    refine lm (v := .bool true) rfl rfl ?_
    refine lv (v := .bool true) rfl rfl (yb_call (f := 12) (args := #[]) (fun _ => by kernel_rfl) fun W hW => awake_any W (HE.out.keep hW.1)) ?_
    refine lm (v := .bool true) rfl rfl ?_
    refine lm (v := .bool true) rfl rfl ?_
    refine wpL_done (fun W2 hW2 => ?_)
    refine (show Code.wp _ _ _ _ _ from ?_)
    refine wp_ret ?_
    try simp only [inBlock_ret, then_ret]
    refine bodyPost_ret (v := .bool true) ?_ rfl ?_
    · kernel_rfl
    · exact ⟨rfl, hW2.1⟩
  | true =>
    have h1 : 60 < l0.length := of_decide_eq_true hd1
    clear hd1
    refine ln rfl ?_
    refine ln rfl ?_
    refine ln rfl ?_
    refine ln rfl ?_
    refine ln rfl ?_
    refine ln rfl ?_
    refine lm (v := .bool true) rfl rfl ?_
    refine lm (v := .bool true) rfl rfl ?_
    refine lv (v := .bool true) rfl rfl (yb_call (f := 12) (args := #[]) (fun _ => by kernel_rfl) fun W hW => awake_any W (HE.out.keep hW.1)) ?_
    refine lm (v := .bool true) rfl rfl ?_
    refine lm (v := .bool true) rfl rfl ?_
    refine wpL_done (fun W3 hW3 => ?_)
    refine (show Code.wp _ _ _ _ _ from ?_)
    refine wp_ret ?_
    try simp only [inBlock_ret, then_ret]
    refine bodyPost_ret (v := .bool true) ?_ rfl ?_
    · kernel_rfl
    · exact ⟨rfl, hW3.1⟩
end Go.Proofs.YtbceajgipmjmlaaDoor
namespace Go.Proofs.YtbceajgipmjmlaaDoor
open Go Go.RowKit Tw
theorem rsize_at (W : World) {l : List UInt8} {v : Value} (h : sizeV l = v) : Calls Tryd.prog 31 #[strV l] W fun e w' => e = .returned v ∧ Below W.heap.size W w' := h ▸ RSize_any l W
def codeS (n : Nat) (h r : Bool) : List UInt8 := if 20 = n ∧ false = h ∧ false = r then [50, 50, 71, 49] else if 20 = n ∧ false = h ∧ true = r then [50, 50, 82, 49] else if 40 = n ∧ false = h ∧ false = r then [52, 50, 71, 49] else if 40 = n ∧ false = h ∧ true = r then [52, 50, 82, 49] else if 40 = n ∧ true = h ∧ false = r then [52, 53, 71, 49] else if 40 = n ∧ true = h ∧ true = r then [52, 53, 82, 49] else []
def codeE (n : Nat) (h r : Bool) : Nat := if 20 = n ∧ false = h ∧ false = r then 0 else if 20 = n ∧ false = h ∧ true = r then 0 else if 40 = n ∧ false = h ∧ false = r then 0 else if 40 = n ∧ false = h ∧ true = r then 0 else if 40 = n ∧ true = h ∧ false = r then 0 else if 40 = n ∧ true = h ∧ true = r then 0 else 32
theorem code_pair (n : Nat) (h r : Bool) : codeV n h r = .tuple #[strV (codeS n h r), .int .i64 ((codeE n h r : Nat) : Int)] := by
  unfold codeV codeS codeE
  repeat' split
  all_goals rfl
theorem code_sym (W : World) (hE : Env W) (n : Nat) (h r : Bool) : Calls Tryd.prog 25 #[.agg #[.int .u8 ((n : Nat) : Int), .bool h, .bool r]] W fun e w' => e = .returned (.tuple #[strV (codeS n h r), .int .i64 ((codeE n h r : Nat) : Int)]) ∧ Below W.heap.size W w' := code_pair n h r ▸ Code_any n h r W hE
theorem eq_rkind {x0 y0 : Nat} {x1 y1 : Bool} {x2 y2 : Bool} {e : Bool} {px py : Operand} (h : decide (x0 = y0 ∧ x1 = y1 ∧ x2 = y2) = e) (w : World) : (do eqGuard .eql 60 px py (.agg #[.int .u8 ((x0 : Nat) : Int), .bool x1, .bool x2]) (.agg #[.int .u8 ((y0 : Nat) : Int), .bool y1, .bool y2]); binOp .eql 60 (.agg #[.int .u8 ((x0 : Nat) : Int), .bool x1, .bool x2]) (.agg #[.int .u8 ((y0 : Nat) : Int), .bool y1, .bool y2]) : Sem Value).run Tryd.prog w = .ok (.bool e) w := by
  subst h
  go_simp
  have e0 : ((x0 : Int) = (y0 : Int)) = (x0 = y0) := by apply propext; omega
  simp only [e0]
  by_cases h0 : x0 = y0 <;> by_cases h1 : x1 = y1 <;> by_cases h2 : x2 = y2 <;> simp [h0, h1, h2]
set_option maxRecDepth 100000 in
set_option maxHeartbeats 4000000 in
theorem RCode_any (n : Nat) (h r : Bool) (w : World) : Calls Tryd.prog 34 #[.agg #[.int .u8 ((n : Nat) : Int), .bool h, .bool r]] w fun e w' => e = .returned (codeV n h r) ∧ Below w.heap.size w w' := by
  go_enter Tryd.func34, Tryd.ntmps34
  refine wp_seq ?_
  refine wp_region_L (W0 := w) [] (KS.start w) ?_
  refine wpL_new (fun g => .pointer (some ⟨g, 0, none⟩)) (obi := .cells #[.int .u8 ((n : Nat) : Int), .bool h, .bool r] 60 (0, 0)) rfl rfl (fun _ => by kernel_rfl) (fun _ => by simp only [List.setIfInBounds_toArray, List.set_cons_succ, List.set_cons_zero] <;> rfl) fun g1 Bg1 Fg1 => ?_
  refine lm (v := strV []) rfl rfl ?_
  refine lm (v := .int .i64 0) rfl rfl ?_
  refine wpL_done (fun W1 hW1 => ?_)
  refine (show Code.wp _ _ _ _ _ from ?_)
  refine wp_seq ?_
  refine wp_region_L (W0 := w) [(g1, .cells #[.int .u8 ((n : Nat) : Int), .bool h, .bool r] 60 (0, 0))] (hW1) ?_
  refine wpL_new (fun g => .slice (some ⟨g, 0, none⟩) 6 6) (obi := .cells #[strV [50, 50, 71, 49], strV [50, 50, 82, 49], strV [52, 50, 71, 49], strV [52, 50, 82, 49], strV [52, 53, 71, 49], strV [52, 53, 82, 49]] 9 (0, 0)) rfl rfl (fun _ => by kernel_rfl) (fun _ => by simp only [List.setIfInBounds_toArray, List.set_cons_succ, List.set_cons_zero] <;> rfl) fun g2 Bg2 Fg2 => ?_
  refine lm (v := .slice (some ⟨g2, 0, none⟩) 6 6) rfl rfl ?_
  refine wpL_done (fun W2 hW2 => ?_)
  refine (show Code.wp _ _ _ _ _ from ?_)
  refine wp_seq ?_
  refine wp_seq ?_
  refine wp_region_L (W0 := w) [(g2, .cells #[strV [50, 50, 71, 49], strV [50, 50, 82, 49], strV [52, 50, 71, 49], strV [52, 50, 82, 49], strV [52, 53, 71, 49], strV [52, 53, 82, 49]] 9 (0, 0)), (g1, .cells #[.int .u8 ((n : Nat) : Int), .bool h, .bool r] 60 (0, 0))] (hW2) ?_
  refine lm (v := .int .i64 0) rfl rfl ?_
  refine wpL_done (fun W3 hW3 => ?_)
  refine (show Code.wp _ _ _ _ _ from ?_)
  refine wp_block ?_
  refine wp_loop_rounds 7 ?_
  refine (show Code.wp _ _ _ _ _ from ?_)
  refine wp_seq ?_
  refine wp_seq ?_
  refine wp_region_L (W0 := w) [(g2, .cells #[strV [50, 50, 71, 49], strV [50, 50, 82, 49], strV [52, 50, 71, 49], strV [52, 50, 82, 49], strV [52, 53, 71, 49], strV [52, 53, 82, 49]] 9 (0, 0)), (g1, .cells #[.int .u8 ((n : Nat) : Int), .bool h, .bool r] 60 (0, 0))] (hW3) ?_
  refine lm (v := .int .i64 0) rfl rfl ?_
  refine lm (v := .slice (some ⟨g2, 0, none⟩) 6 6) rfl rfl ?_
  refine lm (v := .int .i64 6) rfl rfl ?_
  refine lm (v := .bool true) rfl rfl ?_
  refine wpL_done (fun W4 hW4 => ?_)
  refine (show Code.wp _ _ _ _ _ from ?_)
  refine wp_cond_true rfl ?_
  refine wp_skip ?_
  refine (show Code.wp _ _ _ _ _ from ?_)
  refine wp_seq ?_
  refine wp_block ?_
  refine wp_seq ?_
  refine wp_region_L (W0 := w) [(g2, .cells #[strV [50, 50, 71, 49], strV [50, 50, 82, 49], strV [52, 50, 71, 49], strV [52, 50, 82, 49], strV [52, 53, 71, 49], strV [52, 53, 82, 49]] 9 (0, 0)), (g1, .cells #[.int .u8 ((n : Nat) : Int), .bool h, .bool r] 60 (0, 0))] (hW4) ?_
  refine lm (v := .slice (some ⟨g2, 0, none⟩) 6 6) rfl rfl ?_
  refine lm (v := .int .i64 0) rfl rfl ?_
  refine lm (v := .pointer (some ⟨g2, 0, none⟩)) rfl rfl ?_
  refine lv (v := strV [50, 50, 71, 49]) rfl rfl (yb_cell (off := 0) rfl (by kernel_rfl) (.head _) Tryd.underlying9 rfl (by kernel_rfl)) ?_
  refine lv (v := .tuple #[.agg #[.int .u8 20, .bool false, .bool false], .int .i64 0]) rfl rfl (yb_call (f := 31) (args := #[strV [50, 50, 71, 49]]) (fun _ => by kernel_rfl) fun W hW => rsize_at W (by kernel_rfl)) ?_
  refine lm (v := .tuple #[.agg #[.int .u8 20, .bool false, .bool false], .int .i64 0]) rfl rfl ?_
  refine lm (v := .agg #[.int .u8 20, .bool false, .bool false]) rfl rfl ?_
  refine lm (v := .int .i64 0) rfl rfl ?_
  refine wpL_new (fun g => .pointer (some ⟨g, 0, none⟩)) (obi := .cells #[.int .u8 0, .bool false, .bool false] 60 (0, 0)) rfl rfl (fun _ => by kernel_rfl) (fun _ => by simp only [List.setIfInBounds_toArray, List.set_cons_succ, List.set_cons_zero] <;> rfl) fun g3 Bg3 Fg3 => ?_
  refine wpL_s [(g3, .cells #[.int .u8 20, .bool false, .bool false] 60 (0, 0)), (g2, .cells #[strV [50, 50, 71, 49], strV [50, 50, 82, 49], strV [52, 50, 71, 49], strV [52, 50, 82, 49], strV [52, 53, 71, 49], strV [52, 53, 82, 49]] 9 (0, 0)), (g1, .cells #[.int .u8 ((n : Nat) : Int), .bool h, .bool r] 60 (0, 0))] rfl rfl (st_row (off := 0) (v := .agg #[.int .u8 20, .bool false, .bool false]) rfl (by kernel_rfl) (by kernel_rfl) (.head _) Bg3 (by kernel_rfl) (by simp [Value.cells]) (by intro v hv; simp [Value.cells] at hv; first | (subst hv; rfl) | (rcases hv with rfl | rfl | rfl <;> rfl)) (by kernel_rfl) (List.forall_mem_cons.2 ⟨.inl rfl, (List.forall_mem_cons.2 ⟨.inr ⟨(.tail _ (.head _)), (Fg3 _ (.head _))⟩, (List.forall_mem_cons.2 ⟨.inr ⟨(.tail _ (.tail _ (.head _))), (Fg3 _ (.tail _ (.head _)))⟩, (List.forall_mem_nil _)⟩)⟩)⟩)) ?_
  refine lm (v := .int .i64 0) rfl rfl ?_
  refine wpL_done (fun W5 hW5 => ?_)
  refine (show Code.wp _ _ _ _ _ from ?_)
  refine wp_seq ?_
  refine wp_region_L (W0 := w) [(g3, .cells #[.int .u8 20, .bool false, .bool false] 60 (0, 0)), (g2, .cells #[strV [50, 50, 71, 49], strV [50, 50, 82, 49], strV [52, 50, 71, 49], strV [52, 50, 82, 49], strV [52, 53, 71, 49], strV [52, 53, 82, 49]] 9 (0, 0)), (g1, .cells #[.int .u8 ((n : Nat) : Int), .bool h, .bool r] 60 (0, 0))] (hW5) ?_
  refine lv (v := .agg #[.int .u8 20, .bool false, .bool false]) rfl rfl (yb_load (n := 3) (off := 0) rfl (by kernel_rfl) (.head _) Tryd.underlying60 rfl (by kernel_rfl) (by simp) (by kernel_rfl)) ?_
  refine lv (v := .agg #[.int .u8 ((n : Nat) : Int), .bool h, .bool r]) rfl rfl (yb_load (n := 3) (off := 0) rfl (by kernel_rfl) (.tail _ (.tail _ (.head _))) Tryd.underlying60 rfl (by kernel_rfl) (by simp) (by kernel_rfl)) ?_
  refine lp (v := .bool (decide (20 = n ∧ false = h ∧ false = r))) rfl rfl (run_bin rfl (vx := .agg #[.int .u8 ((20 : Nat) : Int), .bool false, .bool false]) (vy := .agg #[.int .u8 ((n : Nat) : Int), .bool h, .bool r]) (by kernel_rfl) (by kernel_rfl) fun w => eq_rkind rfl w) ?_
  refine wpL_done (fun W6 hW6 => ?_)
  refine (show Code.wp _ _ _ _ _ from ?_)
  cases hd1 : (decide (20 = n ∧ false = h ∧ false = r)) with
  | false =>
    have h1 : ¬ (20 = n ∧ false = h ∧ false = r) := of_decide_eq_false hd1
    clear hd1
    refine wp_cond_false rfl ?_
    refine wp_skip ?_
    refine (show Code.wp _ _ _ _ _ from ?_)
    refine wp_region_L (W0 := w) [(g3, .cells #[.int .u8 20, .bool false, .bool false] 60 (0, 0)), (g2, .cells #[strV [50, 50, 71, 49], strV [50, 50, 82, 49], strV [52, 50, 71, 49], strV [52, 50, 82, 49], strV [52, 53, 71, 49], strV [52, 53, 82, 49]] 9 (0, 0)), (g1, .cells #[.int .u8 ((n : Nat) : Int), .bool h, .bool r] 60 (0, 0))] (hW6) ?_
    refine lm (v := .int .i64 0) rfl rfl ?_
    refine lm (v := .int .i64 1) rfl rfl ?_
    refine lm (v := .int .i64 1) rfl rfl ?_
    refine wpL_done (fun W7 hW7 => ?_)
    refine (show Code.wp _ _ _ _ _ from ?_)
    refine wp_seq ?_
    refine wp_seq ?_
    refine wp_region_L (W0 := w) [(g3, .cells #[.int .u8 20, .bool false, .bool false] 60 (0, 0)), (g2, .cells #[strV [50, 50, 71, 49], strV [50, 50, 82, 49], strV [52, 50, 71, 49], strV [52, 50, 82, 49], strV [52, 53, 71, 49], strV [52, 53, 82, 49]] 9 (0, 0)), (g1, .cells #[.int .u8 ((n : Nat) : Int), .bool h, .bool r] 60 (0, 0))] (hW7) ?_
    refine lm (v := .int .i64 1) rfl rfl ?_
    refine lm (v := .slice (some ⟨g2, 0, none⟩) 6 6) rfl rfl ?_
    refine lm (v := .int .i64 6) rfl rfl ?_
    refine lm (v := .bool true) rfl rfl ?_
    refine wpL_done (fun W8 hW8 => ?_)
    refine (show Code.wp _ _ _ _ _ from ?_)
    refine wp_cond_true rfl ?_
    refine wp_skip ?_
    refine (show Code.wp _ _ _ _ _ from ?_)
    refine wp_seq ?_
    refine wp_block ?_
    refine wp_seq ?_
    refine wp_region_L (W0 := w) [(g3, .cells #[.int .u8 20, .bool false, .bool false] 60 (0, 0)), (g2, .cells #[strV [50, 50, 71, 49], strV [50, 50, 82, 49], strV [52, 50, 71, 49], strV [52, 50, 82, 49], strV [52, 53, 71, 49], strV [52, 53, 82, 49]] 9 (0, 0)), (g1, .cells #[.int .u8 ((n : Nat) : Int), .bool h, .bool r] 60 (0, 0))] (hW8) ?_
    refine lm (v := .slice (some ⟨g2, 0, none⟩) 6 6) rfl rfl ?_
    refine lm (v := .int .i64 1) rfl rfl ?_
    refine lm (v := .pointer (some ⟨g2, 1, none⟩)) rfl rfl ?_
    refine lv (v := strV [50, 50, 82, 49]) rfl rfl (yb_cell (off := 1) rfl (by kernel_rfl) (.tail _ (.head _)) Tryd.underlying9 rfl (by kernel_rfl)) ?_
    refine lv (v := .tuple #[.agg #[.int .u8 20, .bool false, .bool true], .int .i64 0]) rfl rfl (yb_call (f := 31) (args := #[strV [50, 50, 82, 49]]) (fun _ => by kernel_rfl) fun W hW => rsize_at W (by kernel_rfl)) ?_
    refine lm (v := .tuple #[.agg #[.int .u8 20, .bool false, .bool true], .int .i64 0]) rfl rfl ?_
    refine lm (v := .agg #[.int .u8 20, .bool false, .bool true]) rfl rfl ?_
    refine lm (v := .int .i64 0) rfl rfl ?_
    refine wpL_new (fun g => .pointer (some ⟨g, 0, none⟩)) (obi := .cells #[.int .u8 0, .bool false, .bool false] 60 (0, 0)) rfl rfl (fun _ => by kernel_rfl) (fun _ => by simp only [List.setIfInBounds_toArray, List.set_cons_succ, List.set_cons_zero] <;> rfl) fun g4 Bg4 Fg4 => ?_
    refine wpL_s [(g4, .cells #[.int .u8 20, .bool false, .bool true] 60 (0, 0)), (g3, .cells #[.int .u8 20, .bool false, .bool false] 60 (0, 0)), (g2, .cells #[strV [50, 50, 71, 49], strV [50, 50, 82, 49], strV [52, 50, 71, 49], strV [52, 50, 82, 49], strV [52, 53, 71, 49], strV [52, 53, 82, 49]] 9 (0, 0)), (g1, .cells #[.int .u8 ((n : Nat) : Int), .bool h, .bool r] 60 (0, 0))] rfl rfl (st_row (off := 0) (v := .agg #[.int .u8 20, .bool false, .bool true]) rfl (by kernel_rfl) (by kernel_rfl) (.head _) Bg4 (by kernel_rfl) (by simp [Value.cells]) (by intro v hv; simp [Value.cells] at hv; first | (subst hv; rfl) | (rcases hv with rfl | rfl | rfl <;> rfl)) (by kernel_rfl) (List.forall_mem_cons.2 ⟨.inl rfl, (List.forall_mem_cons.2 ⟨.inr ⟨(.tail _ (.head _)), (Fg4 _ (.head _))⟩, (List.forall_mem_cons.2 ⟨.inr ⟨(.tail _ (.tail _ (.head _))), (Fg4 _ (.tail _ (.head _)))⟩, (List.forall_mem_cons.2 ⟨.inr ⟨(.tail _ (.tail _ (.tail _ (.head _)))), (Fg4 _ (.tail _ (.tail _ (.head _))))⟩, (List.forall_mem_nil _)⟩)⟩)⟩)⟩)) ?_
    refine lm (v := .int .i64 0) rfl rfl ?_
    refine wpL_done (fun W9 hW9 => ?_)
    refine (show Code.wp _ _ _ _ _ from ?_)
    refine wp_seq ?_
    refine wp_region_L (W0 := w) [(g4, .cells #[.int .u8 20, .bool false, .bool true] 60 (0, 0)), (g3, .cells #[.int .u8 20, .bool false, .bool false] 60 (0, 0)), (g2, .cells #[strV [50, 50, 71, 49], strV [50, 50, 82, 49], strV [52, 50, 71, 49], strV [52, 50, 82, 49], strV [52, 53, 71, 49], strV [52, 53, 82, 49]] 9 (0, 0)), (g1, .cells #[.int .u8 ((n : Nat) : Int), .bool h, .bool r] 60 (0, 0))] (hW9) ?_
    refine lv (v := .agg #[.int .u8 20, .bool false, .bool true]) rfl rfl (yb_load (n := 3) (off := 0) rfl (by kernel_rfl) (.head _) Tryd.underlying60 rfl (by kernel_rfl) (by simp) (by kernel_rfl)) ?_
    refine lv (v := .agg #[.int .u8 ((n : Nat) : Int), .bool h, .bool r]) rfl rfl (yb_load (n := 3) (off := 0) rfl (by kernel_rfl) (.tail _ (.tail _ (.tail _ (.head _)))) Tryd.underlying60 rfl (by kernel_rfl) (by simp) (by kernel_rfl)) ?_
    refine lp (v := .bool (decide (20 = n ∧ false = h ∧ true = r))) rfl rfl (run_bin rfl (vx := .agg #[.int .u8 ((20 : Nat) : Int), .bool false, .bool true]) (vy := .agg #[.int .u8 ((n : Nat) : Int), .bool h, .bool r]) (by kernel_rfl) (by kernel_rfl) fun w => eq_rkind rfl w) ?_
    refine wpL_done (fun W10 hW10 => ?_)
    refine (show Code.wp _ _ _ _ _ from ?_)
    cases hd2 : (decide (20 = n ∧ false = h ∧ true = r)) with
    | false =>
      have h2 : ¬ (20 = n ∧ false = h ∧ true = r) := of_decide_eq_false hd2
      clear hd2
      refine wp_cond_false rfl ?_
      refine wp_skip ?_
      refine (show Code.wp _ _ _ _ _ from ?_)
      refine wp_region_L (W0 := w) [(g4, .cells #[.int .u8 20, .bool false, .bool true] 60 (0, 0)), (g3, .cells #[.int .u8 20, .bool false, .bool false] 60 (0, 0)), (g2, .cells #[strV [50, 50, 71, 49], strV [50, 50, 82, 49], strV [52, 50, 71, 49], strV [52, 50, 82, 49], strV [52, 53, 71, 49], strV [52, 53, 82, 49]] 9 (0, 0)), (g1, .cells #[.int .u8 ((n : Nat) : Int), .bool h, .bool r] 60 (0, 0))] (hW10) ?_
      refine lm (v := .int .i64 1) rfl rfl ?_
      refine lm (v := .int .i64 2) rfl rfl ?_
      refine lm (v := .int .i64 2) rfl rfl ?_
      refine wpL_done (fun W11 hW11 => ?_)
      refine (show Code.wp _ _ _ _ _ from ?_)
      refine wp_seq ?_
      refine wp_seq ?_
      refine wp_region_L (W0 := w) [(g4, .cells #[.int .u8 20, .bool false, .bool true] 60 (0, 0)), (g3, .cells #[.int .u8 20, .bool false, .bool false] 60 (0, 0)), (g2, .cells #[strV [50, 50, 71, 49], strV [50, 50, 82, 49], strV [52, 50, 71, 49], strV [52, 50, 82, 49], strV [52, 53, 71, 49], strV [52, 53, 82, 49]] 9 (0, 0)), (g1, .cells #[.int .u8 ((n : Nat) : Int), .bool h, .bool r] 60 (0, 0))] (hW11) ?_
      refine lm (v := .int .i64 2) rfl rfl ?_
      refine lm (v := .slice (some ⟨g2, 0, none⟩) 6 6) rfl rfl ?_
      refine lm (v := .int .i64 6) rfl rfl ?_
      refine lm (v := .bool true) rfl rfl ?_
      refine wpL_done (fun W12 hW12 => ?_)
      refine (show Code.wp _ _ _ _ _ from ?_)
      refine wp_cond_true rfl ?_
      refine wp_skip ?_
      refine (show Code.wp _ _ _ _ _ from ?_)
      refine wp_seq ?_
      refine wp_block ?_
      refine wp_seq ?_
      refine wp_region_L (W0 := w) [(g4, .cells #[.int .u8 20, .bool false, .bool true] 60 (0, 0)), (g3, .cells #[.int .u8 20, .bool false, .bool false] 60 (0, 0)), (g2, .cells #[strV [50, 50, 71, 49], strV [50, 50, 82, 49], strV [52, 50, 71, 49], strV [52, 50, 82, 49], strV [52, 53, 71, 49], strV [52, 53, 82, 49]] 9 (0, 0)), (g1, .cells #[.int .u8 ((n : Nat) : Int), .bool h, .bool r] 60 (0, 0))] (hW12) ?_
      refine lm (v := .slice (some ⟨g2, 0, none⟩) 6 6) rfl rfl ?_
      refine lm (v := .int .i64 2) rfl rfl ?_
      refine lm (v := .pointer (some ⟨g2, 2, none⟩)) rfl rfl ?_
      refine lv (v := strV [52, 50, 71, 49]) rfl rfl (yb_cell (off := 2) rfl (by kernel_rfl) (.tail _ (.tail _ (.head _))) Tryd.underlying9 rfl (by kernel_rfl)) ?_
      refine lv (v := .tuple #[.agg #[.int .u8 40, .bool false, .bool false], .int .i64 0]) rfl rfl (yb_call (f := 31) (args := #[strV [52, 50, 71, 49]]) (fun _ => by kernel_rfl) fun W hW => rsize_at W (by kernel_rfl)) ?_
      refine lm (v := .tuple #[.agg #[.int .u8 40, .bool false, .bool false], .int .i64 0]) rfl rfl ?_
      refine lm (v := .agg #[.int .u8 40, .bool false, .bool false]) rfl rfl ?_
      refine lm (v := .int .i64 0) rfl rfl ?_
      refine wpL_new (fun g => .pointer (some ⟨g, 0, none⟩)) (obi := .cells #[.int .u8 0, .bool false, .bool false] 60 (0, 0)) rfl rfl (fun _ => by kernel_rfl) (fun _ => by simp only [List.setIfInBounds_toArray, List.set_cons_succ, List.set_cons_zero] <;> rfl) fun g5 Bg5 Fg5 => ?_
      refine wpL_s [(g5, .cells #[.int .u8 40, .bool false, .bool false] 60 (0, 0)), (g4, .cells #[.int .u8 20, .bool false, .bool true] 60 (0, 0)), (g3, .cells #[.int .u8 20, .bool false, .bool false] 60 (0, 0)), (g2, .cells #[strV [50, 50, 71, 49], strV [50, 50, 82, 49], strV [52, 50, 71, 49], strV [52, 50, 82, 49], strV [52, 53, 71, 49], strV [52, 53, 82, 49]] 9 (0, 0)), (g1, .cells #[.int .u8 ((n : Nat) : Int), .bool h, .bool r] 60 (0, 0))] rfl rfl (st_row (off := 0) (v := .agg #[.int .u8 40, .bool false, .bool false]) rfl (by kernel_rfl) (by kernel_rfl) (.head _) Bg5 (by kernel_rfl) (by simp [Value.cells]) (by intro v hv; simp [Value.cells] at hv; first | (subst hv; rfl) | (rcases hv with rfl | rfl | rfl <;> rfl)) (by kernel_rfl) (List.forall_mem_cons.2 ⟨.inl rfl, (List.forall_mem_cons.2 ⟨.inr ⟨(.tail _ (.head _)), (Fg5 _ (.head _))⟩, (List.forall_mem_cons.2 ⟨.inr ⟨(.tail _ (.tail _ (.head _))), (Fg5 _ (.tail _ (.head _)))⟩, (List.forall_mem_cons.2 ⟨.inr ⟨(.tail _ (.tail _ (.tail _ (.head _)))), (Fg5 _ (.tail _ (.tail _ (.head _))))⟩, (List.forall_mem_cons.2 ⟨.inr ⟨(.tail _ (.tail _ (.tail _ (.tail _ (.head _))))), (Fg5 _ (.tail _ (.tail _ (.tail _ (.head _)))))⟩, (List.forall_mem_nil _)⟩)⟩)⟩)⟩)⟩)) ?_
      refine lm (v := .int .i64 0) rfl rfl ?_
      refine wpL_done (fun W13 hW13 => ?_)
      refine (show Code.wp _ _ _ _ _ from ?_)
      refine wp_seq ?_
      refine wp_region_L (W0 := w) [(g5, .cells #[.int .u8 40, .bool false, .bool false] 60 (0, 0)), (g4, .cells #[.int .u8 20, .bool false, .bool true] 60 (0, 0)), (g3, .cells #[.int .u8 20, .bool false, .bool false] 60 (0, 0)), (g2, .cells #[strV [50, 50, 71, 49], strV [50, 50, 82, 49], strV [52, 50, 71, 49], strV [52, 50, 82, 49], strV [52, 53, 71, 49], strV [52, 53, 82, 49]] 9 (0, 0)), (g1, .cells #[.int .u8 ((n : Nat) : Int), .bool h, .bool r] 60 (0, 0))] (hW13) ?_
      refine lv (v := .agg #[.int .u8 40, .bool false, .bool false]) rfl rfl (yb_load (n := 3) (off := 0) rfl (by kernel_rfl) (.head _) Tryd.underlying60 rfl (by kernel_rfl) (by simp) (by kernel_rfl)) ?_
      refine lv (v := .agg #[.int .u8 ((n : Nat) : Int), .bool h, .bool r]) rfl rfl (yb_load (n := 3) (off := 0) rfl (by kernel_rfl) (.tail _ (.tail _ (.tail _ (.tail _ (.head _))))) Tryd.underlying60 rfl (by kernel_rfl) (by simp) (by kernel_rfl)) ?_
      refine lp (v := .bool (decide (40 = n ∧ false = h ∧ false = r))) rfl rfl (run_bin rfl (vx := .agg #[.int .u8 ((40 : Nat) : Int), .bool false, .bool false]) (vy := .agg #[.int .u8 ((n : Nat) : Int), .bool h, .bool r]) (by kernel_rfl) (by kernel_rfl) fun w => eq_rkind rfl w) ?_
      refine wpL_done (fun W14 hW14 => ?_)
      refine (show Code.wp _ _ _ _ _ from ?_)
      cases hd3 : (decide (40 = n ∧ false = h ∧ false = r)) with
      | false =>
        have h3 : ¬ (40 = n ∧ false = h ∧ false = r) := of_decide_eq_false hd3
        clear hd3
        refine wp_cond_false rfl ?_
        refine wp_skip ?_
        refine (show Code.wp _ _ _ _ _ from ?_)
        refine wp_region_L (W0 := w) [(g5, .cells #[.int .u8 40, .bool false, .bool false] 60 (0, 0)), (g4, .cells #[.int .u8 20, .bool false, .bool true] 60 (0, 0)), (g3, .cells #[.int .u8 20, .bool false, .bool false] 60 (0, 0)), (g2, .cells #[strV [50, 50, 71, 49], strV [50, 50, 82, 49], strV [52, 50, 71, 49], strV [52, 50, 82, 49], strV [52, 53, 71, 49], strV [52, 53, 82, 49]] 9 (0, 0)), (g1, .cells #[.int .u8 ((n : Nat) : Int), .bool h, .bool r] 60 (0, 0))] (hW14) ?_
        refine lm (v := .int .i64 2) rfl rfl ?_
        refine lm (v := .int .i64 3) rfl rfl ?_
        refine lm (v := .int .i64 3) rfl rfl ?_
        refine wpL_done (fun W15 hW15 => ?_)
        refine (show Code.wp _ _ _ _ _ from ?_)
        refine wp_seq ?_
        refine wp_seq ?_
        refine wp_region_L (W0 := w) [(g5, .cells #[.int .u8 40, .bool false, .bool false] 60 (0, 0)), (g4, .cells #[.int .u8 20, .bool false, .bool true] 60 (0, 0)), (g3, .cells #[.int .u8 20, .bool false, .bool false] 60 (0, 0)), (g2, .cells #[strV [50, 50, 71, 49], strV [50, 50, 82, 49], strV [52, 50, 71, 49], strV [52, 50, 82, 49], strV [52, 53, 71, 49], strV [52, 53, 82, 49]] 9 (0, 0)), (g1, .cells #[.int .u8 ((n : Nat) : Int), .bool h, .bool r] 60 (0, 0))] (hW15) ?_
        refine lm (v := .int .i64 3) rfl rfl ?_
        refine lm (v := .slice (some ⟨g2, 0, none⟩) 6 6) rfl rfl ?_
        refine lm (v := .int .i64 6) rfl rfl ?_
        refine lm (v := .bool true) rfl rfl ?_
        refine wpL_done (fun W16 hW16 => ?_)
        refine (show Code.wp _ _ _ _ _ from ?_)
        refine wp_cond_true rfl ?_
        refine wp_skip ?_
        refine (show Code.wp _ _ _ _ _ from ?_)
        refine wp_seq ?_
        refine wp_block ?_
        refine wp_seq ?_
        refine wp_region_L (W0 := w) [(g5, .cells #[.int .u8 40, .bool false, .bool false] 60 (0, 0)), (g4, .cells #[.int .u8 20, .bool false, .bool true] 60 (0, 0)), (g3, .cells #[.int .u8 20, .bool false, .bool false] 60 (0, 0)), (g2, .cells #[strV [50, 50, 71, 49], strV [50, 50, 82, 49], strV [52, 50, 71, 49], strV [52, 50, 82, 49], strV [52, 53, 71, 49], strV [52, 53, 82, 49]] 9 (0, 0)), (g1, .cells #[.int .u8 ((n : Nat) : Int), .bool h, .bool r] 60 (0, 0))] (hW16) ?_
        refine lm (v := .slice (some ⟨g2, 0, none⟩) 6 6) rfl rfl ?_
        refine lm (v := .int .i64 3) rfl rfl ?_
        refine lm (v := .pointer (some ⟨g2, 3, none⟩)) rfl rfl ?_
        refine lv (v := strV [52, 50, 82, 49]) rfl rfl (yb_cell (off := 3) rfl (by kernel_rfl) (.tail _ (.tail _ (.tail _ (.head _)))) Tryd.underlying9 rfl (by kernel_rfl)) ?_
        refine lv (v := .tuple #[.agg #[.int .u8 40, .bool false, .bool true], .int .i64 0]) rfl rfl (yb_call (f := 31) (args := #[strV [52, 50, 82, 49]]) (fun _ => by kernel_rfl) fun W hW => rsize_at W (by kernel_rfl)) ?_
        refine lm (v := .tuple #[.agg #[.int .u8 40, .bool false, .bool true], .int .i64 0]) rfl rfl ?_
        refine lm (v := .agg #[.int .u8 40, .bool false, .bool true]) rfl rfl ?_
        refine lm (v := .int .i64 0) rfl rfl ?_
        refine wpL_new (fun g => .pointer (some ⟨g, 0, none⟩)) (obi := .cells #[.int .u8 0, .bool false, .bool false] 60 (0, 0)) rfl rfl (fun _ => by kernel_rfl) (fun _ => by simp only [List.setIfInBounds_toArray, List.set_cons_succ, List.set_cons_zero] <;> rfl) fun g6 Bg6 Fg6 => ?_
        refine wpL_s [(g6, .cells #[.int .u8 40, .bool false, .bool true] 60 (0, 0)), (g5, .cells #[.int .u8 40, .bool false, .bool false] 60 (0, 0)), (g4, .cells #[.int .u8 20, .bool false, .bool true] 60 (0, 0)), (g3, .cells #[.int .u8 20, .bool false, .bool false] 60 (0, 0)), (g2, .cells #[strV [50, 50, 71, 49], strV [50, 50, 82, 49], strV [52, 50, 71, 49], strV [52, 50, 82, 49], strV [52, 53, 71, 49], strV [52, 53, 82, 49]] 9 (0, 0)), (g1, .cells #[.int .u8 ((n : Nat) : Int), .bool h, .bool r] 60 (0, 0))] rfl rfl (st_row (off := 0) (v := .agg #[.int .u8 40, .bool false, .bool true]) rfl (by kernel_rfl) (by kernel_rfl) (.head _) Bg6 (by kernel_rfl) (by simp [Value.cells]) (by intro v hv; simp [Value.cells] at hv; first | (subst hv; rfl) | (rcases hv with rfl | rfl | rfl <;> rfl)) (by kernel_rfl) (List.forall_mem_cons.2 ⟨.inl rfl, (List.forall_mem_cons.2 ⟨.inr ⟨(.tail _ (.head _)), (Fg6 _ (.head _))⟩, (List.forall_mem_cons.2 ⟨.inr ⟨(.tail _ (.tail _ (.head _))), (Fg6 _ (.tail _ (.head _)))⟩, (List.forall_mem_cons.2 ⟨.inr ⟨(.tail _ (.tail _ (.tail _ (.head _)))), (Fg6 _ (.tail _ (.tail _ (.head _))))⟩, (List.forall_mem_cons.2 ⟨.inr ⟨(.tail _ (.tail _ (.tail _ (.tail _ (.head _))))), (Fg6 _ (.tail _ (.tail _ (.tail _ (.head _)))))⟩, (List.forall_mem_cons.2 ⟨.inr ⟨(.tail _ (.tail _ (.tail _ (.tail _ (.tail _ (.head _)))))), (Fg6 _ (.tail _ (.tail _ (.tail _ (.tail _ (.head _))))))⟩, (List.forall_mem_nil _)⟩)⟩)⟩)⟩)⟩)⟩)) ?_
        refine lm (v := .int .i64 0) rfl rfl ?_
        refine wpL_done (fun W17 hW17 => ?_)
        refine (show Code.wp _ _ _ _ _ from ?_)
        refine wp_seq ?_
        refine wp_region_L (W0 := w) [(g6, .cells #[.int .u8 40, .bool false, .bool true] 60 (0, 0)), (g5, .cells #[.int .u8 40, .bool false, .bool false] 60 (0, 0)), (g4, .cells #[.int .u8 20, .bool false, .bool true] 60 (0, 0)), (g3, .cells #[.int .u8 20, .bool false, .bool false] 60 (0, 0)), (g2, .cells #[strV [50, 50, 71, 49], strV [50, 50, 82, 49], strV [52, 50, 71, 49], strV [52, 50, 82, 49], strV [52, 53, 71, 49], strV [52, 53, 82, 49]] 9 (0, 0)), (g1, .cells #[.int .u8 ((n : Nat) : Int), .bool h, .bool r] 60 (0, 0))] (hW17) ?_
        refine lv (v := .agg #[.int .u8 40, .bool false, .bool true]) rfl rfl (yb_load (n := 3) (off := 0) rfl (by kernel_rfl) (.head _) Tryd.underlying60 rfl (by kernel_rfl) (by simp) (by kernel_rfl)) ?_
        refine lv (v := .agg #[.int .u8 ((n : Nat) : Int), .bool h, .bool r]) rfl rfl (yb_load (n := 3) (off := 0) rfl (by kernel_rfl) (.tail _ (.tail _ (.tail _ (.tail _ (.tail _ (.head _)))))) Tryd.underlying60 rfl (by kernel_rfl) (by simp) (by kernel_rfl)) ?_
        refine lp (v := .bool (decide (40 = n ∧ false = h ∧ true = r))) rfl rfl (run_bin rfl (vx := .agg #[.int .u8 ((40 : Nat) : Int), .bool false, .bool true]) (vy := .agg #[.int .u8 ((n : Nat) : Int), .bool h, .bool r]) (by kernel_rfl) (by kernel_rfl) fun w => eq_rkind rfl w) ?_
        refine wpL_done (fun W18 hW18 => ?_)
        refine (show Code.wp _ _ _ _ _ from ?_)
        cases hd4 : (decide (40 = n ∧ false = h ∧ true = r)) with
        | false =>
          have h4 : ¬ (40 = n ∧ false = h ∧ true = r) := of_decide_eq_false hd4
          clear hd4
          refine wp_cond_false rfl ?_
          refine wp_skip ?_
          refine (show Code.wp _ _ _ _ _ from ?_)
          refine wp_region_L (W0 := w) [(g6, .cells #[.int .u8 40, .bool false, .bool true] 60 (0, 0)), (g5, .cells #[.int .u8 40, .bool false, .bool false] 60 (0, 0)), (g4, .cells #[.int .u8 20, .bool false, .bool true] 60 (0, 0)), (g3, .cells #[.int .u8 20, .bool false, .bool false] 60 (0, 0)), (g2, .cells #[strV [50, 50, 71, 49], strV [50, 50, 82, 49], strV [52, 50, 71, 49], strV [52, 50, 82, 49], strV [52, 53, 71, 49], strV [52, 53, 82, 49]] 9 (0, 0)), (g1, .cells #[.int .u8 ((n : Nat) : Int), .bool h, .bool r] 60 (0, 0))] (hW18) ?_
          refine lm (v := .int .i64 3) rfl rfl ?_
          refine lm (v := .int .i64 4) rfl rfl ?_
          refine lm (v := .int .i64 4) rfl rfl ?_
          refine wpL_done (fun W19 hW19 => ?_)
          refine (show Code.wp _ _ _ _ _ from ?_)
          refine wp_seq ?_
          refine wp_seq ?_
          refine wp_region_L (W0 := w) [(g6, .cells #[.int .u8 40, .bool false, .bool true] 60 (0, 0)), (g5, .cells #[.int .u8 40, .bool false, .bool false] 60 (0, 0)), (g4, .cells #[.int .u8 20, .bool false, .bool true] 60 (0, 0)), (g3, .cells #[.int .u8 20, .bool false, .bool false] 60 (0, 0)), (g2, .cells #[strV [50, 50, 71, 49], strV [50, 50, 82, 49], strV [52, 50, 71, 49], strV [52, 50, 82, 49], strV [52, 53, 71, 49], strV [52, 53, 82, 49]] 9 (0, 0)), (g1, .cells #[.int .u8 ((n : Nat) : Int), .bool h, .bool r] 60 (0, 0))] (hW19) ?_
          refine lm (v := .int .i64 4) rfl rfl ?_
          refine lm (v := .slice (some ⟨g2, 0, none⟩) 6 6) rfl rfl ?_
          refine lm (v := .int .i64 6) rfl rfl ?_
          refine lm (v := .bool true) rfl rfl ?_
          refine wpL_done (fun W20 hW20 => ?_)
          refine (show Code.wp _ _ _ _ _ from ?_)
          refine wp_cond_true rfl ?_
          refine wp_skip ?_
          refine (show Code.wp _ _ _ _ _ from ?_)
          refine wp_seq ?_
          refine wp_block ?_
          refine wp_seq ?_
          refine wp_region_L (W0 := w) [(g6, .cells #[.int .u8 40, .bool false, .bool true] 60 (0, 0)), (g5, .cells #[.int .u8 40, .bool false, .bool false] 60 (0, 0)), (g4, .cells #[.int .u8 20, .bool false, .bool true] 60 (0, 0)), (g3, .cells #[.int .u8 20, .bool false, .bool false] 60 (0, 0)), (g2, .cells #[strV [50, 50, 71, 49], strV [50, 50, 82, 49], strV [52, 50, 71, 49], strV [52, 50, 82, 49], strV [52, 53, 71, 49], strV [52, 53, 82, 49]] 9 (0, 0)), (g1, .cells #[.int .u8 ((n : Nat) : Int), .bool h, .bool r] 60 (0, 0))] (hW20) ?_
          refine lm (v := .slice (some ⟨g2, 0, none⟩) 6 6) rfl rfl ?_
          refine lm (v := .int .i64 4) rfl rfl ?_
          refine lm (v := .pointer (some ⟨g2, 4, none⟩)) rfl rfl ?_
          refine lv (v := strV [52, 53, 71, 49]) rfl rfl (yb_cell (off := 4) rfl (by kernel_rfl) (.tail _ (.tail _ (.tail _ (.tail _ (.head _))))) Tryd.underlying9 rfl (by kernel_rfl)) ?_
          refine lv (v := .tuple #[.agg #[.int .u8 40, .bool true, .bool false], .int .i64 0]) rfl rfl (yb_call (f := 31) (args := #[strV [52, 53, 71, 49]]) (fun _ => by kernel_rfl) fun W hW => rsize_at W (by kernel_rfl)) ?_
          refine lm (v := .tuple #[.agg #[.int .u8 40, .bool true, .bool false], .int .i64 0]) rfl rfl ?_
          refine lm (v := .agg #[.int .u8 40, .bool true, .bool false]) rfl rfl ?_
          refine lm (v := .int .i64 0) rfl rfl ?_
          refine wpL_new (fun g => .pointer (some ⟨g, 0, none⟩)) (obi := .cells #[.int .u8 0, .bool false, .bool false] 60 (0, 0)) rfl rfl (fun _ => by kernel_rfl) (fun _ => by simp only [List.setIfInBounds_toArray, List.set_cons_succ, List.set_cons_zero] <;> rfl) fun g7 Bg7 Fg7 => ?_
          refine wpL_s [(g7, .cells #[.int .u8 40, .bool true, .bool false] 60 (0, 0)), (g6, .cells #[.int .u8 40, .bool false, .bool true] 60 (0, 0)), (g5, .cells #[.int .u8 40, .bool false, .bool false] 60 (0, 0)), (g4, .cells #[.int .u8 20, .bool false, .bool true] 60 (0, 0)), (g3, .cells #[.int .u8 20, .bool false, .bool false] 60 (0, 0)), (g2, .cells #[strV [50, 50, 71, 49], strV [50, 50, 82, 49], strV [52, 50, 71, 49], strV [52, 50, 82, 49], strV [52, 53, 71, 49], strV [52, 53, 82, 49]] 9 (0, 0)), (g1, .cells #[.int .u8 ((n : Nat) : Int), .bool h, .bool r] 60 (0, 0))] rfl rfl (st_row (off := 0) (v := .agg #[.int .u8 40, .bool true, .bool false]) rfl (by kernel_rfl) (by kernel_rfl) (.head _) Bg7 (by kernel_rfl) (by simp [Value.cells]) (by intro v hv; simp [Value.cells] at hv; first | (subst hv; rfl) | (rcases hv with rfl | rfl | rfl <;> rfl)) (by kernel_rfl) (List.forall_mem_cons.2 ⟨.inl rfl, (List.forall_mem_cons.2 ⟨.inr ⟨(.tail _ (.head _)), (Fg7 _ (.head _))⟩, (List.forall_mem_cons.2 ⟨.inr ⟨(.tail _ (.tail _ (.head _))), (Fg7 _ (.tail _ (.head _)))⟩, (List.forall_mem_cons.2 ⟨.inr ⟨(.tail _ (.tail _ (.tail _ (.head _)))), (Fg7 _ (.tail _ (.tail _ (.head _))))⟩, (List.forall_mem_cons.2 ⟨.inr ⟨(.tail _ (.tail _ (.tail _ (.tail _ (.head _))))), (Fg7 _ (.tail _ (.tail _ (.tail _ (.head _)))))⟩, (List.forall_mem_cons.2 ⟨.inr ⟨(.tail _ (.tail _ (.tail _ (.tail _ (.tail _ (.head _)))))), (Fg7 _ (.tail _ (.tail _ (.tail _ (.tail _ (.head _))))))⟩, (List.forall_mem_cons.2 ⟨.inr ⟨(.tail _ (.tail _ (.tail _ (.tail _ (.tail _ (.tail _ (.head _))))))), (Fg7 _ (.tail _ (.tail _ (.tail _ (.tail _ (.tail _ (.head _)))))))⟩, (List.forall_mem_nil _)⟩)⟩)⟩)⟩)⟩)⟩)⟩)) ?_
          refine lm (v := .int .i64 0) rfl rfl ?_
          refine wpL_done (fun W21 hW21 => ?_)
          refine (show Code.wp _ _ _ _ _ from ?_)
          refine wp_seq ?_
          refine wp_region_L (W0 := w) [(g7, .cells #[.int .u8 40, .bool true, .bool false] 60 (0, 0)), (g6, .cells #[.int .u8 40, .bool false, .bool true] 60 (0, 0)), (g5, .cells #[.int .u8 40, .bool false, .bool false] 60 (0, 0)), (g4, .cells #[.int .u8 20, .bool false, .bool true] 60 (0, 0)), (g3, .cells #[.int .u8 20, .bool false, .bool false] 60 (0, 0)), (g2, .cells #[strV [50, 50, 71, 49], strV [50, 50, 82, 49], strV [52, 50, 71, 49], strV [52, 50, 82, 49], strV [52, 53, 71, 49], strV [52, 53, 82, 49]] 9 (0, 0)), (g1, .cells #[.int .u8 ((n : Nat) : Int), .bool h, .bool r] 60 (0, 0))] (hW21) ?_
          refine lv (v := .agg #[.int .u8 40, .bool true, .bool false]) rfl rfl (yb_load (n := 3) (off := 0) rfl (by kernel_rfl) (.head _) Tryd.underlying60 rfl (by kernel_rfl) (by simp) (by kernel_rfl)) ?_
          refine lv (v := .agg #[.int .u8 ((n : Nat) : Int), .bool h, .bool r]) rfl rfl (yb_load (n := 3) (off := 0) rfl (by kernel_rfl) (.tail _ (.tail _ (.tail _ (.tail _ (.tail _ (.tail _ (.head _))))))) Tryd.underlying60 rfl (by kernel_rfl) (by simp) (by kernel_rfl)) ?_
          refine lp (v := .bool (decide (40 = n ∧ true = h ∧ false = r))) rfl rfl (run_bin rfl (vx := .agg #[.int .u8 ((40 : Nat) : Int), .bool true, .bool false]) (vy := .agg #[.int .u8 ((n : Nat) : Int), .bool h, .bool r]) (by kernel_rfl) (by kernel_rfl) fun w => eq_rkind rfl w) ?_
          refine wpL_done (fun W22 hW22 => ?_)
          refine (show Code.wp _ _ _ _ _ from ?_)
          cases hd5 : (decide (40 = n ∧ true = h ∧ false = r)) with
          | false =>
            have h5 : ¬ (40 = n ∧ true = h ∧ false = r) := of_decide_eq_false hd5
            clear hd5
            refine wp_cond_false rfl ?_
            refine wp_skip ?_
            refine (show Code.wp _ _ _ _ _ from ?_)
            refine wp_region_L (W0 := w) [(g7, .cells #[.int .u8 40, .bool true, .bool false] 60 (0, 0)), (g6, .cells #[.int .u8 40, .bool false, .bool true] 60 (0, 0)), (g5, .cells #[.int .u8 40, .bool false, .bool false] 60 (0, 0)), (g4, .cells #[.int .u8 20, .bool false, .bool true] 60 (0, 0)), (g3, .cells #[.int .u8 20, .bool false, .bool false] 60 (0, 0)), (g2, .cells #[strV [50, 50, 71, 49], strV [50, 50, 82, 49], strV [52, 50, 71, 49], strV [52, 50, 82, 49], strV [52, 53, 71, 49], strV [52, 53, 82, 49]] 9 (0, 0)), (g1, .cells #[.int .u8 ((n : Nat) : Int), .bool h, .bool r] 60 (0, 0))] (hW22) ?_
            refine lm (v := .int .i64 4) rfl rfl ?_
            refine lm (v := .int .i64 5) rfl rfl ?_
            refine lm (v := .int .i64 5) rfl rfl ?_
            refine wpL_done (fun W23 hW23 => ?_)
            refine (show Code.wp _ _ _ _ _ from ?_)
            refine wp_seq ?_
            refine wp_seq ?_
            refine wp_region_L (W0 := w) [(g7, .cells #[.int .u8 40, .bool true, .bool false] 60 (0, 0)), (g6, .cells #[.int .u8 40, .bool false, .bool true] 60 (0, 0)), (g5, .cells #[.int .u8 40, .bool false, .bool false] 60 (0, 0)), (g4, .cells #[.int .u8 20, .bool false, .bool true] 60 (0, 0)), (g3, .cells #[.int .u8 20, .bool false, .bool false] 60 (0, 0)), (g2, .cells #[strV [50, 50, 71, 49], strV [50, 50, 82, 49], strV [52, 50, 71, 49], strV [52, 50, 82, 49], strV [52, 53, 71, 49], strV [52, 53, 82, 49]] 9 (0, 0)), (g1, .cells #[.int .u8 ((n : Nat) : Int), .bool h, .bool r] 60 (0, 0))] (hW23) ?_
            refine lm (v := .int .i64 5) rfl rfl ?_
            refine lm (v := .slice (some ⟨g2, 0, none⟩) 6 6) rfl rfl ?_
            refine lm (v := .int .i64 6) rfl rfl ?_
            refine lm (v := .bool true) rfl rfl ?_
            refine wpL_done (fun W24 hW24 => ?_)
            refine (show Code.wp _ _ _ _ _ from ?_)
            refine wp_cond_true rfl ?_
            refine wp_skip ?_
            refine (show Code.wp _ _ _ _ _ from ?_)
            refine wp_seq ?_
            refine wp_block ?_
            refine wp_seq ?_
            refine wp_region_L (W0 := w) [(g7, .cells #[.int .u8 40, .bool true, .bool false] 60 (0, 0)), (g6, .cells #[.int .u8 40, .bool false, .bool true] 60 (0, 0)), (g5, .cells #[.int .u8 40, .bool false, .bool false] 60 (0, 0)), (g4, .cells #[.int .u8 20, .bool false, .bool true] 60 (0, 0)), (g3, .cells #[.int .u8 20, .bool false, .bool false] 60 (0, 0)), (g2, .cells #[strV [50, 50, 71, 49], strV [50, 50, 82, 49], strV [52, 50, 71, 49], strV [52, 50, 82, 49], strV [52, 53, 71, 49], strV [52, 53, 82, 49]] 9 (0, 0)), (g1, .cells #[.int .u8 ((n : Nat) : Int), .bool h, .bool r] 60 (0, 0))] (hW24) ?_
            refine lm (v := .slice (some ⟨g2, 0, none⟩) 6 6) rfl rfl ?_
            refine lm (v := .int .i64 5) rfl rfl ?_
            refine lm (v := .pointer (some ⟨g2, 5, none⟩)) rfl rfl ?_
            refine lv (v := strV [52, 53, 82, 49]) rfl rfl (yb_cell (off := 5) rfl (by kernel_rfl) (.tail _ (.tail _ (.tail _ (.tail _ (.tail _ (.head _)))))) Tryd.underlying9 rfl (by kernel_rfl)) ?_
            refine lv (v := .tuple #[.agg #[.int .u8 40, .bool true, .bool true], .int .i64 0]) rfl rfl (yb_call (f := 31) (args := #[strV [52, 53, 82, 49]]) (fun _ => by kernel_rfl) fun W hW => rsize_at W (by kernel_rfl)) ?_
            refine lm (v := .tuple #[.agg #[.int .u8 40, .bool true, .bool true], .int .i64 0]) rfl rfl ?_
            refine lm (v := .agg #[.int .u8 40, .bool true, .bool true]) rfl rfl ?_
            refine lm (v := .int .i64 0) rfl rfl ?_
            refine wpL_new (fun g => .pointer (some ⟨g, 0, none⟩)) (obi := .cells #[.int .u8 0, .bool false, .bool false] 60 (0, 0)) rfl rfl (fun _ => by kernel_rfl) (fun _ => by simp only [List.setIfInBounds_toArray, List.set_cons_succ, List.set_cons_zero] <;> rfl) fun g8 Bg8 Fg8 => ?_
            refine wpL_s [(g8, .cells #[.int .u8 40, .bool true, .bool true] 60 (0, 0)), (g7, .cells #[.int .u8 40, .bool true, .bool false] 60 (0, 0)), (g6, .cells #[.int .u8 40, .bool false, .bool true] 60 (0, 0)), (g5, .cells #[.int .u8 40, .bool false, .bool false] 60 (0, 0)), (g4, .cells #[.int .u8 20, .bool false, .bool true] 60 (0, 0)), (g3, .cells #[.int .u8 20, .bool false, .bool false] 60 (0, 0)), (g2, .cells #[strV [50, 50, 71, 49], strV [50, 50, 82, 49], strV [52, 50, 71, 49], strV [52, 50, 82, 49], strV [52, 53, 71, 49], strV [52, 53, 82, 49]] 9 (0, 0)), (g1, .cells #[.int .u8 ((n : Nat) : Int), .bool h, .bool r] 60 (0, 0))] rfl rfl (st_row (off := 0) (v := .agg #[.int .u8 40, .bool true, .bool true]) rfl (by kernel_rfl) (by kernel_rfl) (.head _) Bg8 (by kernel_rfl) (by simp [Value.cells]) (by intro v hv; simp [Value.cells] at hv; first | (subst hv; rfl) | (rcases hv with rfl | rfl | rfl <;> rfl)) (by kernel_rfl) (List.forall_mem_cons.2 ⟨.inl rfl, (List.forall_mem_cons.2 ⟨.inr ⟨(.tail _ (.head _)), (Fg8 _ (.head _))⟩, (List.forall_mem_cons.2 ⟨.inr ⟨(.tail _ (.tail _ (.head _))), (Fg8 _ (.tail _ (.head _)))⟩, (List.forall_mem_cons.2 ⟨.inr ⟨(.tail _ (.tail _ (.tail _ (.head _)))), (Fg8 _ (.tail _ (.tail _ (.head _))))⟩, (List.forall_mem_cons.2 ⟨.inr ⟨(.tail _ (.tail _ (.tail _ (.tail _ (.head _))))), (Fg8 _ (.tail _ (.tail _ (.tail _ (.head _)))))⟩, (List.forall_mem_cons.2 ⟨.inr ⟨(.tail _ (.tail _ (.tail _ (.tail _ (.tail _ (.head _)))))), (Fg8 _ (.tail _ (.tail _ (.tail _ (.tail _ (.head _))))))⟩, (List.forall_mem_cons.2 ⟨.inr ⟨(.tail _ (.tail _ (.tail _ (.tail _ (.tail _ (.tail _ (.head _))))))), (Fg8 _ (.tail _ (.tail _ (.tail _ (.tail _ (.tail _ (.head _)))))))⟩, (List.forall_mem_cons.2 ⟨.inr ⟨(.tail _ (.tail _ (.tail _ (.tail _ (.tail _ (.tail _ (.tail _ (.head _)))))))), (Fg8 _ (.tail _ (.tail _ (.tail _ (.tail _ (.tail _ (.tail _ (.head _))))))))⟩, (List.forall_mem_nil _)⟩)⟩)⟩)⟩)⟩)⟩)⟩)⟩)) ?_
            refine lm (v := .int .i64 0) rfl rfl ?_
            refine wpL_done (fun W25 hW25 => ?_)
            refine (show Code.wp _ _ _ _ _ from ?_)
            refine wp_seq ?_
            refine wp_region_L (W0 := w) [(g8, .cells #[.int .u8 40, .bool true, .bool true] 60 (0, 0)), (g7, .cells #[.int .u8 40, .bool true, .bool false] 60 (0, 0)), (g6, .cells #[.int .u8 40, .bool false, .bool true] 60 (0, 0)), (g5, .cells #[.int .u8 40, .bool false, .bool false] 60 (0, 0)), (g4, .cells #[.int .u8 20, .bool false, .bool true] 60 (0, 0)), (g3, .cells #[.int .u8 20, .bool false, .bool false] 60 (0, 0)), (g2, .cells #[strV [50, 50, 71, 49], strV [50, 50, 82, 49], strV [52, 50, 71, 49], strV [52, 50, 82, 49], strV [52, 53, 71, 49], strV [52, 53, 82, 49]] 9 (0, 0)), (g1, .cells #[.int .u8 ((n : Nat) : Int), .bool h, .bool r] 60 (0, 0))] (hW25) ?_
            refine lv (v := .agg #[.int .u8 40, .bool true, .bool true]) rfl rfl (yb_load (n := 3) (off := 0) rfl (by kernel_rfl) (.head _) Tryd.underlying60 rfl (by kernel_rfl) (by simp) (by kernel_rfl)) ?_
            refine lv (v := .agg #[.int .u8 ((n : Nat) : Int), .bool h, .bool r]) rfl rfl (yb_load (n := 3) (off := 0) rfl (by kernel_rfl) (.tail _ (.tail _ (.tail _ (.tail _ (.tail _ (.tail _ (.tail _ (.head _)))))))) Tryd.underlying60 rfl (by kernel_rfl) (by simp) (by kernel_rfl)) ?_
            refine lp (v := .bool (decide (40 = n ∧ true = h ∧ true = r))) rfl rfl (run_bin rfl (vx := .agg #[.int .u8 ((40 : Nat) : Int), .bool true, .bool true]) (vy := .agg #[.int .u8 ((n : Nat) : Int), .bool h, .bool r]) (by kernel_rfl) (by kernel_rfl) fun w => eq_rkind rfl w) ?_
            refine wpL_done (fun W26 hW26 => ?_)
            refine (show Code.wp _ _ _ _ _ from ?_)
            cases hd6 : (decide (40 = n ∧ true = h ∧ true = r)) with
            | false =>
              have h6 : ¬ (40 = n ∧ true = h ∧ true = r) := of_decide_eq_false hd6
              clear hd6
              refine wp_cond_false rfl ?_
              refine wp_skip ?_
              refine (show Code.wp _ _ _ _ _ from ?_)
              refine wp_region_L (W0 := w) [(g8, .cells #[.int .u8 40, .bool true, .bool true] 60 (0, 0)), (g7, .cells #[.int .u8 40, .bool true, .bool false] 60 (0, 0)), (g6, .cells #[.int .u8 40, .bool false, .bool true] 60 (0, 0)), (g5, .cells #[.int .u8 40, .bool false, .bool false] 60 (0, 0)), (g4, .cells #[.int .u8 20, .bool false, .bool true] 60 (0, 0)), (g3, .cells #[.int .u8 20, .bool false, .bool false] 60 (0, 0)), (g2, .cells #[strV [50, 50, 71, 49], strV [50, 50, 82, 49], strV [52, 50, 71, 49], strV [52, 50, 82, 49], strV [52, 53, 71, 49], strV [52, 53, 82, 49]] 9 (0, 0)), (g1, .cells #[.int .u8 ((n : Nat) : Int), .bool h, .bool r] 60 (0, 0))] (hW26) ?_
              refine lm (v := .int .i64 5) rfl rfl ?_
              refine lm (v := .int .i64 6) rfl rfl ?_
              refine lm (v := .int .i64 6) rfl rfl ?_
              refine wpL_done (fun W27 hW27 => ?_)
              refine (show Code.wp _ _ _ _ _ from ?_)
              refine wp_seq ?_
              refine wp_seq ?_
              refine wp_region_L (W0 := w) [(g8, .cells #[.int .u8 40, .bool true, .bool true] 60 (0, 0)), (g7, .cells #[.int .u8 40, .bool true, .bool false] 60 (0, 0)), (g6, .cells #[.int .u8 40, .bool false, .bool true] 60 (0, 0)), (g5, .cells #[.int .u8 40, .bool false, .bool false] 60 (0, 0)), (g4, .cells #[.int .u8 20, .bool false, .bool true] 60 (0, 0)), (g3, .cells #[.int .u8 20, .bool false, .bool false] 60 (0, 0)), (g2, .cells #[strV [50, 50, 71, 49], strV [50, 50, 82, 49], strV [52, 50, 71, 49], strV [52, 50, 82, 49], strV [52, 53, 71, 49], strV [52, 53, 82, 49]] 9 (0, 0)), (g1, .cells #[.int .u8 ((n : Nat) : Int), .bool h, .bool r] 60 (0, 0))] (hW27) ?_
              refine lm (v := .int .i64 6) rfl rfl ?_
              refine lm (v := .slice (some ⟨g2, 0, none⟩) 6 6) rfl rfl ?_
              refine lm (v := .int .i64 6) rfl rfl ?_
              refine lm (v := .bool false) rfl rfl ?_
              refine wpL_done (fun W28 hW28 => ?_)
              refine (show Code.wp _ _ _ _ _ from ?_)
              refine wp_cond_false rfl ?_
              refine wp_exit ?_
              refine (show Code.wp _ _ _ _ _ from ?_)
              refine wp_seq ?_
              refine wp_region_L (W0 := w) [(g8, .cells #[.int .u8 40, .bool true, .bool true] 60 (0, 0)), (g7, .cells #[.int .u8 40, .bool true, .bool false] 60 (0, 0)), (g6, .cells #[.int .u8 40, .bool false, .bool true] 60 (0, 0)), (g5, .cells #[.int .u8 40, .bool false, .bool false] 60 (0, 0)), (g4, .cells #[.int .u8 20, .bool false, .bool true] 60 (0, 0)), (g3, .cells #[.int .u8 20, .bool false, .bool false] 60 (0, 0)), (g2, .cells #[strV [50, 50, 71, 49], strV [50, 50, 82, 49], strV [52, 50, 71, 49], strV [52, 50, 82, 49], strV [52, 53, 71, 49], strV [52, 53, 82, 49]] 9 (0, 0)), (g1, .cells #[.int .u8 ((n : Nat) : Int), .bool h, .bool r] 60 (0, 0))] (hW28) ?_
              refine lm (v := strV []) rfl rfl ?_
              refine lm (v := .int .i64 32) rfl rfl ?_
              refine wpL_done (fun W29 hW29 => ?_)
              refine (show Code.wp _ _ _ _ _ from ?_)
              refine wp_ret ?_
              try simp only [inBlock_ret, then_ret]
              refine bodyPost_ret (v := .tuple #[strV [], .int .i64 32]) ?_ rfl ?_
              · kernel_rfl
              · exact ⟨(by unfold codeV; rw [if_neg h1, if_neg h2, if_neg h3, if_neg h4, if_neg h5, if_neg h6]), hW29.1⟩
            | true =>
              have h6 : 40 = n ∧ true = h ∧ true = r := of_decide_eq_true hd6
              clear hd6
              refine wp_cond_true rfl ?_
              refine wp_seq ?_
              refine wp_region_L (W0 := w) [(g8, .cells #[.int .u8 40, .bool true, .bool true] 60 (0, 0)), (g7, .cells #[.int .u8 40, .bool true, .bool false] 60 (0, 0)), (g6, .cells #[.int .u8 40, .bool false, .bool true] 60 (0, 0)), (g5, .cells #[.int .u8 40, .bool false, .bool false] 60 (0, 0)), (g4, .cells #[.int .u8 20, .bool false, .bool true] 60 (0, 0)), (g3, .cells #[.int .u8 20, .bool false, .bool false] 60 (0, 0)), (g2, .cells #[strV [50, 50, 71, 49], strV [50, 50, 82, 49], strV [52, 50, 71, 49], strV [52, 50, 82, 49], strV [52, 53, 71, 49], strV [52, 53, 82, 49]] 9 (0, 0)), (g1, .cells #[.int .u8 ((n : Nat) : Int), .bool h, .bool r] 60 (0, 0))] (hW26) ?_
              refine lm (v := .slice (some ⟨g2, 0, none⟩) 6 6) rfl rfl ?_
              refine lm (v := .int .i64 5) rfl rfl ?_
              refine lm (v := .pointer (some ⟨g2, 5, none⟩)) rfl rfl ?_
              refine lv (v := strV [52, 53, 82, 49]) rfl rfl (yb_cell (off := 5) rfl (by kernel_rfl) (.tail _ (.tail _ (.tail _ (.tail _ (.tail _ (.tail _ (.head _))))))) Tryd.underlying9 rfl (by kernel_rfl)) ?_
              refine lm (v := strV [52, 53, 82, 49]) rfl rfl ?_
              refine lm (v := .int .i64 0) rfl rfl ?_
              refine wpL_done (fun W30 hW30 => ?_)
              refine (show Code.wp _ _ _ _ _ from ?_)
              refine wp_ret ?_
              try simp only [inBlock_ret, then_ret]
              refine bodyPost_ret (v := .tuple #[strV [52, 53, 82, 49], .int .i64 0]) ?_ rfl ?_
              · kernel_rfl
              · exact ⟨(by unfold codeV; rw [if_neg h1, if_neg h2, if_neg h3, if_neg h4, if_neg h5, if_pos h6]), hW30.1⟩
          | true =>
            have h5 : 40 = n ∧ true = h ∧ false = r := of_decide_eq_true hd5
            clear hd5
            refine wp_cond_true rfl ?_
            refine wp_seq ?_
            refine wp_region_L (W0 := w) [(g7, .cells #[.int .u8 40, .bool true, .bool false] 60 (0, 0)), (g6, .cells #[.int .u8 40, .bool false, .bool true] 60 (0, 0)), (g5, .cells #[.int .u8 40, .bool false, .bool false] 60 (0, 0)), (g4, .cells #[.int .u8 20, .bool false, .bool true] 60 (0, 0)), (g3, .cells #[.int .u8 20, .bool false, .bool false] 60 (0, 0)), (g2, .cells #[strV [50, 50, 71, 49], strV [50, 50, 82, 49], strV [52, 50, 71, 49], strV [52, 50, 82, 49], strV [52, 53, 71, 49], strV [52, 53, 82, 49]] 9 (0, 0)), (g1, .cells #[.int .u8 ((n : Nat) : Int), .bool h, .bool r] 60 (0, 0))] (hW22) ?_
            refine lm (v := .slice (some ⟨g2, 0, none⟩) 6 6) rfl rfl ?_
            refine lm (v := .int .i64 4) rfl rfl ?_
            refine lm (v := .pointer (some ⟨g2, 4, none⟩)) rfl rfl ?_
            refine lv (v := strV [52, 53, 71, 49]) rfl rfl (yb_cell (off := 4) rfl (by kernel_rfl) (.tail _ (.tail _ (.tail _ (.tail _ (.tail _ (.head _)))))) Tryd.underlying9 rfl (by kernel_rfl)) ?_
            refine lm (v := strV [52, 53, 71, 49]) rfl rfl ?_
            refine lm (v := .int .i64 0) rfl rfl ?_
            refine wpL_done (fun W31 hW31 => ?_)
            refine (show Code.wp _ _ _ _ _ from ?_)
            refine wp_ret ?_
            try simp only [inBlock_ret, then_ret]
            refine bodyPost_ret (v := .tuple #[strV [52, 53, 71, 49], .int .i64 0]) ?_ rfl ?_
            · kernel_rfl
            · exact ⟨(by unfold codeV; rw [if_neg h1, if_neg h2, if_neg h3, if_neg h4, if_pos h5]), hW31.1⟩
        | true =>
          have h4 : 40 = n ∧ false = h ∧ true = r := of_decide_eq_true hd4
          clear hd4
          refine wp_cond_true rfl ?_
          refine wp_seq ?_
          refine wp_region_L (W0 := w) [(g6, .cells #[.int .u8 40, .bool false, .bool true] 60 (0, 0)), (g5, .cells #[.int .u8 40, .bool false, .bool false] 60 (0, 0)), (g4, .cells #[.int .u8 20, .bool false, .bool true] 60 (0, 0)), (g3, .cells #[.int .u8 20, .bool false, .bool false] 60 (0, 0)), (g2, .cells #[strV [50, 50, 71, 49], strV [50, 50, 82, 49], strV [52, 50, 71, 49], strV [52, 50, 82, 49], strV [52, 53, 71, 49], strV [52, 53, 82, 49]] 9 (0, 0)), (g1, .cells #[.int .u8 ((n : Nat) : Int), .bool h, .bool r] 60 (0, 0))] (hW18) ?_
          refine lm (v := .slice (some ⟨g2, 0, none⟩) 6 6) rfl rfl ?_
          refine lm (v := .int .i64 3) rfl rfl ?_
          refine lm (v := .pointer (some ⟨g2, 3, none⟩)) rfl rfl ?_
          refine lv (v := strV [52, 50, 82, 49]) rfl rfl (yb_cell (off := 3) rfl (by kernel_rfl) (.tail _ (.tail _ (.tail _ (.tail _ (.head _))))) Tryd.underlying9 rfl (by kernel_rfl)) ?_
          refine lm (v := strV [52, 50, 82, 49]) rfl rfl ?_
          refine lm (v := .int .i64 0) rfl rfl ?_
          refine wpL_done (fun W32 hW32 => ?_)
          refine (show Code.wp _ _ _ _ _ from ?_)
          refine wp_ret ?_
          try simp only [inBlock_ret, then_ret]
          refine bodyPost_ret (v := .tuple #[strV [52, 50, 82, 49], .int .i64 0]) ?_ rfl ?_
          · kernel_rfl
          · exact ⟨(by unfold codeV; rw [if_neg h1, if_neg h2, if_neg h3, if_pos h4]), hW32.1⟩
      | true =>
        have h3 : 40 = n ∧ false = h ∧ false = r := of_decide_eq_true hd3
        clear hd3
        refine wp_cond_true rfl ?_
        refine wp_seq ?_
        refine wp_region_L (W0 := w) [(g5, .cells #[.int .u8 40, .bool false, .bool false] 60 (0, 0)), (g4, .cells #[.int .u8 20, .bool false, .bool true] 60 (0, 0)), (g3, .cells #[.int .u8 20, .bool false, .bool false] 60 (0, 0)), (g2, .cells #[strV [50, 50, 71, 49], strV [50, 50, 82, 49], strV [52, 50, 71, 49], strV [52, 50, 82, 49], strV [52, 53, 71, 49], strV [52, 53, 82, 49]] 9 (0, 0)), (g1, .cells #[.int .u8 ((n : Nat) : Int), .bool h, .bool r] 60 (0, 0))] (hW14) ?_
        refine lm (v := .slice (some ⟨g2, 0, none⟩) 6 6) rfl rfl ?_
        refine lm (v := .int .i64 2) rfl rfl ?_
        refine lm (v := .pointer (some ⟨g2, 2, none⟩)) rfl rfl ?_
        refine lv (v := strV [52, 50, 71, 49]) rfl rfl (yb_cell (off := 2) rfl (by kernel_rfl) (.tail _ (.tail _ (.tail _ (.head _)))) Tryd.underlying9 rfl (by kernel_rfl)) ?_
        refine lm (v := strV [52, 50, 71, 49]) rfl rfl ?_
        refine lm (v := .int .i64 0) rfl rfl ?_
        refine wpL_done (fun W33 hW33 => ?_)
        refine (show Code.wp _ _ _ _ _ from ?_)
        refine wp_ret ?_
        try simp only [inBlock_ret, then_ret]
        refine bodyPost_ret (v := .tuple #[strV [52, 50, 71, 49], .int .i64 0]) ?_ rfl ?_
        · kernel_rfl
        · exact ⟨(by unfold codeV; rw [if_neg h1, if_neg h2, if_pos h3]), hW33.1⟩
    | true =>
      have h2 : 20 = n ∧ false = h ∧ true = r := of_decide_eq_true hd2
      clear hd2
      refine wp_cond_true rfl ?_
      refine wp_seq ?_
      refine wp_region_L (W0 := w) [(g4, .cells #[.int .u8 20, .bool false, .bool true] 60 (0, 0)), (g3, .cells #[.int .u8 20, .bool false, .bool false] 60 (0, 0)), (g2, .cells #[strV [50, 50, 71, 49], strV [50, 50, 82, 49], strV [52, 50, 71, 49], strV [52, 50, 82, 49], strV [52, 53, 71, 49], strV [52, 53, 82, 49]] 9 (0, 0)), (g1, .cells #[.int .u8 ((n : Nat) : Int), .bool h, .bool r] 60 (0, 0))] (hW10) ?_
      refine lm (v := .slice (some ⟨g2, 0, none⟩) 6 6) rfl rfl ?_
      refine lm (v := .int .i64 1) rfl rfl ?_
      refine lm (v := .pointer (some ⟨g2, 1, none⟩)) rfl rfl ?_
      refine lv (v := strV [50, 50, 82, 49]) rfl rfl (yb_cell (off := 1) rfl (by kernel_rfl) (.tail _ (.tail _ (.head _))) Tryd.underlying9 rfl (by kernel_rfl)) ?_
      refine lm (v := strV [50, 50, 82, 49]) rfl rfl ?_
      refine lm (v := .int .i64 0) rfl rfl ?_
      refine wpL_done (fun W34 hW34 => ?_)
      refine (show Code.wp _ _ _ _ _ from ?_)
      refine wp_ret ?_
      try simp only [inBlock_ret, then_ret]
      refine bodyPost_ret (v := .tuple #[strV [50, 50, 82, 49], .int .i64 0]) ?_ rfl ?_
      · kernel_rfl
      · exact ⟨(by unfold codeV; rw [if_neg h1, if_pos h2]), hW34.1⟩
  | true =>
    have h1 : 20 = n ∧ false = h ∧ false = r := of_decide_eq_true hd1
    clear hd1
    refine wp_cond_true rfl ?_
    refine wp_seq ?_
    refine wp_region_L (W0 := w) [(g3, .cells #[.int .u8 20, .bool false, .bool false] 60 (0, 0)), (g2, .cells #[strV [50, 50, 71, 49], strV [50, 50, 82, 49], strV [52, 50, 71, 49], strV [52, 50, 82, 49], strV [52, 53, 71, 49], strV [52, 53, 82, 49]] 9 (0, 0)), (g1, .cells #[.int .u8 ((n : Nat) : Int), .bool h, .bool r] 60 (0, 0))] (hW6) ?_
    refine lm (v := .slice (some ⟨g2, 0, none⟩) 6 6) rfl rfl ?_
    refine lm (v := .int .i64 0) rfl rfl ?_
    refine lm (v := .pointer (some ⟨g2, 0, none⟩)) rfl rfl ?_
    refine lv (v := strV [50, 50, 71, 49]) rfl rfl (yb_cell (off := 0) rfl (by kernel_rfl) (.tail _ (.head _)) Tryd.underlying9 rfl (by kernel_rfl)) ?_
    refine lm (v := strV [50, 50, 71, 49]) rfl rfl ?_
    refine lm (v := .int .i64 0) rfl rfl ?_
    refine wpL_done (fun W35 hW35 => ?_)
    refine (show Code.wp _ _ _ _ _ from ?_)
    refine wp_ret ?_
    try simp only [inBlock_ret, then_ret]
    refine bodyPost_ret (v := .tuple #[strV [50, 50, 71, 49], .int .i64 0]) ?_ rfl ?_
    · kernel_rfl
    · exact ⟨(by unfold codeV; rw [if_pos h1]), hW35.1⟩
theorem rcode_sym (W : World) (n : Nat) (h r : Bool) : Calls Tryd.prog 34 #[.agg #[.int .u8 ((n : Nat) : Int), .bool h, .bool r]] W fun e w' => e = .returned (.tuple #[strV (codeS n h r), .int .i64 ((codeE n h r : Nat) : Int)]) ∧ Below W.heap.size W w' := code_pair n h r ▸ RCode_any n h r W
set_option maxRecDepth 100000 in
set_option maxHeartbeats 4000000 in
theorem coded_any (n : Nat) (h r : Bool) (w : World) (hE : Env w) : Calls Tryd.prog 13 #[.agg #[.int .u8 ((n : Nat) : Int), .bool h, .bool r]] w fun e w' => e = .returned (.bool true) ∧ Below w.heap.size w w' := by
  have HE := Lib.hid hE
  clear hE
  go_enter Tryd.func13, Tryd.ntmps13
  refine wp_seq ?_
  refine wp_region_L (W0 := w) [] (KS.start w) ?_
  refine wpL_new (fun g => .pointer (some ⟨g, 0, none⟩)) (obi := .cells #[.int .u8 ((n : Nat) : Int), .bool h, .bool r] 26 (0, 0)) rfl rfl (fun _ => by kernel_rfl) (fun _ => by simp only [List.setIfInBounds_toArray, List.set_cons_succ, List.set_cons_zero] <;> rfl) fun g1 Bg1 Fg1 => ?_
  refine lm (v := .bool false) rfl rfl ?_
  refine wpL_done (fun W1 hW1 => ?_)
  refine (show Code.wp _ _ _ _ _ from ?_)
  refine wp_seq ?_
  refine wp_region_L (W0 := w) [(g1, .cells #[.int .u8 ((n : Nat) : Int), .bool h, .bool r] 26 (0, 0))] (hW1) ?_
  refine lv (v := .agg #[.int .u8 ((n : Nat) : Int), .bool h, .bool r]) rfl rfl (yb_load (n := 3) (off := 0) rfl (by kernel_rfl) (.head _) Tryd.underlying26 rfl (by kernel_rfl) (by simp) (by kernel_rfl)) ?_
  refine lv (v := .tuple #[strV (codeS n h r), .int .i64 (((codeE n h r) : Nat) : Int)]) rfl rfl (yb_call (f := 25) (args := #[.agg #[.int .u8 ((n : Nat) : Int), .bool h, .bool r]]) (fun _ => by kernel_rfl) fun W hW => code_sym W (HE.out.keep hW.1) n h r) ?_
  refine lm (v := .tuple #[strV (codeS n h r), .int .i64 (((codeE n h r) : Nat) : Int)]) rfl rfl ?_
  refine lm (v := strV (codeS n h r)) rfl rfl ?_
  refine lm (v := .int .i64 (((codeE n h r) : Nat) : Int)) rfl rfl ?_
  refine lm (v := strV (codeS n h r)) rfl rfl ?_
  refine lm (v := .int .i64 (((codeE n h r) : Nat) : Int)) rfl rfl ?_
  refine wpL_done (fun W2 hW2 => ?_)
  refine (show Code.wp _ _ _ _ _ from ?_)
  refine wp_seq ?_
  refine wp_region_L (W0 := w) [(g1, .cells #[.int .u8 ((n : Nat) : Int), .bool h, .bool r] 26 (0, 0))] (hW2) ?_
  refine lv (v := .agg #[.int .u8 ((n : Nat) : Int), .bool h, .bool r]) rfl rfl (yb_load (n := 3) (off := 0) rfl (by kernel_rfl) (.head _) Tryd.underlying26 rfl (by kernel_rfl) (by simp) (by kernel_rfl)) ?_
  refine lv (v := .tuple #[strV (codeS n h r), .int .i64 (((codeE n h r) : Nat) : Int)]) rfl rfl (yb_call (f := 34) (args := #[.agg #[.int .u8 ((n : Nat) : Int), .bool h, .bool r]]) (fun _ => by kernel_rfl) fun W hW => rcode_sym W n h r) ?_
  refine lm (v := .tuple #[strV (codeS n h r), .int .i64 (((codeE n h r) : Nat) : Int)]) rfl rfl ?_
  refine lm (v := strV (codeS n h r)) rfl rfl ?_
  refine lm (v := .int .i64 (((codeE n h r) : Nat) : Int)) rfl rfl ?_
  refine lm (v := strV (codeS n h r)) rfl rfl ?_
  refine lm (v := .int .i64 (((codeE n h r) : Nat) : Int)) rfl rfl ?_
  refine wpL_done (fun W3 hW3 => ?_)
  refine (show Code.wp _ _ _ _ _ from ?_)
  refine wp_seq ?_
  refine wp_region_L (W0 := w) [(g1, .cells #[.int .u8 ((n : Nat) : Int), .bool h, .bool r] 26 (0, 0))] (hW3) ?_
  refine lm (v := strV (codeS n h r)) rfl rfl ?_
  refine lm (v := strV (codeS n h r)) rfl rfl ?_
  refine lp (v := .bool true) rfl rfl (run_bin rfl (vx := strV (codeS n h r)) (vy := strV (codeS n h r)) (by kernel_rfl) (by kernel_rfl) fun w => bs_eql (decide_eq_true rfl) w) ?_
  refine lm (v := .bool true) rfl rfl ?_
  refine lm (v := .int .i64 (((codeE n h r) : Nat) : Int)) rfl rfl ?_
  refine lm (v := .int .i64 (((codeE n h r) : Nat) : Int)) rfl rfl ?_
  refine lp (v := .bool true) rfl rfl (run_bin rfl (vx := (.int .i64 (((codeE n h r) : Nat) : Int))) (vy := (.int .i64 (((codeE n h r) : Nat) : Int))) (by kernel_rfl) (by kernel_rfl) fun w => bn_eql (decide_eq_true rfl) w) ?_
  refine lm (v := .bool true) rfl rfl ?_
  refine lm (v := .bool true) rfl rfl ?_
  refine wpL_done (fun W4 hW4 => ?_)
  refine (show Code.wp _ _ _ _ _ from ?_)
  refine wp_ret ?_
  try simp only [inBlock_ret, then_ret]
  refine bodyPost_ret (v := .bool true) ?_ rfl ?_
  · kernel_rfl
  · exact ⟨rfl, hW4.1⟩
set_option maxRecDepth 100000 in
set_option maxHeartbeats 40000000 in
theorem IsoCodes_law (w : World) (hE : Env w) (a0 : Int) (rr0 : 0 ≤ a0 ∧ a0 ≤ 255) (h r : Bool) : Calls Tryd.prog 4 #[.int .u8 a0, .bool h, .bool r] w fun e w' => e = .returned (.bool true) ∧ Below w.heap.size w w' := by
  have HE := Lib.hid hE
  clear hE
  obtain ⟨n, rfl⟩ : ∃ n : Nat, a0 = (n : Int) := ⟨a0.toNat, by omega⟩
  go_enter Tryd.func4, Tryd.ntmps4
  refine wp_seq ?_
  refine wp_region_L (W0 := w) [] (KS.start w) ?_
  refine lm (v := .bool false) rfl rfl ?_
  refine wpL_done (fun W1 hW1 => ?_)
  refine (show Code.wp _ _ _ _ _ from ?_)
  refine wp_seq ?_
  refine wp_region_L (W0 := w) [] (hW1) ?_
  refine lm (v := .int .u8 ((n : Nat) : Int)) rfl rfl ?_
  refine lm (v := .bool h) rfl rfl ?_
  refine lm (v := .bool r) rfl rfl ?_
  refine lm (v := .agg #[.int .u8 ((n : Nat) : Int), .bool h, .bool r]) rfl rfl ?_
  refine lv (v := .bool true) rfl rfl (yb_call (f := 13) (args := #[.agg #[.int .u8 ((n : Nat) : Int), .bool h, .bool r]]) (fun _ => by kernel_rfl) fun W hW => coded_any n h r W (HE.out.keep hW.1)) ?_
  refine lm (v := .bool true) rfl rfl ?_
  refine lv (v := .bool true) rfl rfl (yb_call (f := 12) (args := #[]) (fun _ => by kernel_rfl) fun W hW => awake_any W (HE.out.keep hW.1)) ?_
  refine lm (v := .bool true) rfl rfl ?_
  refine lm (v := .bool true) rfl rfl ?_
  refine wpL_done (fun W2 hW2 => ?_)
  refine (show Code.wp _ _ _ _ _ from ?_)
  refine wp_ret ?_
  try simp only [inBlock_ret, then_ret]
  refine bodyPost_ret (v := .bool true) ?_ rfl ?_
  · kernel_rfl
  · exact ⟨rfl, hW2.1⟩
end Go.Proofs.YtbceajgipmjmlaaDoor
