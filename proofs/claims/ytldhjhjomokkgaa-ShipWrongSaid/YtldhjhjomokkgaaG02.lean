import Derived.Test.YtldhjhjomokkgaaG01
/- Part of the proof: T7, T8, T9, TA. -/
set_option linter.unusedVariables false
set_option linter.unusedSimpArgs false
set_option linter.unusedSectionVars false
namespace Go.Proofs.Ytldhjhjomokkgaa
open Go Go.RowKit Tw
set_option maxRecDepth 100000 in
set_option maxHeartbeats 4000000 in
theorem Within_any (l : List Rg) (p : Option Addr) (c : Nat) (hl : l.length ≤ 4000000000) (w : World) (hp : SLV w p (l.flatMap rgC)) : Calls Try.prog 87 #[.slice p l.length c] w fun e w' => e = .returned (.bool (rgsX l)) ∧ Below w.heap.size w w' := by
  have HP := Lib.hid hp
  clear hp
  go_enter Try.func87, Try.ntmps87
  refine wp_seq ?_
  refine wp_region_L (W0 := w) [] (KS.start w) ?_
  refine lm (v := .bool false) rfl rfl ?_
  refine wpL_done (fun W1 hW1 => ?_)
  refine (show Code.wp _ _ _ _ _ from ?_)
  refine wp_seq ?_
  refine wp_seq ?_
  refine wp_region_L (W0 := w) [] (hW1) ?_
  refine lm (v := .slice p l.length c) rfl rfl ?_
  refine lp (v := .int .i64 ((l.length : Nat) : Int)) rfl rfl (run_lenL (p := p) (cap := c) (n := l.length) rfl Try.underlying113 (by kernel_rfl)) ?_
  refine lm (v := .int .i64 0) rfl rfl ?_
  refine wpL_done (fun W2 hW2 => ?_)
  refine (show Code.wp _ _ _ _ _ from ?_)
  refine wp_block ?_
  go_loopw [7] (fun u7 wr => ∃ (k : Nat), (k ≤ l.length) ∧ (rgsX l = rgsX (l.drop k)) ∧ u7 = .int .i64 ((k : Nat) : Int) ∧ KS w [] wr) (fun u7 _ => l.length - (intOf u7).toNat)
  case atStart => exact ⟨0, (Nat.zero_le _), rfl, rfl, (hW2.sub (fun p hp => by first | exact hp | (simp only [List.mem_cons, List.mem_append, List.nil_append, List.not_mem_nil, or_assoc, or_false, false_or] at hp ⊢ <;> grind)))⟩
  case round =>
    obtain ⟨k, hk, hR, rfl, hL3⟩ := hrel
    refine wp_seq ?_
    refine wp_region_L (W0 := w) [] (hL3) ?_
    refine lp (v := .bool (decide (k < l.length))) rfl rfl (run_bin rfl (vx := (.int .i64 ((k : Nat) : Int))) (vy := (.int .i64 ((l.length : Nat) : Int))) (by kernel_rfl) (by kernel_rfl) fun w => bn_lss rfl w) ?_
    refine wpL_done (fun W4 hW4 => ?_)
    refine (show Code.wp _ _ _ _ _ from ?_)
    refine wp_seq ?_
    cases hd1 : (decide (k < l.length)) with
    | false =>
      have h1 : ¬ (k < l.length) := of_decide_eq_false hd1
      clear hd1
      refine wp_cond_false rfl ?_
      refine wp_exit ?_
      refine (show Code.wp _ _ _ _ _ from ?_)
      refine wp_seq ?_
      refine wp_region_L (W0 := w) [] (hW4) ?_
      refine lm (v := .bool true) rfl rfl ?_
      refine wpL_done (fun W5 hW5 => ?_)
      refine (show Code.wp _ _ _ _ _ from ?_)
      refine wp_ret ?_
      try simp only [inBlock_ret, then_ret]
      refine bodyPost_ret (v := .bool true) ?_ rfl ?_
      · kernel_rfl
      · exact ⟨(bool_is (by rw [hR, rgs_end h1])), hW5.1⟩
    | true =>
      have h1 : k < l.length := of_decide_eq_true hd1
      clear hd1
      refine wp_cond_true rfl ?_
      refine wp_skip ?_
      refine (show Code.wp _ _ _ _ _ from ?_)
      refine wp_seq ?_
      refine wp_block ?_
      refine wp_seq ?_
      refine wp_region_L (W0 := w) [] (hW4) ?_
      obtain ⟨y1, g1_, f1_, hy1, hp1, hc1⟩ := RL.at (RL.base HP.out) rgC_len (by decide) (hW4.sub (fun _ h => by cases h)) (k := k) (by omega)
      refine lp (v := .pointer (some ⟨g1_, f1_ + k * 3, none⟩)) rfl rfl (run_idxQ (p := p) (cap := c) (n := l.length) (j := .i64) (k := k) (sz := 3) rfl Try.underlying113 (by kernel_rfl) (by kernel_rfl) hp1 (by kernel_rfl) (by omega)) ?_
      refine lv (v := .agg (rgC y1).toArray) rfl rfl (yb_rs (off := f1_ + k * 3) (cs := rgC y1) rfl (by kernel_rfl) (fun W hW => hc1 W (hW.sub (fun _ h => by cases h))) Try.underlying115 rfl (by kernel_rfl)) ?_
      refine wpL_new (fun g => .pointer (some ⟨g, 0, none⟩)) (obi := .cells #[.int .i64 0, .int .i64 0, .int .i64 0] 115 (0, 0)) rfl rfl (fun _ => by kernel_rfl) (fun _ => by simp only [List.setIfInBounds_toArray, List.set_cons_succ, List.set_cons_zero] <;> rfl) fun g2 Bg2 Fg2 => ?_
      refine wpL_s [(g2, .cells (rgC y1).toArray 115 (0, 0))] rfl rfl (st_row (off := 0) (v := .agg (rgC y1).toArray) rfl (by kernel_rfl) (by kernel_rfl) (.head _) Bg2 (by kernel_rfl) (by first | (simp [Value.cells]; done) | exact Nat.le_of_ble_eq_true rfl) (fun v hv => rgC_one y1 v hv) (by kernel_rfl) (List.forall_mem_cons.2 ⟨.inl rfl, (List.forall_mem_nil _)⟩)) ?_
      refine wpL_done (fun W6 hW6 => ?_)
      refine (show Code.wp _ _ _ _ _ from ?_)
      refine wp_seq ?_
      refine wp_region_L (W0 := w) [(g2, .cells (rgC y1).toArray 115 (0, 0))] (hW6) ?_
      refine lm (v := .pointer (some ⟨g2, 0, none⟩)) rfl rfl ?_
      refine lv (v := .int .i64 y1.1) rfl rfl (yb_cell (off := 0) rfl (by kernel_rfl) (.head _) Try.underlying3 rfl (by kernel_rfl)) ?_
      refine lm (v := .pointer (some ⟨g2, 1, none⟩)) rfl rfl ?_
      refine lv (v := .int .i64 y1.2.1) rfl rfl (yb_cell (off := 1) rfl (by kernel_rfl) (.head _) Try.underlying3 rfl (by kernel_rfl)) ?_
      refine lp (v := .bool (decide (y1.1 < y1.2.1))) rfl rfl (run_bin rfl (vx := (.int .i64 y1.1)) (vy := (.int .i64 y1.2.1)) (by kernel_rfl) (by kernel_rfl) fun w => bi_lss rfl w) ?_
      refine lm (v := .bool (decide (y1.1 < y1.2.1))) rfl rfl ?_
      cases hd2 : (decide (y1.1 < y1.2.1)) with
      | false =>
        have h2 : ¬ (y1.1 < y1.2.1) := of_decide_eq_false hd2
        clear hd2
        refine lm (v := .pointer (some ⟨g2, 0, none⟩)) rfl rfl ?_
        refine lv (v := .int .i64 y1.1) rfl rfl (yb_cell (off := 0) rfl (by kernel_rfl) (.head _) Try.underlying3 rfl (by kernel_rfl)) ?_
        refine lm (v := .pointer (some ⟨g2, 2, none⟩)) rfl rfl ?_
        refine lv (v := .int .i64 y1.2.2) rfl rfl (yb_cell (off := 2) rfl (by kernel_rfl) (.head _) Try.underlying3 rfl (by kernel_rfl)) ?_
        refine lp (v := .bool (decide (y1.2.2 < y1.1))) rfl rfl (run_bin rfl (vx := (.int .i64 y1.1)) (vy := (.int .i64 y1.2.2)) (by kernel_rfl) (by kernel_rfl) fun w => bi_gtr rfl w) ?_
        refine lm (v := .bool (decide (y1.2.2 < y1.1))) rfl rfl ?_
        refine wpL_done (fun W7 hW7 => ?_)
        refine (show Code.wp _ _ _ _ _ from ?_)
        cases hd3 : (decide (y1.2.2 < y1.1)) with
        | false =>
          have h3 : ¬ (y1.2.2 < y1.1) := of_decide_eq_false hd3
          clear hd3
          refine wp_cond_false rfl ?_
          refine wp_skip ?_
          refine (show Code.wp _ _ _ _ _ from ?_)
          refine wp_region_L (W0 := w) [(g2, .cells (rgC y1).toArray 115 (0, 0))] (hW7) ?_
          refine lp (v := .int .i64 (((k + 1) : Nat) : Int)) rfl rfl (run_bin rfl (vx := (.int .i64 ((k : Nat) : Int))) (vy := (.int .i64 ((1 : Nat) : Int))) (by kernel_rfl) (by kernel_rfl) fun w => bn_add (z := (k + 1)) rfl (wr_i64 (by omega)) w) ?_
          refine lm (v := .int .i64 (((k + 1) : Nat) : Int)) rfl rfl ?_
          refine wpL_done (fun W8 hW8 => ?_)
          go_roundw
          case rel =>
            repeat apply Exists.intro
            exact ⟨⟨k + 1, (by omega), (by rw [hR, rgs_step hy1]; simp [h2, h3]), rfl, (hW8.sub (fun p hp => by first | exact hp | (simp only [List.mem_cons, List.mem_append, List.nil_append, List.not_mem_nil, or_assoc, or_false, false_or] at hp ⊢ <;> grind)))⟩, rfl⟩
          case measure => (show l.length - (intOf (.int .i64 (((k + 1) : Nat) : Int))).toNat < l.length - (intOf (.int .i64 ((k : Nat) : Int))).toNat); simp only [intOf]; omega
        | true =>
          have h3 : y1.2.2 < y1.1 := of_decide_eq_true hd3
          clear hd3
          refine wp_cond_true rfl ?_
          refine wp_seq ?_
          refine wp_region_L (W0 := w) [(g2, .cells (rgC y1).toArray 115 (0, 0))] (hW7) ?_
          refine lm (v := .bool false) rfl rfl ?_
          refine wpL_done (fun W9 hW9 => ?_)
          refine (show Code.wp _ _ _ _ _ from ?_)
          refine wp_ret ?_
          try simp only [inBlock_ret, then_ret]
          refine bodyPost_ret (v := .bool false) ?_ rfl ?_
          · kernel_rfl
          · exact ⟨(bool_is (by rw [hR, rgs_step hy1]; simp [h3])), hW9.1⟩
      | true =>
        have h2 : y1.1 < y1.2.1 := of_decide_eq_true hd2
        clear hd2
        refine ln rfl ?_
        refine ln rfl ?_
        refine ln rfl ?_
        refine ln rfl ?_
        refine ln rfl ?_
        refine lm (v := .bool true) rfl rfl ?_
        refine wpL_done (fun W10 hW10 => ?_)
        refine (show Code.wp _ _ _ _ _ from ?_)
        refine wp_cond_true rfl ?_
        refine wp_seq ?_
        refine wp_region_L (W0 := w) [(g2, .cells (rgC y1).toArray 115 (0, 0))] (hW10) ?_
        refine lm (v := .bool false) rfl rfl ?_
        refine wpL_done (fun W11 hW11 => ?_)
        refine (show Code.wp _ _ _ _ _ from ?_)
        refine wp_ret ?_
        try simp only [inBlock_ret, then_ret]
        refine bodyPost_ret (v := .bool false) ?_ rfl ?_
        · kernel_rfl
        · exact ⟨(bool_is (by rw [hR, rgs_step hy1]; simp [h2])), hW11.1⟩
set_option maxRecDepth 100000 in
set_option maxHeartbeats 4000000 in
theorem increasing_any (l : List Int) (p : Option Addr) (c : Nat) (most : Int) (hl : l.length ≤ 4000000000) (w : World) (hp : SLV w p (l.flatMap inC)) : Calls Try.prog 88 #[.slice p l.length c, .int .i64 most] w fun e w' => e = .returned (.bool (incX l most)) ∧ Below w.heap.size w w' := by
  have HP := Lib.hid hp
  clear hp
  go_enter Try.func88, Try.ntmps88
  refine wp_seq ?_
  refine wp_region_L (W0 := w) [] (KS.start w) ?_
  refine lm (v := .bool false) rfl rfl ?_
  refine wpL_done (fun W1 hW1 => ?_)
  refine (show Code.wp _ _ _ _ _ from ?_)
  refine wp_seq ?_
  refine wp_region_L (W0 := w) [] (hW1) ?_
  refine lm (v := .int .i64 (-1)) rfl rfl ?_
  refine wpL_done (fun W2 hW2 => ?_)
  refine (show Code.wp _ _ _ _ _ from ?_)
  refine wp_seq ?_
  refine wp_seq ?_
  refine wp_region_L (W0 := w) [] (hW2) ?_
  refine lm (v := .slice p l.length c) rfl rfl ?_
  refine lp (v := .int .i64 ((l.length : Nat) : Int)) rfl rfl (run_lenL (p := p) (cap := c) (n := l.length) rfl Try.underlying39 (by kernel_rfl)) ?_
  refine lm (v := .int .i64 0) rfl rfl ?_
  refine wpL_done (fun W3 hW3 => ?_)
  refine (show Code.wp _ _ _ _ _ from ?_)
  refine wp_block ?_
  go_loopw [10, 5] (fun u10 u5 wr => ∃ (k : Nat) (last : Int), (k ≤ l.length) ∧ (incX l most = incF most last (l.drop k)) ∧ u10 = .int .i64 ((k : Nat) : Int) ∧ u5 = .int .i64 last ∧ KS w [] wr) (fun u10 _ _ => l.length - (intOf u10).toNat)
  case atStart => exact ⟨0, (-1), (Nat.zero_le _), rfl, rfl, rfl, (hW3.sub (fun p hp => by first | exact hp | (simp only [List.mem_cons, List.mem_append, List.nil_append, List.not_mem_nil, or_assoc, or_false, false_or] at hp ⊢ <;> grind)))⟩
  case round =>
    obtain ⟨k, last, hk, hR, rfl, rfl, hL4⟩ := hrel
    refine wp_seq ?_
    refine wp_region_L (W0 := w) [] (hL4) ?_
    refine lp (v := .bool (decide (k < l.length))) rfl rfl (run_bin rfl (vx := (.int .i64 ((k : Nat) : Int))) (vy := (.int .i64 ((l.length : Nat) : Int))) (by kernel_rfl) (by kernel_rfl) fun w => bn_lss rfl w) ?_
    refine wpL_done (fun W5 hW5 => ?_)
    refine (show Code.wp _ _ _ _ _ from ?_)
    refine wp_seq ?_
    cases hd1 : (decide (k < l.length)) with
    | false =>
      have h1 : ¬ (k < l.length) := of_decide_eq_false hd1
      clear hd1
      refine wp_cond_false rfl ?_
      refine wp_exit ?_
      refine (show Code.wp _ _ _ _ _ from ?_)
      refine wp_seq ?_
      refine wp_region_L (W0 := w) [] (hW5) ?_
      refine lm (v := .bool true) rfl rfl ?_
      refine wpL_done (fun W6 hW6 => ?_)
      refine (show Code.wp _ _ _ _ _ from ?_)
      refine wp_ret ?_
      try simp only [inBlock_ret, then_ret]
      refine bodyPost_ret (v := .bool true) ?_ rfl ?_
      · kernel_rfl
      · exact ⟨(bool_is (by rw [hR, inc_end h1])), hW6.1⟩
    | true =>
      have h1 : k < l.length := of_decide_eq_true hd1
      clear hd1
      refine wp_cond_true rfl ?_
      refine wp_skip ?_
      refine (show Code.wp _ _ _ _ _ from ?_)
      refine wp_seq ?_
      refine wp_block ?_
      refine wp_seq ?_
      refine wp_region_L (W0 := w) [] (hW5) ?_
      obtain ⟨y1, g1_, f1_, hy1, hp1, hc1⟩ := RL.at (RL.base HP.out) inC_len (by decide) (hW5.sub (fun _ h => by cases h)) (k := k) (by omega)
      refine lp (v := .pointer (some ⟨g1_, f1_ + k * 1, none⟩)) rfl rfl (run_idxQ (p := p) (cap := c) (n := l.length) (j := .i64) (k := k) (sz := 1) rfl Try.underlying39 (by kernel_rfl) (by kernel_rfl) hp1 (by kernel_rfl) (by omega)) ?_
      refine lv (v := .int .i64 y1) rfl rfl (yb_rf (v := .int .i64 y1) rfl (by kernel_rfl) (fun W hW => hc1 W (hW.sub (fun _ h => by cases h)) 0 _ rfl) Try.underlying3 rfl) ?_
      refine lm (v := .int .i64 y1) rfl rfl ?_
      refine wpL_done (fun W7 hW7 => ?_)
      refine (show Code.wp _ _ _ _ _ from ?_)
      refine wp_seq ?_
      refine wp_seq ?_
      refine wp_region_L (W0 := w) [] (hW7) ?_
      refine lm (v := .int .i64 y1) rfl rfl ?_
      refine lm (v := .int .i64 last) rfl rfl ?_
      refine lp (v := .bool (!(decide (last < y1)))) rfl rfl (run_bin rfl (vx := (.int .i64 y1)) (vy := (.int .i64 last)) (by kernel_rfl) (by kernel_rfl) fun w => bi_leq rfl w) ?_
      refine lm (v := .bool (!(decide (last < y1)))) rfl rfl ?_
      cases hd2 : (decide (last < y1)) with
      | false =>
        have h2 : ¬ (last < y1) := of_decide_eq_false hd2
        clear hd2
        refine ln rfl ?_
        refine ln rfl ?_
        refine ln rfl ?_
        refine lm (v := .bool true) rfl rfl ?_
        refine wpL_done (fun W8 hW8 => ?_)
        refine (show Code.wp _ _ _ _ _ from ?_)
        refine wp_cond_true rfl ?_
        refine wp_seq ?_
        refine wp_region_L (W0 := w) [] (hW8) ?_
        refine lm (v := .bool false) rfl rfl ?_
        refine wpL_done (fun W9 hW9 => ?_)
        refine (show Code.wp _ _ _ _ _ from ?_)
        refine wp_ret ?_
        try simp only [inBlock_ret, then_ret]
        refine bodyPost_ret (v := .bool false) ?_ rfl ?_
        · kernel_rfl
        · exact ⟨(bool_is (by rw [hR, inc_step hy1, decide_eq_false (p := last < y1) (by omega)]; rfl)), hW9.1⟩
      | true =>
        have h2 : last < y1 := of_decide_eq_true hd2
        clear hd2
        refine lm (v := .int .i64 y1) rfl rfl ?_
        refine lm (v := .int .i64 most) rfl rfl ?_
        refine lp (v := .bool (decide (most < y1))) rfl rfl (run_bin rfl (vx := (.int .i64 y1)) (vy := (.int .i64 most)) (by kernel_rfl) (by kernel_rfl) fun w => bi_gtr rfl w) ?_
        refine lm (v := .bool (decide (most < y1))) rfl rfl ?_
        refine wpL_done (fun W10 hW10 => ?_)
        refine (show Code.wp _ _ _ _ _ from ?_)
        cases hd3 : (decide (most < y1)) with
        | false =>
          have h3 : ¬ (most < y1) := of_decide_eq_false hd3
          clear hd3
          refine wp_cond_false rfl ?_
          refine wp_skip ?_
          refine (show Code.wp _ _ _ _ _ from ?_)
          refine wp_region_L (W0 := w) [] (hW10) ?_
          refine lm (v := .int .i64 y1) rfl rfl ?_
          refine lm (v := .int .i64 y1) rfl rfl ?_
          refine wpL_done (fun W11 hW11 => ?_)
          refine (show Code.wp _ _ _ _ _ from ?_)
          refine wp_region_L (W0 := w) [] (hW11) ?_
          refine lp (v := .int .i64 (((k + 1) : Nat) : Int)) rfl rfl (run_bin rfl (vx := (.int .i64 ((k : Nat) : Int))) (vy := (.int .i64 ((1 : Nat) : Int))) (by kernel_rfl) (by kernel_rfl) fun w => bn_add (z := (k + 1)) rfl (wr_i64 (by omega)) w) ?_
          refine lm (v := .int .i64 (((k + 1) : Nat) : Int)) rfl rfl ?_
          refine wpL_done (fun W12 hW12 => ?_)
          go_roundw
          case rel =>
            repeat apply Exists.intro
            exact ⟨⟨k + 1, y1, (by omega), (by rw [hR, inc_step hy1, decide_eq_true (by omega), decide_eq_true (by omega)]; rfl), rfl, rfl, (hW12.sub (fun p hp => by first | exact hp | (simp only [List.mem_cons, List.mem_append, List.nil_append, List.not_mem_nil, or_assoc, or_false, false_or] at hp ⊢ <;> grind)))⟩, rfl⟩
          case measure => (show l.length - (intOf (.int .i64 (((k + 1) : Nat) : Int))).toNat < l.length - (intOf (.int .i64 ((k : Nat) : Int))).toNat); simp only [intOf]; omega
        | true =>
          have h3 : most < y1 := of_decide_eq_true hd3
          clear hd3
          refine wp_cond_true rfl ?_
          refine wp_seq ?_
          refine wp_region_L (W0 := w) [] (hW10) ?_
          refine lm (v := .bool false) rfl rfl ?_
          refine wpL_done (fun W13 hW13 => ?_)
          refine (show Code.wp _ _ _ _ _ from ?_)
          refine wp_ret ?_
          try simp only [inBlock_ret, then_ret]
          refine bodyPost_ret (v := .bool false) ?_ rfl ?_
          · kernel_rfl
          · exact ⟨(bool_is (by rw [hR, inc_step hy1, decide_eq_false (p := y1 ≤ most) (by omega)]; simp)), hW13.1⟩
set_option maxRecDepth 100000 in
set_option maxHeartbeats 4000000 in
theorem columnRight_any (c : Col) (hl : c.plugs.length ≤ 4000000000) (w : World) (hp : SLV w c.pp (c.plugs.flatMap inC)) : Calls Try.prog 69 #[.agg (colC c).toArray] w fun e w' => e = .returned (.bool (colX c)) ∧ Below w.heap.size w w' := by
  have HP := Lib.hid hp
  clear hp
  go_enter Try.func69, Try.ntmps69
  refine wp_seq ?_
  refine wp_region_L (W0 := w) [] (KS.start w) ?_
  refine wpL_new (fun g => .pointer (some ⟨g, 0, none⟩)) (obi := .cells (colC c).toArray 53 (0, 0)) rfl rfl (fun _ => by kernel_rfl) (fun _ => by simp only [List.setIfInBounds_toArray, List.set_cons_succ, List.set_cons_zero] <;> rfl) fun g1 Bg1 Fg1 => ?_
  refine lm (v := .bool false) rfl rfl ?_
  refine wpL_done (fun W1 hW1 => ?_)
  refine (show Code.wp _ _ _ _ _ from ?_)
  refine wp_seq ?_
  refine wp_region_L (W0 := w) [(g1, .cells (colC c).toArray 53 (0, 0))] (hW1) ?_
  refine lm (v := .func (.func 87) #[] #[]) rfl rfl ?_
  refine wpL_done (fun W2 hW2 => ?_)
  refine (show Code.wp _ _ _ _ _ from ?_)
  refine wp_seq ?_
  refine wp_region_L (W0 := w) [(g1, .cells (colC c).toArray 53 (0, 0))] (hW2) ?_
  refine lm (v := .func (.func 87) #[] #[]) rfl rfl ?_
  refine lm (v := .pointer (some ⟨g1, 0, none⟩)) rfl rfl ?_
  refine lv (v := .int .i64 c.bay) rfl rfl (yb_cell (off := 0) rfl (by kernel_rfl) (.head _) Try.underlying3 rfl (by kernel_rfl)) ?_
  refine lm (v := .agg #[.int .i64 c.bay, .int .i64 0, .int .i64 39]) rfl rfl ?_
  refine lm (v := .pointer (some ⟨g1, 1, none⟩)) rfl rfl ?_
  refine lv (v := .int .i64 c.row) rfl rfl (yb_cell (off := 1) rfl (by kernel_rfl) (.head _) Try.underlying3 rfl (by kernel_rfl)) ?_
  refine lm (v := .agg #[.int .i64 c.row, .int .i64 0, .int .i64 30]) rfl rfl ?_
  refine lm (v := .pointer (some ⟨g1, 3, none⟩)) rfl rfl ?_
  refine lv (v := .int .i64 c.tiers) rfl rfl (yb_cell (off := 3) rfl (by kernel_rfl) (.head _) Try.underlying3 rfl (by kernel_rfl)) ?_
  refine lm (v := .agg #[.int .i64 c.tiers, .int .i64 1, .int .i64 10]) rfl rfl ?_
  refine lm (v := .pointer (some ⟨g1, 4, none⟩)) rfl rfl ?_
  refine lv (v := .int .i64 c.height) rfl rfl (yb_cell (off := 4) rfl (by kernel_rfl) (.head _) Try.underlying3 rfl (by kernel_rfl)) ?_
  refine lm (v := .agg #[.int .i64 c.height, .int .i64 0, .int .i64 40000]) rfl rfl ?_
  refine lm (v := .pointer (some ⟨g1, 5, none⟩)) rfl rfl ?_
  refine lv (v := .int .i64 c.k20) rfl rfl (yb_cell (off := 5) rfl (by kernel_rfl) (.head _) Try.underlying3 rfl (by kernel_rfl)) ?_
  refine lm (v := .agg #[.int .i64 c.k20, .int .i64 0, .int .i64 500000000]) rfl rfl ?_
  refine lm (v := .pointer (some ⟨g1, 6, none⟩)) rfl rfl ?_
  refine lv (v := .int .i64 c.k40) rfl rfl (yb_cell (off := 6) rfl (by kernel_rfl) (.head _) Try.underlying3 rfl (by kernel_rfl)) ?_
  refine lm (v := .agg #[.int .i64 c.k40, .int .i64 0, .int .i64 500000000]) rfl rfl ?_
  refine lm (v := .pointer (some ⟨g1, 7, none⟩)) rfl rfl ?_
  refine lv (v := .int .i64 c.lash) rfl rfl (yb_cell (off := 7) rfl (by kernel_rfl) (.head _) Try.underlying3 rfl (by kernel_rfl)) ?_
  refine lm (v := .agg #[.int .i64 c.lash, .int .i64 0, .int .i64 1000000000000]) rfl rfl ?_
  refine lm (v := .pointer (some ⟨g1, 9, none⟩)) rfl rfl ?_
  refine lv (v := .int .i64 c.x) rfl rfl (yb_cell (off := 9) rfl (by kernel_rfl) (.head _) Try.underlying3 rfl (by kernel_rfl)) ?_
  refine lm (v := .agg #[.int .i64 c.x, .int .i64 (-500000), .int .i64 500000]) rfl rfl ?_
  refine lm (v := .pointer (some ⟨g1, 10, none⟩)) rfl rfl ?_
  refine lv (v := .int .i64 c.y) rfl rfl (yb_cell (off := 10) rfl (by kernel_rfl) (.head _) Try.underlying3 rfl (by kernel_rfl)) ?_
  refine lm (v := .agg #[.int .i64 c.y, .int .i64 (-500000), .int .i64 500000]) rfl rfl ?_
  refine lm (v := .pointer (some ⟨g1, 11, none⟩)) rfl rfl ?_
  refine lv (v := .int .i64 c.z) rfl rfl (yb_cell (off := 11) rfl (by kernel_rfl) (.head _) Try.underlying3 rfl (by kernel_rfl)) ?_
  refine lm (v := .agg #[.int .i64 c.z, .int .i64 (-500000), .int .i64 500000]) rfl rfl ?_
  refine wpL_new (fun g => .slice (some ⟨g, 0, none⟩) 10 10) (obi := .cells #[.int .i64 c.bay, .int .i64 0, .int .i64 39, .int .i64 c.row, .int .i64 0, .int .i64 30, .int .i64 c.tiers, .int .i64 1, .int .i64 10, .int .i64 c.height, .int .i64 0, .int .i64 40000, .int .i64 c.k20, .int .i64 0, .int .i64 500000000, .int .i64 c.k40, .int .i64 0, .int .i64 500000000, .int .i64 c.lash, .int .i64 0, .int .i64 1000000000000, .int .i64 c.x, .int .i64 (-500000), .int .i64 500000, .int .i64 c.y, .int .i64 (-500000), .int .i64 500000, .int .i64 c.z, .int .i64 (-500000), .int .i64 500000] 115 (0, 0)) rfl rfl (fun _ => by kernel_rfl) (fun _ => by simp only [List.setIfInBounds_toArray, List.set_cons_succ, List.set_cons_zero] <;> rfl) fun g2 Bg2 Fg2 => ?_
  obtain dj3_0 : g1 ≠ g2 := by simpa only [dj_app_l, dj_app_r, dj_cons_l, dj_cons_r, dj_nil_l, dj_nil_r, dk_app, dk_cons, dk_nil, and_true, true_and, and_assoc] using (show Dk g2 [(g1, .cells (colC c).toArray 53 (0, 0))] from Fg2)
  refine lv (v := .bool (rgsX (rangesX c))) rfl rfl (yb_call (f := 87) (args := #[.slice (some ⟨g2, 0, none⟩) 10 10]) (fun _ => by kernel_rfl) fun W hW => Within_any (rangesX c) (some ⟨g2, 0, none⟩) 10 (by show (10 : Nat) ≤ _; omega) W (blk_slv hW (.head _))) ?_
  refine lm (v := .bool (rgsX (rangesX c))) rfl rfl ?_
  cases h1 : (rgsX (rangesX c)) with
  | false =>
    refine ln rfl ?_
    refine ln rfl ?_
    refine ln rfl ?_
    refine ln rfl ?_
    refine ln rfl ?_
    refine ln rfl ?_
    refine lm (v := .bool false) rfl rfl ?_
    refine lm (v := .bool false) rfl rfl ?_
    refine wpL_done (fun W3 hW3 => ?_)
    refine (show Code.wp _ _ _ _ _ from ?_)
    refine wp_ret ?_
    try simp only [inBlock_ret, then_ret]
    refine bodyPost_ret (v := .bool false) ?_ rfl ?_
    · kernel_rfl
    · exact ⟨(bool_is (by unfold colX; simp [*])), hW3.1⟩
  | true =>
    refine lm (v := .pointer (some ⟨g1, 8, none⟩)) rfl rfl ?_
    refine lv (v := .slice c.pp c.plugs.length c.pc) rfl rfl (yb_cell (off := 8) rfl (by kernel_rfl) (.tail _ (.head _)) Try.underlying39 rfl (by kernel_rfl)) ?_
    refine lm (v := .pointer (some ⟨g1, 3, none⟩)) rfl rfl ?_
    refine lv (v := .int .i64 c.tiers) rfl rfl (yb_cell (off := 3) rfl (by kernel_rfl) (.tail _ (.head _)) Try.underlying3 rfl (by kernel_rfl)) ?_
    refine lp (v := .int .i64 (IntKind.i64.wrap (c.tiers - 1))) rfl rfl (run_bin rfl (vx := .int .i64 c.tiers) (vy := .int .i64 1) (by kernel_rfl) (by kernel_rfl) fun w => bw_sub (z := (IntKind.i64.wrap (c.tiers - 1))) rfl w) ?_
    refine lv (v := .bool (incX c.plugs (IntKind.i64.wrap (c.tiers - 1)))) rfl rfl (yb_call (f := 88) (args := #[.slice c.pp c.plugs.length c.pc, .int .i64 (IntKind.i64.wrap (c.tiers - 1))]) (fun _ => by kernel_rfl) fun W hW => increasing_any c.plugs c.pp c.pc (IntKind.i64.wrap (c.tiers - 1)) (by omega) W ((RL.base HP.out) _ (hW.sub (fun _ h => by cases h)))) ?_
    refine lm (v := .bool (incX c.plugs (IntKind.i64.wrap (c.tiers - 1)))) rfl rfl ?_
    refine lm (v := .bool (incX c.plugs (IntKind.i64.wrap (c.tiers - 1)))) rfl rfl ?_
    refine wpL_done (fun W4 hW4 => ?_)
    refine (show Code.wp _ _ _ _ _ from ?_)
    refine wp_ret ?_
    try simp only [inBlock_ret, then_ret]
    refine bodyPost_ret (v := .bool (incX c.plugs (IntKind.i64.wrap (c.tiers - 1)))) ?_ rfl ?_
    · kernel_rfl
    · exact ⟨(bool_is (by unfold colX; simp [*])), hW4.1⟩
set_option maxRecDepth 100000 in
set_option maxHeartbeats 4000000 in
theorem coverRight_any (o : Cov) (hl : o.rows.length ≤ 4000000000) (w : World) (hp : SLV w o.rp (o.rows.flatMap inC)) : Calls Try.prog 70 #[.agg (covC o).toArray] w fun e w' => e = .returned (.bool (ovX o)) ∧ Below w.heap.size w w' := by
  have HP := Lib.hid hp
  clear hp
  go_enter Try.func70, Try.ntmps70
  refine wp_seq ?_
  refine wp_region_L (W0 := w) [] (KS.start w) ?_
  refine wpL_new (fun g => .pointer (some ⟨g, 0, none⟩)) (obi := .cells (covC o).toArray 55 (0, 0)) rfl rfl (fun _ => by kernel_rfl) (fun _ => by simp only [List.setIfInBounds_toArray, List.set_cons_succ, List.set_cons_zero] <;> rfl) fun g1 Bg1 Fg1 => ?_
  refine lm (v := .bool false) rfl rfl ?_
  refine wpL_done (fun W1 hW1 => ?_)
  refine (show Code.wp _ _ _ _ _ from ?_)
  refine wp_seq ?_
  refine wp_region_L (W0 := w) [(g1, .cells (covC o).toArray 55 (0, 0))] (hW1) ?_
  refine lm (v := .pointer (some ⟨g1, 0, none⟩)) rfl rfl ?_
  refine lv (v := .int .i64 o.bay) rfl rfl (yb_cell (off := 0) rfl (by kernel_rfl) (.head _) Try.underlying3 rfl (by kernel_rfl)) ?_
  refine lp (v := .bool (!(decide (o.bay < 0)))) rfl rfl (run_bin rfl (vx := (.int .i64 o.bay)) (vy := (.int .i64 0)) (by kernel_rfl) (by kernel_rfl) fun w => bi_geq rfl w) ?_
  refine lm (v := .bool (!(decide (o.bay < 0)))) rfl rfl ?_
  cases hd1 : (decide (o.bay < 0)) with
  | false =>
    have h1 : ¬ (o.bay < 0) := of_decide_eq_false hd1
    clear hd1
    refine lm (v := .pointer (some ⟨g1, 0, none⟩)) rfl rfl ?_
    refine lv (v := .int .i64 o.bay) rfl rfl (yb_cell (off := 0) rfl (by kernel_rfl) (.head _) Try.underlying3 rfl (by kernel_rfl)) ?_
    refine lp (v := .bool (!(decide (39 < o.bay)))) rfl rfl (run_bin rfl (vx := (.int .i64 o.bay)) (vy := (.int .i64 39)) (by kernel_rfl) (by kernel_rfl) fun w => bi_leq rfl w) ?_
    refine lm (v := .bool (!(decide (39 < o.bay)))) rfl rfl ?_
    refine lm (v := .bool (!(decide (39 < o.bay)))) rfl rfl ?_
    cases hd2 : (decide (39 < o.bay)) with
    | false =>
      have h2 : ¬ (39 < o.bay) := of_decide_eq_false hd2
      clear hd2
      refine lm (v := .pointer (some ⟨g1, 1, none⟩)) rfl rfl ?_
      refine lv (v := .slice o.rp o.rows.length o.rc) rfl rfl (yb_cell (off := 1) rfl (by kernel_rfl) (.head _) Try.underlying39 rfl (by kernel_rfl)) ?_
      refine lp (v := .int .i64 ((o.rows.length : Nat) : Int)) rfl rfl (run_lenL (p := o.rp) (cap := o.rc) (n := o.rows.length) rfl Try.underlying39 (by kernel_rfl)) ?_
      refine lp (v := .bool (decide (0 < o.rows.length))) rfl rfl (run_bin rfl (vx := (.int .i64 ((o.rows.length : Nat) : Int))) (vy := (.int .i64 ((0 : Nat) : Int))) (by kernel_rfl) (by kernel_rfl) fun w => bn_gtr rfl w) ?_
      refine lm (v := .bool (decide (0 < o.rows.length))) rfl rfl ?_
      refine lm (v := .bool (decide (0 < o.rows.length))) rfl rfl ?_
      cases hd3 : (decide (0 < o.rows.length)) with
      | false =>
        have h3 : ¬ (0 < o.rows.length) := of_decide_eq_false hd3
        clear hd3
        refine ln rfl ?_
        refine ln rfl ?_
        refine ln rfl ?_
        refine lm (v := .bool false) rfl rfl ?_
        refine lm (v := .bool false) rfl rfl ?_
        refine wpL_done (fun W2 hW2 => ?_)
        refine (show Code.wp _ _ _ _ _ from ?_)
        refine wp_ret ?_
        try simp only [inBlock_ret, then_ret]
        refine bodyPost_ret (v := .bool false) ?_ rfl ?_
        · kernel_rfl
        · exact ⟨(bool_is (by unfold ovX; rw [decide_eq_true (p := 0 ≤ o.bay) (by omega), decide_eq_true (p := o.bay ≤ 39) (by omega), decide_eq_false (p := 0 < o.rows.length) h3]; simp)), hW2.1⟩
      | true =>
        have h3 : 0 < o.rows.length := of_decide_eq_true hd3
        clear hd3
        refine lm (v := .pointer (some ⟨g1, 1, none⟩)) rfl rfl ?_
        refine lv (v := .slice o.rp o.rows.length o.rc) rfl rfl (yb_cell (off := 1) rfl (by kernel_rfl) (.head _) Try.underlying39 rfl (by kernel_rfl)) ?_
        refine lv (v := .bool (incX o.rows 30)) rfl rfl (yb_call (f := 88) (args := #[.slice o.rp o.rows.length o.rc, .int .i64 30]) (fun _ => by kernel_rfl) fun W hW => increasing_any o.rows o.rp o.rc 30 (by omega) W ((RL.base HP.out) _ (hW.sub (fun _ h => by cases h)))) ?_
        refine lm (v := .bool (incX o.rows 30)) rfl rfl ?_
        refine lm (v := .bool (incX o.rows 30)) rfl rfl ?_
        refine wpL_done (fun W3 hW3 => ?_)
        refine (show Code.wp _ _ _ _ _ from ?_)
        refine wp_ret ?_
        try simp only [inBlock_ret, then_ret]
        refine bodyPost_ret (v := .bool (incX o.rows 30)) ?_ rfl ?_
        · kernel_rfl
        · exact ⟨(bool_is (by unfold ovX; rw [decide_eq_true (p := 0 ≤ o.bay) (by omega), decide_eq_true (p := o.bay ≤ 39) (by omega), decide_eq_true (p := 0 < o.rows.length) h3]; simp)), hW3.1⟩
    | true =>
      have h2 : 39 < o.bay := of_decide_eq_true hd2
      clear hd2
      refine ln rfl ?_
      refine ln rfl ?_
      refine ln rfl ?_
      refine ln rfl ?_
      refine lm (v := .bool false) rfl rfl ?_
      refine lm (v := .bool false) rfl rfl ?_
      refine ln rfl ?_
      refine ln rfl ?_
      refine ln rfl ?_
      refine lm (v := .bool false) rfl rfl ?_
      refine lm (v := .bool false) rfl rfl ?_
      refine wpL_done (fun W4 hW4 => ?_)
      refine (show Code.wp _ _ _ _ _ from ?_)
      refine wp_ret ?_
      try simp only [inBlock_ret, then_ret]
      refine bodyPost_ret (v := .bool false) ?_ rfl ?_
      · kernel_rfl
      · exact ⟨(bool_is (by unfold ovX; rw [decide_eq_true (p := 0 ≤ o.bay) (by omega), decide_eq_false (p := o.bay ≤ 39) (by omega)]; simp)), hW4.1⟩
  | true =>
    have h1 : o.bay < 0 := of_decide_eq_true hd1
    clear hd1
    refine ln rfl ?_
    refine ln rfl ?_
    refine ln rfl ?_
    refine lm (v := .bool false) rfl rfl ?_
    refine lm (v := .bool false) rfl rfl ?_
    refine ln rfl ?_
    refine ln rfl ?_
    refine ln rfl ?_
    refine ln rfl ?_
    refine lm (v := .bool false) rfl rfl ?_
    refine lm (v := .bool false) rfl rfl ?_
    refine ln rfl ?_
    refine ln rfl ?_
    refine ln rfl ?_
    refine lm (v := .bool false) rfl rfl ?_
    refine lm (v := .bool false) rfl rfl ?_
    refine wpL_done (fun W5 hW5 => ?_)
    refine (show Code.wp _ _ _ _ _ from ?_)
    refine wp_ret ?_
    try simp only [inBlock_ret, then_ret]
    refine bodyPost_ret (v := .bool false) ?_ rfl ?_
    · kernel_rfl
    · exact ⟨(bool_is (by unfold ovX; rw [decide_eq_false (p := 0 ≤ o.bay) (by omega)]; simp)), hW5.1⟩
set_option maxRecDepth 100000 in
set_option maxHeartbeats 4000000 in
theorem placeOf_any (c : Col) (w : World) : Calls Try.prog 68 #[.agg (colC c).toArray] w fun e w' => e = .returned (kv3 (placeX c)) ∧ Below w.heap.size w w' := by
  go_enter Try.func68, Try.ntmps68
  refine wp_seq ?_
  refine wp_region_L (W0 := w) [] (KS.start w) ?_
  refine wpL_new (fun g => .pointer (some ⟨g, 0, none⟩)) (obi := .cells (colC c).toArray 53 (0, 0)) rfl rfl (fun _ => by kernel_rfl) (fun _ => by simp only [List.setIfInBounds_toArray, List.set_cons_succ, List.set_cons_zero] <;> rfl) fun g1 Bg1 Fg1 => ?_
  refine wpL_new (fun g => .pointer (some ⟨g, 0, none⟩)) (obi := .cells #[.int .i64 0, .int .i64 0, .int .i64 0] 103 (0, 0)) rfl rfl (fun _ => by kernel_rfl) (fun _ => by simp only [List.setIfInBounds_toArray, List.set_cons_succ, List.set_cons_zero] <;> rfl) fun g2 Bg2 Fg2 => ?_
  obtain dj3_0 : g1 ≠ g2 := by simpa only [dj_app_l, dj_app_r, dj_cons_l, dj_cons_r, dj_nil_l, dj_nil_r, dk_app, dk_cons, dk_nil, and_true, true_and, and_assoc] using (show Dk g2 [(g1, .cells (colC c).toArray 53 (0, 0))] from Fg2)
  refine wpL_done (fun W1 hW1 => ?_)
  refine (show Code.wp _ _ _ _ _ from ?_)
  refine wp_seq ?_
  refine wp_seq ?_
  refine wp_region_L (W0 := w) [(g2, .cells #[.int .i64 0, .int .i64 0, .int .i64 0] 103 (0, 0)), (g1, .cells (colC c).toArray 53 (0, 0))] (hW1) ?_
  refine lm (v := .pointer (some ⟨g1, 2, none⟩)) rfl rfl ?_
  refine lv (v := .bool c.deck) rfl rfl (yb_cell (off := 2) rfl (by kernel_rfl) (.tail _ (.head _)) Try.underlying4 rfl (by kernel_rfl)) ?_
  refine wpL_done (fun W2 hW2 => ?_)
  refine (show Code.wp _ _ _ _ _ from ?_)
  cases h1 : c.deck with
  | false =>
    refine wp_cond_false rfl ?_
    refine wp_skip ?_
    refine (show Code.wp _ _ _ _ _ from ?_)
    refine wp_seq ?_
    refine wp_region_L (W0 := w) [(g2, .cells #[.int .i64 0, .int .i64 0, .int .i64 0] 103 (0, 0)), (g1, .cells (colC c).toArray 53 (0, 0))] (hW2) ?_
    refine lm (v := .pointer (some ⟨g1, 0, none⟩)) rfl rfl ?_
    refine lv (v := .int .i64 c.bay) rfl rfl (yb_cell (off := 0) rfl (by kernel_rfl) (.tail _ (.head _)) Try.underlying3 rfl (by kernel_rfl)) ?_
    refine lm (v := .pointer (some ⟨g1, 1, none⟩)) rfl rfl ?_
    refine lv (v := .int .i64 c.row) rfl rfl (yb_cell (off := 1) rfl (by kernel_rfl) (.tail _ (.head _)) Try.underlying3 rfl (by kernel_rfl)) ?_
    refine lm (v := .agg #[.int .i64 c.bay, .int .i64 c.row, .int .i64 0]) rfl rfl ?_
    refine wpL_s [(g2, .cells #[.int .i64 c.bay, .int .i64 c.row, .int .i64 0] 103 (0, 0)), (g1, .cells (colC c).toArray 53 (0, 0))] rfl rfl (st_row (off := 0) (v := .agg #[.int .i64 c.bay, .int .i64 c.row, .int .i64 0]) rfl (by kernel_rfl) (by kernel_rfl) (.head _) Bg2 (by kernel_rfl) (by first | (simp [Value.cells]; done) | exact Nat.le_of_ble_eq_true rfl) (by intro v hv; simp [Value.cells] at hv; first | (subst hv; rfl) | (rcases hv with rfl | rfl | rfl <;> rfl)) (by kernel_rfl) (List.forall_mem_cons.2 ⟨.inl rfl, (List.forall_mem_cons.2 ⟨.inr ⟨(.tail _ (.head _)), (by first | assumption | exact Ne.symm (by assumption))⟩, (List.forall_mem_nil _)⟩)⟩)) ?_
    refine wpL_done (fun W3 hW3 => ?_)
    refine (show Code.wp _ _ _ _ _ from ?_)
    refine wp_ret ?_
    try simp only [inBlock_ret, then_ret]
    refine bodyPost_ret (v := .agg #[.int .i64 c.bay, .int .i64 c.row, .int .i64 0]) ?_ rfl ?_
    · exact (res_cell (p := 2) rfl rfl (hW3.2 _ (.head _)) Try.underlying103 rfl (by kernel_rfl))
    · exact ⟨(by unfold placeX; rw [h1]; rfl), hW3.1⟩
  | true =>
    refine wp_cond_true rfl ?_
    refine wp_seq ?_
    refine wp_region_L (W0 := w) [(g2, .cells #[.int .i64 0, .int .i64 0, .int .i64 0] 103 (0, 0)), (g1, .cells (colC c).toArray 53 (0, 0))] (hW2) ?_
    refine lm (v := .pointer (some ⟨g1, 0, none⟩)) rfl rfl ?_
    refine lv (v := .int .i64 c.bay) rfl rfl (yb_cell (off := 0) rfl (by kernel_rfl) (.tail _ (.head _)) Try.underlying3 rfl (by kernel_rfl)) ?_
    refine lm (v := .pointer (some ⟨g1, 1, none⟩)) rfl rfl ?_
    refine lv (v := .int .i64 c.row) rfl rfl (yb_cell (off := 1) rfl (by kernel_rfl) (.tail _ (.head _)) Try.underlying3 rfl (by kernel_rfl)) ?_
    refine lm (v := .agg #[.int .i64 c.bay, .int .i64 c.row, .int .i64 1]) rfl rfl ?_
    refine wpL_s [(g2, .cells #[.int .i64 c.bay, .int .i64 c.row, .int .i64 1] 103 (0, 0)), (g1, .cells (colC c).toArray 53 (0, 0))] rfl rfl (st_row (off := 0) (v := .agg #[.int .i64 c.bay, .int .i64 c.row, .int .i64 1]) rfl (by kernel_rfl) (by kernel_rfl) (.head _) Bg2 (by kernel_rfl) (by first | (simp [Value.cells]; done) | exact Nat.le_of_ble_eq_true rfl) (by intro v hv; simp [Value.cells] at hv; first | (subst hv; rfl) | (rcases hv with rfl | rfl | rfl <;> rfl)) (by kernel_rfl) (List.forall_mem_cons.2 ⟨.inl rfl, (List.forall_mem_cons.2 ⟨.inr ⟨(.tail _ (.head _)), (by first | assumption | exact Ne.symm (by assumption))⟩, (List.forall_mem_nil _)⟩)⟩)) ?_
    refine wpL_done (fun W4 hW4 => ?_)
    refine (show Code.wp _ _ _ _ _ from ?_)
    refine wp_ret ?_
    try simp only [inBlock_ret, then_ret]
    refine bodyPost_ret (v := .agg #[.int .i64 c.bay, .int .i64 c.row, .int .i64 1]) ?_ rfl ?_
    · exact (res_cell (p := 2) rfl rfl (hW4.2 _ (.head _)) Try.underlying103 rfl (by kernel_rfl))
    · exact ⟨(by unfold placeX; rw [h1]; rfl), hW4.1⟩
set_option maxRecDepth 100000 in
set_option maxHeartbeats 4000000 in
theorem columnsRight_any (cs : List Col) (pc : Option Addr) (cc : Nat) (w : World) (hc : SLV w pc (cs.flatMap colC)) (hq : PlR w cs) (lq : ∀ c ∈ cs, c.plugs.length ≤ 4000000000) : Calls Try.prog 40 #[.slice pc cs.length cc] w fun e w' => e = .returned (.bool (colsX cs)) ∧ Below w.heap.size w w' := by
  have HC := Lib.hid hc
  clear hc
  have HQ := Lib.hid hq
  clear hq
  go_enter Try.func40, Try.ntmps40
  refine wp_seq ?_
  refine wp_region_L (W0 := w) [] (KS.start w) ?_
  refine lm (v := .bool false) rfl rfl ?_
  refine wpL_done (fun W1 hW1 => ?_)
  refine (show Code.wp _ _ _ _ _ from ?_)
  refine wp_seq ?_
  refine wp_seq ?_
  refine wp_region_L (W0 := w) [] (hW1) ?_
  refine lm (v := .slice pc cs.length cc) rfl rfl ?_
  refine lp (v := .int .i64 ((cs.length : Nat) : Int)) rfl rfl (run_lenL (p := pc) (cap := cc) (n := cs.length) rfl Try.underlying22 (by kernel_rfl)) ?_
  refine lp (v := .bool (decide (cs.length = 0))) rfl rfl (run_bin rfl (vx := (.int .i64 ((cs.length : Nat) : Int))) (vy := (.int .i64 ((0 : Nat) : Int))) (by kernel_rfl) (by kernel_rfl) fun w => bn_eql rfl w) ?_
  refine lm (v := .bool (decide (cs.length = 0))) rfl rfl ?_
  cases hd1 : (decide (cs.length = 0)) with
  | false =>
    have h1 : ¬ (cs.length = 0) := of_decide_eq_false hd1
    clear hd1
    refine lm (v := .slice pc cs.length cc) rfl rfl ?_
    refine lp (v := .int .i64 ((cs.length : Nat) : Int)) rfl rfl (run_lenL (p := pc) (cap := cc) (n := cs.length) rfl Try.underlying22 (by kernel_rfl)) ?_
    refine lp (v := .bool (decide (200 < cs.length))) rfl rfl (run_bin rfl (vx := (.int .i64 ((cs.length : Nat) : Int))) (vy := (.int .i64 ((200 : Nat) : Int))) (by kernel_rfl) (by kernel_rfl) fun w => bn_gtr rfl w) ?_
    refine lm (v := .bool (decide (200 < cs.length))) rfl rfl ?_
    refine wpL_done (fun W2 hW2 => ?_)
    refine (show Code.wp _ _ _ _ _ from ?_)
    cases hd2 : (decide (200 < cs.length)) with
    | false =>
      have h2 : ¬ (200 < cs.length) := of_decide_eq_false hd2
      clear hd2
      refine wp_cond_false rfl ?_
      refine wp_skip ?_
      refine (show Code.wp _ _ _ _ _ from ?_)
      refine wp_seq ?_
      refine wp_region_L (W0 := w) [] (hW2) ?_
      refine wpL_new (fun g => .map (some g)) (obi := .map #[] 0) rfl rfl (fun _ => by kernel_rfl) (fun _ => by simp only [List.setIfInBounds_toArray, List.set_cons_succ, List.set_cons_zero] <;> rfl) fun g1 Bg1 Fg1 => ?_
      refine lm (v := .map (some g1)) rfl rfl ?_
      refine wpL_done (fun W3 hW3 => ?_)
      refine (show Code.wp _ _ _ _ _ from ?_)
      refine wp_seq ?_
      refine wp_seq ?_
      refine wp_region_L (W0 := w) [(g1, .map #[] 0)] (hW3) ?_
      refine lm (v := .slice pc cs.length cc) rfl rfl ?_
      refine lp (v := .int .i64 ((cs.length : Nat) : Int)) rfl rfl (run_lenL (p := pc) (cap := cc) (n := cs.length) rfl Try.underlying22 (by kernel_rfl)) ?_
      refine lm (v := .int .i64 0) rfl rfl ?_
      refine wpL_done (fun W4 hW4 => ?_)
      refine (show Code.wp _ _ _ _ _ from ?_)
      refine wp_block ?_
      go_loopw [18] (fun u18 wr => ∃ (k : Nat) (es : Array MapEntry) (cl : Nat), (k ≤ cs.length) ∧ (colsF [] cs = colsF ((cs.take k).map placeX) (cs.drop k)) ∧ (SetM kv3 es ((cs.take k).map placeX)) ∧ u18 = .int .i64 ((k : Nat) : Int) ∧ KS w [(g1, .map es cl)] wr) (fun u18 _ => cs.length - (intOf u18).toNat)
      case atStart => exact ⟨0, #[], 0, (Nat.zero_le _), rfl, SetM.nil, rfl, (hW4.sub (fun p hp => by first | exact hp | (simp only [List.mem_cons, List.mem_append, List.nil_append, List.not_mem_nil, or_assoc, or_false, false_or] at hp ⊢ <;> grind)))⟩
      case round =>
        obtain ⟨k, es, cl, hk, hR, hS, rfl, hL5⟩ := hrel
        refine wp_seq ?_
        refine wp_region_L (W0 := w) [(g1, .map es cl)] (hL5) ?_
        refine lp (v := .bool (decide (k < cs.length))) rfl rfl (run_bin rfl (vx := (.int .i64 ((k : Nat) : Int))) (vy := (.int .i64 ((cs.length : Nat) : Int))) (by kernel_rfl) (by kernel_rfl) fun w => bn_lss rfl w) ?_
        refine wpL_done (fun W6 hW6 => ?_)
        refine (show Code.wp _ _ _ _ _ from ?_)
        refine wp_seq ?_
        cases hd3 : (decide (k < cs.length)) with
        | false =>
          have h3 : ¬ (k < cs.length) := of_decide_eq_false hd3
          clear hd3
          refine wp_cond_false rfl ?_
          refine wp_exit ?_
          refine (show Code.wp _ _ _ _ _ from ?_)
          refine wp_seq ?_
          refine wp_region_L (W0 := w) [(g1, .map es cl)] (hW6) ?_
          refine lm (v := .bool true) rfl rfl ?_
          refine wpL_done (fun W7 hW7 => ?_)
          refine (show Code.wp _ _ _ _ _ from ?_)
          refine wp_ret ?_
          try simp only [inBlock_ret, then_ret]
          refine bodyPost_ret (v := .bool true) ?_ rfl ?_
          · kernel_rfl
          · exact ⟨(bool_is (by unfold colsX; rw [decide_eq_false h1, decide_eq_false h2, hR, cols_end h3]; rfl)), hW7.1⟩
        | true =>
          have h3 : k < cs.length := of_decide_eq_true hd3
          clear hd3
          refine wp_cond_true rfl ?_
          refine wp_skip ?_
          refine (show Code.wp _ _ _ _ _ from ?_)
          refine wp_seq ?_
          refine wp_block ?_
          refine wp_seq ?_
          refine wp_region_L (W0 := w) [(g1, .map es cl)] (hW6) ?_
          obtain ⟨y2, g2_, f2_, hy2, hp2, hc2⟩ := RL.at (RL.base HC.out) colC_len (by decide) (hW6.sub (fun _ h => by cases h)) (k := k) (by omega)
          refine lp (v := .pointer (some ⟨g2_, f2_ + k * 12, none⟩)) rfl rfl (run_idxQ (p := pc) (cap := cc) (n := cs.length) (j := .i64) (k := k) (sz := 12) rfl Try.underlying22 (by kernel_rfl) (by kernel_rfl) hp2 (by kernel_rfl) (by omega)) ?_
          refine lv (v := .agg (colC y2).toArray) rfl rfl (yb_rs (off := f2_ + k * 12) (cs := colC y2) rfl (by kernel_rfl) (fun W hW => hc2 W (hW.sub (fun _ h => by cases h))) Try.underlying53 rfl (by kernel_rfl)) ?_
          refine wpL_new (fun g => .pointer (some ⟨g, 0, none⟩)) (obi := .cells #[.int .i64 0, .int .i64 0, .bool false, .int .i64 0, .int .i64 0, .int .i64 0, .int .i64 0, .int .i64 0, .slice none 0 0, .int .i64 0, .int .i64 0, .int .i64 0] 53 (0, 0)) rfl rfl (fun _ => by kernel_rfl) (fun _ => by simp only [List.setIfInBounds_toArray, List.set_cons_succ, List.set_cons_zero] <;> rfl) fun g3 Bg3 Fg3 => ?_
          obtain dj4_0 : g1 ≠ g3 := by simpa only [dj_app_l, dj_app_r, dj_cons_l, dj_cons_r, dj_nil_l, dj_nil_r, dk_app, dk_cons, dk_nil, and_true, true_and, and_assoc] using (show Dk g3 [(g1, .map es cl)] from Fg3)
          refine wpL_s [(g3, .cells (colC y2).toArray 53 (0, 0)), (g1, .map es cl)] rfl rfl (st_row (off := 0) (v := .agg (colC y2).toArray) rfl (by kernel_rfl) (by kernel_rfl) (.head _) Bg3 (by kernel_rfl) (by first | (simp [Value.cells]; done) | exact Nat.le_of_ble_eq_true rfl) (fun v hv => colC_one y2 v hv) (by kernel_rfl) (List.forall_mem_cons.2 ⟨.inl rfl, (List.forall_mem_cons.2 ⟨.inr ⟨(.tail _ (.head _)), (by first | assumption | exact Ne.symm (by assumption))⟩, (List.forall_mem_nil _)⟩)⟩)) ?_
          refine wpL_done (fun W8 hW8 => ?_)
          refine (show Code.wp _ _ _ _ _ from ?_)
          refine wp_seq ?_
          refine wp_region_L (W0 := w) [(g3, .cells (colC y2).toArray 53 (0, 0)), (g1, .map es cl)] (hW8) ?_
          refine lv (v := .agg (colC y2).toArray) rfl rfl (yb_load (n := 12) (off := 0) rfl (by kernel_rfl) (.head _) Try.underlying53 rfl (by kernel_rfl) (by first | (simp [Value.cells]; done) | exact Nat.le_of_ble_eq_true rfl) (by kernel_rfl)) ?_
          refine lv (v := .agg #[.int .i64 ((placeX y2).1), .int .i64 ((placeX y2).2.1), .int .i64 ((placeX y2).2.2)]) rfl rfl (yb_call (f := 68) (args := #[.agg (colC y2).toArray]) (fun _ => by kernel_rfl) fun W hW => placeOf_any y2 W) ?_
          refine wpL_new (fun g => .pointer (some ⟨g, 0, none⟩)) (obi := .cells #[.int .i64 0, .int .i64 0, .int .i64 0] 103 (0, 0)) rfl rfl (fun _ => by kernel_rfl) (fun _ => by simp only [List.setIfInBounds_toArray, List.set_cons_succ, List.set_cons_zero] <;> rfl) fun g5 Bg5 Fg5 => ?_
          obtain ⟨dj6_0, dj6_1⟩ : g3 ≠ g5 ∧ g1 ≠ g5 := by simpa only [dj_app_l, dj_app_r, dj_cons_l, dj_cons_r, dj_nil_l, dj_nil_r, dk_app, dk_cons, dk_nil, and_true, true_and, and_assoc] using (show Dk g5 [(g3, .cells (colC y2).toArray 53 (0, 0)), (g1, .map es cl)] from Fg5)
          refine wpL_s [(g5, .cells #[.int .i64 ((placeX y2).1), .int .i64 ((placeX y2).2.1), .int .i64 ((placeX y2).2.2)] 103 (0, 0)), (g3, .cells (colC y2).toArray 53 (0, 0)), (g1, .map es cl)] rfl rfl (st_row (off := 0) (v := .agg #[.int .i64 ((placeX y2).1), .int .i64 ((placeX y2).2.1), .int .i64 ((placeX y2).2.2)]) rfl (by kernel_rfl) (by kernel_rfl) (.head _) Bg5 (by kernel_rfl) (by first | (simp [Value.cells]; done) | exact Nat.le_of_ble_eq_true rfl) (by intro v hv; simp [Value.cells] at hv; first | (subst hv; rfl) | (rcases hv with rfl | rfl | rfl <;> rfl)) (by kernel_rfl) (List.forall_mem_cons.2 ⟨.inl rfl, (List.forall_mem_cons.2 ⟨.inr ⟨(.tail _ (.head _)), (by first | assumption | exact Ne.symm (by assumption))⟩, (List.forall_mem_cons.2 ⟨.inr ⟨(.tail _ (.tail _ (.head _))), (by first | assumption | exact Ne.symm (by assumption))⟩, (List.forall_mem_nil _)⟩)⟩)⟩)) ?_
          refine wpL_done (fun W9 hW9 => ?_)
          refine (show Code.wp _ _ _ _ _ from ?_)
          refine wp_seq ?_
          refine wp_seq ?_
          refine wp_region_L (W0 := w) [(g5, .cells #[.int .i64 ((placeX y2).1), .int .i64 ((placeX y2).2.1), .int .i64 ((placeX y2).2.2)] 103 (0, 0)), (g3, .cells (colC y2).toArray 53 (0, 0)), (g1, .map es cl)] (hW9) ?_
          refine lv (v := .agg (colC y2).toArray) rfl rfl (yb_load (n := 12) (off := 0) rfl (by kernel_rfl) (.tail _ (.head _)) Try.underlying53 rfl (by kernel_rfl) (by first | (simp [Value.cells]; done) | exact Nat.le_of_ble_eq_true rfl) (by kernel_rfl)) ?_
          refine lv (v := .bool (colX y2)) rfl rfl (yb_call (f := 69) (args := #[.agg (colC y2).toArray]) (fun _ => by kernel_rfl) fun W hW => columnRight_any y2 (lq y2 (List.mem_of_getElem? hy2)) W ((RL.base (HQ.out y2 (List.mem_of_getElem? hy2))) _ (hW.sub (fun _ h => by cases h)))) ?_
          refine lp (v := .bool (!(colX y2))) rfl rfl (run_un rfl (by kernel_rfl) fun w => un_not w) ?_
          refine lm (v := .bool (!(colX y2))) rfl rfl ?_
          cases h4 : (colX y2) with
          | false =>
            refine ln rfl ?_
            refine ln rfl ?_
            refine ln rfl ?_
            refine lm (v := .bool true) rfl rfl ?_
            refine wpL_done (fun W10 hW10 => ?_)
            refine (show Code.wp _ _ _ _ _ from ?_)
            refine wp_cond_true rfl ?_
            refine wp_seq ?_
            refine wp_region_L (W0 := w) [(g5, .cells #[.int .i64 ((placeX y2).1), .int .i64 ((placeX y2).2.1), .int .i64 ((placeX y2).2.2)] 103 (0, 0)), (g3, .cells (colC y2).toArray 53 (0, 0)), (g1, .map es cl)] (hW10) ?_
            refine lm (v := .bool false) rfl rfl ?_
            refine wpL_done (fun W11 hW11 => ?_)
            refine (show Code.wp _ _ _ _ _ from ?_)
            refine wp_ret ?_
            try simp only [inBlock_ret, then_ret]
            refine bodyPost_ret (v := .bool false) ?_ rfl ?_
            · kernel_rfl
            · exact ⟨(bool_is (by unfold colsX; rw [decide_eq_false h1, decide_eq_false h2, hR, cols_step hy2, h4]; rfl)), hW11.1⟩
          | true =>
            refine lm (v := .map (some g1)) rfl rfl ?_
            refine lv (v := .agg #[.int .i64 ((placeX y2).1), .int .i64 ((placeX y2).2.1), .int .i64 ((placeX y2).2.2)]) rfl rfl (yb_load (n := 3) (off := 0) rfl (by kernel_rfl) (.head _) Try.underlying103 rfl (by kernel_rfl) (by first | (simp [Value.cells]; done) | exact Nat.le_of_ble_eq_true rfl) (by kernel_rfl)) ?_
            refine lv (v := .bool (decide ((placeX y2) ∈ ((cs.take k).map placeX)))) rfl rfl (yb_lookset key3 (k := (placeX y2)) (L := ((cs.take k).map placeX)) rfl (by kernel_rfl) (by kernel_rfl) (.tail _ (.tail _ (.head _))) Try.underlying102 (fun _ => by kernel_rfl) hS decide_eq_true_iff) ?_
            refine lm (v := .bool (decide ((placeX y2) ∈ ((cs.take k).map placeX)))) rfl rfl ?_
            refine wpL_done (fun W12 hW12 => ?_)
            refine (show Code.wp _ _ _ _ _ from ?_)
            cases hd5 : (decide ((placeX y2) ∈ ((cs.take k).map placeX))) with
            | false =>
              have h5 : ¬ ((placeX y2) ∈ ((cs.take k).map placeX)) := of_decide_eq_false hd5
              clear hd5
              refine wp_cond_false rfl ?_
              refine wp_skip ?_
              refine (show Code.wp _ _ _ _ _ from ?_)
              refine wp_region_L (W0 := w) [(g5, .cells #[.int .i64 ((placeX y2).1), .int .i64 ((placeX y2).2.1), .int .i64 ((placeX y2).2.2)] 103 (0, 0)), (g3, .cells (colC y2).toArray 53 (0, 0)), (g1, .map es cl)] (hW12) ?_
              refine lm (v := .map (some g1)) rfl rfl ?_
              refine lv (v := .agg #[.int .i64 ((placeX y2).1), .int .i64 ((placeX y2).2.1), .int .i64 ((placeX y2).2.2)]) rfl rfl (yb_load (n := 3) (off := 0) rfl (by kernel_rfl) (.head _) Try.underlying103 rfl (by kernel_rfl) (by first | (simp [Value.cells]; done) | exact Nat.le_of_ble_eq_true rfl) (by kernel_rfl)) ?_
              refine wpL_s [(g5, .cells #[.int .i64 ((placeX y2).1), .int .i64 ((placeX y2).2.1), .int .i64 ((placeX y2).2.2)] 103 (0, 0)), (g3, .cells (colC y2).toArray 53 (0, 0)), (g1, .map (addM kv3 es cl (placeX y2)) (cl + 1))] rfl rfl (st_addm key3 (k := (placeX y2)) (L := ((cs.take k).map placeX)) rfl (by kernel_rfl) (by kernel_rfl) (by kernel_rfl) (.tail _ (.tail _ (.head _))) Bg1 Try.underlying102 hS h5 (List.forall_mem_cons.2 ⟨.inr ⟨(.head _), (by first | assumption | exact Ne.symm (by assumption))⟩, (List.forall_mem_cons.2 ⟨.inr ⟨(.tail _ (.head _)), (by first | assumption | exact Ne.symm (by assumption))⟩, (List.forall_mem_cons.2 ⟨.inl rfl, (List.forall_mem_nil _)⟩)⟩)⟩)) ?_
              refine wpL_done (fun W13 hW13 => ?_)
              refine (show Code.wp _ _ _ _ _ from ?_)
              refine wp_region_L (W0 := w) [(g5, .cells #[.int .i64 ((placeX y2).1), .int .i64 ((placeX y2).2.1), .int .i64 ((placeX y2).2.2)] 103 (0, 0)), (g3, .cells (colC y2).toArray 53 (0, 0)), (g1, .map (addM kv3 es cl (placeX y2)) (cl + 1))] (hW13) ?_
              refine lp (v := .int .i64 (((k + 1) : Nat) : Int)) rfl rfl (run_bin rfl (vx := (.int .i64 ((k : Nat) : Int))) (vy := (.int .i64 ((1 : Nat) : Int))) (by kernel_rfl) (by kernel_rfl) fun w => bn_add (z := (k + 1)) rfl (wr_i64 (by omega)) w) ?_
              refine lm (v := .int .i64 (((k + 1) : Nat) : Int)) rfl rfl ?_
              refine wpL_done (fun W14 hW14 => ?_)
              go_roundw
              case rel =>
                repeat apply Exists.intro
                exact ⟨⟨k + 1, (addM kv3 es cl (placeX y2)), (cl + 1), (by omega), (by rw [hR, cols_step hy2, h4, decide_eq_false h5, map_snoc placeX hy2]; rfl), (by rw [map_snoc placeX hy2]; exact (SetM.add hS cl (placeX y2))), rfl, (hW14.sub (fun p hp => by first | exact hp | (simp only [List.mem_cons, List.mem_append, List.nil_append, List.not_mem_nil, or_assoc, or_false, false_or] at hp ⊢ <;> grind)))⟩, rfl⟩
              case measure => (show cs.length - (intOf (.int .i64 (((k + 1) : Nat) : Int))).toNat < cs.length - (intOf (.int .i64 ((k : Nat) : Int))).toNat); simp only [intOf]; omega
            | true =>
              have h5 : (placeX y2) ∈ ((cs.take k).map placeX) := of_decide_eq_true hd5
              clear hd5
              refine wp_cond_true rfl ?_
              refine wp_seq ?_
              refine wp_region_L (W0 := w) [(g5, .cells #[.int .i64 ((placeX y2).1), .int .i64 ((placeX y2).2.1), .int .i64 ((placeX y2).2.2)] 103 (0, 0)), (g3, .cells (colC y2).toArray 53 (0, 0)), (g1, .map es cl)] (hW12) ?_
              refine lm (v := .bool false) rfl rfl ?_
              refine wpL_done (fun W15 hW15 => ?_)
              refine (show Code.wp _ _ _ _ _ from ?_)
              refine wp_ret ?_
              try simp only [inBlock_ret, then_ret]
              refine bodyPost_ret (v := .bool false) ?_ rfl ?_
              · kernel_rfl
              · exact ⟨(bool_is (by unfold colsX; rw [decide_eq_false h1, decide_eq_false h2, hR, cols_step hy2, h4, decide_eq_true h5]; rfl)), hW15.1⟩
    | true =>
      have h2 : 200 < cs.length := of_decide_eq_true hd2
      clear hd2
      refine wp_cond_true rfl ?_
      refine wp_seq ?_
      refine wp_region_L (W0 := w) [] (hW2) ?_
      refine lm (v := .bool false) rfl rfl ?_
      refine wpL_done (fun W16 hW16 => ?_)
      refine (show Code.wp _ _ _ _ _ from ?_)
      refine wp_ret ?_
      try simp only [inBlock_ret, then_ret]
      refine bodyPost_ret (v := .bool false) ?_ rfl ?_
      · kernel_rfl
      · exact ⟨(bool_is (by unfold colsX; rw [decide_eq_false h1, decide_eq_true h2]; rfl)), hW16.1⟩
  | true =>
    have h1 : cs.length = 0 := of_decide_eq_true hd1
    clear hd1
    refine ln rfl ?_
    refine ln rfl ?_
    refine ln rfl ?_
    refine lm (v := .bool true) rfl rfl ?_
    refine wpL_done (fun W17 hW17 => ?_)
    refine (show Code.wp _ _ _ _ _ from ?_)
    refine wp_cond_true rfl ?_
    refine wp_seq ?_
    refine wp_region_L (W0 := w) [] (hW17) ?_
    refine lm (v := .bool false) rfl rfl ?_
    refine wpL_done (fun W18 hW18 => ?_)
    refine (show Code.wp _ _ _ _ _ from ?_)
    refine wp_ret ?_
    try simp only [inBlock_ret, then_ret]
    refine bodyPost_ret (v := .bool false) ?_ rfl ?_
    · kernel_rfl
    · exact ⟨(bool_is (by unfold colsX; rw [decide_eq_true h1]; rfl)), hW18.1⟩
end Go.Proofs.Ytldhjhjomokkgaa
namespace Go.Proofs.Ytldhjhjomokkgaa
open Go Go.RowKit Tw
set_option maxRecDepth 100000 in
set_option maxHeartbeats 4000000 in
theorem coversRight_any (os : List Cov) (po : Option Addr) (co : Nat) (w : World) (ho : SLV w po (os.flatMap covC)) (hr : RwR w os) (lr : ∀ o ∈ os, o.rows.length ≤ 4000000000) : Calls Try.prog 41 #[.slice po os.length co] w fun e w' => e = .returned (.bool (ovsX os)) ∧ Below w.heap.size w w' := by
  have HO := Lib.hid ho
  clear ho
  have HR := Lib.hid hr
  clear hr
  go_enter Try.func41, Try.ntmps41
  refine wp_seq ?_
  refine wp_region_L (W0 := w) [] (KS.start w) ?_
  refine lm (v := .bool false) rfl rfl ?_
  refine wpL_done (fun W1 hW1 => ?_)
  refine (show Code.wp _ _ _ _ _ from ?_)
  refine wp_seq ?_
  refine wp_seq ?_
  refine wp_region_L (W0 := w) [] (hW1) ?_
  refine lm (v := .slice po os.length co) rfl rfl ?_
  refine lp (v := .int .i64 ((os.length : Nat) : Int)) rfl rfl (run_lenL (p := po) (cap := co) (n := os.length) rfl Try.underlying23 (by kernel_rfl)) ?_
  refine lp (v := .bool (decide (40 < os.length))) rfl rfl (run_bin rfl (vx := (.int .i64 ((os.length : Nat) : Int))) (vy := (.int .i64 ((40 : Nat) : Int))) (by kernel_rfl) (by kernel_rfl) fun w => bn_gtr rfl w) ?_
  refine wpL_done (fun W2 hW2 => ?_)
  refine (show Code.wp _ _ _ _ _ from ?_)
  cases hd1 : (decide (40 < os.length)) with
  | false =>
    have h1 : ¬ (40 < os.length) := of_decide_eq_false hd1
    clear hd1
    refine wp_cond_false rfl ?_
    refine wp_skip ?_
    refine (show Code.wp _ _ _ _ _ from ?_)
    refine wp_seq ?_
    refine wp_region_L (W0 := w) [] (hW2) ?_
    refine wpL_new (fun g => .map (some g)) (obi := .map #[] 0) rfl rfl (fun _ => by kernel_rfl) (fun _ => by simp only [List.setIfInBounds_toArray, List.set_cons_succ, List.set_cons_zero] <;> rfl) fun g1 Bg1 Fg1 => ?_
    refine lm (v := .map (some g1)) rfl rfl ?_
    refine wpL_done (fun W3 hW3 => ?_)
    refine (show Code.wp _ _ _ _ _ from ?_)
    refine wp_seq ?_
    refine wp_seq ?_
    refine wp_region_L (W0 := w) [(g1, .map #[] 0)] (hW3) ?_
    refine lm (v := .slice po os.length co) rfl rfl ?_
    refine lp (v := .int .i64 ((os.length : Nat) : Int)) rfl rfl (run_lenL (p := po) (cap := co) (n := os.length) rfl Try.underlying23 (by kernel_rfl)) ?_
    refine lm (v := .int .i64 0) rfl rfl ?_
    refine wpL_done (fun W4 hW4 => ?_)
    refine (show Code.wp _ _ _ _ _ from ?_)
    refine wp_block ?_
    go_loopw [15] (fun u15 wr => ∃ (k : Nat) (es : Array MapEntry) (cl : Nat) (L : List I2), (k ≤ os.length) ∧ (ovsF [] os = ovsF L (os.drop k)) ∧ (SetM kv2 es L) ∧ u15 = .int .i64 ((k : Nat) : Int) ∧ KS w [(g1, .map es cl)] wr) (fun u15 _ => os.length - (intOf u15).toNat)
    case atStart => exact ⟨0, #[], 0, [], (Nat.zero_le _), rfl, SetM.nil, rfl, (hW4.sub (fun p hp => by first | exact hp | (simp only [List.mem_cons, List.mem_append, List.nil_append, List.not_mem_nil, or_assoc, or_false, false_or] at hp ⊢ <;> grind)))⟩
    case round =>
      obtain ⟨k, es, cl, L, hk, hR, hS, rfl, hL5⟩ := hrel
      refine wp_seq ?_
      refine wp_region_L (W0 := w) [(g1, .map es cl)] (hL5) ?_
      refine lp (v := .bool (decide (k < os.length))) rfl rfl (run_bin rfl (vx := (.int .i64 ((k : Nat) : Int))) (vy := (.int .i64 ((os.length : Nat) : Int))) (by kernel_rfl) (by kernel_rfl) fun w => bn_lss rfl w) ?_
      refine wpL_done (fun W6 hW6 => ?_)
      refine (show Code.wp _ _ _ _ _ from ?_)
      refine wp_seq ?_
      cases hd2 : (decide (k < os.length)) with
      | false =>
        have h2 : ¬ (k < os.length) := of_decide_eq_false hd2
        clear hd2
        refine wp_cond_false rfl ?_
        refine wp_exit ?_
        refine (show Code.wp _ _ _ _ _ from ?_)
        refine wp_seq ?_
        refine wp_region_L (W0 := w) [(g1, .map es cl)] (hW6) ?_
        refine lm (v := .bool true) rfl rfl ?_
        refine wpL_done (fun W7 hW7 => ?_)
        refine (show Code.wp _ _ _ _ _ from ?_)
        refine wp_ret ?_
        try simp only [inBlock_ret, then_ret]
        refine bodyPost_ret (v := .bool true) ?_ rfl ?_
        · kernel_rfl
        · exact ⟨(bool_is (by unfold ovsX; rw [decide_eq_false h1, hR, ovs_end h2]; rfl)), hW7.1⟩
      | true =>
        have h2 : k < os.length := of_decide_eq_true hd2
        clear hd2
        refine wp_cond_true rfl ?_
        refine wp_skip ?_
        refine (show Code.wp _ _ _ _ _ from ?_)
        refine wp_seq ?_
        refine wp_block ?_
        refine wp_seq ?_
        refine wp_region_L (W0 := w) [(g1, .map es cl)] (hW6) ?_
        obtain ⟨y2, g2_, f2_, hy2, hp2, hc2⟩ := RL.at (RL.base HO.out) covC_len (by decide) (hW6.sub (fun _ h => by cases h)) (k := k) (by omega)
        refine lp (v := .pointer (some ⟨g2_, f2_ + k * 2, none⟩)) rfl rfl (run_idxQ (p := po) (cap := co) (n := os.length) (j := .i64) (k := k) (sz := 2) rfl Try.underlying23 (by kernel_rfl) (by kernel_rfl) hp2 (by kernel_rfl) (by omega)) ?_
        refine lv (v := .agg (covC y2).toArray) rfl rfl (yb_rs (off := f2_ + k * 2) (cs := covC y2) rfl (by kernel_rfl) (fun W hW => hc2 W (hW.sub (fun _ h => by cases h))) Try.underlying55 rfl (by kernel_rfl)) ?_
        refine wpL_new (fun g => .pointer (some ⟨g, 0, none⟩)) (obi := .cells #[.int .i64 0, .slice none 0 0] 55 (0, 0)) rfl rfl (fun _ => by kernel_rfl) (fun _ => by simp only [List.setIfInBounds_toArray, List.set_cons_succ, List.set_cons_zero] <;> rfl) fun g3 Bg3 Fg3 => ?_
        obtain dj4_0 : g1 ≠ g3 := by simpa only [dj_app_l, dj_app_r, dj_cons_l, dj_cons_r, dj_nil_l, dj_nil_r, dk_app, dk_cons, dk_nil, and_true, true_and, and_assoc] using (show Dk g3 [(g1, .map es cl)] from Fg3)
        refine wpL_s [(g3, .cells (covC y2).toArray 55 (0, 0)), (g1, .map es cl)] rfl rfl (st_row (off := 0) (v := .agg (covC y2).toArray) rfl (by kernel_rfl) (by kernel_rfl) (.head _) Bg3 (by kernel_rfl) (by first | (simp [Value.cells]; done) | exact Nat.le_of_ble_eq_true rfl) (fun v hv => covC_one y2 v hv) (by kernel_rfl) (List.forall_mem_cons.2 ⟨.inl rfl, (List.forall_mem_cons.2 ⟨.inr ⟨(.tail _ (.head _)), (by first | assumption | exact Ne.symm (by assumption))⟩, (List.forall_mem_nil _)⟩)⟩)) ?_
        refine wpL_done (fun W8 hW8 => ?_)
        refine (show Code.wp _ _ _ _ _ from ?_)
        refine wp_seq ?_
        refine wp_seq ?_
        refine wp_region_L (W0 := w) [(g3, .cells (covC y2).toArray 55 (0, 0)), (g1, .map es cl)] (hW8) ?_
        refine lv (v := .agg (covC y2).toArray) rfl rfl (yb_load (n := 2) (off := 0) rfl (by kernel_rfl) (.head _) Try.underlying55 rfl (by kernel_rfl) (by first | (simp [Value.cells]; done) | exact Nat.le_of_ble_eq_true rfl) (by kernel_rfl)) ?_
        refine lv (v := .bool (ovX y2)) rfl rfl (yb_call (f := 70) (args := #[.agg (covC y2).toArray]) (fun _ => by kernel_rfl) fun W hW => coverRight_any y2 (lr y2 (List.mem_of_getElem? hy2)) W ((RL.base (HR.out y2 (List.mem_of_getElem? hy2))) _ (hW.sub (fun _ h => by cases h)))) ?_
        refine lp (v := .bool (!(ovX y2))) rfl rfl (run_un rfl (by kernel_rfl) fun w => un_not w) ?_
        refine wpL_done (fun W9 hW9 => ?_)
        refine (show Code.wp _ _ _ _ _ from ?_)
        cases h3 : (ovX y2) with
        | false =>
          refine wp_cond_true rfl ?_
          refine wp_seq ?_
          refine wp_region_L (W0 := w) [(g3, .cells (covC y2).toArray 55 (0, 0)), (g1, .map es cl)] (hW9) ?_
          refine lm (v := .bool false) rfl rfl ?_
          refine wpL_done (fun W10 hW10 => ?_)
          refine (show Code.wp _ _ _ _ _ from ?_)
          refine wp_ret ?_
          try simp only [inBlock_ret, then_ret]
          refine bodyPost_ret (v := .bool false) ?_ rfl ?_
          · kernel_rfl
          · exact ⟨(bool_is (by unfold ovsX; rw [decide_eq_false h1, hR, ovs_step hy2, h3]; rfl)), hW10.1⟩
        | true =>
          refine wp_cond_false rfl ?_
          refine wp_skip ?_
          refine (show Code.wp _ _ _ _ _ from ?_)
          refine wp_seq ?_
          refine wp_region_L (W0 := w) [(g3, .cells (covC y2).toArray 55 (0, 0)), (g1, .map es cl)] (hW9) ?_
          refine lm (v := .pointer (some ⟨g3, 1, none⟩)) rfl rfl ?_
          refine lv (v := .slice y2.rp y2.rows.length y2.rc) rfl rfl (yb_cell (off := 1) rfl (by kernel_rfl) (.head _) Try.underlying39 rfl (by kernel_rfl)) ?_
          refine lp (v := .int .i64 ((y2.rows.length : Nat) : Int)) rfl rfl (run_lenL (p := y2.rp) (cap := y2.rc) (n := y2.rows.length) rfl Try.underlying39 (by kernel_rfl)) ?_
          refine lm (v := .int .i64 0) rfl rfl ?_
          refine wpL_done (fun W11 hW11 => ?_)
          refine (show Code.wp _ _ _ _ _ from ?_)
          refine wp_block ?_
          have lz2 := lr y2 (List.mem_of_getElem? hy2)
          go_loopw [25] (fun u25 wr => ∃ (m : Nat) (es2 : Array MapEntry) (cl2 : Nat), (m ≤ y2.rows.length) ∧ (freshF y2.bay L y2.rows = freshF y2.bay (L ++ (y2.rows.take m).map (fun r => (y2.bay, r))) (y2.rows.drop m)) ∧ (SetM kv2 es2 (L ++ (y2.rows.take m).map (fun r => (y2.bay, r)))) ∧ u25 = .int .i64 ((m : Nat) : Int) ∧ KS w [(g3, .cells (covC y2).toArray 55 (0, 0)), (g1, .map es2 cl2)] wr) (fun u25 _ => y2.rows.length - (intOf u25).toNat)
          case atStart => exact ⟨0, es, cl, (Nat.zero_le _), (by rw [List.take_zero, List.map_nil, List.append_nil]; rfl), (by rw [List.take_zero, List.map_nil, List.append_nil]; exact hS), rfl, (hW11.sub (fun p hp => by first | exact hp | (simp only [List.mem_cons, List.mem_append, List.nil_append, List.not_mem_nil, or_assoc, or_false, false_or] at hp ⊢ <;> grind)))⟩
          case round =>
            obtain ⟨m, es2, cl2, hm, hI, hT, rfl, hL12⟩ := hrel
            refine wp_seq ?_
            refine wp_region_L (W0 := w) [(g3, .cells (covC y2).toArray 55 (0, 0)), (g1, .map es2 cl2)] (hL12) ?_
            refine lp (v := .bool (decide (m < y2.rows.length))) rfl rfl (run_bin rfl (vx := (.int .i64 ((m : Nat) : Int))) (vy := (.int .i64 ((y2.rows.length : Nat) : Int))) (by kernel_rfl) (by kernel_rfl) fun w => bn_lss rfl w) ?_
            refine wpL_done (fun W13 hW13 => ?_)
            refine (show Code.wp _ _ _ _ _ from ?_)
            refine wp_seq ?_
            cases hd4 : (decide (m < y2.rows.length)) with
            | false =>
              have h4 : ¬ (m < y2.rows.length) := of_decide_eq_false hd4
              clear hd4
              refine wp_cond_false rfl ?_
              refine wp_exit ?_
              refine (show Code.wp _ _ _ _ _ from ?_)
              refine wp_region_L (W0 := w) [(g3, .cells (covC y2).toArray 55 (0, 0)), (g1, .map es2 cl2)] (hW13) ?_
              refine lp (v := .int .i64 (((k + 1) : Nat) : Int)) rfl rfl (run_bin rfl (vx := (.int .i64 ((k : Nat) : Int))) (vy := (.int .i64 ((1 : Nat) : Int))) (by kernel_rfl) (by kernel_rfl) fun w => bn_add (z := (k + 1)) rfl (wr_i64 (by omega)) w) ?_
              refine lm (v := .int .i64 (((k + 1) : Nat) : Int)) rfl rfl ?_
              refine wpL_done (fun W14 hW14 => ?_)
              go_roundw
              case rel =>
                repeat apply Exists.intro
                exact ⟨⟨k + 1, es2, cl2, (L ++ y2.rows.map (fun r => (y2.bay, r))), (by omega), (by rw [hR, ovs_step hy2, h3, hI, fresh_end h4]; rfl), (by rw [show y2.rows.take m = y2.rows from List.take_of_length_le (by omega)] at hT; exact hT), rfl, (hW14.sub (fun p hp => by first | exact hp | (simp only [List.mem_cons, List.mem_append, List.nil_append, List.not_mem_nil, or_assoc, or_false, false_or] at hp ⊢ <;> grind)))⟩, rfl⟩
              case measure => (show os.length - (intOf (.int .i64 (((k + 1) : Nat) : Int))).toNat < os.length - (intOf (.int .i64 ((k : Nat) : Int))).toNat); simp only [intOf]; omega
            | true =>
              have h4 : m < y2.rows.length := of_decide_eq_true hd4
              clear hd4
              refine wp_cond_true rfl ?_
              refine wp_skip ?_
              refine (show Code.wp _ _ _ _ _ from ?_)
              refine wp_seq ?_
              refine wp_block ?_
              refine wp_seq ?_
              refine wp_region_L (W0 := w) [(g3, .cells (covC y2).toArray 55 (0, 0)), (g1, .map es2 cl2)] (hW13) ?_
              obtain ⟨y5, g5_, f5_, hy5, hp5, hc5⟩ := RL.at (RL.base (HR.out y2 (List.mem_of_getElem? hy2))) inC_len (by decide) (hW13.sub (fun _ h => by cases h)) (k := m) (by omega)
              refine lp (v := .pointer (some ⟨g5_, f5_ + m * 1, none⟩)) rfl rfl (run_idxQ (p := y2.rp) (cap := y2.rc) (n := y2.rows.length) (j := .i64) (k := m) (sz := 1) rfl Try.underlying39 (by kernel_rfl) (by kernel_rfl) hp5 (by kernel_rfl) (by omega)) ?_
              refine lv (v := .int .i64 y5) rfl rfl (yb_rf (v := .int .i64 y5) rfl (by kernel_rfl) (fun W hW => hc5 W (hW.sub (fun _ h => by cases h)) 0 _ rfl) Try.underlying3 rfl) ?_
              refine lm (v := .int .i64 y5) rfl rfl ?_
              refine wpL_done (fun W15 hW15 => ?_)
              refine (show Code.wp _ _ _ _ _ from ?_)
              refine wp_seq ?_
              refine wp_region_L (W0 := w) [(g3, .cells (covC y2).toArray 55 (0, 0)), (g1, .map es2 cl2)] (hW15) ?_
              refine lm (v := .pointer (some ⟨g3, 0, none⟩)) rfl rfl ?_
              refine lv (v := .int .i64 y2.bay) rfl rfl (yb_cell (off := 0) rfl (by kernel_rfl) (.head _) Try.underlying3 rfl (by kernel_rfl)) ?_
              refine lm (v := .int .i64 y5) rfl rfl ?_
              refine lm (v := .agg #[.int .i64 y2.bay, .int .i64 y5]) rfl rfl ?_
              refine wpL_new (fun g => .pointer (some ⟨g, 0, none⟩)) (obi := .cells #[.int .i64 0, .int .i64 0] 106 (0, 0)) rfl rfl (fun _ => by kernel_rfl) (fun _ => by simp only [List.setIfInBounds_toArray, List.set_cons_succ, List.set_cons_zero] <;> rfl) fun g6 Bg6 Fg6 => ?_
              obtain ⟨dj7_0, dj7_1⟩ : g3 ≠ g6 ∧ g1 ≠ g6 := by simpa only [dj_app_l, dj_app_r, dj_cons_l, dj_cons_r, dj_nil_l, dj_nil_r, dk_app, dk_cons, dk_nil, and_true, true_and, and_assoc] using (show Dk g6 [(g3, .cells (covC y2).toArray 55 (0, 0)), (g1, .map es2 cl2)] from Fg6)
              refine wpL_s [(g6, .cells #[.int .i64 y2.bay, .int .i64 y5] 106 (0, 0)), (g3, .cells (covC y2).toArray 55 (0, 0)), (g1, .map es2 cl2)] rfl rfl (st_row (off := 0) (v := .agg #[.int .i64 y2.bay, .int .i64 y5]) rfl (by kernel_rfl) (by kernel_rfl) (.head _) Bg6 (by kernel_rfl) (by first | (simp [Value.cells]; done) | exact Nat.le_of_ble_eq_true rfl) (by intro v hv; simp [Value.cells] at hv; first | (subst hv; rfl) | (rcases hv with rfl | rfl <;> rfl)) (by kernel_rfl) (List.forall_mem_cons.2 ⟨.inl rfl, (List.forall_mem_cons.2 ⟨.inr ⟨(.tail _ (.head _)), (by first | assumption | exact Ne.symm (by assumption))⟩, (List.forall_mem_cons.2 ⟨.inr ⟨(.tail _ (.tail _ (.head _))), (by first | assumption | exact Ne.symm (by assumption))⟩, (List.forall_mem_nil _)⟩)⟩)⟩)) ?_
              refine wpL_done (fun W16 hW16 => ?_)
              refine (show Code.wp _ _ _ _ _ from ?_)
              refine wp_seq ?_
              refine wp_seq ?_
              refine wp_region_L (W0 := w) [(g6, .cells #[.int .i64 y2.bay, .int .i64 y5] 106 (0, 0)), (g3, .cells (covC y2).toArray 55 (0, 0)), (g1, .map es2 cl2)] (hW16) ?_
              refine lm (v := .map (some g1)) rfl rfl ?_
              refine lv (v := .agg #[.int .i64 y2.bay, .int .i64 y5]) rfl rfl (yb_load (n := 2) (off := 0) rfl (by kernel_rfl) (.head _) Try.underlying106 rfl (by kernel_rfl) (by first | (simp [Value.cells]; done) | exact Nat.le_of_ble_eq_true rfl) (by kernel_rfl)) ?_
              refine lv (v := .bool (decide ((y2.bay, y5) ∈ (L ++ (y2.rows.take m).map (fun r => (y2.bay, r)))))) rfl rfl (yb_lookset key2 (k := (y2.bay, y5)) (L := (L ++ (y2.rows.take m).map (fun r => (y2.bay, r)))) rfl (by kernel_rfl) (by kernel_rfl) (.tail _ (.tail _ (.head _))) Try.underlying105 (fun _ => by kernel_rfl) hT decide_eq_true_iff) ?_
              refine wpL_done (fun W17 hW17 => ?_)
              refine (show Code.wp _ _ _ _ _ from ?_)
              cases hd5 : (decide ((y2.bay, y5) ∈ (L ++ (y2.rows.take m).map (fun r => (y2.bay, r))))) with
              | false =>
                have h5 : ¬ ((y2.bay, y5) ∈ (L ++ (y2.rows.take m).map (fun r => (y2.bay, r)))) := of_decide_eq_false hd5
                clear hd5
                refine wp_cond_false rfl ?_
                refine wp_skip ?_
                refine (show Code.wp _ _ _ _ _ from ?_)
                refine wp_region_L (W0 := w) [(g6, .cells #[.int .i64 y2.bay, .int .i64 y5] 106 (0, 0)), (g3, .cells (covC y2).toArray 55 (0, 0)), (g1, .map es2 cl2)] (hW17) ?_
                refine lm (v := .map (some g1)) rfl rfl ?_
                refine lv (v := .agg #[.int .i64 y2.bay, .int .i64 y5]) rfl rfl (yb_load (n := 2) (off := 0) rfl (by kernel_rfl) (.head _) Try.underlying106 rfl (by kernel_rfl) (by first | (simp [Value.cells]; done) | exact Nat.le_of_ble_eq_true rfl) (by kernel_rfl)) ?_
                refine wpL_s [(g6, .cells #[.int .i64 y2.bay, .int .i64 y5] 106 (0, 0)), (g3, .cells (covC y2).toArray 55 (0, 0)), (g1, .map (addM kv2 es2 cl2 (y2.bay, y5)) (cl2 + 1))] rfl rfl (st_addm key2 (k := (y2.bay, y5)) (L := (L ++ (y2.rows.take m).map (fun r => (y2.bay, r)))) rfl (by kernel_rfl) (by kernel_rfl) (by kernel_rfl) (.tail _ (.tail _ (.head _))) Bg1 Try.underlying105 hT h5 (List.forall_mem_cons.2 ⟨.inr ⟨(.head _), (by first | assumption | exact Ne.symm (by assumption))⟩, (List.forall_mem_cons.2 ⟨.inr ⟨(.tail _ (.head _)), (by first | assumption | exact Ne.symm (by assumption))⟩, (List.forall_mem_cons.2 ⟨.inl rfl, (List.forall_mem_nil _)⟩)⟩)⟩)) ?_
                refine wpL_done (fun W18 hW18 => ?_)
                refine (show Code.wp _ _ _ _ _ from ?_)
                refine wp_region_L (W0 := w) [(g6, .cells #[.int .i64 y2.bay, .int .i64 y5] 106 (0, 0)), (g3, .cells (covC y2).toArray 55 (0, 0)), (g1, .map (addM kv2 es2 cl2 (y2.bay, y5)) (cl2 + 1))] (hW18) ?_
                refine lp (v := .int .i64 (((m + 1) : Nat) : Int)) rfl rfl (run_bin rfl (vx := (.int .i64 ((m : Nat) : Int))) (vy := (.int .i64 ((1 : Nat) : Int))) (by kernel_rfl) (by kernel_rfl) fun w => bn_add (z := (m + 1)) rfl (wr_i64 (by omega)) w) ?_
                refine lm (v := .int .i64 (((m + 1) : Nat) : Int)) rfl rfl ?_
                refine wpL_done (fun W19 hW19 => ?_)
                go_roundw
                case rel =>
                  repeat apply Exists.intro
                  exact ⟨⟨m + 1, (addM kv2 es2 cl2 (y2.bay, y5)), (cl2 + 1), (by omega), (by rw [hI, fresh_step hy5, decide_eq_false h5, map_snoc (fun r => (y2.bay, r)) hy5, List.append_assoc]; rfl), (by rw [map_snoc (fun r => (y2.bay, r)) hy5, ← List.append_assoc]; exact (SetM.add hT cl2 (y2.bay, y5))), rfl, (hW19.sub (fun p hp => by first | exact hp | (simp only [List.mem_cons, List.mem_append, List.nil_append, List.not_mem_nil, or_assoc, or_false, false_or] at hp ⊢ <;> grind)))⟩, rfl⟩
                case measure => (show y2.rows.length - (intOf (.int .i64 (((m + 1) : Nat) : Int))).toNat < y2.rows.length - (intOf (.int .i64 ((m : Nat) : Int))).toNat); simp only [intOf]; omega
              | true =>
                have h5 : (y2.bay, y5) ∈ (L ++ (y2.rows.take m).map (fun r => (y2.bay, r))) := of_decide_eq_true hd5
                clear hd5
                refine wp_cond_true rfl ?_
                refine wp_seq ?_
                refine wp_region_L (W0 := w) [(g6, .cells #[.int .i64 y2.bay, .int .i64 y5] 106 (0, 0)), (g3, .cells (covC y2).toArray 55 (0, 0)), (g1, .map es2 cl2)] (hW17) ?_
                refine lm (v := .bool false) rfl rfl ?_
                refine wpL_done (fun W20 hW20 => ?_)
                refine (show Code.wp _ _ _ _ _ from ?_)
                refine wp_ret ?_
                try simp only [inBlock_ret, then_ret]
                refine bodyPost_ret (v := .bool false) ?_ rfl ?_
                · kernel_rfl
                · exact ⟨(bool_is (by unfold ovsX; rw [decide_eq_false h1, hR, ovs_step hy2, h3, hI, fresh_step hy5, decide_eq_true h5]; rfl)), hW20.1⟩
  | true =>
    have h1 : 40 < os.length := of_decide_eq_true hd1
    clear hd1
    refine wp_cond_true rfl ?_
    refine wp_seq ?_
    refine wp_region_L (W0 := w) [] (hW2) ?_
    refine lm (v := .bool false) rfl rfl ?_
    refine wpL_done (fun W21 hW21 => ?_)
    refine (show Code.wp _ _ _ _ _ from ?_)
    refine wp_ret ?_
    try simp only [inBlock_ret, then_ret]
    refine bodyPost_ret (v := .bool false) ?_ rfl ?_
    · kernel_rfl
    · exact ⟨(bool_is (by unfold ovsX; rw [decide_eq_true h1]; rfl)), hW21.1⟩
set_option maxRecDepth 100000 in
set_option maxHeartbeats 4000000 in
theorem Right_any (cs : List Col) (pc : Option Addr) (cc : Nat) (lc : cs.length ≤ 4000000000) (os : List Cov) (po : Option Addr) (co : Nat) (lo : os.length ≤ 4000000000) (t : Tl) (w : World) (hc : SLV w pc (cs.flatMap colC)) (ho : SLV w po (os.flatMap covC)) (hr : RwR w os) (lr : ∀ o ∈ os, o.rows.length ≤ 4000000000) (hq : PlR w cs) (lq : ∀ c ∈ cs, c.plugs.length ≤ 4000000000) : Calls Try.prog 14 #[.agg (shC (.slice pc cs.length cc) (.slice po os.length co) t).toArray] w fun e w' => e = .returned (.bool (rightX cs os)) ∧ Below w.heap.size w w' := by
  have HC := Lib.hid hc
  clear hc
  have HO := Lib.hid ho
  clear ho
  have HR := Lib.hid hr
  clear hr
  have HQ := Lib.hid hq
  clear hq
  go_enter Try.func14, Try.ntmps14
  refine wp_seq ?_
  refine wp_region_L (W0 := w) [] (KS.start w) ?_
  refine wpL_new (fun g => .pointer (some ⟨g, 0, none⟩)) (obi := .cells (shC (.slice pc cs.length cc) (.slice po os.length co) t).toArray 32 (0, 0)) rfl rfl (fun _ => by kernel_rfl) (fun _ => by simp only [List.setIfInBounds_toArray, List.set_cons_succ, List.set_cons_zero] <;> rfl) fun g1 Bg1 Fg1 => ?_
  refine lm (v := .bool false) rfl rfl ?_
  refine wpL_done (fun W1 hW1 => ?_)
  refine (show Code.wp _ _ _ _ _ from ?_)
  refine wp_seq ?_
  refine wp_region_L (W0 := w) [(g1, .cells (shC (.slice pc cs.length cc) (.slice po os.length co) t).toArray 32 (0, 0))] (hW1) ?_
  refine lm (v := .pointer (some ⟨g1, 0, none⟩)) rfl rfl ?_
  refine lv (v := .slice pc cs.length cc) rfl rfl (yb_cell (off := 0) rfl (by kernel_rfl) (.head _) Try.underlying22 rfl (by kernel_rfl)) ?_
  refine lv (v := .bool (colsX cs)) rfl rfl (yb_call (f := 40) (args := #[.slice pc cs.length cc]) (fun _ => by kernel_rfl) fun W hW => columnsRight_any cs pc cc W ((RL.base HC.out) _ (hW.sub (fun _ h => by cases h))) (HQ.out.keep hW.1) lq) ?_
  refine lm (v := .bool (colsX cs)) rfl rfl ?_
  cases h1 : (colsX cs) with
  | false =>
    refine ln rfl ?_
    refine ln rfl ?_
    refine ln rfl ?_
    refine lm (v := .bool false) rfl rfl ?_
    refine lm (v := .bool false) rfl rfl ?_
    refine wpL_done (fun W2 hW2 => ?_)
    refine (show Code.wp _ _ _ _ _ from ?_)
    refine wp_ret ?_
    try simp only [inBlock_ret, then_ret]
    refine bodyPost_ret (v := .bool false) ?_ rfl ?_
    · kernel_rfl
    · exact ⟨(bool_is (by unfold rightX; simp [*])), hW2.1⟩
  | true =>
    refine lm (v := .pointer (some ⟨g1, 1, none⟩)) rfl rfl ?_
    refine lv (v := .slice po os.length co) rfl rfl (yb_cell (off := 1) rfl (by kernel_rfl) (.head _) Try.underlying23 rfl (by kernel_rfl)) ?_
    refine lv (v := .bool (ovsX os)) rfl rfl (yb_call (f := 41) (args := #[.slice po os.length co]) (fun _ => by kernel_rfl) fun W hW => coversRight_any os po co W ((RL.base HO.out) _ (hW.sub (fun _ h => by cases h))) (HR.out.keep hW.1) lr) ?_
    refine lm (v := .bool (ovsX os)) rfl rfl ?_
    refine lm (v := .bool (ovsX os)) rfl rfl ?_
    refine wpL_done (fun W3 hW3 => ?_)
    refine (show Code.wp _ _ _ _ _ from ?_)
    refine wp_ret ?_
    try simp only [inBlock_ret, then_ret]
    refine bodyPost_ret (v := .bool (ovsX os)) ?_ rfl ?_
    · kernel_rfl
    · exact ⟨(bool_is (by unfold rightX; simp [*])), hW3.1⟩
end Go.Proofs.Ytldhjhjomokkgaa
namespace Go.Proofs.Ytldhjhjomokkgaa
open Go Go.RowKit Tw
set_option maxRecDepth 100000 in
set_option maxHeartbeats 4000000 in
theorem Example_any {W0 : Base} (w : World) (hw : KS W0 [] w) : Calls Try.prog 32 #[] w fun e w' => ∃ v T, e = .returned v ∧ KS W0 T w' ∧ ShipT W0 exCs [(0, [0, 1])] v T := by
  go_enter Try.func32, Try.ntmps32
  refine wp_seq ?_
  refine wp_region_L (W0 := W0) [] (hw) ?_
  refine wpL_new (fun g => .pointer (some ⟨g, 0, none⟩)) (obi := .cells (shC (.slice none 0 0) (.slice none 0 0) tl0).toArray 32 (0, 0)) rfl rfl (fun _ => by kernel_rfl) (fun _ => by simp only [List.setIfInBounds_toArray, List.set_cons_succ, List.set_cons_zero] <;> rfl) fun g1 Bg1 Fg1 => ?_
  refine wpL_done (fun W1 hW1 => ?_)
  refine (show Code.wp _ _ _ _ _ from ?_)
  refine wp_seq ?_
  refine wp_region_L (W0 := W0) [(g1, .cells (shC (.slice none 0 0) (.slice none 0 0) tl0).toArray 32 (0, 0))] (hW1) ?_
  refine lm (v := .agg #[.int .i64 0, .int .i64 0, .bool false, .int .i64 2, .int .i64 0, .int .i64 0, .int .i64 0, .int .i64 0, .slice none 0 0, .int .i64 0, .int .i64 0, .int .i64 0]) rfl rfl ?_
  refine lm (v := .agg #[.int .i64 0, .int .i64 1, .bool false, .int .i64 2, .int .i64 0, .int .i64 0, .int .i64 0, .int .i64 0, .slice none 0 0, .int .i64 0, .int .i64 0, .int .i64 0]) rfl rfl ?_
  refine lm (v := .agg #[.int .i64 0, .int .i64 0, .bool true, .int .i64 3, .int .i64 0, .int .i64 0, .int .i64 0, .int .i64 0, .slice none 0 0, .int .i64 0, .int .i64 0, .int .i64 0]) rfl rfl ?_
  refine lm (v := .agg #[.int .i64 0, .int .i64 1, .bool true, .int .i64 3, .int .i64 0, .int .i64 0, .int .i64 0, .int .i64 0, .slice none 0 0, .int .i64 0, .int .i64 0, .int .i64 0]) rfl rfl ?_
  refine lm (v := .agg #[.int .i64 1, .int .i64 1, .bool true, .int .i64 4, .int .i64 0, .int .i64 0, .int .i64 0, .int .i64 0, .slice none 0 0, .int .i64 0, .int .i64 0, .int .i64 0]) rfl rfl ?_
  refine wpL_new (fun g => .slice (some ⟨g, 0, none⟩) 5 5) (obi := .cells #[.int .i64 0, .int .i64 0, .bool false, .int .i64 2, .int .i64 0, .int .i64 0, .int .i64 0, .int .i64 0, .slice none 0 0, .int .i64 0, .int .i64 0, .int .i64 0, .int .i64 0, .int .i64 1, .bool false, .int .i64 2, .int .i64 0, .int .i64 0, .int .i64 0, .int .i64 0, .slice none 0 0, .int .i64 0, .int .i64 0, .int .i64 0, .int .i64 0, .int .i64 0, .bool true, .int .i64 3, .int .i64 0, .int .i64 0, .int .i64 0, .int .i64 0, .slice none 0 0, .int .i64 0, .int .i64 0, .int .i64 0, .int .i64 0, .int .i64 1, .bool true, .int .i64 3, .int .i64 0, .int .i64 0, .int .i64 0, .int .i64 0, .slice none 0 0, .int .i64 0, .int .i64 0, .int .i64 0, .int .i64 1, .int .i64 1, .bool true, .int .i64 4, .int .i64 0, .int .i64 0, .int .i64 0, .int .i64 0, .slice none 0 0, .int .i64 0, .int .i64 0, .int .i64 0] 53 (0, 0)) rfl rfl (fun _ => by kernel_rfl) (fun _ => by simp only [List.setIfInBounds_toArray, List.set_cons_succ, List.set_cons_zero] <;> rfl) fun g2 Bg2 Fg2 => ?_
  obtain dj3_0 : g1 ≠ g2 := by simpa only [dj_app_l, dj_app_r, dj_cons_l, dj_cons_r, dj_nil_l, dj_nil_r, dk_app, dk_cons, dk_nil, and_true, true_and, and_assoc] using (show Dk g2 [(g1, .cells (shC (.slice none 0 0) (.slice none 0 0) tl0).toArray 32 (0, 0))] from Fg2)
  refine wpL_new (fun g => .slice (some ⟨g, 0, none⟩) 2 2) (obi := .cells #[.int .i64 0, .int .i64 1] 3 (0, 0)) rfl rfl (fun _ => by kernel_rfl) (fun _ => by simp only [List.setIfInBounds_toArray, List.set_cons_succ, List.set_cons_zero] <;> rfl) fun g4 Bg4 Fg4 => ?_
  obtain ⟨dj5_0, dj5_1⟩ : g2 ≠ g4 ∧ g1 ≠ g4 := by simpa only [dj_app_l, dj_app_r, dj_cons_l, dj_cons_r, dj_nil_l, dj_nil_r, dk_app, dk_cons, dk_nil, and_true, true_and, and_assoc] using (show Dk g4 [(g2, .cells #[.int .i64 0, .int .i64 0, .bool false, .int .i64 2, .int .i64 0, .int .i64 0, .int .i64 0, .int .i64 0, .slice none 0 0, .int .i64 0, .int .i64 0, .int .i64 0, .int .i64 0, .int .i64 1, .bool false, .int .i64 2, .int .i64 0, .int .i64 0, .int .i64 0, .int .i64 0, .slice none 0 0, .int .i64 0, .int .i64 0, .int .i64 0, .int .i64 0, .int .i64 0, .bool true, .int .i64 3, .int .i64 0, .int .i64 0, .int .i64 0, .int .i64 0, .slice none 0 0, .int .i64 0, .int .i64 0, .int .i64 0, .int .i64 0, .int .i64 1, .bool true, .int .i64 3, .int .i64 0, .int .i64 0, .int .i64 0, .int .i64 0, .slice none 0 0, .int .i64 0, .int .i64 0, .int .i64 0, .int .i64 1, .int .i64 1, .bool true, .int .i64 4, .int .i64 0, .int .i64 0, .int .i64 0, .int .i64 0, .slice none 0 0, .int .i64 0, .int .i64 0, .int .i64 0] 53 (0, 0)), (g1, .cells (shC (.slice none 0 0) (.slice none 0 0) tl0).toArray 32 (0, 0))] from Fg4)
  refine lm (v := .agg #[.int .i64 0, .slice (some ⟨g4, 0, none⟩) 2 2]) rfl rfl ?_
  refine wpL_new (fun g => .slice (some ⟨g, 0, none⟩) 1 1) (obi := .cells #[.int .i64 0, .slice (some ⟨g4, 0, none⟩) 2 2] 55 (0, 0)) rfl rfl (fun _ => by kernel_rfl) (fun _ => by simp only [List.setIfInBounds_toArray, List.set_cons_succ, List.set_cons_zero] <;> rfl) fun g6 Bg6 Fg6 => ?_
  obtain ⟨dj7_0, dj7_1, dj7_2⟩ : g4 ≠ g6 ∧ g2 ≠ g6 ∧ g1 ≠ g6 := by simpa only [dj_app_l, dj_app_r, dj_cons_l, dj_cons_r, dj_nil_l, dj_nil_r, dk_app, dk_cons, dk_nil, and_true, true_and, and_assoc] using (show Dk g6 [(g4, .cells #[.int .i64 0, .int .i64 1] 3 (0, 0)), (g2, .cells #[.int .i64 0, .int .i64 0, .bool false, .int .i64 2, .int .i64 0, .int .i64 0, .int .i64 0, .int .i64 0, .slice none 0 0, .int .i64 0, .int .i64 0, .int .i64 0, .int .i64 0, .int .i64 1, .bool false, .int .i64 2, .int .i64 0, .int .i64 0, .int .i64 0, .int .i64 0, .slice none 0 0, .int .i64 0, .int .i64 0, .int .i64 0, .int .i64 0, .int .i64 0, .bool true, .int .i64 3, .int .i64 0, .int .i64 0, .int .i64 0, .int .i64 0, .slice none 0 0, .int .i64 0, .int .i64 0, .int .i64 0, .int .i64 0, .int .i64 1, .bool true, .int .i64 3, .int .i64 0, .int .i64 0, .int .i64 0, .int .i64 0, .slice none 0 0, .int .i64 0, .int .i64 0, .int .i64 0, .int .i64 1, .int .i64 1, .bool true, .int .i64 4, .int .i64 0, .int .i64 0, .int .i64 0, .int .i64 0, .slice none 0 0, .int .i64 0, .int .i64 0, .int .i64 0] 53 (0, 0)), (g1, .cells (shC (.slice none 0 0) (.slice none 0 0) tl0).toArray 32 (0, 0))] from Fg6)
  refine lm (v := .agg (shC (.slice (some ⟨g2, 0, none⟩) 5 5) (.slice (some ⟨g6, 0, none⟩) 1 1) tl0).toArray) rfl rfl ?_
  refine wpL_s [(g6, .cells #[.int .i64 0, .slice (some ⟨g4, 0, none⟩) 2 2] 55 (0, 0)), (g4, .cells #[.int .i64 0, .int .i64 1] 3 (0, 0)), (g2, .cells #[.int .i64 0, .int .i64 0, .bool false, .int .i64 2, .int .i64 0, .int .i64 0, .int .i64 0, .int .i64 0, .slice none 0 0, .int .i64 0, .int .i64 0, .int .i64 0, .int .i64 0, .int .i64 1, .bool false, .int .i64 2, .int .i64 0, .int .i64 0, .int .i64 0, .int .i64 0, .slice none 0 0, .int .i64 0, .int .i64 0, .int .i64 0, .int .i64 0, .int .i64 0, .bool true, .int .i64 3, .int .i64 0, .int .i64 0, .int .i64 0, .int .i64 0, .slice none 0 0, .int .i64 0, .int .i64 0, .int .i64 0, .int .i64 0, .int .i64 1, .bool true, .int .i64 3, .int .i64 0, .int .i64 0, .int .i64 0, .int .i64 0, .slice none 0 0, .int .i64 0, .int .i64 0, .int .i64 0, .int .i64 1, .int .i64 1, .bool true, .int .i64 4, .int .i64 0, .int .i64 0, .int .i64 0, .int .i64 0, .slice none 0 0, .int .i64 0, .int .i64 0, .int .i64 0] 53 (0, 0)), (g1, .cells (shC (.slice (some ⟨g2, 0, none⟩) 5 5) (.slice (some ⟨g6, 0, none⟩) 1 1) tl0).toArray 32 (0, 0))] rfl rfl (st_row (off := 0) (v := .agg (shC (.slice (some ⟨g2, 0, none⟩) 5 5) (.slice (some ⟨g6, 0, none⟩) 1 1) tl0).toArray) rfl (by kernel_rfl) (by kernel_rfl) (.tail _ (.tail _ (.tail _ (.head _)))) Bg1 (by kernel_rfl) (by first | (simp [Value.cells]; done) | exact Nat.le_of_ble_eq_true rfl) (fun v hv => shC_one v hv) (by kernel_rfl) (List.forall_mem_cons.2 ⟨.inr ⟨(.head _), (by first | assumption | exact Ne.symm (by assumption))⟩, (List.forall_mem_cons.2 ⟨.inr ⟨(.tail _ (.head _)), (by first | assumption | exact Ne.symm (by assumption))⟩, (List.forall_mem_cons.2 ⟨.inr ⟨(.tail _ (.tail _ (.head _))), (by first | assumption | exact Ne.symm (by assumption))⟩, (List.forall_mem_cons.2 ⟨.inl rfl, (List.forall_mem_nil _)⟩)⟩)⟩)⟩)) ?_
  refine wpL_done (fun W2 hW2 => ?_)
  refine (show Code.wp _ _ _ _ _ from ?_)
  refine wp_ret ?_
  try simp only [inBlock_ret, then_ret]
  refine bodyPost_ret (v := .agg (shC (.slice (some ⟨g2, 0, none⟩) 5 5) (.slice (some ⟨g6, 0, none⟩) 1 1) tl0).toArray) ?_ rfl ?_
  · exact (res_cell (p := 0) rfl rfl (hW2.2 _ (.tail _ (.tail _ (.tail _ (.head _))))) Try.underlying32 rfl (by kernel_rfl))
  · exact ⟨_, _, rfl, hW2, some ⟨g2, 0, none⟩, 5, [⟨0, [0, 1], some ⟨g4, 0, none⟩, 2⟩], some ⟨g6, 0, none⟩, 1, rfl, Nat.le_refl _, Nat.le_refl _, (fun W hW => blk_slv (cs := exCs.flatMap colC) hW (.tail _ (.tail _ (.head _)))), (fun W hW => blk_slv hW (.head _)), (fun W hW o ho => by cases List.mem_singleton.1 ho; exact blk_slv hW (.tail _ (.head _))), rfl⟩
set_option maxRecDepth 100000 in
set_option maxHeartbeats 4000000 in
theorem SameInts_any (l m : List Int) (p q : Option Addr) (c d : Nat) (hl : l.length ≤ 4000000000) (w : World) (hp : SLV w p (l.flatMap inC)) (hq : SLV w q (m.flatMap inC)) : Calls Try.prog 20 #[.slice p l.length c, .slice q m.length d] w fun e w' => e = .returned (.bool (decide (l = m))) ∧ Below w.heap.size w w' := by
  have HP := Lib.hid hp
  clear hp
  have HQ := Lib.hid hq
  clear hq
  go_enter Try.func20, Try.ntmps20
  refine wp_seq ?_
  refine wp_region_L (W0 := w) [] (KS.start w) ?_
  refine lm (v := .bool false) rfl rfl ?_
  refine wpL_done (fun W1 hW1 => ?_)
  refine (show Code.wp _ _ _ _ _ from ?_)
  refine wp_seq ?_
  refine wp_seq ?_
  refine wp_region_L (W0 := w) [] (hW1) ?_
  refine lm (v := .slice p l.length c) rfl rfl ?_
  refine lp (v := .int .i64 ((l.length : Nat) : Int)) rfl rfl (run_lenL (p := p) (cap := c) (n := l.length) rfl Try.underlying39 (by kernel_rfl)) ?_
  refine lm (v := .slice q m.length d) rfl rfl ?_
  refine lp (v := .int .i64 ((m.length : Nat) : Int)) rfl rfl (run_lenL (p := q) (cap := d) (n := m.length) rfl Try.underlying39 (by kernel_rfl)) ?_
  refine lp (v := .bool (!(decide (l.length = m.length)))) rfl rfl (run_bin rfl (vx := (.int .i64 ((l.length : Nat) : Int))) (vy := (.int .i64 ((m.length : Nat) : Int))) (by kernel_rfl) (by kernel_rfl) fun w => bn_neq rfl w) ?_
  refine wpL_done (fun W2 hW2 => ?_)
  refine (show Code.wp _ _ _ _ _ from ?_)
  cases hd1 : (decide (l.length = m.length)) with
  | false =>
    have h1 : ¬ (l.length = m.length) := of_decide_eq_false hd1
    clear hd1
    refine wp_cond_true rfl ?_
    refine wp_seq ?_
    refine wp_region_L (W0 := w) [] (hW2) ?_
    refine lm (v := .bool false) rfl rfl ?_
    refine wpL_done (fun W3 hW3 => ?_)
    refine (show Code.wp _ _ _ _ _ from ?_)
    refine wp_ret ?_
    try simp only [inBlock_ret, then_ret]
    refine bodyPost_ret (v := .bool false) ?_ rfl ?_
    · kernel_rfl
    · exact ⟨(bool_is (by rw [eq_comm, decide_eq_false_iff_not]; exact ne_len h1)), hW3.1⟩
  | true =>
    have h1 : l.length = m.length := of_decide_eq_true hd1
    clear hd1
    refine wp_cond_false rfl ?_
    refine wp_skip ?_
    refine (show Code.wp _ _ _ _ _ from ?_)
    refine wp_seq ?_
    refine wp_seq ?_
    refine wp_region_L (W0 := w) [] (hW2) ?_
    refine lm (v := .int .i64 0) rfl rfl ?_
    refine wpL_done (fun W4 hW4 => ?_)
    refine (show Code.wp _ _ _ _ _ from ?_)
    refine wp_block ?_
    go_loopw [5] (fun u5 wr => ∃ (k : Nat), (k ≤ l.length) ∧ (l.take k = m.take k) ∧ u5 = .int .i64 ((k : Nat) : Int) ∧ KS w [] wr) (fun u5 _ => l.length - (intOf u5).toNat)
    case atStart => exact ⟨0, (Nat.zero_le _), rfl, rfl, (hW4.sub (fun p hp => by first | exact hp | (simp only [List.mem_cons, List.mem_append, List.nil_append, List.not_mem_nil, or_assoc, or_false, false_or] at hp ⊢ <;> grind)))⟩
    case round =>
      obtain ⟨k, hk, hT, rfl, hL5⟩ := hrel
      refine wp_seq ?_
      refine wp_seq ?_
      refine wp_region_L (W0 := w) [] (hL5) ?_
      refine lm (v := .int .i64 ((k : Nat) : Int)) rfl rfl ?_
      refine lm (v := .slice p l.length c) rfl rfl ?_
      refine lp (v := .int .i64 ((l.length : Nat) : Int)) rfl rfl (run_lenL (p := p) (cap := c) (n := l.length) rfl Try.underlying39 (by kernel_rfl)) ?_
      refine lp (v := .bool (decide (k < l.length))) rfl rfl (run_bin rfl (vx := (.int .i64 ((k : Nat) : Int))) (vy := (.int .i64 ((l.length : Nat) : Int))) (by kernel_rfl) (by kernel_rfl) fun w => bn_lss rfl w) ?_
      refine wpL_done (fun W6 hW6 => ?_)
      refine (show Code.wp _ _ _ _ _ from ?_)
      cases hd2 : (decide (k < l.length)) with
      | false =>
        have h2 : ¬ (k < l.length) := of_decide_eq_false hd2
        clear hd2
        refine wp_cond_false rfl ?_
        refine wp_exit ?_
        refine (show Code.wp _ _ _ _ _ from ?_)
        refine wp_seq ?_
        refine wp_region_L (W0 := w) [] (hW6) ?_
        refine lm (v := .bool true) rfl rfl ?_
        refine wpL_done (fun W7 hW7 => ?_)
        refine (show Code.wp _ _ _ _ _ from ?_)
        refine wp_ret ?_
        try simp only [inBlock_ret, then_ret]
        refine bodyPost_ret (v := .bool true) ?_ rfl ?_
        · kernel_rfl
        · exact ⟨(bool_is (by rw [eq_comm, decide_eq_true_iff]; exact eq_of_take hT h2 h1)), hW7.1⟩
      | true =>
        have h2 : k < l.length := of_decide_eq_true hd2
        clear hd2
        refine wp_cond_true rfl ?_
        refine wp_skip ?_
        refine (show Code.wp _ _ _ _ _ from ?_)
        refine wp_seq ?_
        refine wp_block ?_
        refine wp_seq ?_
        refine wp_region_V (W0 := w) [] (by kernel_rfl) (hW6) ?_
        refine vm (i := 0) (v := .slice p l.length c) rfl rfl rfl ?_
        refine vm (i := 1) (v := .int .i64 ((k : Nat) : Int)) rfl rfl rfl ?_
        obtain ⟨y1, g1_, f1_, hy1, hp1, hc1⟩ := RL.at (RL.base HP.out) inC_len (by decide) (hW6.sub (fun _ h => by cases h)) (k := k) (by omega)
        refine vp (i := 2) (v := .pointer (some ⟨g1_, f1_ + k * 1, none⟩)) rfl rfl rfl (run_idxQ (p := p) (cap := c) (n := l.length) (j := .i64) (k := k) (sz := 1) rfl Try.underlying39 (by kernel_rfl) (by kernel_rfl) hp1 (by kernel_rfl) (by omega)) ?_
        refine vv (i := 3) (v := .int .i64 y1) rfl rfl rfl (yb_rf (v := .int .i64 y1) rfl (by kernel_rfl) (fun W hW => hc1 W (hW.sub (fun _ h => by cases h)) 0 _ rfl) Try.underlying3 rfl) ?_
        refine vm (i := 4) (v := .slice q m.length d) rfl rfl rfl ?_
        refine vm (i := 5) (v := .int .i64 ((k : Nat) : Int)) rfl rfl rfl ?_
        obtain ⟨y2, g2_, f2_, hy2, hp2, hc2⟩ := RL.at (RL.base HQ.out) inC_len (by decide) (hW6.sub (fun _ h => by cases h)) (k := k) (by omega)
        refine vp (i := 6) (v := .pointer (some ⟨g2_, f2_ + k * 1, none⟩)) rfl rfl rfl (run_idxQ (p := q) (cap := d) (n := m.length) (j := .i64) (k := k) (sz := 1) rfl Try.underlying39 (by kernel_rfl) (by kernel_rfl) hp2 (by kernel_rfl) (by omega)) ?_
        refine vv (i := 7) (v := .int .i64 y2) rfl rfl rfl (yb_rf (v := .int .i64 y2) rfl (by kernel_rfl) (fun W hW => hc2 W (hW.sub (fun _ h => by cases h)) 0 _ rfl) Try.underlying3 rfl) ?_
        refine vp (i := 8) (v := .bool (!(decide (y1 = y2)))) rfl rfl rfl (run_bin rfl (vx := (.int .i64 y1)) (vy := (.int .i64 y2)) (by kernel_rfl) (by kernel_rfl) fun w => bi_neq rfl w) ?_
        refine wpV_done (by kernel_rfl) (fun W8 hW8 => ?_) _
        refine (show Code.wp _ _ _ _ _ from ?_)
        cases hd3 : (decide (y1 = y2)) with
        | false =>
          have h3 : ¬ (y1 = y2) := of_decide_eq_false hd3
          clear hd3
          refine wp_cond_true rfl ?_
          refine wp_seq ?_
          refine wp_region_L (W0 := w) [] (hW8) ?_
          refine lm (v := .bool false) rfl rfl ?_
          refine wpL_done (fun W9 hW9 => ?_)
          refine (show Code.wp _ _ _ _ _ from ?_)
          refine wp_ret ?_
          try simp only [inBlock_ret, then_ret]
          refine bodyPost_ret (v := .bool false) ?_ rfl ?_
          · kernel_rfl
          · exact ⟨(bool_is (by rw [eq_comm, decide_eq_false_iff_not]; exact ne_at hy1 hy2 h3)), hW9.1⟩
        | true =>
          have h3 : y1 = y2 := of_decide_eq_true hd3
          clear hd3
          refine wp_cond_false rfl ?_
          refine wp_skip ?_
          refine (show Code.wp _ _ _ _ _ from ?_)
          refine wp_region_L (W0 := w) [] (hW8) ?_
          refine lm (v := .int .i64 ((k : Nat) : Int)) rfl rfl ?_
          refine lp (v := .int .i64 (((k + 1) : Nat) : Int)) rfl rfl (run_bin rfl (vx := (.int .i64 ((k : Nat) : Int))) (vy := (.int .i64 ((1 : Nat) : Int))) (by kernel_rfl) (by kernel_rfl) fun w => bn_add (z := (k + 1)) rfl (wr_i64 (by omega)) w) ?_
          refine lm (v := .int .i64 (((k + 1) : Nat) : Int)) rfl rfl ?_
          refine wpL_done (fun W10 hW10 => ?_)
          go_roundw
          case rel =>
            repeat apply Exists.intro
            exact ⟨⟨k + 1, (by omega), (take_snoc_eq hT hy1 hy2 h3), rfl, (hW10.sub (fun p hp => by first | exact hp | (simp only [List.mem_cons, List.mem_append, List.nil_append, List.not_mem_nil, or_assoc, or_false, false_or] at hp ⊢ <;> grind)))⟩, rfl⟩
          case measure => (show l.length - (intOf (.int .i64 (((k + 1) : Nat) : Int))).toNat < l.length - (intOf (.int .i64 ((k : Nat) : Int))).toNat); simp only [intOf]; omega
set_option maxRecDepth 100000 in
set_option maxHeartbeats 4000000 in
theorem awake_any  (w : World) : Calls Try.prog 10 #[] w fun e w' => e = .returned (.bool true) ∧ Below w.heap.size w w' := by
  go_enter Try.func10, Try.ntmps10
  refine wp_seq ?_
  refine wp_region_L (W0 := w) [] (KS.start w) ?_
  refine lm (v := .bool false) rfl rfl ?_
  refine wpL_done (fun W1 hW1 => ?_)
  refine (show Code.wp _ _ _ _ _ from ?_)
  refine wp_seq ?_
  refine wp_region_L (W0 := w) [] (hW1) ?_
  refine wpL_c (f := 32) (args := #[]) (ShipT w exCs [(0, [0, 1])]) rfl (by kernel_rfl) (fun _ => (by kernel_rfl)) (fun W hW => (Example_any W hW).mono fun _ _ ⟨v, T, he, hk, hs⟩ => ⟨v, T, he, hk, hs⟩) (fun _ => by simp only [List.setIfInBounds_toArray, List.set_cons_succ, List.set_cons_zero] <;> rfl) ?_
  rintro _ TS ⟨pcS, ccS, osS, poS, coS, rfl, hccS, hcoS, hCS, hOS, hRS, hMS⟩
  refine wpL_rebase fun WB hWB => ?_
  have HCS := Lib.hid (hCS WB hWB)
  have HOS := Lib.hid (hOS WB hWB)
  have HRS := Lib.hid (hRS WB hWB)
  clear hCS hOS hRS
  obtain ⟨rp, rc, rfl⟩ := one_cov hMS
  have lrS : ∀ o ∈ [(⟨0, [0, 1], rp, rc⟩ : Cov)], o.rows.length ≤ 4000000000 := fun o ho => by cases List.mem_singleton.1 ho; exact Nat.le_of_ble_eq_true rfl
  have HPS := Lib.hid (show PlR WB exCs from plr_nil (by decide))
  have lpS : ∀ c ∈ exCs, c.plugs.length ≤ 4000000000 := by decide
  refine wpL_new (fun g => .pointer (some ⟨g, 0, none⟩)) (obi := .cells (shC (.slice none 0 0) (.slice none 0 0) tl0).toArray 32 (0, 0)) rfl rfl (fun _ => by kernel_rfl) (fun _ => by simp only [List.setIfInBounds_toArray, List.set_cons_succ, List.set_cons_zero] <;> rfl) fun g1 Bg1 Fg1 => ?_
  refine wpL_s [(g1, .cells (shC (.slice pcS exCs.length ccS) (.slice poS ([(⟨0, [0, 1], rp, rc⟩ : Cov)].length) coS) tl0).toArray 32 (0, 0))] rfl rfl (st_row (off := 0) (v := .agg (shC (.slice pcS exCs.length ccS) (.slice poS ([(⟨0, [0, 1], rp, rc⟩ : Cov)].length) coS) tl0).toArray) rfl (by kernel_rfl) (by kernel_rfl) (.head _) Bg1 (by kernel_rfl) (by first | (simp [Value.cells]; done) | exact Nat.le_of_ble_eq_true rfl) (fun v hv => shC_one v hv) (by kernel_rfl) (List.forall_mem_cons.2 ⟨.inl rfl, (List.forall_mem_nil _)⟩)) ?_
  refine wpL_done (fun W2 hW2 => ?_)
  refine (show Code.wp _ _ _ _ _ from ?_)
  refine wp_seq ?_
  refine wp_region_L (W0 := WB) [(g1, .cells (shC (.slice pcS exCs.length ccS) (.slice poS ([(⟨0, [0, 1], rp, rc⟩ : Cov)].length) coS) tl0).toArray 32 (0, 0))] (hW2) ?_
  refine lv (v := .agg (shC (.slice pcS exCs.length ccS) (.slice poS ([(⟨0, [0, 1], rp, rc⟩ : Cov)].length) coS) tl0).toArray) rfl rfl (yb_load (n := 13) (off := 0) rfl (by kernel_rfl) (.head _) Try.underlying32 rfl (by kernel_rfl) (by first | (simp [Value.cells]; done) | exact Nat.le_of_ble_eq_true rfl) (by kernel_rfl)) ?_
  refine lv (v := .tuple #[.int .i64 (findN (fst (isAt 1 1 true) exCs)), .bool ((fst (isAt 1 1 true) exCs).isSome)]) rfl rfl (yb_call (f := 12) (args := #[.agg (shC (.slice pcS exCs.length ccS) (.slice poS ([(⟨0, [0, 1], rp, rc⟩ : Cov)].length) coS) tl0).toArray, .int .i64 1, .int .i64 1, .bool true]) (fun _ => by kernel_rfl) fun W hW => Find_any exCs pcS ccS (by decide) [(⟨0, [0, 1], rp, rc⟩ : Cov)] poS coS (Nat.le_of_ble_eq_true rfl) tl0 1 1 true W ((RL.base HCS.out) _ (hW.sub (fun _ h => by cases h))) ((RL.base HOS.out) _ (hW.sub (fun _ h => by cases h)))) ?_
  refine lm (v := .tuple #[.int .i64 (findN (fst (isAt 1 1 true) exCs)), .bool ((fst (isAt 1 1 true) exCs).isSome)]) rfl rfl ?_
  refine lm (v := .int .i64 (findN (fst (isAt 1 1 true) exCs))) rfl rfl ?_
  refine lm (v := .bool ((fst (isAt 1 1 true) exCs).isSome)) rfl rfl ?_
  refine lm (v := .int .i64 (findN (fst (isAt 1 1 true) exCs))) rfl rfl ?_
  refine lm (v := .bool ((fst (isAt 1 1 true) exCs).isSome)) rfl rfl ?_
  refine wpL_done (fun W3 hW3 => ?_)
  refine (show Code.wp _ _ _ _ _ from ?_)
  refine wp_seq ?_
  refine wp_region_L (W0 := WB) [(g1, .cells (shC (.slice pcS exCs.length ccS) (.slice poS ([(⟨0, [0, 1], rp, rc⟩ : Cov)].length) coS) tl0).toArray 32 (0, 0))] (hW3) ?_
  refine lv (v := .agg (shC (.slice pcS exCs.length ccS) (.slice poS ([(⟨0, [0, 1], rp, rc⟩ : Cov)].length) coS) tl0).toArray) rfl rfl (yb_load (n := 13) (off := 0) rfl (by kernel_rfl) (.head _) Try.underlying32 rfl (by kernel_rfl) (by first | (simp [Value.cells]; done) | exact Nat.le_of_ble_eq_true rfl) (by kernel_rfl)) ?_
  refine lv (v := .tuple #[.int .i64 (apN exCs 0 4), .bool (apB exCs 0 4)]) rfl rfl (yb_call (f := 27) (args := #[.agg (shC (.slice pcS exCs.length ccS) (.slice poS ([(⟨0, [0, 1], rp, rc⟩ : Cov)].length) coS) tl0).toArray, .int .i64 0, .int .i64 4]) (fun _ => by kernel_rfl) fun W hW => Apart_any exCs pcS ccS (by decide) [(⟨0, [0, 1], rp, rc⟩ : Cov)] poS coS (Nat.le_of_ble_eq_true rfl) tl0 0 4 W ((RL.base HCS.out) _ (hW.sub (fun _ h => by cases h))) ((RL.base HOS.out) _ (hW.sub (fun _ h => by cases h)))) ?_
  refine lm (v := .tuple #[.int .i64 (apN exCs 0 4), .bool (apB exCs 0 4)]) rfl rfl ?_
  refine lm (v := .int .i64 (apN exCs 0 4)) rfl rfl ?_
  refine lm (v := .bool (apB exCs 0 4)) rfl rfl ?_
  refine lm (v := .int .i64 (apN exCs 0 4)) rfl rfl ?_
  refine lm (v := .bool (apB exCs 0 4)) rfl rfl ?_
  refine wpL_done (fun W4 hW4 => ?_)
  refine (show Code.wp _ _ _ _ _ from ?_)
  refine wp_seq ?_
  refine wp_region_L (W0 := WB) [(g1, .cells (shC (.slice pcS exCs.length ccS) (.slice poS ([(⟨0, [0, 1], rp, rc⟩ : Cov)].length) coS) tl0).toArray 32 (0, 0))] (hW4) ?_
  refine lv (v := .agg (shC (.slice pcS exCs.length ccS) (.slice poS ([(⟨0, [0, 1], rp, rc⟩ : Cov)].length) coS) tl0).toArray) rfl rfl (yb_load (n := 13) (off := 0) rfl (by kernel_rfl) (.head _) Try.underlying32 rfl (by kernel_rfl) (by first | (simp [Value.cells]; done) | exact Nat.le_of_ble_eq_true rfl) (by kernel_rfl)) ?_
  refine lv (v := .bool (rightX exCs [(⟨0, [0, 1], rp, rc⟩ : Cov)])) rfl rfl (yb_call (f := 14) (args := #[.agg (shC (.slice pcS exCs.length ccS) (.slice poS ([(⟨0, [0, 1], rp, rc⟩ : Cov)].length) coS) tl0).toArray]) (fun _ => by kernel_rfl) fun W hW => Right_any exCs pcS ccS (by decide) [(⟨0, [0, 1], rp, rc⟩ : Cov)] poS coS (Nat.le_of_ble_eq_true rfl) tl0 W ((RL.base HCS.out) _ (hW.sub (fun _ h => by cases h))) ((RL.base HOS.out) _ (hW.sub (fun _ h => by cases h))) (HRS.out.keep hW.1) lrS (HPS.out.keep hW.1) lpS) ?_
  refine lm (v := .bool (rightX exCs [(⟨0, [0, 1], rp, rc⟩ : Cov)])) rfl rfl ?_
  cases h1 : (rightX exCs [(⟨0, [0, 1], rp, rc⟩ : Cov)]) with
  | false =>
    exact absurd (show (rightX exCs [(⟨0, [0, 1], rp, rc⟩ : Cov)]) = true from by rfl) (by rw [h1]; decide)
  | true =>
    refine lm (v := .int .i64 (findN (fst (isAt 1 1 true) exCs))) rfl rfl ?_
    refine lp (v := .bool (decide ((findN (fst (isAt 1 1 true) exCs)) = 4))) rfl rfl (run_bin rfl (vx := (.int .i64 (findN (fst (isAt 1 1 true) exCs)))) (vy := (.int .i64 4)) (by kernel_rfl) (by kernel_rfl) fun w => bi_eql rfl w) ?_
    refine lm (v := .bool (decide ((findN (fst (isAt 1 1 true) exCs)) = 4))) rfl rfl ?_
    refine lm (v := .bool (decide ((findN (fst (isAt 1 1 true) exCs)) = 4))) rfl rfl ?_
    cases hd2 : (decide ((findN (fst (isAt 1 1 true) exCs)) = 4)) with
    | false =>
      have h2 : ¬ ((findN (fst (isAt 1 1 true) exCs)) = 4) := of_decide_eq_false hd2
      clear hd2
      exact absurd (show (findN (fst (isAt 1 1 true) exCs)) = 4 from by rfl) h2
    | true =>
      have h2 : (findN (fst (isAt 1 1 true) exCs)) = 4 := of_decide_eq_true hd2
      clear hd2
      refine lm (v := .bool ((fst (isAt 1 1 true) exCs).isSome)) rfl rfl ?_
      refine lm (v := .bool ((fst (isAt 1 1 true) exCs).isSome)) rfl rfl ?_
      refine lm (v := .bool ((fst (isAt 1 1 true) exCs).isSome)) rfl rfl ?_
      cases h3 : ((fst (isAt 1 1 true) exCs).isSome) with
      | false =>
        exact absurd (show ((fst (isAt 1 1 true) exCs).isSome) = true from by rfl) (by rw [h3]; decide)
      | true =>
        refine lm (v := .int .i64 (apN exCs 0 4)) rfl rfl ?_
        refine lp (v := .bool (decide ((apN exCs 0 4) = 1))) rfl rfl (run_bin rfl (vx := (.int .i64 (apN exCs 0 4))) (vy := (.int .i64 1)) (by kernel_rfl) (by kernel_rfl) fun w => bi_eql rfl w) ?_
        refine lm (v := .bool (decide ((apN exCs 0 4) = 1))) rfl rfl ?_
        refine lm (v := .bool (decide ((apN exCs 0 4) = 1))) rfl rfl ?_
        cases hd4 : (decide ((apN exCs 0 4) = 1)) with
        | false =>
          have h4 : ¬ ((apN exCs 0 4) = 1) := of_decide_eq_false hd4
          clear hd4
          exact absurd (show (apN exCs 0 4) = 1 from by rfl) h4
        | true =>
          have h4 : (apN exCs 0 4) = 1 := of_decide_eq_true hd4
          clear hd4
          refine lm (v := .bool (apB exCs 0 4)) rfl rfl ?_
          refine lm (v := .bool (apB exCs 0 4)) rfl rfl ?_
          refine lm (v := .bool (apB exCs 0 4)) rfl rfl ?_
          cases h5 : (apB exCs 0 4) with
          | false =>
            exact absurd (show (apB exCs 0 4) = true from by rfl) (by rw [h5]; decide)
          | true =>
            refine lv (v := .agg (shC (.slice pcS exCs.length ccS) (.slice poS ([(⟨0, [0, 1], rp, rc⟩ : Cov)].length) coS) tl0).toArray) rfl rfl (yb_load (n := 13) (off := 0) rfl (by kernel_rfl) (.head _) Try.underlying32 rfl (by kernel_rfl) (by first | (simp [Value.cells]; done) | exact Nat.le_of_ble_eq_true rfl) (by kernel_rfl)) ?_
            refine lv (v := .int .i64 (fiN (covOf exCs [(⟨0, [0, 1], rp, rc⟩ : Cov)] 0))) rfl rfl (yb_call (f := 16) (args := #[.agg (shC (.slice pcS exCs.length ccS) (.slice poS ([(⟨0, [0, 1], rp, rc⟩ : Cov)].length) coS) tl0).toArray, .int .i64 0]) (fun _ => by kernel_rfl) fun W hW => CoverOf_any exCs pcS ccS (by decide) [(⟨0, [0, 1], rp, rc⟩ : Cov)] poS coS (Nat.le_of_ble_eq_true rfl) tl0 0 W ((RL.base HCS.out) _ (hW.sub (fun _ h => by cases h))) ((RL.base HOS.out) _ (hW.sub (fun _ h => by cases h))) (HRS.out.keep hW.1) lrS) ?_
            refine lp (v := .bool (decide ((fiN (covOf exCs [(⟨0, [0, 1], rp, rc⟩ : Cov)] 0)) = 0))) rfl rfl (run_bin rfl (vx := (.int .i64 (fiN (covOf exCs [(⟨0, [0, 1], rp, rc⟩ : Cov)] 0)))) (vy := (.int .i64 0)) (by kernel_rfl) (by kernel_rfl) fun w => bi_eql rfl w) ?_
            refine lm (v := .bool (decide ((fiN (covOf exCs [(⟨0, [0, 1], rp, rc⟩ : Cov)] 0)) = 0))) rfl rfl ?_
            refine lm (v := .bool (decide ((fiN (covOf exCs [(⟨0, [0, 1], rp, rc⟩ : Cov)] 0)) = 0))) rfl rfl ?_
            cases hd6 : (decide ((fiN (covOf exCs [(⟨0, [0, 1], rp, rc⟩ : Cov)] 0)) = 0)) with
            | false =>
              have h6 : ¬ ((fiN (covOf exCs [(⟨0, [0, 1], rp, rc⟩ : Cov)] 0)) = 0) := of_decide_eq_false hd6
              clear hd6
              exact absurd (show (fiN (covOf exCs [(⟨0, [0, 1], rp, rc⟩ : Cov)] 0)) = 0 from by rfl) h6
            | true =>
              have h6 : (fiN (covOf exCs [(⟨0, [0, 1], rp, rc⟩ : Cov)] 0)) = 0 := of_decide_eq_true hd6
              clear hd6
              refine lv (v := .agg (shC (.slice pcS exCs.length ccS) (.slice poS ([(⟨0, [0, 1], rp, rc⟩ : Cov)].length) coS) tl0).toArray) rfl rfl (yb_load (n := 13) (off := 0) rfl (by kernel_rfl) (.head _) Try.underlying32 rfl (by kernel_rfl) (by first | (simp [Value.cells]; done) | exact Nat.le_of_ble_eq_true rfl) (by kernel_rfl)) ?_
              refine lv (v := .int .i64 (fiN (covOf exCs [(⟨0, [0, 1], rp, rc⟩ : Cov)] 3))) rfl rfl (yb_call (f := 16) (args := #[.agg (shC (.slice pcS exCs.length ccS) (.slice poS ([(⟨0, [0, 1], rp, rc⟩ : Cov)].length) coS) tl0).toArray, .int .i64 3]) (fun _ => by kernel_rfl) fun W hW => CoverOf_any exCs pcS ccS (by decide) [(⟨0, [0, 1], rp, rc⟩ : Cov)] poS coS (Nat.le_of_ble_eq_true rfl) tl0 3 W ((RL.base HCS.out) _ (hW.sub (fun _ h => by cases h))) ((RL.base HOS.out) _ (hW.sub (fun _ h => by cases h))) (HRS.out.keep hW.1) lrS) ?_
              refine lp (v := .bool (decide ((fiN (covOf exCs [(⟨0, [0, 1], rp, rc⟩ : Cov)] 3)) = 0))) rfl rfl (run_bin rfl (vx := (.int .i64 (fiN (covOf exCs [(⟨0, [0, 1], rp, rc⟩ : Cov)] 3)))) (vy := (.int .i64 0)) (by kernel_rfl) (by kernel_rfl) fun w => bi_eql rfl w) ?_
              refine lm (v := .bool (decide ((fiN (covOf exCs [(⟨0, [0, 1], rp, rc⟩ : Cov)] 3)) = 0))) rfl rfl ?_
              refine lm (v := .bool (decide ((fiN (covOf exCs [(⟨0, [0, 1], rp, rc⟩ : Cov)] 3)) = 0))) rfl rfl ?_
              cases hd7 : (decide ((fiN (covOf exCs [(⟨0, [0, 1], rp, rc⟩ : Cov)] 3)) = 0)) with
              | false =>
                have h7 : ¬ ((fiN (covOf exCs [(⟨0, [0, 1], rp, rc⟩ : Cov)] 3)) = 0) := of_decide_eq_false hd7
                clear hd7
                exact absurd (show (fiN (covOf exCs [(⟨0, [0, 1], rp, rc⟩ : Cov)] 3)) = 0 from by rfl) h7
              | true =>
                have h7 : (fiN (covOf exCs [(⟨0, [0, 1], rp, rc⟩ : Cov)] 3)) = 0 := of_decide_eq_true hd7
                clear hd7
                refine lv (v := .agg (shC (.slice pcS exCs.length ccS) (.slice poS ([(⟨0, [0, 1], rp, rc⟩ : Cov)].length) coS) tl0).toArray) rfl rfl (yb_load (n := 13) (off := 0) rfl (by kernel_rfl) (.head _) Try.underlying32 rfl (by kernel_rfl) (by first | (simp [Value.cells]; done) | exact Nat.le_of_ble_eq_true rfl) (by kernel_rfl)) ?_
                refine lv (v := .int .i64 (fiN (covOf exCs [(⟨0, [0, 1], rp, rc⟩ : Cov)] 4))) rfl rfl (yb_call (f := 16) (args := #[.agg (shC (.slice pcS exCs.length ccS) (.slice poS ([(⟨0, [0, 1], rp, rc⟩ : Cov)].length) coS) tl0).toArray, .int .i64 4]) (fun _ => by kernel_rfl) fun W hW => CoverOf_any exCs pcS ccS (by decide) [(⟨0, [0, 1], rp, rc⟩ : Cov)] poS coS (Nat.le_of_ble_eq_true rfl) tl0 4 W ((RL.base HCS.out) _ (hW.sub (fun _ h => by cases h))) ((RL.base HOS.out) _ (hW.sub (fun _ h => by cases h))) (HRS.out.keep hW.1) lrS) ?_
                refine lp (v := .bool (decide ((fiN (covOf exCs [(⟨0, [0, 1], rp, rc⟩ : Cov)] 4)) = (-1)))) rfl rfl (run_bin rfl (vx := (.int .i64 (fiN (covOf exCs [(⟨0, [0, 1], rp, rc⟩ : Cov)] 4)))) (vy := (.int .i64 (-1))) (by kernel_rfl) (by kernel_rfl) fun w => bi_eql rfl w) ?_
                refine lm (v := .bool (decide ((fiN (covOf exCs [(⟨0, [0, 1], rp, rc⟩ : Cov)] 4)) = (-1)))) rfl rfl ?_
                refine lm (v := .bool (decide ((fiN (covOf exCs [(⟨0, [0, 1], rp, rc⟩ : Cov)] 4)) = (-1)))) rfl rfl ?_
                cases hd8 : (decide ((fiN (covOf exCs [(⟨0, [0, 1], rp, rc⟩ : Cov)] 4)) = (-1))) with
                | false =>
                  have h8 : ¬ ((fiN (covOf exCs [(⟨0, [0, 1], rp, rc⟩ : Cov)] 4)) = (-1)) := of_decide_eq_false hd8
                  clear hd8
                  exact absurd (show (fiN (covOf exCs [(⟨0, [0, 1], rp, rc⟩ : Cov)] 4)) = (-1) from by rfl) h8
                | true =>
                  have h8 : (fiN (covOf exCs [(⟨0, [0, 1], rp, rc⟩ : Cov)] 4)) = (-1) := of_decide_eq_true hd8
                  clear hd8
                  refine lv (v := .agg (shC (.slice pcS exCs.length ccS) (.slice poS ([(⟨0, [0, 1], rp, rc⟩ : Cov)].length) coS) tl0).toArray) rfl rfl (yb_load (n := 13) (off := 0) rfl (by kernel_rfl) (.head _) Try.underlying32 rfl (by kernel_rfl) (by first | (simp [Value.cells]; done) | exact Nat.le_of_ble_eq_true rfl) (by kernel_rfl)) ?_
                  refine wpL_c (f := 18) (args := #[.agg (shC (.slice pcS exCs.length ccS) (.slice poS ([(⟨0, [0, 1], rp, rc⟩ : Cov)].length) coS) tl0).toArray, .int .i64 0]) (OutRL inC WB [(g1, .cells (shC (.slice pcS exCs.length ccS) (.slice poS ([(⟨0, [0, 1], rp, rc⟩ : Cov)].length) coS) tl0).toArray 32 (0, 0))] (alongX exCs [(⟨0, [0, 1], rp, rc⟩ : Cov)] 0 false)) rfl (by kernel_rfl) (fun _ => (by kernel_rfl)) (fun W hW => calls_r hW (Under_any exCs pcS ccS (by decide) [(⟨0, [0, 1], rp, rc⟩ : Cov)] poS coS (Nat.le_of_ble_eq_true rfl) tl0 0 W ((RL.base HCS.out) _ (hW.sub (fun _ h => by cases h))) ((RL.base HOS.out) _ (hW.sub (fun _ h => by cases h))) (HRS.out.keep hW.1) lrS)) (fun _ => by simp only [List.setIfInBounds_toArray, List.set_cons_succ, List.set_cons_zero] <;> rfl) ?_
                  rintro _ _ ⟨p2, c2, Kl2, rfl, n2, R2, N2, rfl⟩
                  obtain dj3_0 : Dk g1 Kl2 := by simpa only [dj_app_l, dj_app_r, dj_cons_l, dj_cons_r, dj_nil_l, dj_nil_r, dk_app, dk_cons, dk_nil, and_true, true_and, and_assoc] using (show Dj [(g1, .cells (shC (.slice pcS exCs.length ccS) (.slice poS ([(⟨0, [0, 1], rp, rc⟩ : Cov)].length) coS) tl0).toArray 32 (0, 0))] Kl2 from N2)
                  refine wpL_newg (fun g => .slice (some ⟨g, 0, none⟩) 2 2) (obi := .cells #[.int .i64 0, .int .i64 1] 3 (0, 0)) rfl (by kernel_rfl) (fun _ => by kernel_rfl) (fun _ => by simp only [List.setIfInBounds_toArray, List.set_cons_succ, List.set_cons_zero] <;> rfl) fun g4 Bg4 Fg4 => ?_
                  obtain ⟨dj5_0, dj5_1⟩ : g1 ≠ g4 ∧ Dk g4 Kl2 := by simpa only [dj_app_l, dj_app_r, dj_cons_l, dj_cons_r, dj_nil_l, dj_nil_r, dk_app, dk_cons, dk_nil, and_true, true_and, and_assoc] using (show Dk g4 ((g1, .cells (shC (.slice pcS exCs.length ccS) (.slice poS ([(⟨0, [0, 1], rp, rc⟩ : Cov)].length) coS) tl0).toArray 32 (0, 0)) :: Kl2) from Fg4)
                  refine lv (v := .bool (decide ((alongX exCs [(⟨0, [0, 1], rp, rc⟩ : Cov)] 0 false) = [0, 1]))) rfl rfl (yb_call (f := 20) (args := #[.slice p2 ((alongX exCs [(⟨0, [0, 1], rp, rc⟩ : Cov)] 0 false).length) c2, .slice (some ⟨g4, 0, none⟩) 2 2]) (fun _ => by kernel_rfl) fun W hW => SameInts_any (alongX exCs [(⟨0, [0, 1], rp, rc⟩ : Cov)] 0 false) [0, 1] p2 (some ⟨g4, 0, none⟩) c2 2 (Nat.le_of_ble_eq_true rfl) W (R2 _ (hW.sub (fun p hp => by simp only [List.mem_cons, List.mem_append, List.nil_append, List.not_mem_nil, or_assoc, or_false, false_or, hp, true_or, or_true]))) (blk_slv hW (.head _))) ?_
                  refine lm (v := .bool (decide ((alongX exCs [(⟨0, [0, 1], rp, rc⟩ : Cov)] 0 false) = [0, 1]))) rfl rfl ?_
                  refine lm (v := .bool (decide ((alongX exCs [(⟨0, [0, 1], rp, rc⟩ : Cov)] 0 false) = [0, 1]))) rfl rfl ?_
                  cases hd9 : (decide ((alongX exCs [(⟨0, [0, 1], rp, rc⟩ : Cov)] 0 false) = [0, 1])) with
                  | false =>
                    have h9 : ¬ ((alongX exCs [(⟨0, [0, 1], rp, rc⟩ : Cov)] 0 false) = [0, 1]) := of_decide_eq_false hd9
                    clear hd9
                    exact absurd (show (alongX exCs [(⟨0, [0, 1], rp, rc⟩ : Cov)] 0 false) = [0, 1] from by rfl) h9
                  | true =>
                    have h9 : (alongX exCs [(⟨0, [0, 1], rp, rc⟩ : Cov)] 0 false) = [0, 1] := of_decide_eq_true hd9
                    clear hd9
                    refine lv (v := .agg (shC (.slice pcS exCs.length ccS) (.slice poS ([(⟨0, [0, 1], rp, rc⟩ : Cov)].length) coS) tl0).toArray) rfl rfl (yb_load (n := 13) (off := 0) rfl (by kernel_rfl) (.tail _ (.head _)) Try.underlying32 rfl (by kernel_rfl) (by first | (simp [Value.cells]; done) | exact Nat.le_of_ble_eq_true rfl) (by kernel_rfl)) ?_
                    refine wpL_c (f := 19) (args := #[.agg (shC (.slice pcS exCs.length ccS) (.slice poS ([(⟨0, [0, 1], rp, rc⟩ : Cov)].length) coS) tl0).toArray, .int .i64 0]) (OutRL inC WB ((g4, .cells #[.int .i64 0, .int .i64 1] 3 (0, 0)) :: (g1, .cells (shC (.slice pcS exCs.length ccS) (.slice poS ([(⟨0, [0, 1], rp, rc⟩ : Cov)].length) coS) tl0).toArray 32 (0, 0)) :: Kl2) (alongX exCs [(⟨0, [0, 1], rp, rc⟩ : Cov)] 0 true)) rfl (by kernel_rfl) (fun _ => (by kernel_rfl)) (fun W hW => calls_r hW (Upon_any exCs pcS ccS (by decide) [(⟨0, [0, 1], rp, rc⟩ : Cov)] poS coS (Nat.le_of_ble_eq_true rfl) tl0 0 W ((RL.base HCS.out) _ (hW.sub (fun _ h => by cases h))) ((RL.base HOS.out) _ (hW.sub (fun _ h => by cases h))) (HRS.out.keep hW.1) lrS)) (fun _ => by simp only [List.setIfInBounds_toArray, List.set_cons_succ, List.set_cons_zero] <;> rfl) ?_
                    rintro _ _ ⟨p6, c6, Kl6, rfl, n6, R6, N6, rfl⟩
                    obtain ⟨dj7_0, dj7_1, dj7_2⟩ : Dk g4 Kl6 ∧ Dk g1 Kl6 ∧ Dj Kl2 Kl6 := by simpa only [dj_app_l, dj_app_r, dj_cons_l, dj_cons_r, dj_nil_l, dj_nil_r, dk_app, dk_cons, dk_nil, and_true, true_and, and_assoc] using (show Dj ((g4, .cells #[.int .i64 0, .int .i64 1] 3 (0, 0)) :: (g1, .cells (shC (.slice pcS exCs.length ccS) (.slice poS ([(⟨0, [0, 1], rp, rc⟩ : Cov)].length) coS) tl0).toArray 32 (0, 0)) :: Kl2) Kl6 from N6)
                    refine wpL_sub (K2 := ((g4, .cells #[.int .i64 0, .int .i64 1] 3 (0, 0)) :: (g1, .cells (shC (.slice pcS exCs.length ccS) (.slice poS ([(⟨0, [0, 1], rp, rc⟩ : Cov)].length) coS) tl0).toArray 32 (0, 0)) :: (Kl2 ++ Kl6))) (fun p hp => by simp only [List.mem_cons, List.mem_append, or_assoc] at hp ⊢; exact hp) ?_
                    refine wpL_newg (fun g => .slice (some ⟨g, 0, none⟩) 2 2) (obi := .cells #[.int .i64 2, .int .i64 3] 3 (0, 0)) rfl (by kernel_rfl) (fun _ => by kernel_rfl) (fun _ => by simp only [List.setIfInBounds_toArray, List.set_cons_succ, List.set_cons_zero] <;> rfl) fun g8 Bg8 Fg8 => ?_
                    obtain ⟨dj9_0, dj9_1, dj9_2, dj9_3⟩ : g4 ≠ g8 ∧ g1 ≠ g8 ∧ Dk g8 Kl2 ∧ Dk g8 Kl6 := by simpa only [dj_app_l, dj_app_r, dj_cons_l, dj_cons_r, dj_nil_l, dj_nil_r, dk_app, dk_cons, dk_nil, and_true, true_and, and_assoc] using (show Dk g8 ((g4, .cells #[.int .i64 0, .int .i64 1] 3 (0, 0)) :: (g1, .cells (shC (.slice pcS exCs.length ccS) (.slice poS ([(⟨0, [0, 1], rp, rc⟩ : Cov)].length) coS) tl0).toArray 32 (0, 0)) :: (Kl2 ++ Kl6)) from Fg8)
                    refine lv (v := .bool (decide ((alongX exCs [(⟨0, [0, 1], rp, rc⟩ : Cov)] 0 true) = [2, 3]))) rfl rfl (yb_call (f := 20) (args := #[.slice p6 ((alongX exCs [(⟨0, [0, 1], rp, rc⟩ : Cov)] 0 true).length) c6, .slice (some ⟨g8, 0, none⟩) 2 2]) (fun _ => by kernel_rfl) fun W hW => SameInts_any (alongX exCs [(⟨0, [0, 1], rp, rc⟩ : Cov)] 0 true) [2, 3] p6 (some ⟨g8, 0, none⟩) c6 2 (Nat.le_of_ble_eq_true rfl) W (R6 _ (hW.sub (fun p hp => by simp only [List.mem_cons, List.mem_append, List.nil_append, List.not_mem_nil, or_assoc, or_false, false_or, hp, true_or, or_true]))) (blk_slv hW (.head _))) ?_
                    refine lm (v := .bool (decide ((alongX exCs [(⟨0, [0, 1], rp, rc⟩ : Cov)] 0 true) = [2, 3]))) rfl rfl ?_
                    refine lm (v := .bool (decide ((alongX exCs [(⟨0, [0, 1], rp, rc⟩ : Cov)] 0 true) = [2, 3]))) rfl rfl ?_
                    cases hd10 : (decide ((alongX exCs [(⟨0, [0, 1], rp, rc⟩ : Cov)] 0 true) = [2, 3])) with
                    | false =>
                      have h10 : ¬ ((alongX exCs [(⟨0, [0, 1], rp, rc⟩ : Cov)] 0 true) = [2, 3]) := of_decide_eq_false hd10
                      clear hd10
                      exact absurd (show (alongX exCs [(⟨0, [0, 1], rp, rc⟩ : Cov)] 0 true) = [2, 3] from by rfl) h10
                    | true =>
                      have h10 : (alongX exCs [(⟨0, [0, 1], rp, rc⟩ : Cov)] 0 true) = [2, 3] := of_decide_eq_true hd10
                      clear hd10
                      refine lv (v := .agg (shC (.slice pcS exCs.length ccS) (.slice poS ([(⟨0, [0, 1], rp, rc⟩ : Cov)].length) coS) tl0).toArray) rfl rfl (yb_load (n := 13) (off := 0) rfl (by kernel_rfl) (.tail _ (.tail _ (.head _))) Try.underlying32 rfl (by kernel_rfl) (by first | (simp [Value.cells]; done) | exact Nat.le_of_ble_eq_true rfl) (by kernel_rfl)) ?_
                      refine wpL_c (f := 29) (args := #[.agg (shC (.slice pcS exCs.length ccS) (.slice poS ([(⟨0, [0, 1], rp, rc⟩ : Cov)].length) coS) tl0).toArray, .int .i64 0]) (OutRL inC WB ((g8, .cells #[.int .i64 2, .int .i64 3] 3 (0, 0)) :: (g4, .cells #[.int .i64 0, .int .i64 1] 3 (0, 0)) :: (g1, .cells (shC (.slice pcS exCs.length ccS) (.slice poS ([(⟨0, [0, 1], rp, rc⟩ : Cov)].length) coS) tl0).toArray 32 (0, 0)) :: (Kl2 ++ Kl6)) (besideX exCs 0)) rfl (by kernel_rfl) (fun _ => (by kernel_rfl)) (fun W hW => calls_r hW (Beside_any exCs pcS ccS (by decide) [(⟨0, [0, 1], rp, rc⟩ : Cov)] poS coS (Nat.le_of_ble_eq_true rfl) tl0 0 W ((RL.base HCS.out) _ (hW.sub (fun _ h => by cases h))) ((RL.base HOS.out) _ (hW.sub (fun _ h => by cases h))))) (fun _ => by simp only [List.setIfInBounds_toArray, List.set_cons_succ, List.set_cons_zero] <;> rfl) ?_
                      rintro _ _ ⟨p10, c10, Kl10, rfl, n10, R10, N10, rfl⟩
                      obtain ⟨dj11_0, dj11_1, dj11_2, dj11_3, dj11_4⟩ : Dk g8 Kl10 ∧ Dk g4 Kl10 ∧ Dk g1 Kl10 ∧ Dj Kl2 Kl10 ∧ Dj Kl6 Kl10 := by simpa only [dj_app_l, dj_app_r, dj_cons_l, dj_cons_r, dj_nil_l, dj_nil_r, dk_app, dk_cons, dk_nil, and_true, true_and, and_assoc] using (show Dj ((g8, .cells #[.int .i64 2, .int .i64 3] 3 (0, 0)) :: (g4, .cells #[.int .i64 0, .int .i64 1] 3 (0, 0)) :: (g1, .cells (shC (.slice pcS exCs.length ccS) (.slice poS ([(⟨0, [0, 1], rp, rc⟩ : Cov)].length) coS) tl0).toArray 32 (0, 0)) :: (Kl2 ++ Kl6)) Kl10 from N10)
                      refine wpL_sub (K2 := ((g8, .cells #[.int .i64 2, .int .i64 3] 3 (0, 0)) :: (g4, .cells #[.int .i64 0, .int .i64 1] 3 (0, 0)) :: (g1, .cells (shC (.slice pcS exCs.length ccS) (.slice poS ([(⟨0, [0, 1], rp, rc⟩ : Cov)].length) coS) tl0).toArray 32 (0, 0)) :: (Kl2 ++ (Kl6 ++ Kl10)))) (fun p hp => by simp only [List.mem_cons, List.mem_append, or_assoc] at hp ⊢; exact hp) ?_
                      refine wpL_newg (fun g => .slice (some ⟨g, 0, none⟩) 1 1) (obi := .cells #[.int .i64 1] 3 (0, 0)) rfl (by kernel_rfl) (fun _ => by kernel_rfl) (fun _ => by simp only [List.setIfInBounds_toArray, List.set_cons_succ, List.set_cons_zero] <;> rfl) fun g12 Bg12 Fg12 => ?_
                      obtain ⟨dj13_0, dj13_1, dj13_2, dj13_3, dj13_4, dj13_5⟩ : g8 ≠ g12 ∧ g4 ≠ g12 ∧ g1 ≠ g12 ∧ Dk g12 Kl2 ∧ Dk g12 Kl6 ∧ Dk g12 Kl10 := by simpa only [dj_app_l, dj_app_r, dj_cons_l, dj_cons_r, dj_nil_l, dj_nil_r, dk_app, dk_cons, dk_nil, and_true, true_and, and_assoc] using (show Dk g12 ((g8, .cells #[.int .i64 2, .int .i64 3] 3 (0, 0)) :: (g4, .cells #[.int .i64 0, .int .i64 1] 3 (0, 0)) :: (g1, .cells (shC (.slice pcS exCs.length ccS) (.slice poS ([(⟨0, [0, 1], rp, rc⟩ : Cov)].length) coS) tl0).toArray 32 (0, 0)) :: (Kl2 ++ (Kl6 ++ Kl10))) from Fg12)
                      refine lv (v := .bool (decide ((besideX exCs 0) = [1]))) rfl rfl (yb_call (f := 20) (args := #[.slice p10 ((besideX exCs 0).length) c10, .slice (some ⟨g12, 0, none⟩) 1 1]) (fun _ => by kernel_rfl) fun W hW => SameInts_any (besideX exCs 0) [1] p10 (some ⟨g12, 0, none⟩) c10 1 (Nat.le_of_ble_eq_true rfl) W (R10 _ (hW.sub (fun p hp => by simp only [List.mem_cons, List.mem_append, List.nil_append, List.not_mem_nil, or_assoc, or_false, false_or, hp, true_or, or_true]))) (blk_slv hW (.head _))) ?_
                      refine lm (v := .bool (decide ((besideX exCs 0) = [1]))) rfl rfl ?_
                      refine lm (v := .bool (decide ((besideX exCs 0) = [1]))) rfl rfl ?_
                      cases hd11 : (decide ((besideX exCs 0) = [1])) with
                      | false =>
                        have h11 : ¬ ((besideX exCs 0) = [1]) := of_decide_eq_false hd11
                        clear hd11
                        exact absurd (show (besideX exCs 0) = [1] from by rfl) h11
                      | true =>
                        have h11 : (besideX exCs 0) = [1] := of_decide_eq_true hd11
                        clear hd11
                        refine lv (v := .agg (shC (.slice pcS exCs.length ccS) (.slice poS ([(⟨0, [0, 1], rp, rc⟩ : Cov)].length) coS) tl0).toArray) rfl rfl (yb_load (n := 13) (off := 0) rfl (by kernel_rfl) (.tail _ (.tail _ (.tail _ (.head _)))) Try.underlying32 rfl (by kernel_rfl) (by first | (simp [Value.cells]; done) | exact Nat.le_of_ble_eq_true rfl) (by kernel_rfl)) ?_
                        refine lv (v := .int .i64 (tallX exCs)) rfl rfl (yb_call (f := 22) (args := #[.agg (shC (.slice pcS exCs.length ccS) (.slice poS ([(⟨0, [0, 1], rp, rc⟩ : Cov)].length) coS) tl0).toArray]) (fun _ => by kernel_rfl) fun W hW => Tallest_any exCs pcS ccS (by decide) [(⟨0, [0, 1], rp, rc⟩ : Cov)] poS coS (Nat.le_of_ble_eq_true rfl) tl0 W ((RL.base HCS.out) _ (hW.sub (fun _ h => by cases h))) ((RL.base HOS.out) _ (hW.sub (fun _ h => by cases h)))) ?_
                        refine lp (v := .bool (decide ((tallX exCs) = 4))) rfl rfl (run_bin rfl (vx := (.int .i64 (tallX exCs))) (vy := (.int .i64 4)) (by kernel_rfl) (by kernel_rfl) fun w => bi_eql rfl w) ?_
                        refine lm (v := .bool (decide ((tallX exCs) = 4))) rfl rfl ?_
                        refine lm (v := .bool (decide ((tallX exCs) = 4))) rfl rfl ?_
                        cases hd12 : (decide ((tallX exCs) = 4)) with
                        | false =>
                          have h12 : ¬ ((tallX exCs) = 4) := of_decide_eq_false hd12
                          clear hd12
                          exact absurd (show (tallX exCs) = 4 from by rfl) h12
                        | true =>
                          have h12 : (tallX exCs) = 4 := of_decide_eq_true hd12
                          clear hd12
                          refine lv (v := .agg (shC (.slice pcS exCs.length ccS) (.slice poS ([(⟨0, [0, 1], rp, rc⟩ : Cov)].length) coS) tl0).toArray) rfl rfl (yb_load (n := 13) (off := 0) rfl (by kernel_rfl) (.tail _ (.tail _ (.tail _ (.head _)))) Try.underlying32 rfl (by kernel_rfl) (by first | (simp [Value.cells]; done) | exact Nat.le_of_ble_eq_true rfl) (by kernel_rfl)) ?_
                          refine lv (v := .int .i64 (placesX exCs)) rfl rfl (yb_call (f := 24) (args := #[.agg (shC (.slice pcS exCs.length ccS) (.slice poS ([(⟨0, [0, 1], rp, rc⟩ : Cov)].length) coS) tl0).toArray]) (fun _ => by kernel_rfl) fun W hW => Places_any exCs pcS ccS (by decide) [(⟨0, [0, 1], rp, rc⟩ : Cov)] poS coS (Nat.le_of_ble_eq_true rfl) tl0 W ((RL.base HCS.out) _ (hW.sub (fun _ h => by cases h))) ((RL.base HOS.out) _ (hW.sub (fun _ h => by cases h)))) ?_
                          refine lp (v := .bool (decide ((placesX exCs) = 28))) rfl rfl (run_bin rfl (vx := (.int .i64 (placesX exCs))) (vy := (.int .i64 28)) (by kernel_rfl) (by kernel_rfl) fun w => bi_eql rfl w) ?_
                          refine lm (v := .bool (decide ((placesX exCs) = 28))) rfl rfl ?_
                          refine lm (v := .bool (decide ((placesX exCs) = 28))) rfl rfl ?_
                          refine wpL_done (fun W5 hW5 => ?_)
                          refine (show Code.wp _ _ _ _ _ from ?_)
                          refine wp_ret ?_
                          try simp only [inBlock_ret, then_ret]
                          refine bodyPost_ret (v := .bool (decide ((placesX exCs) = 28))) ?_ rfl ?_
                          · kernel_rfl
                          · exact ⟨rfl, (hWB.1.trans (hW5.1.mono hWB.1.size))⟩
end Go.Proofs.Ytldhjhjomokkgaa
/- Ships that are built from places and bits: plain data. -/
namespace Go.Proofs.Ytldhjhjomokkgaa
open Go Go.RowKit Tw
structure Pl where
  bay : Nat
  row : Nat
  tiers : Nat
  deck : Bool
def plC (p : Pl) : List Value := [.int .u8 ((p.bay : Nat) : Int), .int .u8 ((p.row : Nat) : Int), .int .u8 ((p.tiers : Nat) : Int), .bool p.deck]
def plOk (p : Pl) : Prop := p.bay ≤ 255 ∧ p.row ≤ 255 ∧ p.tiers ≤ 255
theorem plC_len (p : Pl) : (plC p).length = 4 := rfl
theorem plC_one (p : Pl) : ∀ v ∈ plC p, v.oneCell' = true := fun v hv => by
  unfold plC at hv
  simp only [List.mem_cons, List.not_mem_nil, or_false] at hv
  rcases hv with rfl | rfl | rfl | rfl <;> rfl
def colD (p : Pl) (d : Bool) : Col := ⟨((p.bay % 5 : Nat) : Int), ((p.row % 5 : Nat) : Int), d, ((2 + p.tiers % 4 : Nat) : Int), 0, 500000000, 500000000, 0, [], none, 0, ((13000 * (p.bay % 5) : Nat) : Int) - 26000, ((2500 * (p.row % 5) : Nat) : Int) - 5000, if d = true then 20000 else 2000⟩
def colOf (p : Pl) : Col := colD p p.deck
def col1 : Col := ⟨0, 0, false, 3, 0, 500000000, 500000000, 0, [], none, 0, 0, 0, 2000⟩
def addC (cs : List Col) (c : Col) : List Col := if (fst (isAt c.bay c.row c.deck) cs).isSome = true then cs else cs ++ [c]
def bld (l : List Pl) : List Col := l.foldl (fun cs p => addC cs (colOf p)) []
theorem bld_snoc {l : List Pl} {k : Nat} {p : Pl} (h : l[k]? = some p) : bld (l.take (k + 1)) = addC (bld (l.take k)) (colOf p) := by
  obtain ⟨hk, rfl⟩ := List.getElem?_eq_some_iff.1 h
  unfold bld
  rw [List.take_succ_eq_append_getElem hk, List.foldl_append]; rfl
def builtC (l : List Pl) : List Col := if (bld (l.take (min l.length 12))).length = 0 then [col1] else bld (l.take (min l.length 12))
def bitO (n i : Nat) : Bool := decide (n / 2 ^ i % 2 = 1)
def covAt (n i : Nat) : List (Int × List Int) := (if bitO n (2 * i) = true then [(((i : Nat) : Int), [0, 1])] else []) ++ (if bitO n (2 * i + 1) = true then [(((i : Nat) : Int), [2, 3, 4])] else [])
def covTo (n : Nat) : Nat → List (Int × List Int)
  | 0 => []
  | i + 1 => covTo n i ++ covAt n i
def builtO (n : Nat) : List (Int × List Int) := covTo n 5
theorem covAt_len (n i : Nat) : (covAt n i).length ≤ 2 := by
  unfold covAt
  rw [List.length_append]
  split <;> split <;> simp
theorem covTo_len (n : Nat) : ∀ i, (covTo n i).length ≤ 2 * i
  | 0 => Nat.le_refl _
  | i + 1 => by
    have h1 := covTo_len n i
    have h2 := covAt_len n i
    show (covTo n i ++ covAt n i).length ≤ _
    rw [List.length_append]; omega
theorem bld_len (l : List Pl) : (bld l).length ≤ l.length := by
  have key : ∀ (l : List Pl) (cs : List Col), (l.foldl (fun cs p => addC cs (colOf p)) cs).length ≤ cs.length + l.length := by
    intro l
    induction l with
    | nil => intro cs; exact Nat.le_refl _
    | cons p l ih =>
      intro cs
      have h1 := ih (addC cs (colOf p))
      have h2 : (addC cs (colOf p)).length ≤ cs.length + 1 := by
        unfold addC
        split
        · omega
        · rw [List.length_append]; exact Nat.le_refl _
      rw [List.foldl_cons, List.length_cons]; omega
  simpa [bld] using key l []
theorem built_len (l : List Pl) : 0 < (builtC l).length ∧ (builtC l).length ≤ 12 := by
  unfold builtC
  split
  · exact ⟨by simp, by simp⟩
  · rename_i h
    have h1 := bld_len (l.take (min l.length 12))
    rw [List.length_take] at h1
    omega
theorem builtO_len (n : Nat) : (builtO n).length ≤ 10 := covTo_len n 5
section
variable {cs : List Col} {p : Pl} {d : Bool}
theorem add_yes (h : p.deck = d) (hf : (fst (isAt ((p.bay % 5 : Nat) : Int) ((p.row % 5 : Nat) : Int) d) cs).isSome = true) : addC cs (colOf p) = cs := by
  subst h
  exact if_pos hf
theorem add_no (h : p.deck = d) (hf : (fst (isAt ((p.bay % 5 : Nat) : Int) ((p.row % 5 : Nat) : Int) d) cs).isSome = false) : addC cs (colOf p) = cs ++ [colD p d] := by
  subst h
  exact if_neg (by rw [show (colOf p).bay = ((p.bay % 5 : Nat) : Int) from rfl, show (colOf p).row = ((p.row % 5 : Nat) : Int) from rfl, show (colOf p).deck = p.deck from rfl, hf]; simp)
end
section
variable {n i : Nat}
theorem cov_00 (h : ¬ (n / 2 ^ (2 * i) % 2 = 1)) (h2 : ¬ (n / 2 ^ (2 * i + 1) % 2 = 1)) : covTo n (i + 1) = covTo n i := by
  show covTo n i ++ covAt n i = _
  simp [covAt, bitO, h, h2]
theorem cov_10 (h : n / 2 ^ (2 * i) % 2 = 1) (h2 : ¬ (n / 2 ^ (2 * i + 1) % 2 = 1)) : covTo n (i + 1) = covTo n i ++ [(((i : Nat) : Int), [0, 1])] := by
  show covTo n i ++ covAt n i = _
  simp [covAt, bitO, h, h2]
theorem cov_01 (h : ¬ (n / 2 ^ (2 * i) % 2 = 1)) (h2 : n / 2 ^ (2 * i + 1) % 2 = 1) : covTo n (i + 1) = covTo n i ++ [(((i : Nat) : Int), [2, 3, 4])] := by
  show covTo n i ++ covAt n i = _
  simp [covAt, bitO, h, h2]
theorem cov_11 (h : n / 2 ^ (2 * i) % 2 = 1) (h2 : n / 2 ^ (2 * i + 1) % 2 = 1) : covTo n (i + 1) = covTo n i ++ [(((i : Nat) : Int), [0, 1]), (((i : Nat) : Int), [2, 3, 4])] := by
  show covTo n i ++ covAt n i = _
  simp [covAt, bitO, h, h2]
end
theorem own_app {α : Type} {cells : α → List Value} {sz : Nat} {W0 : Base} {E : TypeId} {v : Value} {n : Nat} {l' : List α} {xs : List Value} {K : List (Nat × Obj)} (h : OwnL W0 E sz v n xs K) (e : xs = l'.flatMap cells) (e2 : n = l'.length) : OwnL W0 E sz v l'.length (l'.flatMap cells) K := by
  subst e e2; exact h
theorem el_col : Elem Try.prog 22 53 12 112 (.agg #[.int .i64 0, .int .i64 0, .bool false, .int .i64 0, .int .i64 0, .int .i64 0, .int .i64 0, .int .i64 0, .slice none 0 0, .int .i64 0, .int .i64 0, .int .i64 0]) := Elem.mk' Try.underlying22 (by kernel_rfl) rfl
theorem el_cov : Elem Try.prog 23 55 2 32 (.agg #[.int .i64 0, .slice none 0 0]) := Elem.mk' Try.underlying23 (by kernel_rfl) rfl
theorem bn_and {P : Program} {T : TypeId} {px py : Operand} {k : IntKind} {x y z : Nat} (h : x &&& y = z) (hx : x < 2 ^ k.bits) (hy : y < 2 ^ k.bits) (hw : k.wrap (z : Int) = (z : Int)) (w : World) : (do eqGuard .and T px py (.int k (x : Int)) (.int k (y : Int)); binOp .and T (.int k (x : Int)) (.int k (y : Int)) : Sem Value).run P w = .ok (.int k (z : Int)) w := by
  simp [eqGuard, binOp, Op.intBits]
  rw [Nat.mod_eq_of_lt hx, Nat.mod_eq_of_lt hy, h, hw]
theorem rw_snoc {W : World} {os : List Cov} {o : Cov} (h : RwR W os) (h2 : SLV W o.rp (o.rows.flatMap inC)) : RwR W (os ++ [o]) := fun x hx => by
  rcases List.mem_append.1 hx with hx | hx
  · exact h x hx
  · cases List.mem_singleton.1 hx; exact h2
theorem rw_nil {W : World} : RwR W [] := fun _ h => by cases h
end Go.Proofs.Ytldhjhjomokkgaa
