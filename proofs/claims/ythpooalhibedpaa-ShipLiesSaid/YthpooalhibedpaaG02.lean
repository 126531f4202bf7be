import Derived.Test.YthpooalhibedpaaG01
import Derived.Test.YthpooalhibedpaaG00
import Derived.Laws.MakeOwn
/- Part of the proof: T7, T8, T9, TA, TC, TE0, TN0, TX0, TN, TO0. -/
set_option linter.unusedVariables false
set_option linter.unusedSimpArgs false
set_option linter.unusedSectionVars false
namespace Go.Proofs.Ythpooalhibedpaa
open Go Go.RowKit Tw
set_option maxRecDepth 100000 in
set_option maxHeartbeats 4000000 in
theorem Within_any (l : List Rg) (p : Option Addr) (c : Nat) (hl : l.length ≤ 4000000000) (w : World) (hp : SLV w p (l.flatMap rgC)) : Calls Try.prog 82 #[.slice p l.length c] w fun e w' => e = .returned (.bool (rgsX l)) ∧ Below w.heap.size w w' := by
  have HP := Lib.hid hp
  clear hp
  go_enter Try.func82, Try.ntmps82
  refine wp_seq ?_
  refine wp_region_L (W0 := w) [] (KS.start w) ?_
  refine lm (v := .bool false) rfl rfl ?_
  refine wpL_done (fun W1 hW1 => ?_)
  refine (show Code.wp _ _ _ _ _ from ?_)
  refine wp_seq ?_
  refine wp_seq ?_
  refine wp_region_L (W0 := w) [] (hW1) ?_
  refine lm (v := .slice p l.length c) rfl rfl ?_
  refine lp (v := .int .i64 ((l.length : Nat) : Int)) rfl rfl (run_lenL (p := p) (cap := c) (n := l.length) rfl Try.underlying102 (by kernel_rfl)) ?_
  refine lm (v := .int .i64 0) rfl rfl ?_
  refine wpL_done (fun W2 hW2 => ?_)
  refine (show Code.wp _ _ _ _ _ from ?_)
  refine wp_block ?_
  go_loopw [7] (fun u7 wr => ∃ (k : Nat), (k ≤ l.length) ∧ (rgsX l = rgsX (l.drop k)) ∧ u7 = .int .i64 ((k : Nat) : Int) ∧ KS w [] wr) (fun u7 _ => l.length - (intOf u7).toNat)
  case atStart => exact ⟨0, (Nat.zero_le _), rfl, rfl, (hW2.sub (fun p hp => by first | exact hp | (simp only [List.mem_cons, List.mem_append, List.nil_append, List.not_mem_nil, or_assoc, or_false, false_or] at hp ⊢ <;> grind)))⟩
  case round =>
    obtain ⟨k, hk, hR, rfl, hL3⟩ := hrel
    refine wp_seq ?_
    refine wp_region_L (W0 := w) [] (hL3) ?_
    refine lp (v := .bool (decide (k < l.length))) rfl rfl (run_bin rfl (vx := (.int .i64 ((k : Nat) : Int))) (vy := (.int .i64 ((l.length : Nat) : Int))) (by kernel_rfl) (by kernel_rfl) fun w => bn_lss rfl w) ?_
    refine wpL_done (fun W4 hW4 => ?_)
    refine (show Code.wp _ _ _ _ _ from ?_)
    refine wp_seq ?_
    cases hd1 : (decide (k < l.length)) with
    | false =>
      have h1 : ¬ (k < l.length) := of_decide_eq_false hd1
      clear hd1
      refine wp_cond_false rfl ?_
      refine wp_exit ?_
      refine (show Code.wp _ _ _ _ _ from ?_)
      refine wp_seq ?_
      refine wp_region_L (W0 := w) [] (hW4) ?_
      refine lm (v := .bool true) rfl rfl ?_
      refine wpL_done (fun W5 hW5 => ?_)
      refine (show Code.wp _ _ _ _ _ from ?_)
      refine wp_ret ?_
      try simp only [inBlock_ret, then_ret]
      refine bodyPost_ret (v := .bool true) ?_ rfl ?_
      · kernel_rfl
      · exact ⟨(bool_is (by rw [hR, rgs_end h1])), hW5.1⟩
    | true =>
      have h1 : k < l.length := of_decide_eq_true hd1
      clear hd1
      refine wp_cond_true rfl ?_
      refine wp_skip ?_
      refine (show Code.wp _ _ _ _ _ from ?_)
      refine wp_seq ?_
      refine wp_block ?_
      refine wp_seq ?_
      refine wp_region_L (W0 := w) [] (hW4) ?_
      obtain ⟨y1, g1_, f1_, hy1, hp1, hc1⟩ := RL.at (RL.base HP.out) rgC_len (by decide) (hW4.sub (fun _ h => by cases h)) (k := k) (by omega)
      refine lp (v := .pointer (some ⟨g1_, f1_ + k * 3, none⟩)) rfl rfl (run_idxQ (p := p) (cap := c) (n := l.length) (j := .i64) (k := k) (sz := 3) rfl Try.underlying102 (by kernel_rfl) (by kernel_rfl) hp1 (by kernel_rfl) (by omega)) ?_
      refine lv (v := .agg (rgC y1).toArray) rfl rfl (yb_rs (off := f1_ + k * 3) (cs := rgC y1) rfl (by kernel_rfl) (fun W hW => hc1 W (hW.sub (fun _ h => by cases h))) Try.underlying104 rfl (by kernel_rfl)) ?_
      refine wpL_new (fun g => .pointer (some ⟨g, 0, none⟩)) (obi := .cells #[.int .i64 0, .int .i64 0, .int .i64 0] 104 (0, 0)) rfl rfl (fun _ => by kernel_rfl) (fun _ => by simp only [List.setIfInBounds_toArray, List.set_cons_succ, List.set_cons_zero] <;> rfl) fun g2 Bg2 Fg2 => ?_
      refine wpL_s [(g2, .cells (rgC y1).toArray 104 (0, 0))] rfl rfl (st_row (off := 0) (v := .agg (rgC y1).toArray) rfl (by kernel_rfl) (by kernel_rfl) (.head _) Bg2 (by kernel_rfl) (by first | (simp [Value.cells]; done) | exact Nat.le_of_ble_eq_true rfl) (fun v hv => rgC_one y1 v hv) (by kernel_rfl) (List.forall_mem_cons.2 ⟨.inl rfl, (List.forall_mem_nil _)⟩)) ?_
      refine wpL_done (fun W6 hW6 => ?_)
      refine (show Code.wp _ _ _ _ _ from ?_)
      refine wp_seq ?_
      refine wp_region_L (W0 := w) [(g2, .cells (rgC y1).toArray 104 (0, 0))] (hW6) ?_
      refine lm (v := .pointer (some ⟨g2, 0, none⟩)) rfl rfl ?_
      refine lv (v := .int .i64 y1.1) rfl rfl (yb_cell (off := 0) rfl (by kernel_rfl) (.head _) Try.underlying3 rfl (by kernel_rfl)) ?_
      refine lm (v := .pointer (some ⟨g2, 1, none⟩)) rfl rfl ?_
      refine lv (v := .int .i64 y1.2.1) rfl rfl (yb_cell (off := 1) rfl (by kernel_rfl) (.head _) Try.underlying3 rfl (by kernel_rfl)) ?_
      refine lp (v := .bool (decide (y1.1 < y1.2.1))) rfl rfl (run_bin rfl (vx := (.int .i64 y1.1)) (vy := (.int .i64 y1.2.1)) (by kernel_rfl) (by kernel_rfl) fun w => bi_lss rfl w) ?_
      refine lm (v := .bool (decide (y1.1 < y1.2.1))) rfl rfl ?_
      cases hd2 : (decide (y1.1 < y1.2.1)) with
      | false =>
        have h2 : ¬ (y1.1 < y1.2.1) := of_decide_eq_false hd2
        clear hd2
        refine lm (v := .pointer (some ⟨g2, 0, none⟩)) rfl rfl ?_
        refine lv (v := .int .i64 y1.1) rfl rfl (yb_cell (off := 0) rfl (by kernel_rfl) (.head _) Try.underlying3 rfl (by kernel_rfl)) ?_
        refine lm (v := .pointer (some ⟨g2, 2, none⟩)) rfl rfl ?_
        refine lv (v := .int .i64 y1.2.2) rfl rfl (yb_cell (off := 2) rfl (by kernel_rfl) (.head _) Try.underlying3 rfl (by kernel_rfl)) ?_
        refine lp (v := .bool (decide (y1.2.2 < y1.1))) rfl rfl (run_bin rfl (vx := (.int .i64 y1.1)) (vy := (.int .i64 y1.2.2)) (by kernel_rfl) (by kernel_rfl) fun w => bi_gtr rfl w) ?_
        refine lm (v := .bool (decide (y1.2.2 < y1.1))) rfl rfl ?_
        refine wpL_done (fun W7 hW7 => ?_)
        refine (show Code.wp _ _ _ _ _ from ?_)
        cases hd3 : (decide (y1.2.2 < y1.1)) with
        | false =>
          have h3 : ¬ (y1.2.2 < y1.1) := of_decide_eq_false hd3
          clear hd3
          refine wp_cond_false rfl ?_
          refine wp_skip ?_
          refine (show Code.wp _ _ _ _ _ from ?_)
          refine wp_region_L (W0 := w) [(g2, .cells (rgC y1).toArray 104 (0, 0))] (hW7) ?_
          refine lp (v := .int .i64 (((k + 1) : Nat) : Int)) rfl rfl (run_bin rfl (vx := (.int .i64 ((k : Nat) : Int))) (vy := (.int .i64 ((1 : Nat) : Int))) (by kernel_rfl) (by kernel_rfl) fun w => bn_add (z := (k + 1)) rfl (wr_i64 (by omega)) w) ?_
          refine lm (v := .int .i64 (((k + 1) : Nat) : Int)) rfl rfl ?_
          refine wpL_done (fun W8 hW8 => ?_)
          go_roundw
          case rel =>
            repeat apply Exists.intro
            exact ⟨⟨k + 1, (by omega), (by rw [hR, rgs_step hy1]; simp [h2, h3]), rfl, (hW8.sub (fun p hp => by first | exact hp | (simp only [List.mem_cons, List.mem_append, List.nil_append, List.not_mem_nil, or_assoc, or_false, false_or] at hp ⊢ <;> grind)))⟩, rfl⟩
          case measure => (show l.length - (intOf (.int .i64 (((k + 1) : Nat) : Int))).toNat < l.length - (intOf (.int .i64 ((k : Nat) : Int))).toNat); simp only [intOf]; omega
        | true =>
          have h3 : y1.2.2 < y1.1 := of_decide_eq_true hd3
          clear hd3
          refine wp_cond_true rfl ?_
          refine wp_seq ?_
          refine wp_region_L (W0 := w) [(g2, .cells (rgC y1).toArray 104 (0, 0))] (hW7) ?_
          refine lm (v := .bool false) rfl rfl ?_
          refine wpL_done (fun W9 hW9 => ?_)
          refine (show Code.wp _ _ _ _ _ from ?_)
          refine wp_ret ?_
          try simp only [inBlock_ret, then_ret]
          refine bodyPost_ret (v := .bool false) ?_ rfl ?_
          · kernel_rfl
          · exact ⟨(bool_is (by rw [hR, rgs_step hy1]; simp [h3])), hW9.1⟩
      | true =>
        have h2 : y1.1 < y1.2.1 := of_decide_eq_true hd2
        clear hd2
        refine ln rfl ?_
        refine ln rfl ?_
        refine ln rfl ?_
        refine ln rfl ?_
        refine ln rfl ?_
        refine lm (v := .bool true) rfl rfl ?_
        refine wpL_done (fun W10 hW10 => ?_)
        refine (show Code.wp _ _ _ _ _ from ?_)
        refine wp_cond_true rfl ?_
        refine wp_seq ?_
        refine wp_region_L (W0 := w) [(g2, .cells (rgC y1).toArray 104 (0, 0))] (hW10) ?_
        refine lm (v := .bool false) rfl rfl ?_
        refine wpL_done (fun W11 hW11 => ?_)
        refine (show Code.wp _ _ _ _ _ from ?_)
        refine wp_ret ?_
        try simp only [inBlock_ret, then_ret]
        refine bodyPost_ret (v := .bool false) ?_ rfl ?_
        · kernel_rfl
        · exact ⟨(bool_is (by rw [hR, rgs_step hy1]; simp [h2])), hW11.1⟩
set_option maxRecDepth 100000 in
set_option maxHeartbeats 4000000 in
theorem increasing_any (l : List Int) (p : Option Addr) (c : Nat) (most : Int) (hl : l.length ≤ 4000000000) (w : World) (hp : SLV w p (l.flatMap inC)) : Calls Try.prog 83 #[.slice p l.length c, .int .i64 most] w fun e w' => e = .returned (.bool (incX l most)) ∧ Below w.heap.size w w' := by
  have HP := Lib.hid hp
  clear hp
  go_enter Try.func83, Try.ntmps83
  refine wp_seq ?_
  refine wp_region_L (W0 := w) [] (KS.start w) ?_
  refine lm (v := .bool false) rfl rfl ?_
  refine wpL_done (fun W1 hW1 => ?_)
  refine (show Code.wp _ _ _ _ _ from ?_)
  refine wp_seq ?_
  refine wp_region_L (W0 := w) [] (hW1) ?_
  refine lm (v := .int .i64 (-1)) rfl rfl ?_
  refine wpL_done (fun W2 hW2 => ?_)
  refine (show Code.wp _ _ _ _ _ from ?_)
  refine wp_seq ?_
  refine wp_seq ?_
  refine wp_region_L (W0 := w) [] (hW2) ?_
  refine lm (v := .slice p l.length c) rfl rfl ?_
  refine lp (v := .int .i64 ((l.length : Nat) : Int)) rfl rfl (run_lenL (p := p) (cap := c) (n := l.length) rfl Try.underlying39 (by kernel_rfl)) ?_
  refine lm (v := .int .i64 0) rfl rfl ?_
  refine wpL_done (fun W3 hW3 => ?_)
  refine (show Code.wp _ _ _ _ _ from ?_)
  refine wp_block ?_
  go_loopw [10, 5] (fun u10 u5 wr => ∃ (k : Nat) (last : Int), (k ≤ l.length) ∧ (incX l most = incF most last (l.drop k)) ∧ u10 = .int .i64 ((k : Nat) : Int) ∧ u5 = .int .i64 last ∧ KS w [] wr) (fun u10 _ _ => l.length - (intOf u10).toNat)
  case atStart => exact ⟨0, (-1), (Nat.zero_le _), rfl, rfl, rfl, (hW3.sub (fun p hp => by first | exact hp | (simp only [List.mem_cons, List.mem_append, List.nil_append, List.not_mem_nil, or_assoc, or_false, false_or] at hp ⊢ <;> grind)))⟩
  case round =>
    obtain ⟨k, last, hk, hR, rfl, rfl, hL4⟩ := hrel
    refine wp_seq ?_
    refine wp_region_L (W0 := w) [] (hL4) ?_
    refine lp (v := .bool (decide (k < l.length))) rfl rfl (run_bin rfl (vx := (.int .i64 ((k : Nat) : Int))) (vy := (.int .i64 ((l.length : Nat) : Int))) (by kernel_rfl) (by kernel_rfl) fun w => bn_lss rfl w) ?_
    refine wpL_done (fun W5 hW5 => ?_)
    refine (show Code.wp _ _ _ _ _ from ?_)
    refine wp_seq ?_
    cases hd1 : (decide (k < l.length)) with
    | false =>
      have h1 : ¬ (k < l.length) := of_decide_eq_false hd1
      clear hd1
      refine wp_cond_false rfl ?_
      refine wp_exit ?_
      refine (show Code.wp _ _ _ _ _ from ?_)
      refine wp_seq ?_
      refine wp_region_L (W0 := w) [] (hW5) ?_
      refine lm (v := .bool true) rfl rfl ?_
      refine wpL_done (fun W6 hW6 => ?_)
      refine (show Code.wp _ _ _ _ _ from ?_)
      refine wp_ret ?_
      try simp only [inBlock_ret, then_ret]
      refine bodyPost_ret (v := .bool true) ?_ rfl ?_
      · kernel_rfl
      · exact ⟨(bool_is (by rw [hR, inc_end h1])), hW6.1⟩
    | true =>
      have h1 : k < l.length := of_decide_eq_true hd1
      clear hd1
      refine wp_cond_true rfl ?_
      refine wp_skip ?_
      refine (show Code.wp _ _ _ _ _ from ?_)
      refine wp_seq ?_
      refine wp_block ?_
      refine wp_seq ?_
      refine wp_region_L (W0 := w) [] (hW5) ?_
      obtain ⟨y1, g1_, f1_, hy1, hp1, hc1⟩ := RL.at (RL.base HP.out) inC_len (by decide) (hW5.sub (fun _ h => by cases h)) (k := k) (by omega)
      refine lp (v := .pointer (some ⟨g1_, f1_ + k * 1, none⟩)) rfl rfl (run_idxQ (p := p) (cap := c) (n := l.length) (j := .i64) (k := k) (sz := 1) rfl Try.underlying39 (by kernel_rfl) (by kernel_rfl) hp1 (by kernel_rfl) (by omega)) ?_
      refine lv (v := .int .i64 y1) rfl rfl (yb_rf (v := .int .i64 y1) rfl (by kernel_rfl) (fun W hW => hc1 W (hW.sub (fun _ h => by cases h)) 0 _ rfl) Try.underlying3 rfl) ?_
      refine lm (v := .int .i64 y1) rfl rfl ?_
      refine wpL_done (fun W7 hW7 => ?_)
      refine (show Code.wp _ _ _ _ _ from ?_)
      refine wp_seq ?_
      refine wp_seq ?_
      refine wp_region_L (W0 := w) [] (hW7) ?_
      refine lm (v := .int .i64 y1) rfl rfl ?_
      refine lm (v := .int .i64 last) rfl rfl ?_
      refine lp (v := .bool (!(decide (last < y1)))) rfl rfl (run_bin rfl (vx := (.int .i64 y1)) (vy := (.int .i64 last)) (by kernel_rfl) (by kernel_rfl) fun w => bi_leq rfl w) ?_
      refine lm (v := .bool (!(decide (last < y1)))) rfl rfl ?_
      cases hd2 : (decide (last < y1)) with
      | false =>
        have h2 : ¬ (last < y1) := of_decide_eq_false hd2
        clear hd2
        refine ln rfl ?_
        refine ln rfl ?_
        refine ln rfl ?_
        refine lm (v := .bool true) rfl rfl ?_
        refine wpL_done (fun W8 hW8 => ?_)
        refine (show Code.wp _ _ _ _ _ from ?_)
        refine wp_cond_true rfl ?_
        refine wp_seq ?_
        refine wp_region_L (W0 := w) [] (hW8) ?_
        refine lm (v := .bool false) rfl rfl ?_
        refine wpL_done (fun W9 hW9 => ?_)
        refine (show Code.wp _ _ _ _ _ from ?_)
        refine wp_ret ?_
        try simp only [inBlock_ret, then_ret]
        refine bodyPost_ret (v := .bool false) ?_ rfl ?_
        · kernel_rfl
        · exact ⟨(bool_is (by rw [hR, inc_step hy1, decide_eq_false (p := last < y1) (by omega)]; rfl)), hW9.1⟩
      | true =>
        have h2 : last < y1 := of_decide_eq_true hd2
        clear hd2
        refine lm (v := .int .i64 y1) rfl rfl ?_
        refine lm (v := .int .i64 most) rfl rfl ?_
        refine lp (v := .bool (decide (most < y1))) rfl rfl (run_bin rfl (vx := (.int .i64 y1)) (vy := (.int .i64 most)) (by kernel_rfl) (by kernel_rfl) fun w => bi_gtr rfl w) ?_
        refine lm (v := .bool (decide (most < y1))) rfl rfl ?_
        refine wpL_done (fun W10 hW10 => ?_)
        refine (show Code.wp _ _ _ _ _ from ?_)
        cases hd3 : (decide (most < y1)) with
        | false =>
          have h3 : ¬ (most < y1) := of_decide_eq_false hd3
          clear hd3
          refine wp_cond_false rfl ?_
          refine wp_skip ?_
          refine (show Code.wp _ _ _ _ _ from ?_)
          refine wp_region_L (W0 := w) [] (hW10) ?_
          refine lm (v := .int .i64 y1) rfl rfl ?_
          refine lm (v := .int .i64 y1) rfl rfl ?_
          refine wpL_done (fun W11 hW11 => ?_)
          refine (show Code.wp _ _ _ _ _ from ?_)
          refine wp_region_L (W0 := w) [] (hW11) ?_
          refine lp (v := .int .i64 (((k + 1) : Nat) : Int)) rfl rfl (run_bin rfl (vx := (.int .i64 ((k : Nat) : Int))) (vy := (.int .i64 ((1 : Nat) : Int))) (by kernel_rfl) (by kernel_rfl) fun w => bn_add (z := (k + 1)) rfl (wr_i64 (by omega)) w) ?_
          refine lm (v := .int .i64 (((k + 1) : Nat) : Int)) rfl rfl ?_
          refine wpL_done (fun W12 hW12 => ?_)
          go_roundw
          case rel =>
            repeat apply Exists.intro
            exact ⟨⟨k + 1, y1, (by omega), (by rw [hR, inc_step hy1, decide_eq_true (by omega), decide_eq_true (by omega)]; rfl), rfl, rfl, (hW12.sub (fun p hp => by first | exact hp | (simp only [List.mem_cons, List.mem_append, List.nil_append, List.not_mem_nil, or_assoc, or_false, false_or] at hp ⊢ <;> grind)))⟩, rfl⟩
          case measure => (show l.length - (intOf (.int .i64 (((k + 1) : Nat) : Int))).toNat < l.length - (intOf (.int .i64 ((k : Nat) : Int))).toNat); simp only [intOf]; omega
        | true =>
          have h3 : most < y1 := of_decide_eq_true hd3
          clear hd3
          refine wp_cond_true rfl ?_
          refine wp_seq ?_
          refine wp_region_L (W0 := w) [] (hW10) ?_
          refine lm (v := .bool false) rfl rfl ?_
          refine wpL_done (fun W13 hW13 => ?_)
          refine (show Code.wp _ _ _ _ _ from ?_)
          refine wp_ret ?_
          try simp only [inBlock_ret, then_ret]
          refine bodyPost_ret (v := .bool false) ?_ rfl ?_
          · kernel_rfl
          · exact ⟨(bool_is (by rw [hR, inc_step hy1, decide_eq_false (p := y1 ≤ most) (by omega)]; simp)), hW13.1⟩
set_option maxRecDepth 100000 in
set_option maxHeartbeats 4000000 in
theorem columnRight_any (c : Col) (hl : c.plugs.length ≤ 4000000000) (w : World) (hp : SLV w c.pp (c.plugs.flatMap inC)) : Calls Try.prog 64 #[.agg (colC c).toArray] w fun e w' => e = .returned (.bool (colX c)) ∧ Below w.heap.size w w' := by
  have HP := Lib.hid hp
  clear hp
  go_enter Try.func64, Try.ntmps64
  refine wp_seq ?_
  refine wp_region_L (W0 := w) [] (KS.start w) ?_
  refine wpL_new (fun g => .pointer (some ⟨g, 0, none⟩)) (obi := .cells (colC c).toArray 49 (0, 0)) rfl rfl (fun _ => by kernel_rfl) (fun _ => by simp only [List.setIfInBounds_toArray, List.set_cons_succ, List.set_cons_zero] <;> rfl) fun g1 Bg1 Fg1 => ?_
  refine lm (v := .bool false) rfl rfl ?_
  refine wpL_done (fun W1 hW1 => ?_)
  refine (show Code.wp _ _ _ _ _ from ?_)
  refine wp_seq ?_
  refine wp_region_L (W0 := w) [(g1, .cells (colC c).toArray 49 (0, 0))] (hW1) ?_
  refine lm (v := .func (.func 82) #[] #[]) rfl rfl ?_
  refine wpL_done (fun W2 hW2 => ?_)
  refine (show Code.wp _ _ _ _ _ from ?_)
  refine wp_seq ?_
  refine wp_region_L (W0 := w) [(g1, .cells (colC c).toArray 49 (0, 0))] (hW2) ?_
  refine lm (v := .func (.func 82) #[] #[]) rfl rfl ?_
  refine lm (v := .pointer (some ⟨g1, 0, none⟩)) rfl rfl ?_
  refine lv (v := .int .i64 c.bay) rfl rfl (yb_cell (off := 0) rfl (by kernel_rfl) (.head _) Try.underlying3 rfl (by kernel_rfl)) ?_
  refine lm (v := .agg #[.int .i64 c.bay, .int .i64 0, .int .i64 39]) rfl rfl ?_
  refine lm (v := .pointer (some ⟨g1, 1, none⟩)) rfl rfl ?_
  refine lv (v := .int .i64 c.row) rfl rfl (yb_cell (off := 1) rfl (by kernel_rfl) (.head _) Try.underlying3 rfl (by kernel_rfl)) ?_
  refine lm (v := .agg #[.int .i64 c.row, .int .i64 0, .int .i64 30]) rfl rfl ?_
  refine lm (v := .pointer (some ⟨g1, 3, none⟩)) rfl rfl ?_
  refine lv (v := .int .i64 c.tiers) rfl rfl (yb_cell (off := 3) rfl (by kernel_rfl) (.head _) Try.underlying3 rfl (by kernel_rfl)) ?_
  refine lm (v := .agg #[.int .i64 c.tiers, .int .i64 1, .int .i64 10]) rfl rfl ?_
  refine lm (v := .pointer (some ⟨g1, 4, none⟩)) rfl rfl ?_
  refine lv (v := .int .i64 c.height) rfl rfl (yb_cell (off := 4) rfl (by kernel_rfl) (.head _) Try.underlying3 rfl (by kernel_rfl)) ?_
  refine lm (v := .agg #[.int .i64 c.height, .int .i64 0, .int .i64 40000]) rfl rfl ?_
  refine lm (v := .pointer (some ⟨g1, 5, none⟩)) rfl rfl ?_
  refine lv (v := .int .i64 c.k20) rfl rfl (yb_cell (off := 5) rfl (by kernel_rfl) (.head _) Try.underlying3 rfl (by kernel_rfl)) ?_
  refine lm (v := .agg #[.int .i64 c.k20, .int .i64 0, .int .i64 500000000]) rfl rfl ?_
  refine lm (v := .pointer (some ⟨g1, 6, none⟩)) rfl rfl ?_
  refine lv (v := .int .i64 c.k40) rfl rfl (yb_cell (off := 6) rfl (by kernel_rfl) (.head _) Try.underlying3 rfl (by kernel_rfl)) ?_
  refine lm (v := .agg #[.int .i64 c.k40, .int .i64 0, .int .i64 500000000]) rfl rfl ?_
  refine lm (v := .pointer (some ⟨g1, 7, none⟩)) rfl rfl ?_
  refine lv (v := .int .i64 c.lash) rfl rfl (yb_cell (off := 7) rfl (by kernel_rfl) (.head _) Try.underlying3 rfl (by kernel_rfl)) ?_
  refine lm (v := .agg #[.int .i64 c.lash, .int .i64 0, .int .i64 1000000000000]) rfl rfl ?_
  refine lm (v := .pointer (some ⟨g1, 9, none⟩)) rfl rfl ?_
  refine lv (v := .int .i64 c.x) rfl rfl (yb_cell (off := 9) rfl (by kernel_rfl) (.head _) Try.underlying3 rfl (by kernel_rfl)) ?_
  refine lm (v := .agg #[.int .i64 c.x, .int .i64 (-500000), .int .i64 500000]) rfl rfl ?_
  refine lm (v := .pointer (some ⟨g1, 10, none⟩)) rfl rfl ?_
  refine lv (v := .int .i64 c.y) rfl rfl (yb_cell (off := 10) rfl (by kernel_rfl) (.head _) Try.underlying3 rfl (by kernel_rfl)) ?_
  refine lm (v := .agg #[.int .i64 c.y, .int .i64 (-500000), .int .i64 500000]) rfl rfl ?_
  refine lm (v := .pointer (some ⟨g1, 11, none⟩)) rfl rfl ?_
  refine lv (v := .int .i64 c.z) rfl rfl (yb_cell (off := 11) rfl (by kernel_rfl) (.head _) Try.underlying3 rfl (by kernel_rfl)) ?_
  refine lm (v := .agg #[.int .i64 c.z, .int .i64 (-500000), .int .i64 500000]) rfl rfl ?_
  refine wpL_new (fun g => .slice (some ⟨g, 0, none⟩) 10 10) (obi := .cells #[.int .i64 c.bay, .int .i64 0, .int .i64 39, .int .i64 c.row, .int .i64 0, .int .i64 30, .int .i64 c.tiers, .int .i64 1, .int .i64 10, .int .i64 c.height, .int .i64 0, .int .i64 40000, .int .i64 c.k20, .int .i64 0, .int .i64 500000000, .int .i64 c.k40, .int .i64 0, .int .i64 500000000, .int .i64 c.lash, .int .i64 0, .int .i64 1000000000000, .int .i64 c.x, .int .i64 (-500000), .int .i64 500000, .int .i64 c.y, .int .i64 (-500000), .int .i64 500000, .int .i64 c.z, .int .i64 (-500000), .int .i64 500000] 104 (0, 0)) rfl rfl (fun _ => by kernel_rfl) (fun _ => by simp only [List.setIfInBounds_toArray, List.set_cons_succ, List.set_cons_zero] <;> rfl) fun g2 Bg2 Fg2 => ?_
  obtain dj3_0 : g1 ≠ g2 := by simpa only [dj_app_l, dj_app_r, dj_cons_l, dj_cons_r, dj_nil_l, dj_nil_r, dk_app, dk_cons, dk_nil, and_true, true_and, and_assoc] using (show Dk g2 [(g1, .cells (colC c).toArray 49 (0, 0))] from Fg2)
  refine lv (v := .bool (rgsX (rangesX c))) rfl rfl (yb_call (f := 82) (args := #[.slice (some ⟨g2, 0, none⟩) 10 10]) (fun _ => by kernel_rfl) fun W hW => Within_any (rangesX c) (some ⟨g2, 0, none⟩) 10 (by show (10 : Nat) ≤ _; omega) W (blk_slv hW (.head _))) ?_
  refine lm (v := .bool (rgsX (rangesX c))) rfl rfl ?_
  cases h1 : (rgsX (rangesX c)) with
  | false =>
    refine ln rfl ?_
    refine ln rfl ?_
    refine ln rfl ?_
    refine ln rfl ?_
    refine ln rfl ?_
    refine ln rfl ?_
    refine lm (v := .bool false) rfl rfl ?_
    refine lm (v := .bool false) rfl rfl ?_
    refine wpL_done (fun W3 hW3 => ?_)
    refine (show Code.wp _ _ _ _ _ from ?_)
    refine wp_ret ?_
    try simp only [inBlock_ret, then_ret]
    refine bodyPost_ret (v := .bool false) ?_ rfl ?_
    · kernel_rfl
    · exact ⟨(bool_is (by unfold colX; simp [*])), hW3.1⟩
  | true =>
    refine lm (v := .pointer (some ⟨g1, 8, none⟩)) rfl rfl ?_
    refine lv (v := .slice c.pp c.plugs.length c.pc) rfl rfl (yb_cell (off := 8) rfl (by kernel_rfl) (.tail _ (.head _)) Try.underlying39 rfl (by kernel_rfl)) ?_
    refine lm (v := .pointer (some ⟨g1, 3, none⟩)) rfl rfl ?_
    refine lv (v := .int .i64 c.tiers) rfl rfl (yb_cell (off := 3) rfl (by kernel_rfl) (.tail _ (.head _)) Try.underlying3 rfl (by kernel_rfl)) ?_
    refine lp (v := .int .i64 (IntKind.i64.wrap (c.tiers - 1))) rfl rfl (run_bin rfl (vx := .int .i64 c.tiers) (vy := .int .i64 1) (by kernel_rfl) (by kernel_rfl) fun w => bw_sub (z := (IntKind.i64.wrap (c.tiers - 1))) rfl w) ?_
    refine lv (v := .bool (incX c.plugs (IntKind.i64.wrap (c.tiers - 1)))) rfl rfl (yb_call (f := 83) (args := #[.slice c.pp c.plugs.length c.pc, .int .i64 (IntKind.i64.wrap (c.tiers - 1))]) (fun _ => by kernel_rfl) fun W hW => increasing_any c.plugs c.pp c.pc (IntKind.i64.wrap (c.tiers - 1)) (by omega) W ((RL.base HP.out) _ (hW.sub (fun _ h => by cases h)))) ?_
    refine lm (v := .bool (incX c.plugs (IntKind.i64.wrap (c.tiers - 1)))) rfl rfl ?_
    refine lm (v := .bool (incX c.plugs (IntKind.i64.wrap (c.tiers - 1)))) rfl rfl ?_
    refine wpL_done (fun W4 hW4 => ?_)
    refine (show Code.wp _ _ _ _ _ from ?_)
    refine wp_ret ?_
    try simp only [inBlock_ret, then_ret]
    refine bodyPost_ret (v := .bool (incX c.plugs (IntKind.i64.wrap (c.tiers - 1)))) ?_ rfl ?_
    · kernel_rfl
    · exact ⟨(bool_is (by unfold colX; simp [*])), hW4.1⟩
set_option maxRecDepth 100000 in
set_option maxHeartbeats 4000000 in
theorem coverRight_any (o : Cov) (hl : o.rows.length ≤ 4000000000) (w : World) (hp : SLV w o.rp (o.rows.flatMap inC)) : Calls Try.prog 65 #[.agg (covC o).toArray] w fun e w' => e = .returned (.bool (ovX o)) ∧ Below w.heap.size w w' := by
  have HP := Lib.hid hp
  clear hp
  go_enter Try.func65, Try.ntmps65
  refine wp_seq ?_
  refine wp_region_L (W0 := w) [] (KS.start w) ?_
  refine wpL_new (fun g => .pointer (some ⟨g, 0, none⟩)) (obi := .cells (covC o).toArray 51 (0, 0)) rfl rfl (fun _ => by kernel_rfl) (fun _ => by simp only [List.setIfInBounds_toArray, List.set_cons_succ, List.set_cons_zero] <;> rfl) fun g1 Bg1 Fg1 => ?_
  refine lm (v := .bool false) rfl rfl ?_
  refine wpL_done (fun W1 hW1 => ?_)
  refine (show Code.wp _ _ _ _ _ from ?_)
  refine wp_seq ?_
  refine wp_region_L (W0 := w) [(g1, .cells (covC o).toArray 51 (0, 0))] (hW1) ?_
  refine lm (v := .pointer (some ⟨g1, 0, none⟩)) rfl rfl ?_
  refine lv (v := .int .i64 o.bay) rfl rfl (yb_cell (off := 0) rfl (by kernel_rfl) (.head _) Try.underlying3 rfl (by kernel_rfl)) ?_
  refine lp (v := .bool (!(decide (o.bay < 0)))) rfl rfl (run_bin rfl (vx := (.int .i64 o.bay)) (vy := (.int .i64 0)) (by kernel_rfl) (by kernel_rfl) fun w => bi_geq rfl w) ?_
  refine lm (v := .bool (!(decide (o.bay < 0)))) rfl rfl ?_
  cases hd1 : (decide (o.bay < 0)) with
  | false =>
    have h1 : ¬ (o.bay < 0) := of_decide_eq_false hd1
    clear hd1
    refine lm (v := .pointer (some ⟨g1, 0, none⟩)) rfl rfl ?_
    refine lv (v := .int .i64 o.bay) rfl rfl (yb_cell (off := 0) rfl (by kernel_rfl) (.head _) Try.underlying3 rfl (by kernel_rfl)) ?_
    refine lp (v := .bool (!(decide (39 < o.bay)))) rfl rfl (run_bin rfl (vx := (.int .i64 o.bay)) (vy := (.int .i64 39)) (by kernel_rfl) (by kernel_rfl) fun w => bi_leq rfl w) ?_
    refine lm (v := .bool (!(decide (39 < o.bay)))) rfl rfl ?_
    refine lm (v := .bool (!(decide (39 < o.bay)))) rfl rfl ?_
    cases hd2 : (decide (39 < o.bay)) with
    | false =>
      have h2 : ¬ (39 < o.bay) := of_decide_eq_false hd2
      clear hd2
      refine lm (v := .pointer (some ⟨g1, 1, none⟩)) rfl rfl ?_
      refine lv (v := .slice o.rp o.rows.length o.rc) rfl rfl (yb_cell (off := 1) rfl (by kernel_rfl) (.head _) Try.underlying39 rfl (by kernel_rfl)) ?_
      refine lp (v := .int .i64 ((o.rows.length : Nat) : Int)) rfl rfl (run_lenL (p := o.rp) (cap := o.rc) (n := o.rows.length) rfl Try.underlying39 (by kernel_rfl)) ?_
      refine lp (v := .bool (decide (0 < o.rows.length))) rfl rfl (run_bin rfl (vx := (.int .i64 ((o.rows.length : Nat) : Int))) (vy := (.int .i64 ((0 : Nat) : Int))) (by kernel_rfl) (by kernel_rfl) fun w => bn_gtr rfl w) ?_
      refine lm (v := .bool (decide (0 < o.rows.length))) rfl rfl ?_
      refine lm (v := .bool (decide (0 < o.rows.length))) rfl rfl ?_
      cases hd3 : (decide (0 < o.rows.length)) with
      | false =>
        have h3 : ¬ (0 < o.rows.length) := of_decide_eq_false hd3
        clear hd3
        refine ln rfl ?_
        refine ln rfl ?_
        refine ln rfl ?_
        refine lm (v := .bool false) rfl rfl ?_
        refine lm (v := .bool false) rfl rfl ?_
        refine wpL_done (fun W2 hW2 => ?_)
        refine (show Code.wp _ _ _ _ _ from ?_)
        refine wp_ret ?_
        try simp only [inBlock_ret, then_ret]
        refine bodyPost_ret (v := .bool false) ?_ rfl ?_
        · kernel_rfl
        · exact ⟨(bool_is (by unfold ovX; rw [decide_eq_true (p := 0 ≤ o.bay) (by omega), decide_eq_true (p := o.bay ≤ 39) (by omega), decide_eq_false (p := 0 < o.rows.length) h3]; simp)), hW2.1⟩
      | true =>
        have h3 : 0 < o.rows.length := of_decide_eq_true hd3
        clear hd3
        refine lm (v := .pointer (some ⟨g1, 1, none⟩)) rfl rfl ?_
        refine lv (v := .slice o.rp o.rows.length o.rc) rfl rfl (yb_cell (off := 1) rfl (by kernel_rfl) (.head _) Try.underlying39 rfl (by kernel_rfl)) ?_
        refine lv (v := .bool (incX o.rows 30)) rfl rfl (yb_call (f := 83) (args := #[.slice o.rp o.rows.length o.rc, .int .i64 30]) (fun _ => by kernel_rfl) fun W hW => increasing_any o.rows o.rp o.rc 30 (by omega) W ((RL.base HP.out) _ (hW.sub (fun _ h => by cases h)))) ?_
        refine lm (v := .bool (incX o.rows 30)) rfl rfl ?_
        refine lm (v := .bool (incX o.rows 30)) rfl rfl ?_
        refine wpL_done (fun W3 hW3 => ?_)
        refine (show Code.wp _ _ _ _ _ from ?_)
        refine wp_ret ?_
        try simp only [inBlock_ret, then_ret]
        refine bodyPost_ret (v := .bool (incX o.rows 30)) ?_ rfl ?_
        · kernel_rfl
        · exact ⟨(bool_is (by unfold ovX; rw [decide_eq_true (p := 0 ≤ o.bay) (by omega), decide_eq_true (p := o.bay ≤ 39) (by omega), decide_eq_true (p := 0 < o.rows.length) h3]; simp)), hW3.1⟩
    | true =>
      have h2 : 39 < o.bay := of_decide_eq_true hd2
      clear hd2
      refine ln rfl ?_
      refine ln rfl ?_
      refine ln rfl ?_
      refine ln rfl ?_
      refine lm (v := .bool false) rfl rfl ?_
      refine lm (v := .bool false) rfl rfl ?_
      refine ln rfl ?_
      refine ln rfl ?_
      refine ln rfl ?_
      refine lm (v := .bool false) rfl rfl ?_
      refine lm (v := .bool false) rfl rfl ?_
      refine wpL_done (fun W4 hW4 => ?_)
      refine (show Code.wp _ _ _ _ _ from ?_)
      refine wp_ret ?_
      try simp only [inBlock_ret, then_ret]
      refine bodyPost_ret (v := .bool false) ?_ rfl ?_
      · kernel_rfl
      · exact ⟨(bool_is (by unfold ovX; rw [decide_eq_true (p := 0 ≤ o.bay) (by omega), decide_eq_false (p := o.bay ≤ 39) (by omega)]; simp)), hW4.1⟩
  | true =>
    have h1 : o.bay < 0 := of_decide_eq_true hd1
    clear hd1
    refine ln rfl ?_
    refine ln rfl ?_
    refine ln rfl ?_
    refine lm (v := .bool false) rfl rfl ?_
    refine lm (v := .bool false) rfl rfl ?_
    refine ln rfl ?_
    refine ln rfl ?_
    refine ln rfl ?_
    refine ln rfl ?_
    refine lm (v := .bool false) rfl rfl ?_
    refine lm (v := .bool false) rfl rfl ?_
    refine ln rfl ?_
    refine ln rfl ?_
    refine ln rfl ?_
    refine lm (v := .bool false) rfl rfl ?_
    refine lm (v := .bool false) rfl rfl ?_
    refine wpL_done (fun W5 hW5 => ?_)
    refine (show Code.wp _ _ _ _ _ from ?_)
    refine wp_ret ?_
    try simp only [inBlock_ret, then_ret]
    refine bodyPost_ret (v := .bool false) ?_ rfl ?_
    · kernel_rfl
    · exact ⟨(bool_is (by unfold ovX; rw [decide_eq_false (p := 0 ≤ o.bay) (by omega)]; simp)), hW5.1⟩
set_option maxRecDepth 100000 in
set_option maxHeartbeats 4000000 in
theorem placeOf_any (c : Col) (w : World) : Calls Try.prog 63 #[.agg (colC c).toArray] w fun e w' => e = .returned (kv3 (placeX c)) ∧ Below w.heap.size w w' := by
  go_enter Try.func63, Try.ntmps63
  refine wp_seq ?_
  refine wp_region_L (W0 := w) [] (KS.start w) ?_
  refine wpL_new (fun g => .pointer (some ⟨g, 0, none⟩)) (obi := .cells (colC c).toArray 49 (0, 0)) rfl rfl (fun _ => by kernel_rfl) (fun _ => by simp only [List.setIfInBounds_toArray, List.set_cons_succ, List.set_cons_zero] <;> rfl) fun g1 Bg1 Fg1 => ?_
  refine wpL_new (fun g => .pointer (some ⟨g, 0, none⟩)) (obi := .cells #[.int .i64 0, .int .i64 0, .int .i64 0] 92 (0, 0)) rfl rfl (fun _ => by kernel_rfl) (fun _ => by simp only [List.setIfInBounds_toArray, List.set_cons_succ, List.set_cons_zero] <;> rfl) fun g2 Bg2 Fg2 => ?_
  obtain dj3_0 : g1 ≠ g2 := by simpa only [dj_app_l, dj_app_r, dj_cons_l, dj_cons_r, dj_nil_l, dj_nil_r, dk_app, dk_cons, dk_nil, and_true, true_and, and_assoc] using (show Dk g2 [(g1, .cells (colC c).toArray 49 (0, 0))] from Fg2)
  refine wpL_done (fun W1 hW1 => ?_)
  refine (show Code.wp _ _ _ _ _ from ?_)
  refine wp_seq ?_
  refine wp_seq ?_
  refine wp_region_L (W0 := w) [(g2, .cells #[.int .i64 0, .int .i64 0, .int .i64 0] 92 (0, 0)), (g1, .cells (colC c).toArray 49 (0, 0))] (hW1) ?_
  refine lm (v := .pointer (some ⟨g1, 2, none⟩)) rfl rfl ?_
  refine lv (v := .bool c.deck) rfl rfl (yb_cell (off := 2) rfl (by kernel_rfl) (.tail _ (.head _)) Try.underlying4 rfl (by kernel_rfl)) ?_
  refine wpL_done (fun W2 hW2 => ?_)
  refine (show Code.wp _ _ _ _ _ from ?_)
  cases h1 : c.deck with
  | false =>
    refine wp_cond_false rfl ?_
    refine wp_skip ?_
    refine (show Code.wp _ _ _ _ _ from ?_)
    refine wp_seq ?_
    refine wp_region_L (W0 := w) [(g2, .cells #[.int .i64 0, .int .i64 0, .int .i64 0] 92 (0, 0)), (g1, .cells (colC c).toArray 49 (0, 0))] (hW2) ?_
    refine lm (v := .pointer (some ⟨g1, 0, none⟩)) rfl rfl ?_
    refine lv (v := .int .i64 c.bay) rfl rfl (yb_cell (off := 0) rfl (by kernel_rfl) (.tail _ (.head _)) Try.underlying3 rfl (by kernel_rfl)) ?_
    refine lm (v := .pointer (some ⟨g1, 1, none⟩)) rfl rfl ?_
    refine lv (v := .int .i64 c.row) rfl rfl (yb_cell (off := 1) rfl (by kernel_rfl) (.tail _ (.head _)) Try.underlying3 rfl (by kernel_rfl)) ?_
    refine lm (v := .agg #[.int .i64 c.bay, .int .i64 c.row, .int .i64 0]) rfl rfl ?_
    refine wpL_s [(g2, .cells #[.int .i64 c.bay, .int .i64 c.row, .int .i64 0] 92 (0, 0)), (g1, .cells (colC c).toArray 49 (0, 0))] rfl rfl (st_row (off := 0) (v := .agg #[.int .i64 c.bay, .int .i64 c.row, .int .i64 0]) rfl (by kernel_rfl) (by kernel_rfl) (.head _) Bg2 (by kernel_rfl) (by first | (simp [Value.cells]; done) | exact Nat.le_of_ble_eq_true rfl) (by intro v hv; simp [Value.cells] at hv; first | (subst hv; rfl) | (rcases hv with rfl | rfl | rfl <;> rfl)) (by kernel_rfl) (List.forall_mem_cons.2 ⟨.inl rfl, (List.forall_mem_cons.2 ⟨.inr ⟨(.tail _ (.head _)), (by first | assumption | exact Ne.symm (by assumption))⟩, (List.forall_mem_nil _)⟩)⟩)) ?_
    refine wpL_done (fun W3 hW3 => ?_)
    refine (show Code.wp _ _ _ _ _ from ?_)
    refine wp_ret ?_
    try simp only [inBlock_ret, then_ret]
    refine bodyPost_ret (v := .agg #[.int .i64 c.bay, .int .i64 c.row, .int .i64 0]) ?_ rfl ?_
    · exact (res_cell (p := 2) rfl rfl (hW3.2 _ (.head _)) Try.underlying92 rfl (by kernel_rfl))
    · exact ⟨(by unfold placeX; rw [h1]; rfl), hW3.1⟩
  | true =>
    refine wp_cond_true rfl ?_
    refine wp_seq ?_
    refine wp_region_L (W0 := w) [(g2, .cells #[.int .i64 0, .int .i64 0, .int .i64 0] 92 (0, 0)), (g1, .cells (colC c).toArray 49 (0, 0))] (hW2) ?_
    refine lm (v := .pointer (some ⟨g1, 0, none⟩)) rfl rfl ?_
    refine lv (v := .int .i64 c.bay) rfl rfl (yb_cell (off := 0) rfl (by kernel_rfl) (.tail _ (.head _)) Try.underlying3 rfl (by kernel_rfl)) ?_
    refine lm (v := .pointer (some ⟨g1, 1, none⟩)) rfl rfl ?_
    refine lv (v := .int .i64 c.row) rfl rfl (yb_cell (off := 1) rfl (by kernel_rfl) (.tail _ (.head _)) Try.underlying3 rfl (by kernel_rfl)) ?_
    refine lm (v := .agg #[.int .i64 c.bay, .int .i64 c.row, .int .i64 1]) rfl rfl ?_
    refine wpL_s [(g2, .cells #[.int .i64 c.bay, .int .i64 c.row, .int .i64 1] 92 (0, 0)), (g1, .cells (colC c).toArray 49 (0, 0))] rfl rfl (st_row (off := 0) (v := .agg #[.int .i64 c.bay, .int .i64 c.row, .int .i64 1]) rfl (by kernel_rfl) (by kernel_rfl) (.head _) Bg2 (by kernel_rfl) (by first | (simp [Value.cells]; done) | exact Nat.le_of_ble_eq_true rfl) (by intro v hv; simp [Value.cells] at hv; first | (subst hv; rfl) | (rcases hv with rfl | rfl | rfl <;> rfl)) (by kernel_rfl) (List.forall_mem_cons.2 ⟨.inl rfl, (List.forall_mem_cons.2 ⟨.inr ⟨(.tail _ (.head _)), (by first | assumption | exact Ne.symm (by assumption))⟩, (List.forall_mem_nil _)⟩)⟩)) ?_
    refine wpL_done (fun W4 hW4 => ?_)
    refine (show Code.wp _ _ _ _ _ from ?_)
    refine wp_ret ?_
    try simp only [inBlock_ret, then_ret]
    refine bodyPost_ret (v := .agg #[.int .i64 c.bay, .int .i64 c.row, .int .i64 1]) ?_ rfl ?_
    · exact (res_cell (p := 2) rfl rfl (hW4.2 _ (.head _)) Try.underlying92 rfl (by kernel_rfl))
    · exact ⟨(by unfold placeX; rw [h1]; rfl), hW4.1⟩
set_option maxRecDepth 100000 in
set_option maxHeartbeats 4000000 in
theorem columnsRight_any (cs : List Col) (pc : Option Addr) (cc : Nat) (w : World) (hc : SLV w pc (cs.flatMap colC)) (hq : PlR w cs) (lq : ∀ c ∈ cs, c.plugs.length ≤ 4000000000) : Calls Try.prog 35 #[.slice pc cs.length cc] w fun e w' => e = .returned (.bool (colsX cs)) ∧ Below w.heap.size w w' := by
  have HC := Lib.hid hc
  clear hc
  have HQ := Lib.hid hq
  clear hq
  go_enter Try.func35, Try.ntmps35
  refine wp_seq ?_
  refine wp_region_L (W0 := w) [] (KS.start w) ?_
  refine lm (v := .bool false) rfl rfl ?_
  refine wpL_done (fun W1 hW1 => ?_)
  refine (show Code.wp _ _ _ _ _ from ?_)
  refine wp_seq ?_
  refine wp_seq ?_
  refine wp_region_L (W0 := w) [] (hW1) ?_
  refine lm (v := .slice pc cs.length cc) rfl rfl ?_
  refine lp (v := .int .i64 ((cs.length : Nat) : Int)) rfl rfl (run_lenL (p := pc) (cap := cc) (n := cs.length) rfl Try.underlying22 (by kernel_rfl)) ?_
  refine lp (v := .bool (decide (cs.length = 0))) rfl rfl (run_bin rfl (vx := (.int .i64 ((cs.length : Nat) : Int))) (vy := (.int .i64 ((0 : Nat) : Int))) (by kernel_rfl) (by kernel_rfl) fun w => bn_eql rfl w) ?_
  refine lm (v := .bool (decide (cs.length = 0))) rfl rfl ?_
  cases hd1 : (decide (cs.length = 0)) with
  | false =>
    have h1 : ¬ (cs.length = 0) := of_decide_eq_false hd1
    clear hd1
    refine lm (v := .slice pc cs.length cc) rfl rfl ?_
    refine lp (v := .int .i64 ((cs.length : Nat) : Int)) rfl rfl (run_lenL (p := pc) (cap := cc) (n := cs.length) rfl Try.underlying22 (by kernel_rfl)) ?_
    refine lp (v := .bool (decide (200 < cs.length))) rfl rfl (run_bin rfl (vx := (.int .i64 ((cs.length : Nat) : Int))) (vy := (.int .i64 ((200 : Nat) : Int))) (by kernel_rfl) (by kernel_rfl) fun w => bn_gtr rfl w) ?_
    refine lm (v := .bool (decide (200 < cs.length))) rfl rfl ?_
    refine wpL_done (fun W2 hW2 => ?_)
    refine (show Code.wp _ _ _ _ _ from ?_)
    cases hd2 : (decide (200 < cs.length)) with
    | false =>
      have h2 : ¬ (200 < cs.length) := of_decide_eq_false hd2
      clear hd2
      refine wp_cond_false rfl ?_
      refine wp_skip ?_
      refine (show Code.wp _ _ _ _ _ from ?_)
      refine wp_seq ?_
      refine wp_region_L (W0 := w) [] (hW2) ?_
      refine wpL_new (fun g => .map (some g)) (obi := .map #[] 0) rfl rfl (fun _ => by kernel_rfl) (fun _ => by simp only [List.setIfInBounds_toArray, List.set_cons_succ, List.set_cons_zero] <;> rfl) fun g1 Bg1 Fg1 => ?_
      refine lm (v := .map (some g1)) rfl rfl ?_
      refine wpL_done (fun W3 hW3 => ?_)
      refine (show Code.wp _ _ _ _ _ from ?_)
      refine wp_seq ?_
      refine wp_seq ?_
      refine wp_region_L (W0 := w) [(g1, .map #[] 0)] (hW3) ?_
      refine lm (v := .slice pc cs.length cc) rfl rfl ?_
      refine lp (v := .int .i64 ((cs.length : Nat) : Int)) rfl rfl (run_lenL (p := pc) (cap := cc) (n := cs.length) rfl Try.underlying22 (by kernel_rfl)) ?_
      refine lm (v := .int .i64 0) rfl rfl ?_
      refine wpL_done (fun W4 hW4 => ?_)
      refine (show Code.wp _ _ _ _ _ from ?_)
      refine wp_block ?_
      go_loopw [18] (fun u18 wr => ∃ (k : Nat) (es : Array MapEntry) (cl : Nat), (k ≤ cs.length) ∧ (colsF [] cs = colsF ((cs.take k).map placeX) (cs.drop k)) ∧ (SetM kv3 es ((cs.take k).map placeX)) ∧ u18 = .int .i64 ((k : Nat) : Int) ∧ KS w [(g1, .map es cl)] wr) (fun u18 _ => cs.length - (intOf u18).toNat)
      case atStart => exact ⟨0, #[], 0, (Nat.zero_le _), rfl, SetM.nil, rfl, (hW4.sub (fun p hp => by first | exact hp | (simp only [List.mem_cons, List.mem_append, List.nil_append, List.not_mem_nil, or_assoc, or_false, false_or] at hp ⊢ <;> grind)))⟩
      case round =>
        obtain ⟨k, es, cl, hk, hR, hS, rfl, hL5⟩ := hrel
        refine wp_seq ?_
        refine wp_region_L (W0 := w) [(g1, .map es cl)] (hL5) ?_
        refine lp (v := .bool (decide (k < cs.length))) rfl rfl (run_bin rfl (vx := (.int .i64 ((k : Nat) : Int))) (vy := (.int .i64 ((cs.length : Nat) : Int))) (by kernel_rfl) (by kernel_rfl) fun w => bn_lss rfl w) ?_
        refine wpL_done (fun W6 hW6 => ?_)
        refine (show Code.wp _ _ _ _ _ from ?_)
        refine wp_seq ?_
        cases hd3 : (decide (k < cs.length)) with
        | false =>
          have h3 : ¬ (k < cs.length) := of_decide_eq_false hd3
          clear hd3
          refine wp_cond_false rfl ?_
          refine wp_exit ?_
          refine (show Code.wp _ _ _ _ _ from ?_)
          refine wp_seq ?_
          refine wp_region_L (W0 := w) [(g1, .map es cl)] (hW6) ?_
          refine lm (v := .bool true) rfl rfl ?_
          refine wpL_done (fun W7 hW7 => ?_)
          refine (show Code.wp _ _ _ _ _ from ?_)
          refine wp_ret ?_
          try simp only [inBlock_ret, then_ret]
          refine bodyPost_ret (v := .bool true) ?_ rfl ?_
          · kernel_rfl
          · exact ⟨(bool_is (by unfold colsX; rw [decide_eq_false h1, decide_eq_false h2, hR, cols_end h3]; rfl)), hW7.1⟩
        | true =>
          have h3 : k < cs.length := of_decide_eq_true hd3
          clear hd3
          refine wp_cond_true rfl ?_
          refine wp_skip ?_
          refine (show Code.wp _ _ _ _ _ from ?_)
          refine wp_seq ?_
          refine wp_block ?_
          refine wp_seq ?_
          refine wp_region_L (W0 := w) [(g1, .map es cl)] (hW6) ?_
          obtain ⟨y2, g2_, f2_, hy2, hp2, hc2⟩ := RL.at (RL.base HC.out) colC_len (by decide) (hW6.sub (fun _ h => by cases h)) (k := k) (by omega)
          refine lp (v := .pointer (some ⟨g2_, f2_ + k * 12, none⟩)) rfl rfl (run_idxQ (p := pc) (cap := cc) (n := cs.length) (j := .i64) (k := k) (sz := 12) rfl Try.underlying22 (by kernel_rfl) (by kernel_rfl) hp2 (by kernel_rfl) (by omega)) ?_
          refine lv (v := .agg (colC y2).toArray) rfl rfl (yb_rs (off := f2_ + k * 12) (cs := colC y2) rfl (by kernel_rfl) (fun W hW => hc2 W (hW.sub (fun _ h => by cases h))) Try.underlying49 rfl (by kernel_rfl)) ?_
          refine wpL_new (fun g => .pointer (some ⟨g, 0, none⟩)) (obi := .cells #[.int .i64 0, .int .i64 0, .bool false, .int .i64 0, .int .i64 0, .int .i64 0, .int .i64 0, .int .i64 0, .slice none 0 0, .int .i64 0, .int .i64 0, .int .i64 0] 49 (0, 0)) rfl rfl (fun _ => by kernel_rfl) (fun _ => by simp only [List.setIfInBounds_toArray, List.set_cons_succ, List.set_cons_zero] <;> rfl) fun g3 Bg3 Fg3 => ?_
          obtain dj4_0 : g1 ≠ g3 := by simpa only [dj_app_l, dj_app_r, dj_cons_l, dj_cons_r, dj_nil_l, dj_nil_r, dk_app, dk_cons, dk_nil, and_true, true_and, and_assoc] using (show Dk g3 [(g1, .map es cl)] from Fg3)
          refine wpL_s [(g3, .cells (colC y2).toArray 49 (0, 0)), (g1, .map es cl)] rfl rfl (st_row (off := 0) (v := .agg (colC y2).toArray) rfl (by kernel_rfl) (by kernel_rfl) (.head _) Bg3 (by kernel_rfl) (by first | (simp [Value.cells]; done) | exact Nat.le_of_ble_eq_true rfl) (fun v hv => colC_one y2 v hv) (by kernel_rfl) (List.forall_mem_cons.2 ⟨.inl rfl, (List.forall_mem_cons.2 ⟨.inr ⟨(.tail _ (.head _)), (by first | assumption | exact Ne.symm (by assumption))⟩, (List.forall_mem_nil _)⟩)⟩)) ?_
          refine wpL_done (fun W8 hW8 => ?_)
          refine (show Code.wp _ _ _ _ _ from ?_)
          refine wp_seq ?_
          refine wp_region_L (W0 := w) [(g3, .cells (colC y2).toArray 49 (0, 0)), (g1, .map es cl)] (hW8) ?_
          refine lv (v := .agg (colC y2).toArray) rfl rfl (yb_load (n := 12) (off := 0) rfl (by kernel_rfl) (.head _) Try.underlying49 rfl (by kernel_rfl) (by first | (simp [Value.cells]; done) | exact Nat.le_of_ble_eq_true rfl) (by kernel_rfl)) ?_
          refine lv (v := .agg #[.int .i64 ((placeX y2).1), .int .i64 ((placeX y2).2.1), .int .i64 ((placeX y2).2.2)]) rfl rfl (yb_call (f := 63) (args := #[.agg (colC y2).toArray]) (fun _ => by kernel_rfl) fun W hW => placeOf_any y2 W) ?_
          refine wpL_new (fun g => .pointer (some ⟨g, 0, none⟩)) (obi := .cells #[.int .i64 0, .int .i64 0, .int .i64 0] 92 (0, 0)) rfl rfl (fun _ => by kernel_rfl) (fun _ => by simp only [List.setIfInBounds_toArray, List.set_cons_succ, List.set_cons_zero] <;> rfl) fun g5 Bg5 Fg5 => ?_
          obtain ⟨dj6_0, dj6_1⟩ : g3 ≠ g5 ∧ g1 ≠ g5 := by simpa only [dj_app_l, dj_app_r, dj_cons_l, dj_cons_r, dj_nil_l, dj_nil_r, dk_app, dk_cons, dk_nil, and_true, true_and, and_assoc] using (show Dk g5 [(g3, .cells (colC y2).toArray 49 (0, 0)), (g1, .map es cl)] from Fg5)
          refine wpL_s [(g5, .cells #[.int .i64 ((placeX y2).1), .int .i64 ((placeX y2).2.1), .int .i64 ((placeX y2).2.2)] 92 (0, 0)), (g3, .cells (colC y2).toArray 49 (0, 0)), (g1, .map es cl)] rfl rfl (st_row (off := 0) (v := .agg #[.int .i64 ((placeX y2).1), .int .i64 ((placeX y2).2.1), .int .i64 ((placeX y2).2.2)]) rfl (by kernel_rfl) (by kernel_rfl) (.head _) Bg5 (by kernel_rfl) (by first | (simp [Value.cells]; done) | exact Nat.le_of_ble_eq_true rfl) (by intro v hv; simp [Value.cells] at hv; first | (subst hv; rfl) | (rcases hv with rfl | rfl | rfl <;> rfl)) (by kernel_rfl) (List.forall_mem_cons.2 ⟨.inl rfl, (List.forall_mem_cons.2 ⟨.inr ⟨(.tail _ (.head _)), (by first | assumption | exact Ne.symm (by assumption))⟩, (List.forall_mem_cons.2 ⟨.inr ⟨(.tail _ (.tail _ (.head _))), (by first | assumption | exact Ne.symm (by assumption))⟩, (List.forall_mem_nil _)⟩)⟩)⟩)) ?_
          refine wpL_done (fun W9 hW9 => ?_)
          refine (show Code.wp _ _ _ _ _ from ?_)
          refine wp_seq ?_
          refine wp_seq ?_
          refine wp_region_L (W0 := w) [(g5, .cells #[.int .i64 ((placeX y2).1), .int .i64 ((placeX y2).2.1), .int .i64 ((placeX y2).2.2)] 92 (0, 0)), (g3, .cells (colC y2).toArray 49 (0, 0)), (g1, .map es cl)] (hW9) ?_
          refine lv (v := .agg (colC y2).toArray) rfl rfl (yb_load (n := 12) (off := 0) rfl (by kernel_rfl) (.tail _ (.head _)) Try.underlying49 rfl (by kernel_rfl) (by first | (simp [Value.cells]; done) | exact Nat.le_of_ble_eq_true rfl) (by kernel_rfl)) ?_
          refine lv (v := .bool (colX y2)) rfl rfl (yb_call (f := 64) (args := #[.agg (colC y2).toArray]) (fun _ => by kernel_rfl) fun W hW => columnRight_any y2 (lq y2 (List.mem_of_getElem? hy2)) W ((RL.base (HQ.out y2 (List.mem_of_getElem? hy2))) _ (hW.sub (fun _ h => by cases h)))) ?_
          refine lp (v := .bool (!(colX y2))) rfl rfl (run_un rfl (by kernel_rfl) fun w => un_not w) ?_
          refine lm (v := .bool (!(colX y2))) rfl rfl ?_
          cases h4 : (colX y2) with
          | false =>
            refine ln rfl ?_
            refine ln rfl ?_
            refine ln rfl ?_
            refine lm (v := .bool true) rfl rfl ?_
            refine wpL_done (fun W10 hW10 => ?_)
            refine (show Code.wp _ _ _ _ _ from ?_)
            refine wp_cond_true rfl ?_
            refine wp_seq ?_
            refine wp_region_L (W0 := w) [(g5, .cells #[.int .i64 ((placeX y2).1), .int .i64 ((placeX y2).2.1), .int .i64 ((placeX y2).2.2)] 92 (0, 0)), (g3, .cells (colC y2).toArray 49 (0, 0)), (g1, .map es cl)] (hW10) ?_
            refine lm (v := .bool false) rfl rfl ?_
            refine wpL_done (fun W11 hW11 => ?_)
            refine (show Code.wp _ _ _ _ _ from ?_)
            refine wp_ret ?_
            try simp only [inBlock_ret, then_ret]
            refine bodyPost_ret (v := .bool false) ?_ rfl ?_
            · kernel_rfl
            · exact ⟨(bool_is (by unfold colsX; rw [decide_eq_false h1, decide_eq_false h2, hR, cols_step hy2, h4]; rfl)), hW11.1⟩
          | true =>
            refine lm (v := .map (some g1)) rfl rfl ?_
            refine lv (v := .agg #[.int .i64 ((placeX y2).1), .int .i64 ((placeX y2).2.1), .int .i64 ((placeX y2).2.2)]) rfl rfl (yb_load (n := 3) (off := 0) rfl (by kernel_rfl) (.head _) Try.underlying92 rfl (by kernel_rfl) (by first | (simp [Value.cells]; done) | exact Nat.le_of_ble_eq_true rfl) (by kernel_rfl)) ?_
            refine lv (v := .bool (decide ((placeX y2) ∈ ((cs.take k).map placeX)))) rfl rfl (yb_lookset key3 (k := (placeX y2)) (L := ((cs.take k).map placeX)) rfl (by kernel_rfl) (by kernel_rfl) (.tail _ (.tail _ (.head _))) Try.underlying91 (fun _ => by kernel_rfl) hS decide_eq_true_iff) ?_
            refine lm (v := .bool (decide ((placeX y2) ∈ ((cs.take k).map placeX)))) rfl rfl ?_
            refine wpL_done (fun W12 hW12 => ?_)
            refine (show Code.wp _ _ _ _ _ from ?_)
            cases hd5 : (decide ((placeX y2) ∈ ((cs.take k).map placeX))) with
            | false =>
              have h5 : ¬ ((placeX y2) ∈ ((cs.take k).map placeX)) := of_decide_eq_false hd5
              clear hd5
              refine wp_cond_false rfl ?_
              refine wp_skip ?_
              refine (show Code.wp _ _ _ _ _ from ?_)
              refine wp_region_L (W0 := w) [(g5, .cells #[.int .i64 ((placeX y2).1), .int .i64 ((placeX y2).2.1), .int .i64 ((placeX y2).2.2)] 92 (0, 0)), (g3, .cells (colC y2).toArray 49 (0, 0)), (g1, .map es cl)] (hW12) ?_
              refine lm (v := .map (some g1)) rfl rfl ?_
              refine lv (v := .agg #[.int .i64 ((placeX y2).1), .int .i64 ((placeX y2).2.1), .int .i64 ((placeX y2).2.2)]) rfl rfl (yb_load (n := 3) (off := 0) rfl (by kernel_rfl) (.head _) Try.underlying92 rfl (by kernel_rfl) (by first | (simp [Value.cells]; done) | exact Nat.le_of_ble_eq_true rfl) (by kernel_rfl)) ?_
              refine wpL_s [(g5, .cells #[.int .i64 ((placeX y2).1), .int .i64 ((placeX y2).2.1), .int .i64 ((placeX y2).2.2)] 92 (0, 0)), (g3, .cells (colC y2).toArray 49 (0, 0)), (g1, .map (addM kv3 es cl (placeX y2)) (cl + 1))] rfl rfl (st_addm key3 (k := (placeX y2)) (L := ((cs.take k).map placeX)) rfl (by kernel_rfl) (by kernel_rfl) (by kernel_rfl) (.tail _ (.tail _ (.head _))) Bg1 Try.underlying91 hS h5 (List.forall_mem_cons.2 ⟨.inr ⟨(.head _), (by first | assumption | exact Ne.symm (by assumption))⟩, (List.forall_mem_cons.2 ⟨.inr ⟨(.tail _ (.head _)), (by first | assumption | exact Ne.symm (by assumption))⟩, (List.forall_mem_cons.2 ⟨.inl rfl, (List.forall_mem_nil _)⟩)⟩)⟩)) ?_
              refine wpL_done (fun W13 hW13 => ?_)
              refine (show Code.wp _ _ _ _ _ from ?_)
              refine wp_region_L (W0 := w) [(g5, .cells #[.int .i64 ((placeX y2).1), .int .i64 ((placeX y2).2.1), .int .i64 ((placeX y2).2.2)] 92 (0, 0)), (g3, .cells (colC y2).toArray 49 (0, 0)), (g1, .map (addM kv3 es cl (placeX y2)) (cl + 1))] (hW13) ?_
              refine lp (v := .int .i64 (((k + 1) : Nat) : Int)) rfl rfl (run_bin rfl (vx := (.int .i64 ((k : Nat) : Int))) (vy := (.int .i64 ((1 : Nat) : Int))) (by kernel_rfl) (by kernel_rfl) fun w => bn_add (z := (k + 1)) rfl (wr_i64 (by omega)) w) ?_
              refine lm (v := .int .i64 (((k + 1) : Nat) : Int)) rfl rfl ?_
              refine wpL_done (fun W14 hW14 => ?_)
              go_roundw
              case rel =>
                repeat apply Exists.intro
                exact ⟨⟨k + 1, (addM kv3 es cl (placeX y2)), (cl + 1), (by omega), (by rw [hR, cols_step hy2, h4, decide_eq_false h5, map_snoc placeX hy2]; rfl), (by rw [map_snoc placeX hy2]; exact (SetM.add hS cl (placeX y2))), rfl, (hW14.sub (fun p hp => by first | exact hp | (simp only [List.mem_cons, List.mem_append, List.nil_append, List.not_mem_nil, or_assoc, or_false, false_or] at hp ⊢ <;> grind)))⟩, rfl⟩
              case measure => (show cs.length - (intOf (.int .i64 (((k + 1) : Nat) : Int))).toNat < cs.length - (intOf (.int .i64 ((k : Nat) : Int))).toNat); simp only [intOf]; omega
            | true =>
              have h5 : (placeX y2) ∈ ((cs.take k).map placeX) := of_decide_eq_true hd5
              clear hd5
              refine wp_cond_true rfl ?_
              refine wp_seq ?_
              refine wp_region_L (W0 := w) [(g5, .cells #[.int .i64 ((placeX y2).1), .int .i64 ((placeX y2).2.1), .int .i64 ((placeX y2).2.2)] 92 (0, 0)), (g3, .cells (colC y2).toArray 49 (0, 0)), (g1, .map es cl)] (hW12) ?_
              refine lm (v := .bool false) rfl rfl ?_
              refine wpL_done (fun W15 hW15 => ?_)
              refine (show Code.wp _ _ _ _ _ from ?_)
              refine wp_ret ?_
              try simp only [inBlock_ret, then_ret]
              refine bodyPost_ret (v := .bool false) ?_ rfl ?_
              · kernel_rfl
              · exact ⟨(bool_is (by unfold colsX; rw [decide_eq_false h1, decide_eq_false h2, hR, cols_step hy2, h4, decide_eq_true h5]; rfl)), hW15.1⟩
    | true =>
      have h2 : 200 < cs.length := of_decide_eq_true hd2
      clear hd2
      refine wp_cond_true rfl ?_
      refine wp_seq ?_
      refine wp_region_L (W0 := w) [] (hW2) ?_
      refine lm (v := .bool false) rfl rfl ?_
      refine wpL_done (fun W16 hW16 => ?_)
      refine (show Code.wp _ _ _ _ _ from ?_)
      refine wp_ret ?_
      try simp only [inBlock_ret, then_ret]
      refine bodyPost_ret (v := .bool false) ?_ rfl ?_
      · kernel_rfl
      · exact ⟨(bool_is (by unfold colsX; rw [decide_eq_false h1, decide_eq_true h2]; rfl)), hW16.1⟩
  | true =>
    have h1 : cs.length = 0 := of_decide_eq_true hd1
    clear hd1
    refine ln rfl ?_
    refine ln rfl ?_
    refine ln rfl ?_
    refine lm (v := .bool true) rfl rfl ?_
    refine wpL_done (fun W17 hW17 => ?_)
    refine (show Code.wp _ _ _ _ _ from ?_)
    refine wp_cond_true rfl ?_
    refine wp_seq ?_
    refine wp_region_L (W0 := w) [] (hW17) ?_
    refine lm (v := .bool false) rfl rfl ?_
    refine wpL_done (fun W18 hW18 => ?_)
    refine (show Code.wp _ _ _ _ _ from ?_)
    refine wp_ret ?_
    try simp only [inBlock_ret, then_ret]
    refine bodyPost_ret (v := .bool false) ?_ rfl ?_
    · kernel_rfl
    · exact ⟨(bool_is (by unfold colsX; rw [decide_eq_true h1]; rfl)), hW18.1⟩
end Go.Proofs.Ythpooalhibedpaa
namespace Go.Proofs.Ythpooalhibedpaa
open Go Go.RowKit Tw
set_option maxRecDepth 100000 in
set_option maxHeartbeats 4000000 in
theorem coversRight_any (os : List Cov) (po : Option Addr) (co : Nat) (w : World) (ho : SLV w po (os.flatMap covC)) (hr : RwR w os) (lr : ∀ o ∈ os, o.rows.length ≤ 4000000000) : Calls Try.prog 36 #[.slice po os.length co] w fun e w' => e = .returned (.bool (ovsX os)) ∧ Below w.heap.size w w' := by
  have HO := Lib.hid ho
  clear ho
  have HR := Lib.hid hr
  clear hr
  go_enter Try.func36, Try.ntmps36
  refine wp_seq ?_
  refine wp_region_L (W0 := w) [] (KS.start w) ?_
  refine lm (v := .bool false) rfl rfl ?_
  refine wpL_done (fun W1 hW1 => ?_)
  refine (show Code.wp _ _ _ _ _ from ?_)
  refine wp_seq ?_
  refine wp_seq ?_
  refine wp_region_L (W0 := w) [] (hW1) ?_
  refine lm (v := .slice po os.length co) rfl rfl ?_
  refine lp (v := .int .i64 ((os.length : Nat) : Int)) rfl rfl (run_lenL (p := po) (cap := co) (n := os.length) rfl Try.underlying23 (by kernel_rfl)) ?_
  refine lp (v := .bool (decide (40 < os.length))) rfl rfl (run_bin rfl (vx := (.int .i64 ((os.length : Nat) : Int))) (vy := (.int .i64 ((40 : Nat) : Int))) (by kernel_rfl) (by kernel_rfl) fun w => bn_gtr rfl w) ?_
  refine wpL_done (fun W2 hW2 => ?_)
  refine (show Code.wp _ _ _ _ _ from ?_)
  cases hd1 : (decide (40 < os.length)) with
  | false =>
    have h1 : ¬ (40 < os.length) := of_decide_eq_false hd1
    clear hd1
    refine wp_cond_false rfl ?_
    refine wp_skip ?_
    refine (show Code.wp _ _ _ _ _ from ?_)
    refine wp_seq ?_
    refine wp_region_L (W0 := w) [] (hW2) ?_
    refine wpL_new (fun g => .map (some g)) (obi := .map #[] 0) rfl rfl (fun _ => by kernel_rfl) (fun _ => by simp only [List.setIfInBounds_toArray, List.set_cons_succ, List.set_cons_zero] <;> rfl) fun g1 Bg1 Fg1 => ?_
    refine lm (v := .map (some g1)) rfl rfl ?_
    refine wpL_done (fun W3 hW3 => ?_)
    refine (show Code.wp _ _ _ _ _ from ?_)
    refine wp_seq ?_
    refine wp_seq ?_
    refine wp_region_L (W0 := w) [(g1, .map #[] 0)] (hW3) ?_
    refine lm (v := .slice po os.length co) rfl rfl ?_
    refine lp (v := .int .i64 ((os.length : Nat) : Int)) rfl rfl (run_lenL (p := po) (cap := co) (n := os.length) rfl Try.underlying23 (by kernel_rfl)) ?_
    refine lm (v := .int .i64 0) rfl rfl ?_
    refine wpL_done (fun W4 hW4 => ?_)
    refine (show Code.wp _ _ _ _ _ from ?_)
    refine wp_block ?_
    go_loopw [15] (fun u15 wr => ∃ (k : Nat) (es : Array MapEntry) (cl : Nat) (L : List I2), (k ≤ os.length) ∧ (ovsF [] os = ovsF L (os.drop k)) ∧ (SetM kv2 es L) ∧ u15 = .int .i64 ((k : Nat) : Int) ∧ KS w [(g1, .map es cl)] wr) (fun u15 _ => os.length - (intOf u15).toNat)
    case atStart => exact ⟨0, #[], 0, [], (Nat.zero_le _), rfl, SetM.nil, rfl, (hW4.sub (fun p hp => by first | exact hp | (simp only [List.mem_cons, List.mem_append, List.nil_append, List.not_mem_nil, or_assoc, or_false, false_or] at hp ⊢ <;> grind)))⟩
    case round =>
      obtain ⟨k, es, cl, L, hk, hR, hS, rfl, hL5⟩ := hrel
      refine wp_seq ?_
      refine wp_region_L (W0 := w) [(g1, .map es cl)] (hL5) ?_
      refine lp (v := .bool (decide (k < os.length))) rfl rfl (run_bin rfl (vx := (.int .i64 ((k : Nat) : Int))) (vy := (.int .i64 ((os.length : Nat) : Int))) (by kernel_rfl) (by kernel_rfl) fun w => bn_lss rfl w) ?_
      refine wpL_done (fun W6 hW6 => ?_)
      refine (show Code.wp _ _ _ _ _ from ?_)
      refine wp_seq ?_
      cases hd2 : (decide (k < os.length)) with
      | false =>
        have h2 : ¬ (k < os.length) := of_decide_eq_false hd2
        clear hd2
        refine wp_cond_false rfl ?_
        refine wp_exit ?_
        refine (show Code.wp _ _ _ _ _ from ?_)
        refine wp_seq ?_
        refine wp_region_L (W0 := w) [(g1, .map es cl)] (hW6) ?_
        refine lm (v := .bool true) rfl rfl ?_
        refine wpL_done (fun W7 hW7 => ?_)
        refine (show Code.wp _ _ _ _ _ from ?_)
        refine wp_ret ?_
        try simp only [inBlock_ret, then_ret]
        refine bodyPost_ret (v := .bool true) ?_ rfl ?_
        · kernel_rfl
        · exact ⟨(bool_is (by unfold ovsX; rw [decide_eq_false h1, hR, ovs_end h2]; rfl)), hW7.1⟩
      | true =>
        have h2 : k < os.length := of_decide_eq_true hd2
        clear hd2
        refine wp_cond_true rfl ?_
        refine wp_skip ?_
        refine (show Code.wp _ _ _ _ _ from ?_)
        refine wp_seq ?_
        refine wp_block ?_
        refine wp_seq ?_
        refine wp_region_L (W0 := w) [(g1, .map es cl)] (hW6) ?_
        obtain ⟨y2, g2_, f2_, hy2, hp2, hc2⟩ := RL.at (RL.base HO.out) covC_len (by decide) (hW6.sub (fun _ h => by cases h)) (k := k) (by omega)
        refine lp (v := .pointer (some ⟨g2_, f2_ + k * 2, none⟩)) rfl rfl (run_idxQ (p := po) (cap := co) (n := os.length) (j := .i64) (k := k) (sz := 2) rfl Try.underlying23 (by kernel_rfl) (by kernel_rfl) hp2 (by kernel_rfl) (by omega)) ?_
        refine lv (v := .agg (covC y2).toArray) rfl rfl (yb_rs (off := f2_ + k * 2) (cs := covC y2) rfl (by kernel_rfl) (fun W hW => hc2 W (hW.sub (fun _ h => by cases h))) Try.underlying51 rfl (by kernel_rfl)) ?_
        refine wpL_new (fun g => .pointer (some ⟨g, 0, none⟩)) (obi := .cells #[.int .i64 0, .slice none 0 0] 51 (0, 0)) rfl rfl (fun _ => by kernel_rfl) (fun _ => by simp only [List.setIfInBounds_toArray, List.set_cons_succ, List.set_cons_zero] <;> rfl) fun g3 Bg3 Fg3 => ?_
        obtain dj4_0 : g1 ≠ g3 := by simpa only [dj_app_l, dj_app_r, dj_cons_l, dj_cons_r, dj_nil_l, dj_nil_r, dk_app, dk_cons, dk_nil, and_true, true_and, and_assoc] using (show Dk g3 [(g1, .map es cl)] from Fg3)
        refine wpL_s [(g3, .cells (covC y2).toArray 51 (0, 0)), (g1, .map es cl)] rfl rfl (st_row (off := 0) (v := .agg (covC y2).toArray) rfl (by kernel_rfl) (by kernel_rfl) (.head _) Bg3 (by kernel_rfl) (by first | (simp [Value.cells]; done) | exact Nat.le_of_ble_eq_true rfl) (fun v hv => covC_one y2 v hv) (by kernel_rfl) (List.forall_mem_cons.2 ⟨.inl rfl, (List.forall_mem_cons.2 ⟨.inr ⟨(.tail _ (.head _)), (by first | assumption | exact Ne.symm (by assumption))⟩, (List.forall_mem_nil _)⟩)⟩)) ?_
        refine wpL_done (fun W8 hW8 => ?_)
        refine (show Code.wp _ _ _ _ _ from ?_)
        refine wp_seq ?_
        refine wp_seq ?_
        refine wp_region_L (W0 := w) [(g3, .cells (covC y2).toArray 51 (0, 0)), (g1, .map es cl)] (hW8) ?_
        refine lv (v := .agg (covC y2).toArray) rfl rfl (yb_load (n := 2) (off := 0) rfl (by kernel_rfl) (.head _) Try.underlying51 rfl (by kernel_rfl) (by first | (simp [Value.cells]; done) | exact Nat.le_of_ble_eq_true rfl) (by kernel_rfl)) ?_
        refine lv (v := .bool (ovX y2)) rfl rfl (yb_call (f := 65) (args := #[.agg (covC y2).toArray]) (fun _ => by kernel_rfl) fun W hW => coverRight_any y2 (lr y2 (List.mem_of_getElem? hy2)) W ((RL.base (HR.out y2 (List.mem_of_getElem? hy2))) _ (hW.sub (fun _ h => by cases h)))) ?_
        refine lp (v := .bool (!(ovX y2))) rfl rfl (run_un rfl (by kernel_rfl) fun w => un_not w) ?_
        refine wpL_done (fun W9 hW9 => ?_)
        refine (show Code.wp _ _ _ _ _ from ?_)
        cases h3 : (ovX y2) with
        | false =>
          refine wp_cond_true rfl ?_
          refine wp_seq ?_
          refine wp_region_L (W0 := w) [(g3, .cells (covC y2).toArray 51 (0, 0)), (g1, .map es cl)] (hW9) ?_
          refine lm (v := .bool false) rfl rfl ?_
          refine wpL_done (fun W10 hW10 => ?_)
          refine (show Code.wp _ _ _ _ _ from ?_)
          refine wp_ret ?_
          try simp only [inBlock_ret, then_ret]
          refine bodyPost_ret (v := .bool false) ?_ rfl ?_
          · kernel_rfl
          · exact ⟨(bool_is (by unfold ovsX; rw [decide_eq_false h1, hR, ovs_step hy2, h3]; rfl)), hW10.1⟩
        | true =>
          refine wp_cond_false rfl ?_
          refine wp_skip ?_
          refine (show Code.wp _ _ _ _ _ from ?_)
          refine wp_seq ?_
          refine wp_region_L (W0 := w) [(g3, .cells (covC y2).toArray 51 (0, 0)), (g1, .map es cl)] (hW9) ?_
          refine lm (v := .pointer (some ⟨g3, 1, none⟩)) rfl rfl ?_
          refine lv (v := .slice y2.rp y2.rows.length y2.rc) rfl rfl (yb_cell (off := 1) rfl (by kernel_rfl) (.head _) Try.underlying39 rfl (by kernel_rfl)) ?_
          refine lp (v := .int .i64 ((y2.rows.length : Nat) : Int)) rfl rfl (run_lenL (p := y2.rp) (cap := y2.rc) (n := y2.rows.length) rfl Try.underlying39 (by kernel_rfl)) ?_
          refine lm (v := .int .i64 0) rfl rfl ?_
          refine wpL_done (fun W11 hW11 => ?_)
          refine (show Code.wp _ _ _ _ _ from ?_)
          refine wp_block ?_
          have lz2 := lr y2 (List.mem_of_getElem? hy2)
          go_loopw [25] (fun u25 wr => ∃ (m : Nat) (es2 : Array MapEntry) (cl2 : Nat), (m ≤ y2.rows.length) ∧ (freshF y2.bay L y2.rows = freshF y2.bay (L ++ (y2.rows.take m).map (fun r => (y2.bay, r))) (y2.rows.drop m)) ∧ (SetM kv2 es2 (L ++ (y2.rows.take m).map (fun r => (y2.bay, r)))) ∧ u25 = .int .i64 ((m : Nat) : Int) ∧ KS w [(g3, .cells (covC y2).toArray 51 (0, 0)), (g1, .map es2 cl2)] wr) (fun u25 _ => y2.rows.length - (intOf u25).toNat)
          case atStart => exact ⟨0, es, cl, (Nat.zero_le _), (by rw [List.take_zero, List.map_nil, List.append_nil]; rfl), (by rw [List.take_zero, List.map_nil, List.append_nil]; exact hS), rfl, (hW11.sub (fun p hp => by first | exact hp | (simp only [List.mem_cons, List.mem_append, List.nil_append, List.not_mem_nil, or_assoc, or_false, false_or] at hp ⊢ <;> grind)))⟩
          case round =>
            obtain ⟨m, es2, cl2, hm, hI, hT, rfl, hL12⟩ := hrel
            refine wp_seq ?_
            refine wp_region_L (W0 := w) [(g3, .cells (covC y2).toArray 51 (0, 0)), (g1, .map es2 cl2)] (hL12) ?_
            refine lp (v := .bool (decide (m < y2.rows.length))) rfl rfl (run_bin rfl (vx := (.int .i64 ((m : Nat) : Int))) (vy := (.int .i64 ((y2.rows.length : Nat) : Int))) (by kernel_rfl) (by kernel_rfl) fun w => bn_lss rfl w) ?_
            refine wpL_done (fun W13 hW13 => ?_)
            refine (show Code.wp _ _ _ _ _ from ?_)
            refine wp_seq ?_
            cases hd4 : (decide (m < y2.rows.length)) with
            | false =>
              have h4 : ¬ (m < y2.rows.length) := of_decide_eq_false hd4
              clear hd4
              refine wp_cond_false rfl ?_
              refine wp_exit ?_
              refine (show Code.wp _ _ _ _ _ from ?_)
              refine wp_region_L (W0 := w) [(g3, .cells (covC y2).toArray 51 (0, 0)), (g1, .map es2 cl2)] (hW13) ?_
              refine lp (v := .int .i64 (((k + 1) : Nat) : Int)) rfl rfl (run_bin rfl (vx := (.int .i64 ((k : Nat) : Int))) (vy := (.int .i64 ((1 : Nat) : Int))) (by kernel_rfl) (by kernel_rfl) fun w => bn_add (z := (k + 1)) rfl (wr_i64 (by omega)) w) ?_
              refine lm (v := .int .i64 (((k + 1) : Nat) : Int)) rfl rfl ?_
              refine wpL_done (fun W14 hW14 => ?_)
              go_roundw
              case rel =>
                repeat apply Exists.intro
                exact ⟨⟨k + 1, es2, cl2, (L ++ y2.rows.map (fun r => (y2.bay, r))), (by omega), (by rw [hR, ovs_step hy2, h3, hI, fresh_end h4]; rfl), (by rw [show y2.rows.take m = y2.rows from List.take_of_length_le (by omega)] at hT; exact hT), rfl, (hW14.sub (fun p hp => by first | exact hp | (simp only [List.mem_cons, List.mem_append, List.nil_append, List.not_mem_nil, or_assoc, or_false, false_or] at hp ⊢ <;> grind)))⟩, rfl⟩
              case measure => (show os.length - (intOf (.int .i64 (((k + 1) : Nat) : Int))).toNat < os.length - (intOf (.int .i64 ((k : Nat) : Int))).toNat); simp only [intOf]; omega
            | true =>
              have h4 : m < y2.rows.length := of_decide_eq_true hd4
              clear hd4
              refine wp_cond_true rfl ?_
              refine wp_skip ?_
              refine (show Code.wp _ _ _ _ _ from ?_)
              refine wp_seq ?_
              refine wp_block ?_
              refine wp_seq ?_
              refine wp_region_L (W0 := w) [(g3, .cells (covC y2).toArray 51 (0, 0)), (g1, .map es2 cl2)] (hW13) ?_
              obtain ⟨y5, g5_, f5_, hy5, hp5, hc5⟩ := RL.at (RL.base (HR.out y2 (List.mem_of_getElem? hy2))) inC_len (by decide) (hW13.sub (fun _ h => by cases h)) (k := m) (by omega)
              refine lp (v := .pointer (some ⟨g5_, f5_ + m * 1, none⟩)) rfl rfl (run_idxQ (p := y2.rp) (cap := y2.rc) (n := y2.rows.length) (j := .i64) (k := m) (sz := 1) rfl Try.underlying39 (by kernel_rfl) (by kernel_rfl) hp5 (by kernel_rfl) (by omega)) ?_
              refine lv (v := .int .i64 y5) rfl rfl (yb_rf (v := .int .i64 y5) rfl (by kernel_rfl) (fun W hW => hc5 W (hW.sub (fun _ h => by cases h)) 0 _ rfl) Try.underlying3 rfl) ?_
              refine lm (v := .int .i64 y5) rfl rfl ?_
              refine wpL_done (fun W15 hW15 => ?_)
              refine (show Code.wp _ _ _ _ _ from ?_)
              refine wp_seq ?_
              refine wp_region_L (W0 := w) [(g3, .cells (covC y2).toArray 51 (0, 0)), (g1, .map es2 cl2)] (hW15) ?_
              refine lm (v := .pointer (some ⟨g3, 0, none⟩)) rfl rfl ?_
              refine lv (v := .int .i64 y2.bay) rfl rfl (yb_cell (off := 0) rfl (by kernel_rfl) (.head _) Try.underlying3 rfl (by kernel_rfl)) ?_
              refine lm (v := .int .i64 y5) rfl rfl ?_
              refine lm (v := .agg #[.int .i64 y2.bay, .int .i64 y5]) rfl rfl ?_
              refine wpL_new (fun g => .pointer (some ⟨g, 0, none⟩)) (obi := .cells #[.int .i64 0, .int .i64 0] 95 (0, 0)) rfl rfl (fun _ => by kernel_rfl) (fun _ => by simp only [List.setIfInBounds_toArray, List.set_cons_succ, List.set_cons_zero] <;> rfl) fun g6 Bg6 Fg6 => ?_
              obtain ⟨dj7_0, dj7_1⟩ : g3 ≠ g6 ∧ g1 ≠ g6 := by simpa only [dj_app_l, dj_app_r, dj_cons_l, dj_cons_r, dj_nil_l, dj_nil_r, dk_app, dk_cons, dk_nil, and_true, true_and, and_assoc] using (show Dk g6 [(g3, .cells (covC y2).toArray 51 (0, 0)), (g1, .map es2 cl2)] from Fg6)
              refine wpL_s [(g6, .cells #[.int .i64 y2.bay, .int .i64 y5] 95 (0, 0)), (g3, .cells (covC y2).toArray 51 (0, 0)), (g1, .map es2 cl2)] rfl rfl (st_row (off := 0) (v := .agg #[.int .i64 y2.bay, .int .i64 y5]) rfl (by kernel_rfl) (by kernel_rfl) (.head _) Bg6 (by kernel_rfl) (by first | (simp [Value.cells]; done) | exact Nat.le_of_ble_eq_true rfl) (by intro v hv; simp [Value.cells] at hv; first | (subst hv; rfl) | (rcases hv with rfl | rfl <;> rfl)) (by kernel_rfl) (List.forall_mem_cons.2 ⟨.inl rfl, (List.forall_mem_cons.2 ⟨.inr ⟨(.tail _ (.head _)), (by first | assumption | exact Ne.symm (by assumption))⟩, (List.forall_mem_cons.2 ⟨.inr ⟨(.tail _ (.tail _ (.head _))), (by first | assumption | exact Ne.symm (by assumption))⟩, (List.forall_mem_nil _)⟩)⟩)⟩)) ?_
              refine wpL_done (fun W16 hW16 => ?_)
              refine (show Code.wp _ _ _ _ _ from ?_)
              refine wp_seq ?_
              refine wp_seq ?_
              refine wp_region_L (W0 := w) [(g6, .cells #[.int .i64 y2.bay, .int .i64 y5] 95 (0, 0)), (g3, .cells (covC y2).toArray 51 (0, 0)), (g1, .map es2 cl2)] (hW16) ?_
              refine lm (v := .map (some g1)) rfl rfl ?_
              refine lv (v := .agg #[.int .i64 y2.bay, .int .i64 y5]) rfl rfl (yb_load (n := 2) (off := 0) rfl (by kernel_rfl) (.head _) Try.underlying95 rfl (by kernel_rfl) (by first | (simp [Value.cells]; done) | exact Nat.le_of_ble_eq_true rfl) (by kernel_rfl)) ?_
              refine lv (v := .bool (decide ((y2.bay, y5) ∈ (L ++ (y2.rows.take m).map (fun r => (y2.bay, r)))))) rfl rfl (yb_lookset key2 (k := (y2.bay, y5)) (L := (L ++ (y2.rows.take m).map (fun r => (y2.bay, r)))) rfl (by kernel_rfl) (by kernel_rfl) (.tail _ (.tail _ (.head _))) Try.underlying94 (fun _ => by kernel_rfl) hT decide_eq_true_iff) ?_
              refine wpL_done (fun W17 hW17 => ?_)
              refine (show Code.wp _ _ _ _ _ from ?_)
              cases hd5 : (decide ((y2.bay, y5) ∈ (L ++ (y2.rows.take m).map (fun r => (y2.bay, r))))) with
              | false =>
                have h5 : ¬ ((y2.bay, y5) ∈ (L ++ (y2.rows.take m).map (fun r => (y2.bay, r)))) := of_decide_eq_false hd5
                clear hd5
                refine wp_cond_false rfl ?_
                refine wp_skip ?_
                refine (show Code.wp _ _ _ _ _ from ?_)
                refine wp_region_L (W0 := w) [(g6, .cells #[.int .i64 y2.bay, .int .i64 y5] 95 (0, 0)), (g3, .cells (covC y2).toArray 51 (0, 0)), (g1, .map es2 cl2)] (hW17) ?_
                refine lm (v := .map (some g1)) rfl rfl ?_
                refine lv (v := .agg #[.int .i64 y2.bay, .int .i64 y5]) rfl rfl (yb_load (n := 2) (off := 0) rfl (by kernel_rfl) (.head _) Try.underlying95 rfl (by kernel_rfl) (by first | (simp [Value.cells]; done) | exact Nat.le_of_ble_eq_true rfl) (by kernel_rfl)) ?_
                refine wpL_s [(g6, .cells #[.int .i64 y2.bay, .int .i64 y5] 95 (0, 0)), (g3, .cells (covC y2).toArray 51 (0, 0)), (g1, .map (addM kv2 es2 cl2 (y2.bay, y5)) (cl2 + 1))] rfl rfl (st_addm key2 (k := (y2.bay, y5)) (L := (L ++ (y2.rows.take m).map (fun r => (y2.bay, r)))) rfl (by kernel_rfl) (by kernel_rfl) (by kernel_rfl) (.tail _ (.tail _ (.head _))) Bg1 Try.underlying94 hT h5 (List.forall_mem_cons.2 ⟨.inr ⟨(.head _), (by first | assumption | exact Ne.symm (by assumption))⟩, (List.forall_mem_cons.2 ⟨.inr ⟨(.tail _ (.head _)), (by first | assumption | exact Ne.symm (by assumption))⟩, (List.forall_mem_cons.2 ⟨.inl rfl, (List.forall_mem_nil _)⟩)⟩)⟩)) ?_
                refine wpL_done (fun W18 hW18 => ?_)
                refine (show Code.wp _ _ _ _ _ from ?_)
                refine wp_region_L (W0 := w) [(g6, .cells #[.int .i64 y2.bay, .int .i64 y5] 95 (0, 0)), (g3, .cells (covC y2).toArray 51 (0, 0)), (g1, .map (addM kv2 es2 cl2 (y2.bay, y5)) (cl2 + 1))] (hW18) ?_
                refine lp (v := .int .i64 (((m + 1) : Nat) : Int)) rfl rfl (run_bin rfl (vx := (.int .i64 ((m : Nat) : Int))) (vy := (.int .i64 ((1 : Nat) : Int))) (by kernel_rfl) (by kernel_rfl) fun w => bn_add (z := (m + 1)) rfl (wr_i64 (by omega)) w) ?_
                refine lm (v := .int .i64 (((m + 1) : Nat) : Int)) rfl rfl ?_
                refine wpL_done (fun W19 hW19 => ?_)
                go_roundw
                case rel =>
                  repeat apply Exists.intro
                  exact ⟨⟨m + 1, (addM kv2 es2 cl2 (y2.bay, y5)), (cl2 + 1), (by omega), (by rw [hI, fresh_step hy5, decide_eq_false h5, map_snoc (fun r => (y2.bay, r)) hy5, List.append_assoc]; rfl), (by rw [map_snoc (fun r => (y2.bay, r)) hy5, ← List.append_assoc]; exact (SetM.add hT cl2 (y2.bay, y5))), rfl, (hW19.sub (fun p hp => by first | exact hp | (simp only [List.mem_cons, List.mem_append, List.nil_append, List.not_mem_nil, or_assoc, or_false, false_or] at hp ⊢ <;> grind)))⟩, rfl⟩
                case measure => (show y2.rows.length - (intOf (.int .i64 (((m + 1) : Nat) : Int))).toNat < y2.rows.length - (intOf (.int .i64 ((m : Nat) : Int))).toNat); simp only [intOf]; omega
              | true =>
                have h5 : (y2.bay, y5) ∈ (L ++ (y2.rows.take m).map (fun r => (y2.bay, r))) := of_decide_eq_true hd5
                clear hd5
                refine wp_cond_true rfl ?_
                refine wp_seq ?_
                refine wp_region_L (W0 := w) [(g6, .cells #[.int .i64 y2.bay, .int .i64 y5] 95 (0, 0)), (g3, .cells (covC y2).toArray 51 (0, 0)), (g1, .map es2 cl2)] (hW17) ?_
                refine lm (v := .bool false) rfl rfl ?_
                refine wpL_done (fun W20 hW20 => ?_)
                refine (show Code.wp _ _ _ _ _ from ?_)
                refine wp_ret ?_
                try simp only [inBlock_ret, then_ret]
                refine bodyPost_ret (v := .bool false) ?_ rfl ?_
                · kernel_rfl
                · exact ⟨(bool_is (by unfold ovsX; rw [decide_eq_false h1, hR, ovs_step hy2, h3, hI, fresh_step hy5, decide_eq_true h5]; rfl)), hW20.1⟩
  | true =>
    have h1 : 40 < os.length := of_decide_eq_true hd1
    clear hd1
    refine wp_cond_true rfl ?_
    refine wp_seq ?_
    refine wp_region_L (W0 := w) [] (hW2) ?_
    refine lm (v := .bool false) rfl rfl ?_
    refine wpL_done (fun W21 hW21 => ?_)
    refine (show Code.wp _ _ _ _ _ from ?_)
    refine wp_ret ?_
    try simp only [inBlock_ret, then_ret]
    refine bodyPost_ret (v := .bool false) ?_ rfl ?_
    · kernel_rfl
    · exact ⟨(bool_is (by unfold ovsX; rw [decide_eq_true h1]; rfl)), hW21.1⟩
set_option maxRecDepth 100000 in
set_option maxHeartbeats 4000000 in
theorem Right_any (cs : List Col) (pc : Option Addr) (cc : Nat) (lc : cs.length ≤ 4000000000) (os : List Cov) (po : Option Addr) (co : Nat) (lo : os.length ≤ 4000000000) (t : Tl) (w : World) (hc : SLV w pc (cs.flatMap colC)) (ho : SLV w po (os.flatMap covC)) (hr : RwR w os) (lr : ∀ o ∈ os, o.rows.length ≤ 4000000000) (hq : PlR w cs) (lq : ∀ c ∈ cs, c.plugs.length ≤ 4000000000) : Calls Try.prog 10 #[.agg (shC (.slice pc cs.length cc) (.slice po os.length co) t).toArray] w fun e w' => e = .returned (.bool (rightX cs os)) ∧ Below w.heap.size w w' := by
  have HC := Lib.hid hc
  clear hc
  have HO := Lib.hid ho
  clear ho
  have HR := Lib.hid hr
  clear hr
  have HQ := Lib.hid hq
  clear hq
  go_enter Try.func10, Try.ntmps10
  refine wp_seq ?_
  refine wp_region_L (W0 := w) [] (KS.start w) ?_
  refine wpL_new (fun g => .pointer (some ⟨g, 0, none⟩)) (obi := .cells (shC (.slice pc cs.length cc) (.slice po os.length co) t).toArray 32 (0, 0)) rfl rfl (fun _ => by kernel_rfl) (fun _ => by simp only [List.setIfInBounds_toArray, List.set_cons_succ, List.set_cons_zero] <;> rfl) fun g1 Bg1 Fg1 => ?_
  refine lm (v := .bool false) rfl rfl ?_
  refine wpL_done (fun W1 hW1 => ?_)
  refine (show Code.wp _ _ _ _ _ from ?_)
  refine wp_seq ?_
  refine wp_region_L (W0 := w) [(g1, .cells (shC (.slice pc cs.length cc) (.slice po os.length co) t).toArray 32 (0, 0))] (hW1) ?_
  refine lm (v := .pointer (some ⟨g1, 0, none⟩)) rfl rfl ?_
  refine lv (v := .slice pc cs.length cc) rfl rfl (yb_cell (off := 0) rfl (by kernel_rfl) (.head _) Try.underlying22 rfl (by kernel_rfl)) ?_
  refine lv (v := .bool (colsX cs)) rfl rfl (yb_call (f := 35) (args := #[.slice pc cs.length cc]) (fun _ => by kernel_rfl) fun W hW => columnsRight_any cs pc cc W ((RL.base HC.out) _ (hW.sub (fun _ h => by cases h))) (HQ.out.keep hW.1) lq) ?_
  refine lm (v := .bool (colsX cs)) rfl rfl ?_
  cases h1 : (colsX cs) with
  | false =>
    refine ln rfl ?_
    refine ln rfl ?_
    refine ln rfl ?_
    refine lm (v := .bool false) rfl rfl ?_
    refine lm (v := .bool false) rfl rfl ?_
    refine wpL_done (fun W2 hW2 => ?_)
    refine (show Code.wp _ _ _ _ _ from ?_)
    refine wp_ret ?_
    try simp only [inBlock_ret, then_ret]
    refine bodyPost_ret (v := .bool false) ?_ rfl ?_
    · kernel_rfl
    · exact ⟨(bool_is (by unfold rightX; simp [*])), hW2.1⟩
  | true =>
    refine lm (v := .pointer (some ⟨g1, 1, none⟩)) rfl rfl ?_
    refine lv (v := .slice po os.length co) rfl rfl (yb_cell (off := 1) rfl (by kernel_rfl) (.head _) Try.underlying23 rfl (by kernel_rfl)) ?_
    refine lv (v := .bool (ovsX os)) rfl rfl (yb_call (f := 36) (args := #[.slice po os.length co]) (fun _ => by kernel_rfl) fun W hW => coversRight_any os po co W ((RL.base HO.out) _ (hW.sub (fun _ h => by cases h))) (HR.out.keep hW.1) lr) ?_
    refine lm (v := .bool (ovsX os)) rfl rfl ?_
    refine lm (v := .bool (ovsX os)) rfl rfl ?_
    refine wpL_done (fun W3 hW3 => ?_)
    refine (show Code.wp _ _ _ _ _ from ?_)
    refine wp_ret ?_
    try simp only [inBlock_ret, then_ret]
    refine bodyPost_ret (v := .bool (ovsX os)) ?_ rfl ?_
    · kernel_rfl
    · exact ⟨(bool_is (by unfold rightX; simp [*])), hW3.1⟩
end Go.Proofs.Ythpooalhibedpaa
namespace Go.Proofs.Ythpooalhibedpaa
open Go Go.RowKit Tw
set_option maxRecDepth 100000 in
set_option maxHeartbeats 4000000 in
theorem Example_any {W0 : Base} (w : World) (hw : KS W0 [] w) : Calls Try.prog 27 #[] w fun e w' => ∃ v T, e = .returned v ∧ KS W0 T w' ∧ ShipT W0 exCs [(0, [0, 1])] v T := by
  go_enter Try.func27, Try.ntmps27
  refine wp_seq ?_
  refine wp_region_L (W0 := W0) [] (hw) ?_
  refine wpL_new (fun g => .pointer (some ⟨g, 0, none⟩)) (obi := .cells (shC (.slice none 0 0) (.slice none 0 0) tl0).toArray 32 (0, 0)) rfl rfl (fun _ => by kernel_rfl) (fun _ => by simp only [List.setIfInBounds_toArray, List.set_cons_succ, List.set_cons_zero] <;> rfl) fun g1 Bg1 Fg1 => ?_
  refine wpL_done (fun W1 hW1 => ?_)
  refine (show Code.wp _ _ _ _ _ from ?_)
  refine wp_seq ?_
  refine wp_region_L (W0 := W0) [(g1, .cells (shC (.slice none 0 0) (.slice none 0 0) tl0).toArray 32 (0, 0))] (hW1) ?_
  refine lm (v := .agg #[.int .i64 0, .int .i64 0, .bool false, .int .i64 2, .int .i64 0, .int .i64 0, .int .i64 0, .int .i64 0, .slice none 0 0, .int .i64 0, .int .i64 0, .int .i64 0]) rfl rfl ?_
  refine lm (v := .agg #[.int .i64 0, .int .i64 1, .bool false, .int .i64 2, .int .i64 0, .int .i64 0, .int .i64 0, .int .i64 0, .slice none 0 0, .int .i64 0, .int .i64 0, .int .i64 0]) rfl rfl ?_
  refine lm (v := .agg #[.int .i64 0, .int .i64 0, .bool true, .int .i64 3, .int .i64 0, .int .i64 0, .int .i64 0, .int .i64 0, .slice none 0 0, .int .i64 0, .int .i64 0, .int .i64 0]) rfl rfl ?_
  refine lm (v := .agg #[.int .i64 0, .int .i64 1, .bool true, .int .i64 3, .int .i64 0, .int .i64 0, .int .i64 0, .int .i64 0, .slice none 0 0, .int .i64 0, .int .i64 0, .int .i64 0]) rfl rfl ?_
  refine lm (v := .agg #[.int .i64 1, .int .i64 1, .bool true, .int .i64 4, .int .i64 0, .int .i64 0, .int .i64 0, .int .i64 0, .slice none 0 0, .int .i64 0, .int .i64 0, .int .i64 0]) rfl rfl ?_
  refine wpL_new (fun g => .slice (some ⟨g, 0, none⟩) 5 5) (obi := .cells #[.int .i64 0, .int .i64 0, .bool false, .int .i64 2, .int .i64 0, .int .i64 0, .int .i64 0, .int .i64 0, .slice none 0 0, .int .i64 0, .int .i64 0, .int .i64 0, .int .i64 0, .int .i64 1, .bool false, .int .i64 2, .int .i64 0, .int .i64 0, .int .i64 0, .int .i64 0, .slice none 0 0, .int .i64 0, .int .i64 0, .int .i64 0, .int .i64 0, .int .i64 0, .bool true, .int .i64 3, .int .i64 0, .int .i64 0, .int .i64 0, .int .i64 0, .slice none 0 0, .int .i64 0, .int .i64 0, .int .i64 0, .int .i64 0, .int .i64 1, .bool true, .int .i64 3, .int .i64 0, .int .i64 0, .int .i64 0, .int .i64 0, .slice none 0 0, .int .i64 0, .int .i64 0, .int .i64 0, .int .i64 1, .int .i64 1, .bool true, .int .i64 4, .int .i64 0, .int .i64 0, .int .i64 0, .int .i64 0, .slice none 0 0, .int .i64 0, .int .i64 0, .int .i64 0] 49 (0, 0)) rfl rfl (fun _ => by kernel_rfl) (fun _ => by simp only [List.setIfInBounds_toArray, List.set_cons_succ, List.set_cons_zero] <;> rfl) fun g2 Bg2 Fg2 => ?_
  obtain dj3_0 : g1 ≠ g2 := by simpa only [dj_app_l, dj_app_r, dj_cons_l, dj_cons_r, dj_nil_l, dj_nil_r, dk_app, dk_cons, dk_nil, and_true, true_and, and_assoc] using (show Dk g2 [(g1, .cells (shC (.slice none 0 0) (.slice none 0 0) tl0).toArray 32 (0, 0))] from Fg2)
  refine wpL_new (fun g => .slice (some ⟨g, 0, none⟩) 2 2) (obi := .cells #[.int .i64 0, .int .i64 1] 3 (0, 0)) rfl rfl (fun _ => by kernel_rfl) (fun _ => by simp only [List.setIfInBounds_toArray, List.set_cons_succ, List.set_cons_zero] <;> rfl) fun g4 Bg4 Fg4 => ?_
  obtain ⟨dj5_0, dj5_1⟩ : g2 ≠ g4 ∧ g1 ≠ g4 := by simpa only [dj_app_l, dj_app_r, dj_cons_l, dj_cons_r, dj_nil_l, dj_nil_r, dk_app, dk_cons, dk_nil, and_true, true_and, and_assoc] using (show Dk g4 [(g2, .cells #[.int .i64 0, .int .i64 0, .bool false, .int .i64 2, .int .i64 0, .int .i64 0, .int .i64 0, .int .i64 0, .slice none 0 0, .int .i64 0, .int .i64 0, .int .i64 0, .int .i64 0, .int .i64 1, .bool false, .int .i64 2, .int .i64 0, .int .i64 0, .int .i64 0, .int .i64 0, .slice none 0 0, .int .i64 0, .int .i64 0, .int .i64 0, .int .i64 0, .int .i64 0, .bool true, .int .i64 3, .int .i64 0, .int .i64 0, .int .i64 0, .int .i64 0, .slice none 0 0, .int .i64 0, .int .i64 0, .int .i64 0, .int .i64 0, .int .i64 1, .bool true, .int .i64 3, .int .i64 0, .int .i64 0, .int .i64 0, .int .i64 0, .slice none 0 0, .int .i64 0, .int .i64 0, .int .i64 0, .int .i64 1, .int .i64 1, .bool true, .int .i64 4, .int .i64 0, .int .i64 0, .int .i64 0, .int .i64 0, .slice none 0 0, .int .i64 0, .int .i64 0, .int .i64 0] 49 (0, 0)), (g1, .cells (shC (.slice none 0 0) (.slice none 0 0) tl0).toArray 32 (0, 0))] from Fg4)
  refine lm (v := .agg #[.int .i64 0, .slice (some ⟨g4, 0, none⟩) 2 2]) rfl rfl ?_
  refine wpL_new (fun g => .slice (some ⟨g, 0, none⟩) 1 1) (obi := .cells #[.int .i64 0, .slice (some ⟨g4, 0, none⟩) 2 2] 51 (0, 0)) rfl rfl (fun _ => by kernel_rfl) (fun _ => by simp only [List.setIfInBounds_toArray, List.set_cons_succ, List.set_cons_zero] <;> rfl) fun g6 Bg6 Fg6 => ?_
  obtain ⟨dj7_0, dj7_1, dj7_2⟩ : g4 ≠ g6 ∧ g2 ≠ g6 ∧ g1 ≠ g6 := by simpa only [dj_app_l, dj_app_r, dj_cons_l, dj_cons_r, dj_nil_l, dj_nil_r, dk_app, dk_cons, dk_nil, and_true, true_and, and_assoc] using (show Dk g6 [(g4, .cells #[.int .i64 0, .int .i64 1] 3 (0, 0)), (g2, .cells #[.int .i64 0, .int .i64 0, .bool false, .int .i64 2, .int .i64 0, .int .i64 0, .int .i64 0, .int .i64 0, .slice none 0 0, .int .i64 0, .int .i64 0, .int .i64 0, .int .i64 0, .int .i64 1, .bool false, .int .i64 2, .int .i64 0, .int .i64 0, .int .i64 0, .int .i64 0, .slice none 0 0, .int .i64 0, .int .i64 0, .int .i64 0, .int .i64 0, .int .i64 0, .bool true, .int .i64 3, .int .i64 0, .int .i64 0, .int .i64 0, .int .i64 0, .slice none 0 0, .int .i64 0, .int .i64 0, .int .i64 0, .int .i64 0, .int .i64 1, .bool true, .int .i64 3, .int .i64 0, .int .i64 0, .int .i64 0, .int .i64 0, .slice none 0 0, .int .i64 0, .int .i64 0, .int .i64 0, .int .i64 1, .int .i64 1, .bool true, .int .i64 4, .int .i64 0, .int .i64 0, .int .i64 0, .int .i64 0, .slice none 0 0, .int .i64 0, .int .i64 0, .int .i64 0] 49 (0, 0)), (g1, .cells (shC (.slice none 0 0) (.slice none 0 0) tl0).toArray 32 (0, 0))] from Fg6)
  refine lm (v := .agg (shC (.slice (some ⟨g2, 0, none⟩) 5 5) (.slice (some ⟨g6, 0, none⟩) 1 1) tl0).toArray) rfl rfl ?_
  refine wpL_s [(g6, .cells #[.int .i64 0, .slice (some ⟨g4, 0, none⟩) 2 2] 51 (0, 0)), (g4, .cells #[.int .i64 0, .int .i64 1] 3 (0, 0)), (g2, .cells #[.int .i64 0, .int .i64 0, .bool false, .int .i64 2, .int .i64 0, .int .i64 0, .int .i64 0, .int .i64 0, .slice none 0 0, .int .i64 0, .int .i64 0, .int .i64 0, .int .i64 0, .int .i64 1, .bool false, .int .i64 2, .int .i64 0, .int .i64 0, .int .i64 0, .int .i64 0, .slice none 0 0, .int .i64 0, .int .i64 0, .int .i64 0, .int .i64 0, .int .i64 0, .bool true, .int .i64 3, .int .i64 0, .int .i64 0, .int .i64 0, .int .i64 0, .slice none 0 0, .int .i64 0, .int .i64 0, .int .i64 0, .int .i64 0, .int .i64 1, .bool true, .int .i64 3, .int .i64 0, .int .i64 0, .int .i64 0, .int .i64 0, .slice none 0 0, .int .i64 0, .int .i64 0, .int .i64 0, .int .i64 1, .int .i64 1, .bool true, .int .i64 4, .int .i64 0, .int .i64 0, .int .i64 0, .int .i64 0, .slice none 0 0, .int .i64 0, .int .i64 0, .int .i64 0] 49 (0, 0)), (g1, .cells (shC (.slice (some ⟨g2, 0, none⟩) 5 5) (.slice (some ⟨g6, 0, none⟩) 1 1) tl0).toArray 32 (0, 0))] rfl rfl (st_row (off := 0) (v := .agg (shC (.slice (some ⟨g2, 0, none⟩) 5 5) (.slice (some ⟨g6, 0, none⟩) 1 1) tl0).toArray) rfl (by kernel_rfl) (by kernel_rfl) (.tail _ (.tail _ (.tail _ (.head _)))) Bg1 (by kernel_rfl) (by first | (simp [Value.cells]; done) | exact Nat.le_of_ble_eq_true rfl) (fun v hv => shC_one v hv) (by kernel_rfl) (List.forall_mem_cons.2 ⟨.inr ⟨(.head _), (by first | assumption | exact Ne.symm (by assumption))⟩, (List.forall_mem_cons.2 ⟨.inr ⟨(.tail _ (.head _)), (by first | assumption | exact Ne.symm (by assumption))⟩, (List.forall_mem_cons.2 ⟨.inr ⟨(.tail _ (.tail _ (.head _))), (by first | assumption | exact Ne.symm (by assumption))⟩, (List.forall_mem_cons.2 ⟨.inl rfl, (List.forall_mem_nil _)⟩)⟩)⟩)⟩)) ?_
  refine wpL_done (fun W2 hW2 => ?_)
  refine (show Code.wp _ _ _ _ _ from ?_)
  refine wp_ret ?_
  try simp only [inBlock_ret, then_ret]
  refine bodyPost_ret (v := .agg (shC (.slice (some ⟨g2, 0, none⟩) 5 5) (.slice (some ⟨g6, 0, none⟩) 1 1) tl0).toArray) ?_ rfl ?_
  · exact (res_cell (p := 0) rfl rfl (hW2.2 _ (.tail _ (.tail _ (.tail _ (.head _))))) Try.underlying32 rfl (by kernel_rfl))
  · exact ⟨_, _, rfl, hW2, some ⟨g2, 0, none⟩, 5, [⟨0, [0, 1], some ⟨g4, 0, none⟩, 2⟩], some ⟨g6, 0, none⟩, 1, rfl, Nat.le_refl _, Nat.le_refl _, (fun W hW => blk_slv (cs := exCs.flatMap colC) hW (.tail _ (.tail _ (.head _)))), (fun W hW => blk_slv hW (.head _)), (fun W hW o ho => by cases List.mem_singleton.1 ho; exact blk_slv hW (.tail _ (.head _))), rfl⟩
set_option maxRecDepth 100000 in
set_option maxHeartbeats 4000000 in
theorem SameInts_any (l m : List Int) (p q : Option Addr) (c d : Nat) (hl : l.length ≤ 4000000000) (w : World) (hp : SLV w p (l.flatMap inC)) (hq : SLV w q (m.flatMap inC)) : Calls Try.prog 16 #[.slice p l.length c, .slice q m.length d] w fun e w' => e = .returned (.bool (decide (l = m))) ∧ Below w.heap.size w w' := by
  have HP := Lib.hid hp
  clear hp
  have HQ := Lib.hid hq
  clear hq
  go_enter Try.func16, Try.ntmps16
  refine wp_seq ?_
  refine wp_region_L (W0 := w) [] (KS.start w) ?_
  refine lm (v := .bool false) rfl rfl ?_
  refine wpL_done (fun W1 hW1 => ?_)
  refine (show Code.wp _ _ _ _ _ from ?_)
  refine wp_seq ?_
  refine wp_seq ?_
  refine wp_region_L (W0 := w) [] (hW1) ?_
  refine lm (v := .slice p l.length c) rfl rfl ?_
  refine lp (v := .int .i64 ((l.length : Nat) : Int)) rfl rfl (run_lenL (p := p) (cap := c) (n := l.length) rfl Try.underlying39 (by kernel_rfl)) ?_
  refine lm (v := .slice q m.length d) rfl rfl ?_
  refine lp (v := .int .i64 ((m.length : Nat) : Int)) rfl rfl (run_lenL (p := q) (cap := d) (n := m.length) rfl Try.underlying39 (by kernel_rfl)) ?_
  refine lp (v := .bool (!(decide (l.length = m.length)))) rfl rfl (run_bin rfl (vx := (.int .i64 ((l.length : Nat) : Int))) (vy := (.int .i64 ((m.length : Nat) : Int))) (by kernel_rfl) (by kernel_rfl) fun w => bn_neq rfl w) ?_
  refine wpL_done (fun W2 hW2 => ?_)
  refine (show Code.wp _ _ _ _ _ from ?_)
  cases hd1 : (decide (l.length = m.length)) with
  | false =>
    have h1 : ¬ (l.length = m.length) := of_decide_eq_false hd1
    clear hd1
    refine wp_cond_true rfl ?_
    refine wp_seq ?_
    refine wp_region_L (W0 := w) [] (hW2) ?_
    refine lm (v := .bool false) rfl rfl ?_
    refine wpL_done (fun W3 hW3 => ?_)
    refine (show Code.wp _ _ _ _ _ from ?_)
    refine wp_ret ?_
    try simp only [inBlock_ret, then_ret]
    refine bodyPost_ret (v := .bool false) ?_ rfl ?_
    · kernel_rfl
    · exact ⟨(bool_is (by rw [eq_comm, decide_eq_false_iff_not]; exact ne_len h1)), hW3.1⟩
  | true =>
    have h1 : l.length = m.length := of_decide_eq_true hd1
    clear hd1
    refine wp_cond_false rfl ?_
    refine wp_skip ?_
    refine (show Code.wp _ _ _ _ _ from ?_)
    refine wp_seq ?_
    refine wp_seq ?_
    refine wp_region_L (W0 := w) [] (hW2) ?_
    refine lm (v := .int .i64 0) rfl rfl ?_
    refine wpL_done (fun W4 hW4 => ?_)
    refine (show Code.wp _ _ _ _ _ from ?_)
    refine wp_block ?_
    go_loopw [5] (fun u5 wr => ∃ (k : Nat), (k ≤ l.length) ∧ (l.take k = m.take k) ∧ u5 = .int .i64 ((k : Nat) : Int) ∧ KS w [] wr) (fun u5 _ => l.length - (intOf u5).toNat)
    case atStart => exact ⟨0, (Nat.zero_le _), rfl, rfl, (hW4.sub (fun p hp => by first | exact hp | (simp only [List.mem_cons, List.mem_append, List.nil_append, List.not_mem_nil, or_assoc, or_false, false_or] at hp ⊢ <;> grind)))⟩
    case round =>
      obtain ⟨k, hk, hT, rfl, hL5⟩ := hrel
      refine wp_seq ?_
      refine wp_seq ?_
      refine wp_region_L (W0 := w) [] (hL5) ?_
      refine lm (v := .int .i64 ((k : Nat) : Int)) rfl rfl ?_
      refine lm (v := .slice p l.length c) rfl rfl ?_
      refine lp (v := .int .i64 ((l.length : Nat) : Int)) rfl rfl (run_lenL (p := p) (cap := c) (n := l.length) rfl Try.underlying39 (by kernel_rfl)) ?_
      refine lp (v := .bool (decide (k < l.length))) rfl rfl (run_bin rfl (vx := (.int .i64 ((k : Nat) : Int))) (vy := (.int .i64 ((l.length : Nat) : Int))) (by kernel_rfl) (by kernel_rfl) fun w => bn_lss rfl w) ?_
      refine wpL_done (fun W6 hW6 => ?_)
      refine (show Code.wp _ _ _ _ _ from ?_)
      cases hd2 : (decide (k < l.length)) with
      | false =>
        have h2 : ¬ (k < l.length) := of_decide_eq_false hd2
        clear hd2
        refine wp_cond_false rfl ?_
        refine wp_exit ?_
        refine (show Code.wp _ _ _ _ _ from ?_)
        refine wp_seq ?_
        refine wp_region_L (W0 := w) [] (hW6) ?_
        refine lm (v := .bool true) rfl rfl ?_
        refine wpL_done (fun W7 hW7 => ?_)
        refine (show Code.wp _ _ _ _ _ from ?_)
        refine wp_ret ?_
        try simp only [inBlock_ret, then_ret]
        refine bodyPost_ret (v := .bool true) ?_ rfl ?_
        · kernel_rfl
        · exact ⟨(bool_is (by rw [eq_comm, decide_eq_true_iff]; exact eq_of_take hT h2 h1)), hW7.1⟩
      | true =>
        have h2 : k < l.length := of_decide_eq_true hd2
        clear hd2
        refine wp_cond_true rfl ?_
        refine wp_skip ?_
        refine (show Code.wp _ _ _ _ _ from ?_)
        refine wp_seq ?_
        refine wp_block ?_
        refine wp_seq ?_
        refine wp_region_V (W0 := w) [] (by kernel_rfl) (hW6) ?_
        refine vm (i := 0) (v := .slice p l.length c) rfl rfl rfl ?_
        refine vm (i := 1) (v := .int .i64 ((k : Nat) : Int)) rfl rfl rfl ?_
        obtain ⟨y1, g1_, f1_, hy1, hp1, hc1⟩ := RL.at (RL.base HP.out) inC_len (by decide) (hW6.sub (fun _ h => by cases h)) (k := k) (by omega)
        refine vp (i := 2) (v := .pointer (some ⟨g1_, f1_ + k * 1, none⟩)) rfl rfl rfl (run_idxQ (p := p) (cap := c) (n := l.length) (j := .i64) (k := k) (sz := 1) rfl Try.underlying39 (by kernel_rfl) (by kernel_rfl) hp1 (by kernel_rfl) (by omega)) ?_
        refine vv (i := 3) (v := .int .i64 y1) rfl rfl rfl (yb_rf (v := .int .i64 y1) rfl (by kernel_rfl) (fun W hW => hc1 W (hW.sub (fun _ h => by cases h)) 0 _ rfl) Try.underlying3 rfl) ?_
        refine vm (i := 4) (v := .slice q m.length d) rfl rfl rfl ?_
        refine vm (i := 5) (v := .int .i64 ((k : Nat) : Int)) rfl rfl rfl ?_
        obtain ⟨y2, g2_, f2_, hy2, hp2, hc2⟩ := RL.at (RL.base HQ.out) inC_len (by decide) (hW6.sub (fun _ h => by cases h)) (k := k) (by omega)
        refine vp (i := 6) (v := .pointer (some ⟨g2_, f2_ + k * 1, none⟩)) rfl rfl rfl (run_idxQ (p := q) (cap := d) (n := m.length) (j := .i64) (k := k) (sz := 1) rfl Try.underlying39 (by kernel_rfl) (by kernel_rfl) hp2 (by kernel_rfl) (by omega)) ?_
        refine vv (i := 7) (v := .int .i64 y2) rfl rfl rfl (yb_rf (v := .int .i64 y2) rfl (by kernel_rfl) (fun W hW => hc2 W (hW.sub (fun _ h => by cases h)) 0 _ rfl) Try.underlying3 rfl) ?_
        refine vp (i := 8) (v := .bool (!(decide (y1 = y2)))) rfl rfl rfl (run_bin rfl (vx := (.int .i64 y1)) (vy := (.int .i64 y2)) (by kernel_rfl) (by kernel_rfl) fun w => bi_neq rfl w) ?_
        refine wpV_done (by kernel_rfl) (fun W8 hW8 => ?_) _
        refine (show Code.wp _ _ _ _ _ from ?_)
        cases hd3 : (decide (y1 = y2)) with
        | false =>
          have h3 : ¬ (y1 = y2) := of_decide_eq_false hd3
          clear hd3
          refine wp_cond_true rfl ?_
          refine wp_seq ?_
          refine wp_region_L (W0 := w) [] (hW8) ?_
          refine lm (v := .bool false) rfl rfl ?_
          refine wpL_done (fun W9 hW9 => ?_)
          refine (show Code.wp _ _ _ _ _ from ?_)
          refine wp_ret ?_
          try simp only [inBlock_ret, then_ret]
          refine bodyPost_ret (v := .bool false) ?_ rfl ?_
          · kernel_rfl
          · exact ⟨(bool_is (by rw [eq_comm, decide_eq_false_iff_not]; exact ne_at hy1 hy2 h3)), hW9.1⟩
        | true =>
          have h3 : y1 = y2 := of_decide_eq_true hd3
          clear hd3
          refine wp_cond_false rfl ?_
          refine wp_skip ?_
          refine (show Code.wp _ _ _ _ _ from ?_)
          refine wp_region_L (W0 := w) [] (hW8) ?_
          refine lm (v := .int .i64 ((k : Nat) : Int)) rfl rfl ?_
          refine lp (v := .int .i64 (((k + 1) : Nat) : Int)) rfl rfl (run_bin rfl (vx := (.int .i64 ((k : Nat) : Int))) (vy := (.int .i64 ((1 : Nat) : Int))) (by kernel_rfl) (by kernel_rfl) fun w => bn_add (z := (k + 1)) rfl (wr_i64 (by omega)) w) ?_
          refine lm (v := .int .i64 (((k + 1) : Nat) : Int)) rfl rfl ?_
          refine wpL_done (fun W10 hW10 => ?_)
          go_roundw
          case rel =>
            repeat apply Exists.intro
            exact ⟨⟨k + 1, (by omega), (take_snoc_eq hT hy1 hy2 h3), rfl, (hW10.sub (fun p hp => by first | exact hp | (simp only [List.mem_cons, List.mem_append, List.nil_append, List.not_mem_nil, or_assoc, or_false, false_or] at hp ⊢ <;> grind)))⟩, rfl⟩
          case measure => (show l.length - (intOf (.int .i64 (((k + 1) : Nat) : Int))).toNat < l.length - (intOf (.int .i64 ((k : Nat) : Int))).toNat); simp only [intOf]; omega
set_option maxRecDepth 100000 in
set_option maxHeartbeats 4000000 in
theorem awake_any  (w : World) : Calls Try.prog 6 #[] w fun e w' => e = .returned (.bool true) ∧ Below w.heap.size w w' := by
  go_enter Try.func6, Try.ntmps6
  refine wp_seq ?_
  refine wp_region_L (W0 := w) [] (KS.start w) ?_
  refine lm (v := .bool false) rfl rfl ?_
  refine wpL_done (fun W1 hW1 => ?_)
  refine (show Code.wp _ _ _ _ _ from ?_)
  refine wp_seq ?_
  refine wp_region_L (W0 := w) [] (hW1) ?_
  refine wpL_c (f := 27) (args := #[]) (ShipT w exCs [(0, [0, 1])]) rfl (by kernel_rfl) (fun _ => (by kernel_rfl)) (fun W hW => (Example_any W hW).mono fun _ _ ⟨v, T, he, hk, hs⟩ => ⟨v, T, he, hk, hs⟩) (fun _ => by simp only [List.setIfInBounds_toArray, List.set_cons_succ, List.set_cons_zero] <;> rfl) ?_
  rintro _ TS ⟨pcS, ccS, osS, poS, coS, rfl, hccS, hcoS, hCS, hOS, hRS, hMS⟩
  refine wpL_rebase fun WB hWB => ?_
  have HCS := Lib.hid (hCS WB hWB)
  have HOS := Lib.hid (hOS WB hWB)
  have HRS := Lib.hid (hRS WB hWB)
  clear hCS hOS hRS
  obtain ⟨rp, rc, rfl⟩ := one_cov hMS
  have lrS : ∀ o ∈ [(⟨0, [0, 1], rp, rc⟩ : Cov)], o.rows.length ≤ 4000000000 := fun o ho => by cases List.mem_singleton.1 ho; exact Nat.le_of_ble_eq_true rfl
  have HPS := Lib.hid (show PlR WB exCs from plr_nil (by decide))
  have lpS : ∀ c ∈ exCs, c.plugs.length ≤ 4000000000 := by decide
  refine wpL_new (fun g => .pointer (some ⟨g, 0, none⟩)) (obi := .cells (shC (.slice none 0 0) (.slice none 0 0) tl0).toArray 32 (0, 0)) rfl rfl (fun _ => by kernel_rfl) (fun _ => by simp only [List.setIfInBounds_toArray, List.set_cons_succ, List.set_cons_zero] <;> rfl) fun g1 Bg1 Fg1 => ?_
  refine wpL_s [(g1, .cells (shC (.slice pcS exCs.length ccS) (.slice poS ([(⟨0, [0, 1], rp, rc⟩ : Cov)].length) coS) tl0).toArray 32 (0, 0))] rfl rfl (st_row (off := 0) (v := .agg (shC (.slice pcS exCs.length ccS) (.slice poS ([(⟨0, [0, 1], rp, rc⟩ : Cov)].length) coS) tl0).toArray) rfl (by kernel_rfl) (by kernel_rfl) (.head _) Bg1 (by kernel_rfl) (by first | (simp [Value.cells]; done) | exact Nat.le_of_ble_eq_true rfl) (fun v hv => shC_one v hv) (by kernel_rfl) (List.forall_mem_cons.2 ⟨.inl rfl, (List.forall_mem_nil _)⟩)) ?_
  refine wpL_done (fun W2 hW2 => ?_)
  refine (show Code.wp _ _ _ _ _ from ?_)
  refine wp_seq ?_
  refine wp_region_L (W0 := WB) [(g1, .cells (shC (.slice pcS exCs.length ccS) (.slice poS ([(⟨0, [0, 1], rp, rc⟩ : Cov)].length) coS) tl0).toArray 32 (0, 0))] (hW2) ?_
  refine lv (v := .agg (shC (.slice pcS exCs.length ccS) (.slice poS ([(⟨0, [0, 1], rp, rc⟩ : Cov)].length) coS) tl0).toArray) rfl rfl (yb_load (n := 13) (off := 0) rfl (by kernel_rfl) (.head _) Try.underlying32 rfl (by kernel_rfl) (by first | (simp [Value.cells]; done) | exact Nat.le_of_ble_eq_true rfl) (by kernel_rfl)) ?_
  refine lv (v := .tuple #[.int .i64 (findN (fst (isAt 1 1 true) exCs)), .bool ((fst (isAt 1 1 true) exCs).isSome)]) rfl rfl (yb_call (f := 8) (args := #[.agg (shC (.slice pcS exCs.length ccS) (.slice poS ([(⟨0, [0, 1], rp, rc⟩ : Cov)].length) coS) tl0).toArray, .int .i64 1, .int .i64 1, .bool true]) (fun _ => by kernel_rfl) fun W hW => Find_any exCs pcS ccS (by decide) [(⟨0, [0, 1], rp, rc⟩ : Cov)] poS coS (Nat.le_of_ble_eq_true rfl) tl0 1 1 true W ((RL.base HCS.out) _ (hW.sub (fun _ h => by cases h))) ((RL.base HOS.out) _ (hW.sub (fun _ h => by cases h)))) ?_
  refine lm (v := .tuple #[.int .i64 (findN (fst (isAt 1 1 true) exCs)), .bool ((fst (isAt 1 1 true) exCs).isSome)]) rfl rfl ?_
  refine lm (v := .int .i64 (findN (fst (isAt 1 1 true) exCs))) rfl rfl ?_
  refine lm (v := .bool ((fst (isAt 1 1 true) exCs).isSome)) rfl rfl ?_
  refine lm (v := .int .i64 (findN (fst (isAt 1 1 true) exCs))) rfl rfl ?_
  refine lm (v := .bool ((fst (isAt 1 1 true) exCs).isSome)) rfl rfl ?_
  refine wpL_done (fun W3 hW3 => ?_)
  refine (show Code.wp _ _ _ _ _ from ?_)
  refine wp_seq ?_
  refine wp_region_L (W0 := WB) [(g1, .cells (shC (.slice pcS exCs.length ccS) (.slice poS ([(⟨0, [0, 1], rp, rc⟩ : Cov)].length) coS) tl0).toArray 32 (0, 0))] (hW3) ?_
  refine lv (v := .agg (shC (.slice pcS exCs.length ccS) (.slice poS ([(⟨0, [0, 1], rp, rc⟩ : Cov)].length) coS) tl0).toArray) rfl rfl (yb_load (n := 13) (off := 0) rfl (by kernel_rfl) (.head _) Try.underlying32 rfl (by kernel_rfl) (by first | (simp [Value.cells]; done) | exact Nat.le_of_ble_eq_true rfl) (by kernel_rfl)) ?_
  refine lv (v := .tuple #[.int .i64 (apN exCs 0 4), .bool (apB exCs 0 4)]) rfl rfl (yb_call (f := 23) (args := #[.agg (shC (.slice pcS exCs.length ccS) (.slice poS ([(⟨0, [0, 1], rp, rc⟩ : Cov)].length) coS) tl0).toArray, .int .i64 0, .int .i64 4]) (fun _ => by kernel_rfl) fun W hW => Apart_any exCs pcS ccS (by decide) [(⟨0, [0, 1], rp, rc⟩ : Cov)] poS coS (Nat.le_of_ble_eq_true rfl) tl0 0 4 W ((RL.base HCS.out) _ (hW.sub (fun _ h => by cases h))) ((RL.base HOS.out) _ (hW.sub (fun _ h => by cases h)))) ?_
  refine lm (v := .tuple #[.int .i64 (apN exCs 0 4), .bool (apB exCs 0 4)]) rfl rfl ?_
  refine lm (v := .int .i64 (apN exCs 0 4)) rfl rfl ?_
  refine lm (v := .bool (apB exCs 0 4)) rfl rfl ?_
  refine lm (v := .int .i64 (apN exCs 0 4)) rfl rfl ?_
  refine lm (v := .bool (apB exCs 0 4)) rfl rfl ?_
  refine wpL_done (fun W4 hW4 => ?_)
  refine (show Code.wp _ _ _ _ _ from ?_)
  refine wp_seq ?_
  refine wp_region_L (W0 := WB) [(g1, .cells (shC (.slice pcS exCs.length ccS) (.slice poS ([(⟨0, [0, 1], rp, rc⟩ : Cov)].length) coS) tl0).toArray 32 (0, 0))] (hW4) ?_
  refine lv (v := .agg (shC (.slice pcS exCs.length ccS) (.slice poS ([(⟨0, [0, 1], rp, rc⟩ : Cov)].length) coS) tl0).toArray) rfl rfl (yb_load (n := 13) (off := 0) rfl (by kernel_rfl) (.head _) Try.underlying32 rfl (by kernel_rfl) (by first | (simp [Value.cells]; done) | exact Nat.le_of_ble_eq_true rfl) (by kernel_rfl)) ?_
  refine lv (v := .bool (rightX exCs [(⟨0, [0, 1], rp, rc⟩ : Cov)])) rfl rfl (yb_call (f := 10) (args := #[.agg (shC (.slice pcS exCs.length ccS) (.slice poS ([(⟨0, [0, 1], rp, rc⟩ : Cov)].length) coS) tl0).toArray]) (fun _ => by kernel_rfl) fun W hW => Right_any exCs pcS ccS (by decide) [(⟨0, [0, 1], rp, rc⟩ : Cov)] poS coS (Nat.le_of_ble_eq_true rfl) tl0 W ((RL.base HCS.out) _ (hW.sub (fun _ h => by cases h))) ((RL.base HOS.out) _ (hW.sub (fun _ h => by cases h))) (HRS.out.keep hW.1) lrS (HPS.out.keep hW.1) lpS) ?_
  refine lm (v := .bool (rightX exCs [(⟨0, [0, 1], rp, rc⟩ : Cov)])) rfl rfl ?_
  cases h1 : (rightX exCs [(⟨0, [0, 1], rp, rc⟩ : Cov)]) with
  | false =>
    exact absurd (show (rightX exCs [(⟨0, [0, 1], rp, rc⟩ : Cov)]) = true from by rfl) (by rw [h1]; decide)
  | true =>
    refine lm (v := .int .i64 (findN (fst (isAt 1 1 true) exCs))) rfl rfl ?_
    refine lp (v := .bool (decide ((findN (fst (isAt 1 1 true) exCs)) = 4))) rfl rfl (run_bin rfl (vx := (.int .i64 (findN (fst (isAt 1 1 true) exCs)))) (vy := (.int .i64 4)) (by kernel_rfl) (by kernel_rfl) fun w => bi_eql rfl w) ?_
    refine lm (v := .bool (decide ((findN (fst (isAt 1 1 true) exCs)) = 4))) rfl rfl ?_
    refine lm (v := .bool (decide ((findN (fst (isAt 1 1 true) exCs)) = 4))) rfl rfl ?_
    cases hd2 : (decide ((findN (fst (isAt 1 1 true) exCs)) = 4)) with
    | false =>
      have h2 : ¬ ((findN (fst (isAt 1 1 true) exCs)) = 4) := of_decide_eq_false hd2
      clear hd2
      exact absurd (show (findN (fst (isAt 1 1 true) exCs)) = 4 from by rfl) h2
    | true =>
      have h2 : (findN (fst (isAt 1 1 true) exCs)) = 4 := of_decide_eq_true hd2
      clear hd2
      refine lm (v := .bool ((fst (isAt 1 1 true) exCs).isSome)) rfl rfl ?_
      refine lm (v := .bool ((fst (isAt 1 1 true) exCs).isSome)) rfl rfl ?_
      refine lm (v := .bool ((fst (isAt 1 1 true) exCs).isSome)) rfl rfl ?_
      cases h3 : ((fst (isAt 1 1 true) exCs).isSome) with
      | false =>
        exact absurd (show ((fst (isAt 1 1 true) exCs).isSome) = true from by rfl) (by rw [h3]; decide)
      | true =>
        refine lm (v := .int .i64 (apN exCs 0 4)) rfl rfl ?_
        refine lp (v := .bool (decide ((apN exCs 0 4) = 1))) rfl rfl (run_bin rfl (vx := (.int .i64 (apN exCs 0 4))) (vy := (.int .i64 1)) (by kernel_rfl) (by kernel_rfl) fun w => bi_eql rfl w) ?_
        refine lm (v := .bool (decide ((apN exCs 0 4) = 1))) rfl rfl ?_
        refine lm (v := .bool (decide ((apN exCs 0 4) = 1))) rfl rfl ?_
        cases hd4 : (decide ((apN exCs 0 4) = 1)) with
        | false =>
          have h4 : ¬ ((apN exCs 0 4) = 1) := of_decide_eq_false hd4
          clear hd4
          exact absurd (show (apN exCs 0 4) = 1 from by rfl) h4
        | true =>
          have h4 : (apN exCs 0 4) = 1 := of_decide_eq_true hd4
          clear hd4
          refine lm (v := .bool (apB exCs 0 4)) rfl rfl ?_
          refine lm (v := .bool (apB exCs 0 4)) rfl rfl ?_
          refine lm (v := .bool (apB exCs 0 4)) rfl rfl ?_
          cases h5 : (apB exCs 0 4) with
          | false =>
            exact absurd (show (apB exCs 0 4) = true from by rfl) (by rw [h5]; decide)
          | true =>
            refine lv (v := .agg (shC (.slice pcS exCs.length ccS) (.slice poS ([(⟨0, [0, 1], rp, rc⟩ : Cov)].length) coS) tl0).toArray) rfl rfl (yb_load (n := 13) (off := 0) rfl (by kernel_rfl) (.head _) Try.underlying32 rfl (by kernel_rfl) (by first | (simp [Value.cells]; done) | exact Nat.le_of_ble_eq_true rfl) (by kernel_rfl)) ?_
            refine lv (v := .int .i64 (fiN (covOf exCs [(⟨0, [0, 1], rp, rc⟩ : Cov)] 0))) rfl rfl (yb_call (f := 12) (args := #[.agg (shC (.slice pcS exCs.length ccS) (.slice poS ([(⟨0, [0, 1], rp, rc⟩ : Cov)].length) coS) tl0).toArray, .int .i64 0]) (fun _ => by kernel_rfl) fun W hW => CoverOf_any exCs pcS ccS (by decide) [(⟨0, [0, 1], rp, rc⟩ : Cov)] poS coS (Nat.le_of_ble_eq_true rfl) tl0 0 W ((RL.base HCS.out) _ (hW.sub (fun _ h => by cases h))) ((RL.base HOS.out) _ (hW.sub (fun _ h => by cases h))) (HRS.out.keep hW.1) lrS) ?_
            refine lp (v := .bool (decide ((fiN (covOf exCs [(⟨0, [0, 1], rp, rc⟩ : Cov)] 0)) = 0))) rfl rfl (run_bin rfl (vx := (.int .i64 (fiN (covOf exCs [(⟨0, [0, 1], rp, rc⟩ : Cov)] 0)))) (vy := (.int .i64 0)) (by kernel_rfl) (by kernel_rfl) fun w => bi_eql rfl w) ?_
            refine lm (v := .bool (decide ((fiN (covOf exCs [(⟨0, [0, 1], rp, rc⟩ : Cov)] 0)) = 0))) rfl rfl ?_
            refine lm (v := .bool (decide ((fiN (covOf exCs [(⟨0, [0, 1], rp, rc⟩ : Cov)] 0)) = 0))) rfl rfl ?_
            cases hd6 : (decide ((fiN (covOf exCs [(⟨0, [0, 1], rp, rc⟩ : Cov)] 0)) = 0)) with
            | false =>
              have h6 : ¬ ((fiN (covOf exCs [(⟨0, [0, 1], rp, rc⟩ : Cov)] 0)) = 0) := of_decide_eq_false hd6
              clear hd6
              exact absurd (show (fiN (covOf exCs [(⟨0, [0, 1], rp, rc⟩ : Cov)] 0)) = 0 from by rfl) h6
            | true =>
              have h6 : (fiN (covOf exCs [(⟨0, [0, 1], rp, rc⟩ : Cov)] 0)) = 0 := of_decide_eq_true hd6
              clear hd6
              refine lv (v := .agg (shC (.slice pcS exCs.length ccS) (.slice poS ([(⟨0, [0, 1], rp, rc⟩ : Cov)].length) coS) tl0).toArray) rfl rfl (yb_load (n := 13) (off := 0) rfl (by kernel_rfl) (.head _) Try.underlying32 rfl (by kernel_rfl) (by first | (simp [Value.cells]; done) | exact Nat.le_of_ble_eq_true rfl) (by kernel_rfl)) ?_
              refine lv (v := .int .i64 (fiN (covOf exCs [(⟨0, [0, 1], rp, rc⟩ : Cov)] 3))) rfl rfl (yb_call (f := 12) (args := #[.agg (shC (.slice pcS exCs.length ccS) (.slice poS ([(⟨0, [0, 1], rp, rc⟩ : Cov)].length) coS) tl0).toArray, .int .i64 3]) (fun _ => by kernel_rfl) fun W hW => CoverOf_any exCs pcS ccS (by decide) [(⟨0, [0, 1], rp, rc⟩ : Cov)] poS coS (Nat.le_of_ble_eq_true rfl) tl0 3 W ((RL.base HCS.out) _ (hW.sub (fun _ h => by cases h))) ((RL.base HOS.out) _ (hW.sub (fun _ h => by cases h))) (HRS.out.keep hW.1) lrS) ?_
              refine lp (v := .bool (decide ((fiN (covOf exCs [(⟨0, [0, 1], rp, rc⟩ : Cov)] 3)) = 0))) rfl rfl (run_bin rfl (vx := (.int .i64 (fiN (covOf exCs [(⟨0, [0, 1], rp, rc⟩ : Cov)] 3)))) (vy := (.int .i64 0)) (by kernel_rfl) (by kernel_rfl) fun w => bi_eql rfl w) ?_
              refine lm (v := .bool (decide ((fiN (covOf exCs [(⟨0, [0, 1], rp, rc⟩ : Cov)] 3)) = 0))) rfl rfl ?_
              refine lm (v := .bool (decide ((fiN (covOf exCs [(⟨0, [0, 1], rp, rc⟩ : Cov)] 3)) = 0))) rfl rfl ?_
              cases hd7 : (decide ((fiN (covOf exCs [(⟨0, [0, 1], rp, rc⟩ : Cov)] 3)) = 0)) with
              | false =>
                have h7 : ¬ ((fiN (covOf exCs [(⟨0, [0, 1], rp, rc⟩ : Cov)] 3)) = 0) := of_decide_eq_false hd7
                clear hd7
                exact absurd (show (fiN (covOf exCs [(⟨0, [0, 1], rp, rc⟩ : Cov)] 3)) = 0 from by rfl) h7
              | true =>
                have h7 : (fiN (covOf exCs [(⟨0, [0, 1], rp, rc⟩ : Cov)] 3)) = 0 := of_decide_eq_true hd7
                clear hd7
                refine lv (v := .agg (shC (.slice pcS exCs.length ccS) (.slice poS ([(⟨0, [0, 1], rp, rc⟩ : Cov)].length) coS) tl0).toArray) rfl rfl (yb_load (n := 13) (off := 0) rfl (by kernel_rfl) (.head _) Try.underlying32 rfl (by kernel_rfl) (by first | (simp [Value.cells]; done) | exact Nat.le_of_ble_eq_true rfl) (by kernel_rfl)) ?_
                refine lv (v := .int .i64 (fiN (covOf exCs [(⟨0, [0, 1], rp, rc⟩ : Cov)] 4))) rfl rfl (yb_call (f := 12) (args := #[.agg (shC (.slice pcS exCs.length ccS) (.slice poS ([(⟨0, [0, 1], rp, rc⟩ : Cov)].length) coS) tl0).toArray, .int .i64 4]) (fun _ => by kernel_rfl) fun W hW => CoverOf_any exCs pcS ccS (by decide) [(⟨0, [0, 1], rp, rc⟩ : Cov)] poS coS (Nat.le_of_ble_eq_true rfl) tl0 4 W ((RL.base HCS.out) _ (hW.sub (fun _ h => by cases h))) ((RL.base HOS.out) _ (hW.sub (fun _ h => by cases h))) (HRS.out.keep hW.1) lrS) ?_
                refine lp (v := .bool (decide ((fiN (covOf exCs [(⟨0, [0, 1], rp, rc⟩ : Cov)] 4)) = (-1)))) rfl rfl (run_bin rfl (vx := (.int .i64 (fiN (covOf exCs [(⟨0, [0, 1], rp, rc⟩ : Cov)] 4)))) (vy := (.int .i64 (-1))) (by kernel_rfl) (by kernel_rfl) fun w => bi_eql rfl w) ?_
                refine lm (v := .bool (decide ((fiN (covOf exCs [(⟨0, [0, 1], rp, rc⟩ : Cov)] 4)) = (-1)))) rfl rfl ?_
                refine lm (v := .bool (decide ((fiN (covOf exCs [(⟨0, [0, 1], rp, rc⟩ : Cov)] 4)) = (-1)))) rfl rfl ?_
                cases hd8 : (decide ((fiN (covOf exCs [(⟨0, [0, 1], rp, rc⟩ : Cov)] 4)) = (-1))) with
                | false =>
                  have h8 : ¬ ((fiN (covOf exCs [(⟨0, [0, 1], rp, rc⟩ : Cov)] 4)) = (-1)) := of_decide_eq_false hd8
                  clear hd8
                  exact absurd (show (fiN (covOf exCs [(⟨0, [0, 1], rp, rc⟩ : Cov)] 4)) = (-1) from by rfl) h8
                | true =>
                  have h8 : (fiN (covOf exCs [(⟨0, [0, 1], rp, rc⟩ : Cov)] 4)) = (-1) := of_decide_eq_true hd8
                  clear hd8
                  refine lv (v := .agg (shC (.slice pcS exCs.length ccS) (.slice poS ([(⟨0, [0, 1], rp, rc⟩ : Cov)].length) coS) tl0).toArray) rfl rfl (yb_load (n := 13) (off := 0) rfl (by kernel_rfl) (.head _) Try.underlying32 rfl (by kernel_rfl) (by first | (simp [Value.cells]; done) | exact Nat.le_of_ble_eq_true rfl) (by kernel_rfl)) ?_
                  refine wpL_c (f := 14) (args := #[.agg (shC (.slice pcS exCs.length ccS) (.slice poS ([(⟨0, [0, 1], rp, rc⟩ : Cov)].length) coS) tl0).toArray, .int .i64 0]) (OutRL inC WB [(g1, .cells (shC (.slice pcS exCs.length ccS) (.slice poS ([(⟨0, [0, 1], rp, rc⟩ : Cov)].length) coS) tl0).toArray 32 (0, 0))] (alongX exCs [(⟨0, [0, 1], rp, rc⟩ : Cov)] 0 false)) rfl (by kernel_rfl) (fun _ => (by kernel_rfl)) (fun W hW => calls_r hW (Under_any exCs pcS ccS (by decide) [(⟨0, [0, 1], rp, rc⟩ : Cov)] poS coS (Nat.le_of_ble_eq_true rfl) tl0 0 W ((RL.base HCS.out) _ (hW.sub (fun _ h => by cases h))) ((RL.base HOS.out) _ (hW.sub (fun _ h => by cases h))) (HRS.out.keep hW.1) lrS)) (fun _ => by simp only [List.setIfInBounds_toArray, List.set_cons_succ, List.set_cons_zero] <;> rfl) ?_
                  rintro _ _ ⟨p2, c2, Kl2, rfl, n2, R2, N2, rfl⟩
                  obtain dj3_0 : Dk g1 Kl2 := by simpa only [dj_app_l, dj_app_r, dj_cons_l, dj_cons_r, dj_nil_l, dj_nil_r, dk_app, dk_cons, dk_nil, and_true, true_and, and_assoc] using (show Dj [(g1, .cells (shC (.slice pcS exCs.length ccS) (.slice poS ([(⟨0, [0, 1], rp, rc⟩ : Cov)].length) coS) tl0).toArray 32 (0, 0))] Kl2 from N2)
                  refine wpL_newg (fun g => .slice (some ⟨g, 0, none⟩) 2 2) (obi := .cells #[.int .i64 0, .int .i64 1] 3 (0, 0)) rfl (by kernel_rfl) (fun _ => by kernel_rfl) (fun _ => by simp only [List.setIfInBounds_toArray, List.set_cons_succ, List.set_cons_zero] <;> rfl) fun g4 Bg4 Fg4 => ?_
                  obtain ⟨dj5_0, dj5_1⟩ : g1 ≠ g4 ∧ Dk g4 Kl2 := by simpa only [dj_app_l, dj_app_r, dj_cons_l, dj_cons_r, dj_nil_l, dj_nil_r, dk_app, dk_cons, dk_nil, and_true, true_and, and_assoc] using (show Dk g4 ((g1, .cells (shC (.slice pcS exCs.length ccS) (.slice poS ([(⟨0, [0, 1], rp, rc⟩ : Cov)].length) coS) tl0).toArray 32 (0, 0)) :: Kl2) from Fg4)
                  refine lv (v := .bool (decide ((alongX exCs [(⟨0, [0, 1], rp, rc⟩ : Cov)] 0 false) = [0, 1]))) rfl rfl (yb_call (f := 16) (args := #[.slice p2 ((alongX exCs [(⟨0, [0, 1], rp, rc⟩ : Cov)] 0 false).length) c2, .slice (some ⟨g4, 0, none⟩) 2 2]) (fun _ => by kernel_rfl) fun W hW => SameInts_any (alongX exCs [(⟨0, [0, 1], rp, rc⟩ : Cov)] 0 false) [0, 1] p2 (some ⟨g4, 0, none⟩) c2 2 (Nat.le_of_ble_eq_true rfl) W (R2 _ (hW.sub (fun p hp => by simp only [List.mem_cons, List.mem_append, List.nil_append, List.not_mem_nil, or_assoc, or_false, false_or, hp, true_or, or_true]))) (blk_slv hW (.head _))) ?_
                  refine lm (v := .bool (decide ((alongX exCs [(⟨0, [0, 1], rp, rc⟩ : Cov)] 0 false) = [0, 1]))) rfl rfl ?_
                  refine lm (v := .bool (decide ((alongX exCs [(⟨0, [0, 1], rp, rc⟩ : Cov)] 0 false) = [0, 1]))) rfl rfl ?_
                  cases hd9 : (decide ((alongX exCs [(⟨0, [0, 1], rp, rc⟩ : Cov)] 0 false) = [0, 1])) with
                  | false =>
                    have h9 : ¬ ((alongX exCs [(⟨0, [0, 1], rp, rc⟩ : Cov)] 0 false) = [0, 1]) := of_decide_eq_false hd9
                    clear hd9
                    exact absurd (show (alongX exCs [(⟨0, [0, 1], rp, rc⟩ : Cov)] 0 false) = [0, 1] from by rfl) h9
                  | true =>
                    have h9 : (alongX exCs [(⟨0, [0, 1], rp, rc⟩ : Cov)] 0 false) = [0, 1] := of_decide_eq_true hd9
                    clear hd9
                    refine lv (v := .agg (shC (.slice pcS exCs.length ccS) (.slice poS ([(⟨0, [0, 1], rp, rc⟩ : Cov)].length) coS) tl0).toArray) rfl rfl (yb_load (n := 13) (off := 0) rfl (by kernel_rfl) (.tail _ (.head _)) Try.underlying32 rfl (by kernel_rfl) (by first | (simp [Value.cells]; done) | exact Nat.le_of_ble_eq_true rfl) (by kernel_rfl)) ?_
                    refine wpL_c (f := 15) (args := #[.agg (shC (.slice pcS exCs.length ccS) (.slice poS ([(⟨0, [0, 1], rp, rc⟩ : Cov)].length) coS) tl0).toArray, .int .i64 0]) (OutRL inC WB ((g4, .cells #[.int .i64 0, .int .i64 1] 3 (0, 0)) :: (g1, .cells (shC (.slice pcS exCs.length ccS) (.slice poS ([(⟨0, [0, 1], rp, rc⟩ : Cov)].length) coS) tl0).toArray 32 (0, 0)) :: Kl2) (alongX exCs [(⟨0, [0, 1], rp, rc⟩ : Cov)] 0 true)) rfl (by kernel_rfl) (fun _ => (by kernel_rfl)) (fun W hW => calls_r hW (Upon_any exCs pcS ccS (by decide) [(⟨0, [0, 1], rp, rc⟩ : Cov)] poS coS (Nat.le_of_ble_eq_true rfl) tl0 0 W ((RL.base HCS.out) _ (hW.sub (fun _ h => by cases h))) ((RL.base HOS.out) _ (hW.sub (fun _ h => by cases h))) (HRS.out.keep hW.1) lrS)) (fun _ => by simp only [List.setIfInBounds_toArray, List.set_cons_succ, List.set_cons_zero] <;> rfl) ?_
                    rintro _ _ ⟨p6, c6, Kl6, rfl, n6, R6, N6, rfl⟩
                    obtain ⟨dj7_0, dj7_1, dj7_2⟩ : Dk g4 Kl6 ∧ Dk g1 Kl6 ∧ Dj Kl2 Kl6 := by simpa only [dj_app_l, dj_app_r, dj_cons_l, dj_cons_r, dj_nil_l, dj_nil_r, dk_app, dk_cons, dk_nil, and_true, true_and, and_assoc] using (show Dj ((g4, .cells #[.int .i64 0, .int .i64 1] 3 (0, 0)) :: (g1, .cells (shC (.slice pcS exCs.length ccS) (.slice poS ([(⟨0, [0, 1], rp, rc⟩ : Cov)].length) coS) tl0).toArray 32 (0, 0)) :: Kl2) Kl6 from N6)
                    refine wpL_sub (K2 := ((g4, .cells #[.int .i64 0, .int .i64 1] 3 (0, 0)) :: (g1, .cells (shC (.slice pcS exCs.length ccS) (.slice poS ([(⟨0, [0, 1], rp, rc⟩ : Cov)].length) coS) tl0).toArray 32 (0, 0)) :: (Kl2 ++ Kl6))) (fun p hp => by simp only [List.mem_cons, List.mem_append, or_assoc] at hp ⊢; exact hp) ?_
                    refine wpL_newg (fun g => .slice (some ⟨g, 0, none⟩) 2 2) (obi := .cells #[.int .i64 2, .int .i64 3] 3 (0, 0)) rfl (by kernel_rfl) (fun _ => by kernel_rfl) (fun _ => by simp only [List.setIfInBounds_toArray, List.set_cons_succ, List.set_cons_zero] <;> rfl) fun g8 Bg8 Fg8 => ?_
                    obtain ⟨dj9_0, dj9_1, dj9_2, dj9_3⟩ : g4 ≠ g8 ∧ g1 ≠ g8 ∧ Dk g8 Kl2 ∧ Dk g8 Kl6 := by simpa only [dj_app_l, dj_app_r, dj_cons_l, dj_cons_r, dj_nil_l, dj_nil_r, dk_app, dk_cons, dk_nil, and_true, true_and, and_assoc] using (show Dk g8 ((g4, .cells #[.int .i64 0, .int .i64 1] 3 (0, 0)) :: (g1, .cells (shC (.slice pcS exCs.length ccS) (.slice poS ([(⟨0, [0, 1], rp, rc⟩ : Cov)].length) coS) tl0).toArray 32 (0, 0)) :: (Kl2 ++ Kl6)) from Fg8)
                    refine lv (v := .bool (decide ((alongX exCs [(⟨0, [0, 1], rp, rc⟩ : Cov)] 0 true) = [2, 3]))) rfl rfl (yb_call (f := 16) (args := #[.slice p6 ((alongX exCs [(⟨0, [0, 1], rp, rc⟩ : Cov)] 0 true).length) c6, .slice (some ⟨g8, 0, none⟩) 2 2]) (fun _ => by kernel_rfl) fun W hW => SameInts_any (alongX exCs [(⟨0, [0, 1], rp, rc⟩ : Cov)] 0 true) [2, 3] p6 (some ⟨g8, 0, none⟩) c6 2 (Nat.le_of_ble_eq_true rfl) W (R6 _ (hW.sub (fun p hp => by simp only [List.mem_cons, List.mem_append, List.nil_append, List.not_mem_nil, or_assoc, or_false, false_or, hp, true_or, or_true]))) (blk_slv hW (.head _))) ?_
                    refine lm (v := .bool (decide ((alongX exCs [(⟨0, [0, 1], rp, rc⟩ : Cov)] 0 true) = [2, 3]))) rfl rfl ?_
                    refine lm (v := .bool (decide ((alongX exCs [(⟨0, [0, 1], rp, rc⟩ : Cov)] 0 true) = [2, 3]))) rfl rfl ?_
                    cases hd10 : (decide ((alongX exCs [(⟨0, [0, 1], rp, rc⟩ : Cov)] 0 true) = [2, 3])) with
                    | false =>
                      have h10 : ¬ ((alongX exCs [(⟨0, [0, 1], rp, rc⟩ : Cov)] 0 true) = [2, 3]) := of_decide_eq_false hd10
                      clear hd10
                      exact absurd (show (alongX exCs [(⟨0, [0, 1], rp, rc⟩ : Cov)] 0 true) = [2, 3] from by rfl) h10
                    | true =>
                      have h10 : (alongX exCs [(⟨0, [0, 1], rp, rc⟩ : Cov)] 0 true) = [2, 3] := of_decide_eq_true hd10
                      clear hd10
                      refine lv (v := .agg (shC (.slice pcS exCs.length ccS) (.slice poS ([(⟨0, [0, 1], rp, rc⟩ : Cov)].length) coS) tl0).toArray) rfl rfl (yb_load (n := 13) (off := 0) rfl (by kernel_rfl) (.tail _ (.tail _ (.head _))) Try.underlying32 rfl (by kernel_rfl) (by first | (simp [Value.cells]; done) | exact Nat.le_of_ble_eq_true rfl) (by kernel_rfl)) ?_
                      refine wpL_c (f := 25) (args := #[.agg (shC (.slice pcS exCs.length ccS) (.slice poS ([(⟨0, [0, 1], rp, rc⟩ : Cov)].length) coS) tl0).toArray, .int .i64 0]) (OutRL inC WB ((g8, .cells #[.int .i64 2, .int .i64 3] 3 (0, 0)) :: (g4, .cells #[.int .i64 0, .int .i64 1] 3 (0, 0)) :: (g1, .cells (shC (.slice pcS exCs.length ccS) (.slice poS ([(⟨0, [0, 1], rp, rc⟩ : Cov)].length) coS) tl0).toArray 32 (0, 0)) :: (Kl2 ++ Kl6)) (besideX exCs 0)) rfl (by kernel_rfl) (fun _ => (by kernel_rfl)) (fun W hW => calls_r hW (Beside_any exCs pcS ccS (by decide) [(⟨0, [0, 1], rp, rc⟩ : Cov)] poS coS (Nat.le_of_ble_eq_true rfl) tl0 0 W ((RL.base HCS.out) _ (hW.sub (fun _ h => by cases h))) ((RL.base HOS.out) _ (hW.sub (fun _ h => by cases h))))) (fun _ => by simp only [List.setIfInBounds_toArray, List.set_cons_succ, List.set_cons_zero] <;> rfl) ?_
                      rintro _ _ ⟨p10, c10, Kl10, rfl, n10, R10, N10, rfl⟩
                      obtain ⟨dj11_0, dj11_1, dj11_2, dj11_3, dj11_4⟩ : Dk g8 Kl10 ∧ Dk g4 Kl10 ∧ Dk g1 Kl10 ∧ Dj Kl2 Kl10 ∧ Dj Kl6 Kl10 := by simpa only [dj_app_l, dj_app_r, dj_cons_l, dj_cons_r, dj_nil_l, dj_nil_r, dk_app, dk_cons, dk_nil, and_true, true_and, and_assoc] using (show Dj ((g8, .cells #[.int .i64 2, .int .i64 3] 3 (0, 0)) :: (g4, .cells #[.int .i64 0, .int .i64 1] 3 (0, 0)) :: (g1, .cells (shC (.slice pcS exCs.length ccS) (.slice poS ([(⟨0, [0, 1], rp, rc⟩ : Cov)].length) coS) tl0).toArray 32 (0, 0)) :: (Kl2 ++ Kl6)) Kl10 from N10)
                      refine wpL_sub (K2 := ((g8, .cells #[.int .i64 2, .int .i64 3] 3 (0, 0)) :: (g4, .cells #[.int .i64 0, .int .i64 1] 3 (0, 0)) :: (g1, .cells (shC (.slice pcS exCs.length ccS) (.slice poS ([(⟨0, [0, 1], rp, rc⟩ : Cov)].length) coS) tl0).toArray 32 (0, 0)) :: (Kl2 ++ (Kl6 ++ Kl10)))) (fun p hp => by simp only [List.mem_cons, List.mem_append, or_assoc] at hp ⊢; exact hp) ?_
                      refine wpL_newg (fun g => .slice (some ⟨g, 0, none⟩) 1 1) (obi := .cells #[.int .i64 1] 3 (0, 0)) rfl (by kernel_rfl) (fun _ => by kernel_rfl) (fun _ => by simp only [List.setIfInBounds_toArray, List.set_cons_succ, List.set_cons_zero] <;> rfl) fun g12 Bg12 Fg12 => ?_
                      obtain ⟨dj13_0, dj13_1, dj13_2, dj13_3, dj13_4, dj13_5⟩ : g8 ≠ g12 ∧ g4 ≠ g12 ∧ g1 ≠ g12 ∧ Dk g12 Kl2 ∧ Dk g12 Kl6 ∧ Dk g12 Kl10 := by simpa only [dj_app_l, dj_app_r, dj_cons_l, dj_cons_r, dj_nil_l, dj_nil_r, dk_app, dk_cons, dk_nil, and_true, true_and, and_assoc] using (show Dk g12 ((g8, .cells #[.int .i64 2, .int .i64 3] 3 (0, 0)) :: (g4, .cells #[.int .i64 0, .int .i64 1] 3 (0, 0)) :: (g1, .cells (shC (.slice pcS exCs.length ccS) (.slice poS ([(⟨0, [0, 1], rp, rc⟩ : Cov)].length) coS) tl0).toArray 32 (0, 0)) :: (Kl2 ++ (Kl6 ++ Kl10))) from Fg12)
                      refine lv (v := .bool (decide ((besideX exCs 0) = [1]))) rfl rfl (yb_call (f := 16) (args := #[.slice p10 ((besideX exCs 0).length) c10, .slice (some ⟨g12, 0, none⟩) 1 1]) (fun _ => by kernel_rfl) fun W hW => SameInts_any (besideX exCs 0) [1] p10 (some ⟨g12, 0, none⟩) c10 1 (Nat.le_of_ble_eq_true rfl) W (R10 _ (hW.sub (fun p hp => by simp only [List.mem_cons, List.mem_append, List.nil_append, List.not_mem_nil, or_assoc, or_false, false_or, hp, true_or, or_true]))) (blk_slv hW (.head _))) ?_
                      refine lm (v := .bool (decide ((besideX exCs 0) = [1]))) rfl rfl ?_
                      refine lm (v := .bool (decide ((besideX exCs 0) = [1]))) rfl rfl ?_
                      cases hd11 : (decide ((besideX exCs 0) = [1])) with
                      | false =>
                        have h11 : ¬ ((besideX exCs 0) = [1]) := of_decide_eq_false hd11
                        clear hd11
                        exact absurd (show (besideX exCs 0) = [1] from by rfl) h11
                      | true =>
                        have h11 : (besideX exCs 0) = [1] := of_decide_eq_true hd11
                        clear hd11
                        refine lv (v := .agg (shC (.slice pcS exCs.length ccS) (.slice poS ([(⟨0, [0, 1], rp, rc⟩ : Cov)].length) coS) tl0).toArray) rfl rfl (yb_load (n := 13) (off := 0) rfl (by kernel_rfl) (.tail _ (.tail _ (.tail _ (.head _)))) Try.underlying32 rfl (by kernel_rfl) (by first | (simp [Value.cells]; done) | exact Nat.le_of_ble_eq_true rfl) (by kernel_rfl)) ?_
                        refine lv (v := .int .i64 (tallX exCs)) rfl rfl (yb_call (f := 18) (args := #[.agg (shC (.slice pcS exCs.length ccS) (.slice poS ([(⟨0, [0, 1], rp, rc⟩ : Cov)].length) coS) tl0).toArray]) (fun _ => by kernel_rfl) fun W hW => Tallest_any exCs pcS ccS (by decide) [(⟨0, [0, 1], rp, rc⟩ : Cov)] poS coS (Nat.le_of_ble_eq_true rfl) tl0 W ((RL.base HCS.out) _ (hW.sub (fun _ h => by cases h))) ((RL.base HOS.out) _ (hW.sub (fun _ h => by cases h)))) ?_
                        refine lp (v := .bool (decide ((tallX exCs) = 4))) rfl rfl (run_bin rfl (vx := (.int .i64 (tallX exCs))) (vy := (.int .i64 4)) (by kernel_rfl) (by kernel_rfl) fun w => bi_eql rfl w) ?_
                        refine lm (v := .bool (decide ((tallX exCs) = 4))) rfl rfl ?_
                        refine lm (v := .bool (decide ((tallX exCs) = 4))) rfl rfl ?_
                        cases hd12 : (decide ((tallX exCs) = 4)) with
                        | false =>
                          have h12 : ¬ ((tallX exCs) = 4) := of_decide_eq_false hd12
                          clear hd12
                          exact absurd (show (tallX exCs) = 4 from by rfl) h12
                        | true =>
                          have h12 : (tallX exCs) = 4 := of_decide_eq_true hd12
                          clear hd12
                          refine lv (v := .agg (shC (.slice pcS exCs.length ccS) (.slice poS ([(⟨0, [0, 1], rp, rc⟩ : Cov)].length) coS) tl0).toArray) rfl rfl (yb_load (n := 13) (off := 0) rfl (by kernel_rfl) (.tail _ (.tail _ (.tail _ (.head _)))) Try.underlying32 rfl (by kernel_rfl) (by first | (simp [Value.cells]; done) | exact Nat.le_of_ble_eq_true rfl) (by kernel_rfl)) ?_
                          refine lv (v := .int .i64 (placesX exCs)) rfl rfl (yb_call (f := 20) (args := #[.agg (shC (.slice pcS exCs.length ccS) (.slice poS ([(⟨0, [0, 1], rp, rc⟩ : Cov)].length) coS) tl0).toArray]) (fun _ => by kernel_rfl) fun W hW => Places_any exCs pcS ccS (by decide) [(⟨0, [0, 1], rp, rc⟩ : Cov)] poS coS (Nat.le_of_ble_eq_true rfl) tl0 W ((RL.base HCS.out) _ (hW.sub (fun _ h => by cases h))) ((RL.base HOS.out) _ (hW.sub (fun _ h => by cases h)))) ?_
                          refine lp (v := .bool (decide ((placesX exCs) = 28))) rfl rfl (run_bin rfl (vx := (.int .i64 (placesX exCs))) (vy := (.int .i64 28)) (by kernel_rfl) (by kernel_rfl) fun w => bi_eql rfl w) ?_
                          refine lm (v := .bool (decide ((placesX exCs) = 28))) rfl rfl ?_
                          refine lm (v := .bool (decide ((placesX exCs) = 28))) rfl rfl ?_
                          refine wpL_done (fun W5 hW5 => ?_)
                          refine (show Code.wp _ _ _ _ _ from ?_)
                          refine wp_ret ?_
                          try simp only [inBlock_ret, then_ret]
                          refine bodyPost_ret (v := .bool (decide ((placesX exCs) = 28))) ?_ rfl ?_
                          · kernel_rfl
                          · exact ⟨rfl, (hWB.1.trans (hW5.1.mono hWB.1.size))⟩
end Go.Proofs.Ythpooalhibedpaa
/- Ships that are built from places and bits: plain data. -/
namespace Go.Proofs.Ythpooalhibedpaa
open Go Go.RowKit Tw
structure Pl where
  bay : Nat
  row : Nat
  tiers : Nat
  deck : Bool
def plC (p : Pl) : List Value := [.int .u8 ((p.bay : Nat) : Int), .int .u8 ((p.row : Nat) : Int), .int .u8 ((p.tiers : Nat) : Int), .bool p.deck]
def plOk (p : Pl) : Prop := p.bay ≤ 255 ∧ p.row ≤ 255 ∧ p.tiers ≤ 255
theorem plC_len (p : Pl) : (plC p).length = 4 := rfl
theorem plC_one (p : Pl) : ∀ v ∈ plC p, v.oneCell' = true := fun v hv => by
  unfold plC at hv
  simp only [List.mem_cons, List.not_mem_nil, or_false] at hv
  rcases hv with rfl | rfl | rfl | rfl <;> rfl
def colD (p : Pl) (d : Bool) : Col := ⟨((p.bay % 5 : Nat) : Int), ((p.row % 5 : Nat) : Int), d, ((2 + p.tiers % 4 : Nat) : Int), 0, 500000000, 500000000, 0, [], none, 0, ((13000 * (p.bay % 5) : Nat) : Int) - 26000, ((2500 * (p.row % 5) : Nat) : Int) - 5000, if d = true then 20000 else 2000⟩
def colOf (p : Pl) : Col := colD p p.deck
def col1 : Col := ⟨0, 0, false, 3, 0, 500000000, 500000000, 0, [], none, 0, 0, 0, 2000⟩
def addC (cs : List Col) (c : Col) : List Col := if (fst (isAt c.bay c.row c.deck) cs).isSome = true then cs else cs ++ [c]
def bld (l : List Pl) : List Col := l.foldl (fun cs p => addC cs (colOf p)) []
theorem bld_snoc {l : List Pl} {k : Nat} {p : Pl} (h : l[k]? = some p) : bld (l.take (k + 1)) = addC (bld (l.take k)) (colOf p) := by
  obtain ⟨hk, rfl⟩ := List.getElem?_eq_some_iff.1 h
  unfold bld
  rw [List.take_succ_eq_append_getElem hk, List.foldl_append]; rfl
def builtC (l : List Pl) : List Col := if (bld (l.take (min l.length 12))).length = 0 then [col1] else bld (l.take (min l.length 12))
def bitO (n i : Nat) : Bool := decide (n / 2 ^ i % 2 = 1)
def covAt (n i : Nat) : List (Int × List Int) := (if bitO n (2 * i) = true then [(((i : Nat) : Int), [0, 1])] else []) ++ (if bitO n (2 * i + 1) = true then [(((i : Nat) : Int), [2, 3, 4])] else [])
def covTo (n : Nat) : Nat → List (Int × List Int)
  | 0 => []
  | i + 1 => covTo n i ++ covAt n i
def builtO (n : Nat) : List (Int × List Int) := covTo n 5
theorem covAt_len (n i : Nat) : (covAt n i).length ≤ 2 := by
  unfold covAt
  rw [List.length_append]
  split <;> split <;> simp
theorem covTo_len (n : Nat) : ∀ i, (covTo n i).length ≤ 2 * i
  | 0 => Nat.le_refl _
  | i + 1 => by
    have h1 := covTo_len n i
    have h2 := covAt_len n i
    show (covTo n i ++ covAt n i).length ≤ _
    rw [List.length_append]; omega
theorem bld_len (l : List Pl) : (bld l).length ≤ l.length := by
  have key : ∀ (l : List Pl) (cs : List Col), (l.foldl (fun cs p => addC cs (colOf p)) cs).length ≤ cs.length + l.length := by
    intro l
    induction l with
    | nil => intro cs; exact Nat.le_refl _
    | cons p l ih =>
      intro cs
      have h1 := ih (addC cs (colOf p))
      have h2 : (addC cs (colOf p)).length ≤ cs.length + 1 := by
        unfold addC
        split
        · omega
        · rw [List.length_append]; exact Nat.le_refl _
      rw [List.foldl_cons, List.length_cons]; omega
  simpa [bld] using key l []
theorem built_len (l : List Pl) : 0 < (builtC l).length ∧ (builtC l).length ≤ 12 := by
  unfold builtC
  split
  · exact ⟨by simp, by simp⟩
  · rename_i h
    have h1 := bld_len (l.take (min l.length 12))
    rw [List.length_take] at h1
    omega
theorem builtO_len (n : Nat) : (builtO n).length ≤ 10 := covTo_len n 5
section
variable {cs : List Col} {p : Pl} {d : Bool}
theorem add_yes (h : p.deck = d) (hf : (fst (isAt ((p.bay % 5 : Nat) : Int) ((p.row % 5 : Nat) : Int) d) cs).isSome = true) : addC cs (colOf p) = cs := by
  subst h
  exact if_pos hf
theorem add_no (h : p.deck = d) (hf : (fst (isAt ((p.bay % 5 : Nat) : Int) ((p.row % 5 : Nat) : Int) d) cs).isSome = false) : addC cs (colOf p) = cs ++ [colD p d] := by
  subst h
  exact if_neg (by rw [show (colOf p).bay = ((p.bay % 5 : Nat) : Int) from rfl, show (colOf p).row = ((p.row % 5 : Nat) : Int) from rfl, show (colOf p).deck = p.deck from rfl, hf]; simp)
end
section
variable {n i : Nat}
theorem cov_00 (h : ¬ (n / 2 ^ (2 * i) % 2 = 1)) (h2 : ¬ (n / 2 ^ (2 * i + 1) % 2 = 1)) : covTo n (i + 1) = covTo n i := by
  show covTo n i ++ covAt n i = _
  simp [covAt, bitO, h, h2]
theorem cov_10 (h : n / 2 ^ (2 * i) % 2 = 1) (h2 : ¬ (n / 2 ^ (2 * i + 1) % 2 = 1)) : covTo n (i + 1) = covTo n i ++ [(((i : Nat) : Int), [0, 1])] := by
  show covTo n i ++ covAt n i = _
  simp [covAt, bitO, h, h2]
theorem cov_01 (h : ¬ (n / 2 ^ (2 * i) % 2 = 1)) (h2 : n / 2 ^ (2 * i + 1) % 2 = 1) : covTo n (i + 1) = covTo n i ++ [(((i : Nat) : Int), [2, 3, 4])] := by
  show covTo n i ++ covAt n i = _
  simp [covAt, bitO, h, h2]
theorem cov_11 (h : n / 2 ^ (2 * i) % 2 = 1) (h2 : n / 2 ^ (2 * i + 1) % 2 = 1) : covTo n (i + 1) = covTo n i ++ [(((i : Nat) : Int), [0, 1]), (((i : Nat) : Int), [2, 3, 4])] := by
  show covTo n i ++ covAt n i = _
  simp [covAt, bitO, h, h2]
end
theorem own_app {α : Type} {cells : α → List Value} {sz : Nat} {W0 : Base} {E : TypeId} {v : Value} {n : Nat} {l' : List α} {xs : List Value} {K : List (Nat × Obj)} (h : OwnL W0 E sz v n xs K) (e : xs = l'.flatMap cells) (e2 : n = l'.length) : OwnL W0 E sz v l'.length (l'.flatMap cells) K := by
  subst e e2; exact h
theorem el_col : Elem Try.prog 22 49 12 112 (.agg #[.int .i64 0, .int .i64 0, .bool false, .int .i64 0, .int .i64 0, .int .i64 0, .int .i64 0, .int .i64 0, .slice none 0 0, .int .i64 0, .int .i64 0, .int .i64 0]) := Elem.mk' Try.underlying22 (by kernel_rfl) rfl
theorem el_cov : Elem Try.prog 23 51 2 32 (.agg #[.int .i64 0, .slice none 0 0]) := Elem.mk' Try.underlying23 (by kernel_rfl) rfl
theorem bn_and {P : Program} {T : TypeId} {px py : Operand} {k : IntKind} {x y z : Nat} (h : x &&& y = z) (hx : x < 2 ^ k.bits) (hy : y < 2 ^ k.bits) (hw : k.wrap (z : Int) = (z : Int)) (w : World) : (do eqGuard .and T px py (.int k (x : Int)) (.int k (y : Int)); binOp .and T (.int k (x : Int)) (.int k (y : Int)) : Sem Value).run P w = .ok (.int k (z : Int)) w := by
  simp [eqGuard, binOp, Op.intBits]
  rw [Nat.mod_eq_of_lt hx, Nat.mod_eq_of_lt hy, h, hw]
theorem rw_snoc {W : World} {os : List Cov} {o : Cov} (h : RwR W os) (h2 : SLV W o.rp (o.rows.flatMap inC)) : RwR W (os ++ [o]) := fun x hx => by
  rcases List.mem_append.1 hx with hx | hx
  · exact h x hx
  · cases List.mem_singleton.1 hx; exact h2
theorem rw_nil {W : World} : RwR W [] := fun _ h => by cases h
end Go.Proofs.Ythpooalhibedpaa
/- What ships that are built are: plain facts. -/
namespace Go.Proofs.Ythpooalhibedpaa
open Go Go.RowKit Tw
def Good (cs : List Col) : Prop := (∀ c ∈ cs, colX c = true ∧ c.plugs = []) ∧ (cs.map placeX).Nodup
theorem colx_in {c : Col} (h : colX c = true) : 0 ≤ c.bay ∧ c.bay ≤ 39 ∧ 0 ≤ c.row ∧ c.row ≤ 30 ∧ 1 ≤ c.tiers ∧ c.tiers ≤ 10 := by
  unfold colX rangesX at h
  simp only [rgsX, Bool.and_eq_true, Bool.not_eq_true', decide_eq_false_iff_not] at h
  omega
theorem colD_x (p : Pl) (d : Bool) : colX (colD p d) = true := by
  have h1 := Nat.mod_lt p.bay (show 0 < 5 by omega)
  have h2 := Nat.mod_lt p.row (show 0 < 5 by omega)
  have h3 := Nat.mod_lt p.tiers (show 0 < 4 by omega)
  unfold colX rangesX colD
  cases d <;> simp [rgsX, incX, incF] <;> omega
theorem isAt_place {b r : Int} {d : Bool} {c : Col} : isAt b r d c = true ↔ placeX c = (b, r, if d = true then 1 else 0) := by
  unfold isAt placeX
  cases d <;> cases hc : c.deck <;> simp [Bool.and_eq_true, Prod.ext_iff]
theorem add_good {cs : List Col} {p : Pl} (h : Good cs) : Good (addC cs (colOf p)) := by
  unfold addC
  split
  · exact h
  · rename_i hf
    refine ⟨fun c hc => ?_, ?_⟩
    · rcases List.mem_append.1 hc with hc | hc
      · exact h.1 c hc
      · cases List.mem_singleton.1 hc; exact ⟨colD_x _ _, rfl⟩
    · rw [List.map_append, List.nodup_append]
      refine ⟨h.2, by simp, fun x hx y hy => ?_⟩
      obtain ⟨c, hc, rfl⟩ := List.mem_map.1 hx
      have hy : y = placeX (colOf p) := by simpa using hy
      subst hy
      intro e
      apply hf
      have : isAt (colOf p).bay (colOf p).row (colOf p).deck c = true := isAt_place.2 e
      cases hh : fst (isAt (colOf p).bay (colOf p).row (colOf p).deck) cs with
      | some k => rfl
      | none => rw [fst_none hh c hc] at this; cases this
theorem bld_good (l : List Pl) : Good (bld l) := by
  have key : ∀ (l : List Pl) (cs : List Col), Good cs → Good (l.foldl (fun cs p => addC cs (colOf p)) cs) := by
    intro l
    induction l with
    | nil => intro cs h; exact h
    | cons p l ih => intro cs h; exact ih _ (add_good h)
  exact key l [] ⟨fun c hc => (by cases hc), by simp⟩
theorem built_good (l : List Pl) : Good (builtC l) := by
  unfold builtC
  split
  · exact ⟨fun c hc => by cases List.mem_singleton.1 hc; exact ⟨by decide, rfl⟩, by simp⟩
  · exact bld_good _
section
variable {cs : List Col}
theorem good_at (h : Good cs) {i : Nat} (hi : i < cs.length) : ∃ c, cs[i]? = some c ∧ colX c = true := ⟨cs[i], List.getElem?_eq_getElem hi, (h.1 _ (List.getElem_mem hi)).1⟩
theorem good_inj (h : Good cs) {i j : Nat} {a b : Col} (ha : cs[i]? = some a) (hb : cs[j]? = some b) (he : placeX a = placeX b) : i = j := by
  have h1 : (cs.map placeX)[i]? = some (placeX a) := by rw [List.getElem?_map, ha]; rfl
  have h2 : (cs.map placeX)[j]? = some (placeX a) := by rw [List.getElem?_map, hb, he]; rfl
  have hi := (List.getElem?_eq_some_iff.1 h1).1
  exact (List.getElem?_inj hi h.2).1 (h1.trans h2.symm)
theorem place_eq {a b : Col} (h1 : a.bay = b.bay) (h2 : a.row = b.row) (h3 : a.deck = b.deck) : placeX a = placeX b := by unfold placeX; rw [h1, h2, h3]
theorem idxF_ge {α : Type} {P : α → Bool} {l : List α} : ∀ {i : Nat}, ∀ x ∈ idxF P i l, ((i : Nat) : Int) ≤ x := by
  induction l with
  | nil => intro i x hx; cases hx
  | cons y l ih =>
    intro i x hx
    unfold idxF at hx
    split at hx
    · rcases List.mem_cons.1 hx with rfl | hx
      · omega
      · have := ih x hx; omega
    · have := ih x hx; omega
theorem idxF_pw {α : Type} {P : α → Bool} {l : List α} : ∀ {i : Nat}, (idxF P i l).Pairwise (· < ·) := by
  induction l with
  | nil => intro i; exact List.Pairwise.nil
  | cons y l ih =>
    intro i
    unfold idxF
    split
    · refine List.Pairwise.cons (fun x hx => ?_) ih
      have := idxF_ge x hx; omega
    · exact ih
theorem el_nat {α : Type} {d : α} {l : List α} {i : Nat} {y : α} (hy : l[i]? = some y) : elB l ((i : Nat) : Int) = true ∧ elC d l ((i : Nat) : Int) = y := el_in (by omega) (by simpa using hy)
theorem diff_in {a b : Int} (ha : 0 ≤ a ∧ a ≤ 39) (hb : 0 ≤ b ∧ b ≤ 39) : diffX a b = max a b - min a b := wi_i64 (by omega)
theorem bes_is {i : Nat} {c : Col} (hc : cs[i]? = some c) : besideX cs ((i : Nat) : Int) = idx (besideB c) cs := by
  obtain ⟨h1, h2⟩ := el_nat (d := col0) hc
  unfold besideX
  rw [h1, h2]; rfl
theorem bes_b (h : Good cs) {i j : Nat} {c y : Col} (hc : cs[i]? = some c) (hy : cs[j]? = some y) : besideB c y = true ↔ y.bay = c.bay ∧ y.deck = c.deck ∧ (y.row = c.row + 1 ∨ y.row = c.row - 1) := by
  have h1 := colx_in (h.1 c (List.mem_of_getElem? hc)).1
  have h2 := colx_in (h.1 y (List.mem_of_getElem? hy)).1
  unfold besideB
  rw [diff_in (by omega) (by omega)]
  simp only [Bool.and_eq_true, decide_eq_true_eq, beq_iff_eq]
  constructor
  · rintro ⟨h3, h4, h5⟩; exact ⟨h3, h4, by omega⟩
  · rintro ⟨h3, h4, h5⟩; exact ⟨h3, h4, by omega⟩
theorem bes_mem (h : Good cs) {i : Nat} {c : Col} {x : Int} (hc : cs[i]? = some c) : x ∈ besideX cs ((i : Nat) : Int) ↔ ∃ (j : Nat) (y : Col), x = ((j : Nat) : Int) ∧ cs[j]? = some y ∧ y.bay = c.bay ∧ y.deck = c.deck ∧ (y.row = c.row + 1 ∨ y.row = c.row - 1) := by
  rw [bes_is hc, idx_mem]
  constructor
  · rintro ⟨j, y, h1, h2, h3⟩; exact ⟨j, y, h1, h2, (bes_b h hc h2).1 h3⟩
  · rintro ⟨j, y, h1, h2, h3⟩; exact ⟨j, y, h1, h2, (bes_b h hc h2).2 h3⟩
theorem bes_len (h : Good cs) {i : Nat} (hi : i < cs.length) : (besideX cs ((i : Nat) : Int)).length ≤ 2 := by
  obtain ⟨c, hc, _⟩ := good_at h hi
  have hm := fun x => bes_mem (x := x) h hc
  have hp : (besideX cs ((i : Nat) : Int)).Pairwise (· < ·) := by rw [bes_is hc]; exact idxF_pw
  generalize besideX cs ((i : Nat) : Int) = L at hm hp ⊢
  rcases L with _ | ⟨x, _ | ⟨y, _ | ⟨z, L⟩⟩⟩
  · simp
  · simp
  · simp
  · exfalso
    simp only [List.pairwise_cons, List.mem_cons] at hp
    have hxy : x < y := hp.1 y (.inl rfl)
    have hxz : x < z := hp.1 z (.inr (.inl rfl))
    have hyz : y < z := hp.2.1 z (.inl rfl)
    obtain ⟨j1, c1, rfl, e1, b1, d1, r1⟩ := (hm x).1 (.head _)
    obtain ⟨j2, c2, rfl, e2, b2, d2, r2⟩ := (hm y).1 (.tail _ (.head _))
    obtain ⟨j3, c3, rfl, e3, b3, d3, r3⟩ := (hm z).1 (.tail _ (.tail _ (.head _)))
    have key : c1.row = c2.row ∨ c1.row = c3.row ∨ c2.row = c3.row := by omega
    rcases key with k | k | k
    · have := good_inj h e1 e2 (place_eq (b1.trans b2.symm) k (d1.trans d2.symm)); omega
    · have := good_inj h e1 e3 (place_eq (b1.trans b3.symm) k (d1.trans d3.symm)); omega
    · have := good_inj h e2 e3 (place_eq (b2.trans b3.symm) k (d2.trans d3.symm)); omega
theorem ap_is (h : Good cs) {i j : Nat} {a b : Col} (ha : cs[i]? = some a) (hb : cs[j]? = some b) : apB cs ((i : Nat) : Int) ((j : Nat) : Int) = true ∧ apN cs ((i : Nat) : Int) ((j : Nat) : Int) = max a.bay b.bay - min a.bay b.bay := by
  have h1 := colx_in (h.1 a (List.mem_of_getElem? ha)).1
  have h2 := colx_in (h.1 b (List.mem_of_getElem? hb)).1
  obtain ⟨e1, e2⟩ := el_nat (d := col0) ha
  obtain ⟨e3, e4⟩ := el_nat (d := col0) hb
  have hB : apB cs ((i : Nat) : Int) ((j : Nat) : Int) = true := by
    unfold apB bayB
    rw [e1, e2, e3, e4]
    simp only [Bool.true_and, Bool.and_eq_true, Bool.not_eq_true', decide_eq_false_iff_not]
    omega
  refine ⟨hB, ?_⟩
  unfold apN bayN
  rw [hB, e2, e4]
  exact diff_in (by omega) (by omega)
theorem bes_at (h : Good cs) {i k : Nat} {x : Int} (hi : i < cs.length) (hx : (besideX cs ((i : Nat) : Int))[k]? = some x) : ∃ j : Nat, x = ((j : Nat) : Int) ∧ j < cs.length ∧ j ≠ i ∧ apB cs ((i : Nat) : Int) ((j : Nat) : Int) = true ∧ apN cs ((i : Nat) : Int) ((j : Nat) : Int) = 0 ∧ ((i : Nat) : Int) ∈ besideX cs ((j : Nat) : Int) := by
  obtain ⟨c, hc, _⟩ := good_at h hi
  obtain ⟨j, y, rfl, hy, b, d, r⟩ := (bes_mem h hc).1 (List.mem_of_getElem? hx)
  obtain ⟨a1, a2⟩ := ap_is h hc hy
  refine ⟨j, rfl, (List.getElem?_eq_some_iff.1 hy).1, ?_, a1, by omega, (bes_mem h hy).2 ⟨i, c, rfl, hc, b.symm, d.symm, by omega⟩⟩
  rintro rfl
  rw [hc] at hy
  cases hy
  omega
-- what makes a ship right
theorem cols_iff {cs : List Col} : ∀ {L : List I3}, colsF L cs = true ↔ (∀ c ∈ cs, colX c = true) ∧ (cs.map placeX).Nodup ∧ ∀ c ∈ cs, placeX c ∉ L := by
  induction cs with
  | nil => intro L; simp [colsF]
  | cons c cs ih =>
    intro L
    show (colX c && (!decide (placeX c ∈ L) && colsF (L ++ [placeX c]) cs)) = true ↔ _
    simp only [Bool.and_eq_true, Bool.not_eq_true', decide_eq_false_iff_not, ih, List.mem_cons, forall_eq_or_imp, List.map_cons, List.nodup_cons, List.mem_append, List.mem_map, List.not_mem_nil, or_false, not_or]
    constructor
    · rintro ⟨h1, h2, h3, h4, h5⟩
      exact ⟨⟨h1, h3⟩, ⟨fun ⟨d, hd, he⟩ => (h5 d hd).2 he, h4⟩, h2, fun d hd => (h5 d hd).1⟩
    · rintro ⟨⟨h1, h3⟩, ⟨h6, h4⟩, h2, h5⟩
      exact ⟨h1, h2, h3, h4, fun d hd => ⟨h5 d hd, fun he => h6 ⟨d, hd, he⟩⟩⟩
theorem cols_good (h : Good cs) (h0 : 0 < cs.length) (h2 : cs.length ≤ 200) : colsX cs = true := by
  unfold colsX
  rw [decide_eq_false (by omega), decide_eq_false (by omega)]
  exact cols_iff.2 ⟨fun c hc => (h.1 c hc).1, h.2, fun _ _ h => by cases h⟩
theorem good_sub {l : List Col} (h : Good cs) (hs : l.Sublist cs) : Good l := ⟨fun c hc => h.1 c (hs.subset hc), (hs.map placeX).nodup h.2⟩
end
def keysO (os : List (Int × List Int)) : List I2 := os.flatMap fun o => o.2.map fun r => (o.1, r)
def ovP (o : Int × List Int) : Bool := decide (0 ≤ o.1) && (decide (o.1 ≤ 39) && (decide (0 < o.2.length) && incX o.2 30))
theorem fresh_iff {bay : Int} {l : List Int} : ∀ {L : List I2}, freshF bay L l = true ↔ l.Nodup ∧ ∀ r ∈ l, (bay, r) ∉ L := by
  induction l with
  | nil => intro L; simp [freshF]
  | cons r l ih =>
    intro L
    show (!decide ((bay, r) ∈ L) && freshF bay (L ++ [(bay, r)]) l) = true ↔ _
    simp only [Bool.and_eq_true, Bool.not_eq_true', decide_eq_false_iff_not, ih, List.mem_cons, forall_eq_or_imp, List.nodup_cons, List.mem_append, List.not_mem_nil, or_false, not_or, Prod.mk.injEq, true_and]
    constructor
    · rintro ⟨h1, h2, h3⟩; exact ⟨⟨fun hr => (h3 r hr).2 rfl, h2⟩, h1, fun x hx => (h3 x hx).1⟩
    · rintro ⟨⟨h4, h2⟩, h1, h3⟩; exact ⟨h1, h2, fun x hx => ⟨h3 x hx, fun e => h4 (e ▸ hx)⟩⟩
theorem ovs_of {os : List Cov} : ∀ {L : List I2}, (∀ o ∈ os, ovX o = true) → (keysO (os.map fun o => (o.bay, o.rows))).Nodup → (∀ k ∈ keysO (os.map fun o => (o.bay, o.rows)), k ∉ L) → ovsF L os = true := by
  induction os with
  | nil => intro L _ _ _; rfl
  | cons o os ih =>
    intro L h1 h2 h3
    have e : keysO ((o :: os).map fun o => (o.bay, o.rows)) = (o.rows.map fun r => (o.bay, r)) ++ keysO (os.map fun o => (o.bay, o.rows)) := rfl
    rw [e] at h2 h3
    obtain ⟨n1, n2, n3⟩ := List.nodup_append.1 h2
    show (ovX o && (freshF o.bay L o.rows && ovsF (L ++ o.rows.map (fun r => (o.bay, r))) os)) = true
    rw [h1 o (.head _), Bool.true_and, Bool.and_eq_true]
    refine ⟨fresh_iff.2 ⟨?_, fun r hr => h3 _ (List.mem_append_left _ (List.mem_map.2 ⟨r, hr, rfl⟩))⟩, ih (fun x hx => h1 x (.tail _ hx)) n2 fun k hk hL => ?_⟩
    · have := n1
      rw [List.Nodup, List.pairwise_map] at this
      exact this.imp fun {a b} h e => h (by rw [e])
    · rcases List.mem_append.1 hL with hL | hL
      · exact h3 k (List.mem_append_right _ hk) hL
      · exact n3 k hL k hk rfl
theorem ovs_right {os : List Cov} {ov : List (Int × List Int)} (h : os.map (fun o => (o.bay, o.rows)) = ov) (h1 : ∀ o ∈ ov, ovP o = true) (h2 : (keysO ov).Nodup) (h3 : ov.length ≤ 40) : ovsX os = true := by
  subst h
  unfold ovsX
  rw [decide_eq_false (by simpa using h3)]
  refine ovs_of (fun o ho => ?_) h2 (fun _ _ h => by cases h)
  have := h1 (o.bay, o.rows) (List.mem_map.2 ⟨o, ho, rfl⟩)
  exact this
def fullO : List (Int × List Int) := [(0, [0, 1]), (0, [2, 3, 4]), (1, [0, 1]), (1, [2, 3, 4]), (2, [0, 1]), (2, [2, 3, 4]), (3, [0, 1]), (3, [2, 3, 4]), (4, [0, 1]), (4, [2, 3, 4])]
theorem covAt_sub (n i : Nat) : (covAt n i).Sublist [(((i : Nat) : Int), [0, 1]), (((i : Nat) : Int), [2, 3, 4])] := by
  unfold covAt
  split <;> split <;> simp
theorem builtO_sub (n : Nat) : (builtO n).Sublist fullO := by
  have e : builtO n = covAt n 0 ++ (covAt n 1 ++ (covAt n 2 ++ (covAt n 3 ++ covAt n 4))) := by simp [builtO, covTo]
  rw [e]
  exact (covAt_sub n 0).append ((covAt_sub n 1).append ((covAt_sub n 2).append ((covAt_sub n 3).append (covAt_sub n 4))))
theorem keys_sub {a b : List (Int × List Int)} (h : a.Sublist b) : (keysO a).Sublist (keysO b) := by
  induction h with
  | slnil => exact List.Sublist.refl _
  | cons x _ ih => exact ih.trans (List.sublist_append_right _ _)
  | cons_cons x _ ih => exact (List.Sublist.refl _).append ih
def GoodO (ov : List (Int × List Int)) : Prop := ov.Sublist fullO
theorem goodO_in {ov : List (Int × List Int)} (h : GoodO ov) : (∀ o ∈ ov, ovP o = true) ∧ (keysO ov).Nodup ∧ ov.length ≤ 10 ∧ (∀ o ∈ ov, o.2.length ≤ 3) :=
  ⟨fun o ho => (show ∀ o ∈ fullO, ovP o = true by decide) o (h.subset ho), (keys_sub h).nodup (by decide), h.length_le, fun o ho => (show ∀ o ∈ fullO, o.2.length ≤ 3 by decide) o (h.subset ho)⟩
theorem goodO_right {os : List Cov} (h : GoodO (os.map fun o => (o.bay, o.rows))) : ovsX os = true := by
  obtain ⟨h1, h2, h3, _⟩ := goodO_in h
  exact ovs_right rfl h1 h2 (by omega)
theorem good_right {cs : List Col} {os : List Cov} (h : Good cs) (h0 : 0 < cs.length) (h2 : cs.length ≤ 12) (ho : GoodO (os.map fun o => (o.bay, o.rows))) : rightX cs os = true := by
  unfold rightX
  rw [cols_good h h0 (by omega), goodO_right ho]; rfl
theorem goodO_rows {os : List Cov} (h : GoodO (os.map fun o => (o.bay, o.rows))) : ∀ o ∈ os, o.rows.length ≤ 4000000000 := fun o ho => by
  have := (goodO_in h).2.2.2 (o.bay, o.rows) (List.mem_map.2 ⟨o, ho, rfl⟩)
  have this : o.rows.length ≤ 3 := this
  omega
theorem good_plugs {cs : List Col} (h : Good cs) : (∀ W, PlR W cs) ∧ ∀ c ∈ cs, c.plugs.length ≤ 4000000000 :=
  ⟨fun W => plr_nil fun c hc => (h.1 c hc).2, fun c hc => by rw [(h.1 c hc).2]; exact Nat.zero_le _⟩
end Go.Proofs.Ythpooalhibedpaa
/- Without a column, without a cover: plain facts; slices from a place on. -/
namespace Go.Proofs.Ythpooalhibedpaa
open Go Go.RowKit Tw
theorem own_rnone {α : Type} {cells : α → List Value} {sz : Nat} {W0 : Base} {E : TypeId} {g : Nat} (hB : W0.B ≤ g) : OwnL W0 E sz (.slice (some ⟨g, 0, none⟩) 0 0) 0 (([] : List α).flatMap cells) [(g, .cells #[] E (0, 0))] :=
  .inr ⟨g, 0, _, rfl, hB, ⟨by simp, by unfold maxLen; omega, Nat.le_refl _, by simp, by simp⟩, rfl⟩
theorem run_sll {P : Program} {T E : TypeId} {o : Oper} {a : Act} {p : Option Addr} {n c i sz : Nat} {x y : Operand} {k1 : IntKind} (ho : o.op = .slice T x (some y) none none) (hT : P.underlying T = some (.slice E)) (hsz : (P.info? E).map (·.size) = some sz) (hx : a.eval x = .slice p n c) (hy : a.eval y = .int k1 ((i : Nat) : Int)) (hi : i ≤ n) (hn : n ≤ c) (w : World) : (execOp a.eval o).run P w = .ok (.value (.slice (cutQ p c i sz) (n - i) (c - i))) w := by
  have e1 := fun q => sl_bound (P := P) (k := k1) (c := q) hi w
  have e2 := fun q => sl_bound (P := P) (k := .i64) (c := q) hn w
  unfold execOp cutQ
  cases hq : P.info? E with
  | none => simp [hq] at hsz
  | some q =>
    have hs : q.size = sz := by simpa [hq] using hsz
    simp [ho, hx, hy, Instr.sliceAt, Instr.slice, Instr.sliceBounds, run_underlying hT, e1, e2, Go.sizeOf, typeInfo, hq, hs]
-- without an element
section
variable {α : Type} {l : List α} {k : Nat} {x : α}
theorem er_sub (l : List α) (k : Nat) : (l.take k ++ l.drop (k + 1)).Sublist l := by
  rw [← List.eraseIdx_eq_take_drop_succ]; exact List.eraseIdx_sublist ..
theorem er_len (h : k < l.length) : (l.take k ++ l.drop (k + 1)).length = l.length - 1 := by
  rw [List.length_append, List.length_take, List.length_drop]; omega
theorem er_split (h : l[k]? = some x) : l = l.take k ++ x :: l.drop (k + 1) := by
  obtain ⟨hk, rfl⟩ := List.getElem?_eq_some_iff.1 h
  conv => lhs; rw [← List.take_append_drop k l, List.drop_eq_getElem_cons hk]
end
def sumT : List Col → Int
  | [] => 0
  | c :: cs => c.tiers + sumT cs
theorem sumT_app (a b : List Col) : sumT (a ++ b) = sumT a + sumT b := by
  induction a with
  | nil => simp [sumT]
  | cons c a ih => simp only [List.cons_append, sumT, ih]; omega
theorem tiers_sum {cs : List Col} : ∀ {m : Int}, (∀ c ∈ cs, 1 ≤ c.tiers ∧ c.tiers ≤ 10) → 0 ≤ m → m + 10 * ((cs.length : Nat) : Int) ≤ 1000000 → tiersF m cs = m + sumT cs ∧ 0 ≤ sumT cs ∧ sumT cs ≤ 10 * ((cs.length : Nat) : Int) := by
  induction cs with
  | nil => intro m _ _ _; exact ⟨by simp [tiersF, sumT], by simp [sumT], by simp [sumT]⟩
  | cons c cs ih =>
    intro m h h0 h1
    have hc := h c (.head _)
    rw [List.length_cons] at h1 ⊢
    have e : IntKind.i64.wrap (m + c.tiers) = m + c.tiers := wi_i64 (by omega)
    obtain ⟨i1, i2, i3⟩ := ih (m := m + c.tiers) (fun x hx => h x (.tail _ hx)) (by omega) (by omega)
    refine ⟨?_, ?_, ?_⟩
    · show tiersF (IntKind.i64.wrap (m + c.tiers)) cs = _
      rw [e, i1]; simp only [sumT]; omega
    · simp only [sumT]; omega
    · simp only [sumT]; omega
section
variable {cs : List Col}
theorem good_tiers (h : Good cs) : ∀ c ∈ cs, 1 ≤ c.tiers ∧ c.tiers ≤ 10 := fun c hc => by
  have := colx_in (h.1 c hc).1; omega
theorem places_is (h : Good cs) (h2 : cs.length ≤ 12) : placesX cs = 2 * sumT cs ∧ 0 ≤ sumT cs ∧ sumT cs ≤ 120 := by
  obtain ⟨h3, h4, h5⟩ := tiers_sum (m := 0) (good_tiers h) (by omega) (by omega)
  refine ⟨?_, h4, by omega⟩
  unfold placesX
  rw [h3, Int.zero_add]
  exact wi_i64 (by omega)
theorem less_good (h : Good cs) (k : Nat) : Good (cs.take k ++ cs.drop (k + 1)) := good_sub h (er_sub cs k)
theorem less_places (h : Good cs) (h2 : cs.length ≤ 12) {k : Nat} {c : Col} (hc : cs[k]? = some c) : placesX (cs.take k ++ cs.drop (k + 1)) = placesX cs - 2 * c.tiers := by
  have hk := (List.getElem?_eq_some_iff.1 hc).1
  obtain ⟨e1, _, _⟩ := places_is h h2
  obtain ⟨e2, _, _⟩ := places_is (less_good h k) (by rw [er_len hk]; omega)
  have e3 : sumT cs = sumT (cs.take k) + (c.tiers + sumT (cs.drop (k + 1))) := by
    conv => lhs; rw [er_split hc, sumT_app]
    rfl
  rw [e1, e2, sumT_app]; omega
theorem tallF_ge : ∀ (cs : List Col) (m : Int), m ≤ tallF m cs ∧ ∀ c ∈ cs, c.tiers ≤ tallF m cs
  | [], m => ⟨Int.le_refl _, fun _ h => by cases h⟩
  | c :: cs, m => by
    obtain ⟨h1, h2⟩ := tallF_ge cs (max m c.tiers)
    refine ⟨by show m ≤ tallF (max m c.tiers) cs; omega, fun x hx => ?_⟩
    show x.tiers ≤ tallF (max m c.tiers) cs
    rcases List.mem_cons.1 hx with rfl | hx
    · omega
    · exact h2 x hx
theorem tallF_in : ∀ (cs : List Col) (m : Int), tallF m cs = m ∨ ∃ c ∈ cs, tallF m cs = c.tiers
  | [], m => .inl rfl
  | c :: cs, m => by
    rcases tallF_in cs (max m c.tiers) with h | ⟨x, hx, h⟩
    · rcases Int.le_total m c.tiers with hm | hm
      · exact .inr ⟨c, .head _, by show tallF (max m c.tiers) cs = _; rw [h]; omega⟩
      · exact .inl (by show tallF (max m c.tiers) cs = _; rw [h]; omega)
    · exact .inr ⟨x, .tail _ hx, h⟩
theorem tall_ge {c : Col} (hc : c ∈ cs) : c.tiers ≤ tallX cs := by
  cases cs with
  | nil => cases hc
  | cons d cs =>
    obtain ⟨h1, h2⟩ := tallF_ge cs d.tiers
    rcases List.mem_cons.1 hc with rfl | hc
    · exact h1
    · exact h2 c hc
theorem tall_in : cs = [] ∨ ∃ c ∈ cs, tallX cs = c.tiers := by
  cases cs with
  | nil => exact .inl rfl
  | cons d cs =>
    rcases tallF_in cs d.tiers with h | ⟨x, hx, h⟩
    · exact .inr ⟨d, .head _, h⟩
    · exact .inr ⟨x, .tail _ hx, h⟩
theorem less_tall (h : Good cs) (h0 : 0 < cs.length) (k : Nat) : tallX (cs.take k ++ cs.drop (k + 1)) ≤ tallX cs := by
  rcases tall_in (cs := cs.take k ++ cs.drop (k + 1)) with e | ⟨c, hc, e⟩
  · rw [e]
    have hm : cs[0] ∈ cs := List.getElem_mem h0
    have h1 := tall_ge hm
    have h2 := good_tiers h _ hm
    show (0 : Int) ≤ _
    omega
  · rw [e]; exact tall_ge ((er_sub cs k).subset hc)
theorem less_right (h : Good cs) (h2 : cs.length ≤ 12) {k : Nat} (hk : k < cs.length) {os : List Cov} (ho : GoodO (os.map fun o => (o.bay, o.rows))) : rightX (cs.take k ++ cs.drop (k + 1)) os = decide (1 < cs.length) := by
  have hl := er_len hk
  by_cases h1 : 1 < cs.length
  · rw [decide_eq_true h1]
    exact good_right (less_good h k) (by omega) (by omega) ho
  · rw [decide_eq_false h1]
    have e : cs.take k ++ cs.drop (k + 1) = [] := List.eq_nil_of_length_eq_zero (by omega)
    rw [e]; rfl
theorem find_at (h : Good cs) {i : Nat} {c : Col} (hc : cs[i]? = some c) : fst (isAt c.bay c.row c.deck) cs = some i :=
  fst_is hc (isAt_place.2 rfl) fun j y hj hy => by
    cases e : isAt c.bay c.row c.deck y with
    | false => rfl
    | true =>
      have := good_inj h hy hc (isAt_place.1 e)
      omega
theorem less_find (h : Good cs) {i k : Nat} {c : Col} (hc : cs[i]? = some c) (hk : k < cs.length) : (fst (isAt c.bay c.row c.deck) (cs.take k ++ cs.drop (k + 1))).isSome = !decide (i = k) := by
  have hi := (List.getElem?_eq_some_iff.1 hc).1
  by_cases e : i = k
  · subst e
    rw [decide_eq_true rfl]
    have : fst (isAt c.bay c.row c.deck) (cs.take i ++ cs.drop (i + 1)) = none := fst_mem_none fun x hx => by
      cases e : isAt c.bay c.row c.deck x with
      | false => rfl
      | true =>
        exfalso
        have hp : placeX x = placeX c := isAt_place.1 e
        have hn := h.2
        rw [er_split hc, List.map_append, List.map_cons] at hn
        obtain ⟨_, n2, n3⟩ := List.nodup_append.1 hn
        rw [List.nodup_cons] at n2
        rcases List.mem_append.1 hx with hx | hx
        · exact n3 _ (List.mem_map.2 ⟨x, hx, rfl⟩) _ (.head _) hp
        · exact n2.1 (List.mem_map.2 ⟨x, hx, hp⟩)
    rw [this]; rfl
  · rw [decide_eq_false e]
    have hm : c ∈ cs.take k ++ cs.drop (k + 1) := by
      rw [List.mem_append]
      rcases Nat.lt_or_gt_of_ne e with e | e
      · left
        exact List.mem_of_getElem? (i := i) (by rw [List.getElem?_take, if_pos e]; exact hc)
      · right
        exact List.mem_of_getElem? (i := i - (k + 1)) (by rw [List.getElem?_drop, show k + 1 + (i - (k + 1)) = i from by omega]; exact hc)
    cases hf : fst (isAt c.bay c.row c.deck) (cs.take k ++ cs.drop (k + 1)) with
    | some j => rfl
    | none => have := fst_none hf c hm; rw [isAt_place.2 rfl] at this; cases this
end
theorem rw_sub {W : World} {os l : List Cov} (h : RwR W os) (hs : l.Sublist os) : RwR W l := fun o ho => h o (hs.subset ho)
theorem open_good {os : List Cov} (h : GoodO (os.map fun o => (o.bay, o.rows))) (k : Nat) : GoodO ((os.take k ++ os.drop (k + 1)).map fun o => (o.bay, o.rows)) := ((er_sub os k).map _).trans h
end Go.Proofs.Ythpooalhibedpaa
/- Lists that are made empty, with room; the marks behind lists that are lent. -/
namespace Go.Proofs.Ythpooalhibedpaa
open Go Go.RowKit Tw
theorem run_mk0 {P : Program} {T E : TypeId} {o : Oper} {a : Act} {c sz b : Nat} {z : Value} {x y : Operand} (ho : o.op = .makeSlice T x y) (hT : P.underlying T = some (.slice E)) (hi : (P.info? E).map (fun i => (i.zero, i.size, i.bytes)) = some (some z, sz, b)) (hb : b ≤ 10000)
    (hx : a.eval x = .int .i64 0) (hy : a.eval y = .int .i64 ((c : Nat) : Int)) (hn : c ≤ 8000000000) (w : World) : (execOp a.eval o).run P w = .ok (.value (.slice (some ⟨w.heap.size, 0, none⟩) 0 c)) (w.alloc (.cells (madeCells z.cells (c * sz)) E (0, 0))) := by
  unfold execOp
  rw [ho]
  have h1 : b * c ≤ 281474976710656 := Nat.le_trans (Nat.mul_le_mul hb hn) (by decide)
  obtain ⟨i, hi2, hzz⟩ := Option.map_eq_some_iff.1 hi
  simp only [Prod.mk.injEq] at hzz
  obtain ⟨hz, hs, hb2⟩ := hzz
  have hbb : (i.bytes : Int) * (c : Int) ≤ 281474976710656 := by
    rw [hb2]
    have h : ((b * c : Nat) : Int) ≤ 281474976710656 := by omega
    rwa [Int.natCast_mul] at h
  have h2 := run_make (P := P) w T E i z hT hi2 hz .i64 .i64 0 c (Int.le_refl _) (by omega) hbb (by omega)
  simp only [Int.toNat_natCast, hs] at h2
  simp [hx, hy, h2]
theorem own_made {α : Type} {cells : α → List Value} {sz c : Nat} {W0 : Base} {E : TypeId} {g : Nat} {z : Value} (hB : W0.B ≤ g) (hz : z.cells.size = sz) (hc : c ≤ 8000000000) : OwnL W0 E sz (.slice (some ⟨g, 0, none⟩) 0 c) 0 (([] : List α).flatMap cells) [(g, .cells (madeCells z.cells (c * sz)) E (0, 0))] := by
  refine .inr ⟨g, c, _, rfl, hB, ⟨?_, by unfold maxLen; omega, Nat.zero_le _, by simp, by simp⟩, rfl⟩
  simp [madeCells]
def mkI (i : Nat) : Int := 1000003 * (1 + 7) + ((i : Nat) : Int)
def mkL (i : Nat) : List Int := (List.range i).map mkI
theorem mkL_len (i : Nat) : (mkL i).length = i := by simp [mkL]
theorem mkL_s (i : Nat) : mkL (i + 1) = mkL i ++ [mkI i] := by simp [mkL, List.range_succ]
theorem mkL_at {i n : Nat} (h : i < n) : (mkL n)[i]? = some (mkI i) := by simp [mkL, h]
end Go.Proofs.Ythpooalhibedpaa
/- Append and make with the bounds that an input has. -/
namespace Go.Proofs.Ythpooalhibedpaa
open Go Go.RowKit Tw
theorem run_mk0L {P : Program} {T E : TypeId} {o : Oper} {a : Act} {c sz b : Nat} {z : Value} {x y : Operand} (ho : o.op = .makeSlice T x y) (hT : P.underlying T = some (.slice E)) (hi : (P.info? E).map (fun i => (i.zero, i.size, i.bytes)) = some (some z, sz, b)) (hb : b ≤ 10000)
    (hx : a.eval x = .int .i64 0) (hy : a.eval y = .int .i64 ((c : Nat) : Int)) (hn : b * c ≤ 281474976710656 ∧ c ≤ 9223372036854775807) (w : World) : (execOp a.eval o).run P w = .ok (.value (.slice (some ⟨w.heap.size, 0, none⟩) 0 c)) (w.alloc (.cells (madeCells z.cells (c * sz)) E (0, 0))) := by
  unfold execOp
  rw [ho]
  have h1 : b * c ≤ 281474976710656 := hn.1
  obtain ⟨i, hi2, hzz⟩ := Option.map_eq_some_iff.1 hi
  simp only [Prod.mk.injEq] at hzz
  obtain ⟨hz, hs, hb2⟩ := hzz
  have hbb : (i.bytes : Int) * (c : Int) ≤ 281474976710656 := by
    rw [hb2]
    have h : ((b * c : Nat) : Int) ≤ 281474976710656 := by omega
    rwa [Int.natCast_mul] at h
  have h2 := run_make (P := P) w T E i z hT hi2 hz .i64 .i64 0 c (Int.le_refl _) (by omega) hbb (by omega)
  simp only [Int.toNat_natCast, hs] at h2
  simp [hx, hy, h2]
theorem own_madeL {α : Type} {cells : α → List Value} {sz c : Nat} {W0 : Base} {E : TypeId} {g : Nat} {z : Value} (hB : W0.B ≤ g) (hz : z.cells.size = sz) (hc : c ≤ 9223372036854775807) : OwnL W0 E sz (.slice (some ⟨g, 0, none⟩) 0 c) 0 (([] : List α).flatMap cells) [(g, .cells (madeCells z.cells (c * sz)) E (0, 0))] := by
  refine .inr ⟨g, c, _, rfl, hB, ⟨?_, by unfold maxLen; omega, Nat.zero_le _, by simp, by simp⟩, rfl⟩
  simp [madeCells]
section
variable {P : Program} {T U E : TypeId} {W0 : Base}
theorem app_ownL {o : Oper} {a : Act} {K K0 Kl : List (Nat × Obj)} {s x : Operand} {h m c n sz bts : Nat} {z v : Value} {fr : Nat × Nat} {news xs : List Value} (hE : Elem P T E sz bts z)
    (ho : o.op = .call { callee := .builtin .append, args := #[s, x], argTypes := #[T, T] }) (hs : a.eval s = v) (hx : a.eval x = .slice (some ⟨h, 0, none⟩) m c) (hm : (h, .cells news.toArray E fr) ∈ K)
    (hO : OwnL W0 E sz v n xs Kl) (hsub : ∀ p ∈ Kl, p ∈ K) (hK0 : ∀ p ∈ K0, p ∈ K ∧ ∀ q ∈ Kl, q.1 ≠ p.1) (hl : news.length = m * sz) (h1 : ∀ u ∈ news, u.oneCell' = true) (hm0 : 0 < m) (hn : (n + m) * bts ≤ 140737488355328) (hb : n + m ≤ 9223372036854775807) :
    ∀ w, KS W0 K w → ∃ v' K' w', (execOp a.eval o).run P w = .ok (.value v') w' ∧ KS W0 K' w' ∧ AppO W0 E sz K0 (n + m) (xs ++ news) v' K' := by
  intro w hw
  obtain ⟨hu, ⟨i, hi, hz, hsz, hby⟩, hzs⟩ := hE
  have hh := hw.2 _ hm
  have hmax : n + m ≤ maxLen := by unfold maxLen; omega
  have hbt : (n + m) * i.bytes ≤ 140737488355328 := by
    rw [hby]
    exact hn
  rcases hO with ⟨rfl, rfl, rfl, rfl⟩ | ⟨g, cap, cur, rfl, hB, ⟨r1, r2, r3, r4, r5⟩, rfl⟩
  · have hr := run_append_nil (P := P) w T o.type E i z hu hi hz ⟨h, 0, none⟩ m c news (by rw [hsz]; exact hl) (blk_cells hh) hm0 (by omega) (by rw [Nat.zero_add] at hbt; omega)
    have hg := grownCap_ge w m 0 E
    have hg2 := grownCap_le_maxLen w m 0 E (by omega)
    have hR := rown_new (sz := sz) (n := 0) (m := m) (olds := []) (news := news) z.cells hzs (by simp) hl (show 0 + m ≤ grownCap w m 0 E by omega) hg2
    simp only [Nat.zero_add, List.nil_append, show (([] : List Value).toArray ++ news.toArray) = news.toArray from by simp] at hR ⊢
    obtain ⟨e1, e2⟩ := appo_end (E := E) hw (fun p hp => (hK0 p hp).1) hR
    exact ⟨_, _, _, run_appv ho hs hx hr, e1, e2⟩
  · have hgc := hw.2 _ (hsub _ (.head _))
    by_cases hroom : n + m ≤ cap
    · have hmul : n * sz + m * sz ≤ cap * sz := by rw [← Nat.add_mul]; exact Nat.mul_le_mul_right _ hroom
      have hr := run_append_room (P := P) w T o.type E i hu hi g n cap cur hgc ⟨h, 0, none⟩ m c news (by rw [hsz]; exact hl) (blk_cells hh) h1 hroom (by rw [hsz, r1, hl]; exact hmul)
      refine ⟨_, K0 ++ [(g, .cells (cur.toList.take (n * i.size) ++ news ++ cur.toList.drop (n * i.size + news.length)).toArray E (0, 0))], _, run_appv ho hs hx hr, hw.setRow hB hgc ?_, _, .inr ⟨g, cap, _, rfl, hB, ⟨?_, r2, hroom, by simp [r4, hl, Nat.add_mul], ?_⟩, rfl⟩, fun p hp q hq => ?_, rfl⟩
      · intro p hp
        rcases List.mem_append.1 hp with hp | hp
        · exact .inr ⟨(hK0 p hp).1, fun e => (hK0 p hp).2 _ (.head _) e.symm⟩
        · exact .inl (List.mem_singleton.1 hp)
      · rw [hsz]
        simp only [List.size_toArray, List.length_append, List.length_take, List.length_drop, Array.length_toList, r1, hl]
        omega
      · rw [hsz, r5, show (n + m) * sz = (xs ++ news).length from by simp [r4, hl, Nat.add_mul]]
        exact List.take_left
      · cases List.mem_singleton.1 hq
        exact (hK0 p hp).2 (g, .cells cur E (0, 0)) (.head _)
    · have holds : ∀ j u, xs[j]? = some u → w.cell? ((⟨g, 0, none⟩ : Addr).add j) = some u := by
        intro j u hu
        rw [addr_add, Nat.zero_add, cell_of_row w g j cur _ (0, 0) hgc]
        rw [← r5, List.getElem?_take] at hu
        split at hu
        · simpa using hu
        · cases hu
      have hr := run_append_grow (P := P) w T o.type E i z hu hi hz ⟨g, 0, none⟩ n cap xs (by rw [hsz]; exact r4) holds ⟨h, 0, none⟩ m c news (by rw [hsz]; exact hl) (blk_cells hh) (by omega) (by omega)
        (growslice_fits (by omega) hbt)
      have hg1 := grownCap_ge w (n + m) cap E
      have hg2 := grownCap_le_maxLen w (n + m) cap E hmax
      obtain ⟨e1, e2⟩ := appo_end (E := E) hw (fun p hp => (hK0 p hp).1) (rown_new (sz := sz) (olds := xs) (news := news) z.cells hzs r4 hl hg1 hg2)
      exact ⟨_, _, _, run_appv ho hs hx hr, e1, e2⟩
theorem app_anyL {W0 : Base} {o : Oper} {a : Act} {K K0 Kl : List (Nat × Obj)} {s x : Operand} {m n sz bts : Nat} {z v y : Value} {news xs : List Value} (hE : Elem P T E sz bts z)
    (ho : o.op = .call { callee := .builtin .append, args := #[s, x], argTypes := #[T, U] }) (hs : a.eval s = v) (hx : a.eval x = y) (hsrc : ∀ w, KS W0 K w → Src P sz U y m news w)
    (hO : OwnL W0 E sz v n xs Kl) (hsub : ∀ p ∈ Kl, p ∈ K) (hK0 : ∀ p ∈ K0, p ∈ K ∧ ∀ q ∈ Kl, q.1 ≠ p.1) (hn : (n + m) * bts ≤ 140737488355328) (hb : n + m ≤ 9223372036854775807) :
    ∀ w, KS W0 K w → ∃ v' K' w', (execOp a.eval o).run P w = .ok (.value v') w' ∧ KS W0 K' w' ∧ AppO W0 E sz K0 (n + m) (xs ++ news) v' K' := by
  intro w hw
  obtain ⟨hu, ⟨i, hi, hz, hsz, hby⟩, hzs⟩ := hE
  have hS := hsrc w hw
  have hl := hS.newsLen
  have hmax : n + m ≤ maxLen := by unfold maxLen; omega
  have hbt : (n + m) * i.bytes ≤ 140737488355328 := by
    rw [hby]
    exact hn
  subst hsz
  rcases Nat.eq_zero_or_pos m with rfl | hm0
  · have hn0 : news = [] := List.eq_nil_of_length_eq_zero (by rw [hl]; simp)
    subst hn0
    rw [List.append_nil, Nat.add_zero]
    have hv : ∃ p cap, v = .slice p n cap ∧ n ≤ cap := by
      rcases hO with ⟨rfl, _, rfl, _⟩ | ⟨g, cap, cur, rfl, _, ⟨_, _, h3, _⟩, _⟩
      · exact ⟨_, _, rfl, Nat.le_refl _⟩
      · exact ⟨_, _, rfl, h3⟩
    obtain ⟨p, cap, rfl, hle⟩ := hv
    have hr := run_append_nothing (P := P) w T U o.type E i hu hi p n cap hle _ hS
    refine ⟨_, K0 ++ Kl, w, run_appu ho hs hx hr, hw.sub (fun q hq => ?_), Kl, hO, fun q hq => (hK0 q hq).2, rfl⟩
    rcases List.mem_append.1 hq with h | h
    · exact (hK0 q h).1
    · exact hsub q h
  · rcases hO with ⟨rfl, rfl, rfl, rfl⟩ | ⟨g, cap, cur, rfl, hB, ⟨r1, r2, r3, r4, r5⟩, rfl⟩
    · have hf0 : (Builtin.firstCells i.size 0 (.slice none 0 0)).run P w.drew = .ok (([] : List Value).toArray) w.drew := by
        simp [run_firstCells_none]
      have hr := run_append_grow_src (P := P) w T U o.type E i z hu hi hz none 0 0 [] hf0 y m news hS (by omega) (by omega) (growslice_fits (by omega) hbt)
      have hg1 := grownCap_ge w (0 + m) 0 E
      have hg2 := grownCap_le_maxLen w (0 + m) 0 E hmax
      have hR := rown_new (sz := i.size) (n := 0) (m := m) (olds := []) (news := news) z.cells hzs (by simp) hl hg1 hg2
      obtain ⟨e1, e2⟩ := appo_end (E := E) hw (fun p hp => (hK0 p hp).1) hR
      refine ⟨_, _, _, run_appu ho hs hx hr, ?_, e2⟩
      simpa using e1
    · have hgc := hw.2 _ (hsub _ (.head _))
      by_cases hroom : n + m ≤ cap
      · have hmul : n * i.size + m * i.size ≤ cap * i.size := by rw [← Nat.add_mul]; exact Nat.mul_le_mul_right _ hroom
        have hr := run_room_any (P := P) (U := U) w o.type i hu hi g n cap cur hgc y m news hS hroom (by rw [r1, hl]; exact hmul)
        refine ⟨_, K0 ++ [(g, .cells (cur.toList.take (n * i.size) ++ news ++ cur.toList.drop (n * i.size + news.length)).toArray E (0, 0))], _, run_appu ho hs hx hr, hw.setRow hB hgc ?_, _, .inr ⟨g, cap, _, rfl, hB, ⟨?_, r2, hroom, by simp [r4, hl, Nat.add_mul], ?_⟩, rfl⟩, fun p hp q hq => ?_, rfl⟩
        · intro p hp
          rcases List.mem_append.1 hp with hp | hp
          · exact .inr ⟨(hK0 p hp).1, fun e => (hK0 p hp).2 _ (.head _) e.symm⟩
          · exact .inl (List.mem_singleton.1 hp)
        · simp only [List.size_toArray, List.length_append, List.length_take, List.length_drop, Array.length_toList, r1, hl]
          omega
        · rw [r5, show (n + m) * i.size = (xs ++ news).length from by simp [r4, hl, Nat.add_mul]]
          exact List.take_left
        · cases List.mem_singleton.1 hq
          exact (hK0 p hp).2 (g, .cells cur E (0, 0)) (.head _)
      · have hgd : w.drew.heap[g]? = some (.cells cur E (0, 0)) := hgc
        have holds : ∀ j u, xs[j]? = some u → w.drew.cell? ((⟨g, 0, none⟩ : Addr).add j) = some u := by
          intro j u hu
          rw [addr_add, Nat.zero_add, cell_of_row w.drew g j cur _ (0, 0) hgd]
          rw [← r5, List.getElem?_take] at hu
          split at hu
          · simpa using hu
          · cases hu
        have hf := run_firstCells_some (P := P) w.drew i.size n ⟨g, 0, none⟩ n cap xs r4 holds
        have hr := run_append_grow_src (P := P) w T U o.type E i z hu hi hz (some ⟨g, 0, none⟩) n cap xs hf y m news hS (by omega) (by omega) (growslice_fits (by omega) hbt)
        have hg1 := grownCap_ge w (n + m) cap E
        have hg2 := grownCap_le_maxLen w (n + m) cap E hmax
        obtain ⟨e1, e2⟩ := appo_end (E := E) hw (fun p hp => (hK0 p hp).1) (rown_new (sz := i.size) (olds := xs) (news := news) z.cells hzs r4 hl hg1 hg2)
        refine ⟨_, _, _, run_appu ho hs hx hr, ?_, e2⟩
        simpa using e1
end
end Go.Proofs.Ythpooalhibedpaa
namespace Go.Proofs.Ythpooalhibedpaa
open Go Go.RowKit Tw
set_option maxRecDepth 100000 in
set_option maxHeartbeats 4000000 in
theorem mark_any (k i : Int) (hk : 0 ≤ k ∧ k ≤ 1000) (hi : 0 ≤ i ∧ i ≤ 8000000000) (w : World) : Calls Try.prog 81 #[.int .i64 k, .int .i64 i] w fun e w' => e = .returned (.int .i64 (1000003 * (k + 7) + i)) ∧ Below w.heap.size w w' := by
  go_enter Try.func81, Try.ntmps81
  refine wp_seq ?_
  refine wp_region_L (W0 := w) [] (KS.start w) ?_
  refine lm (v := .int .i64 0) rfl rfl ?_
  refine wpL_done (fun W1 hW1 => ?_)
  refine (show Code.wp _ _ _ _ _ from ?_)
  refine wp_seq ?_
  refine wp_region_L (W0 := w) [] (hW1) ?_
  refine lm (v := .int .i64 k) rfl rfl ?_
  refine lp (v := .int .i64 (k + 7)) rfl rfl (run_bin rfl (vx := (.int .i64 k)) (vy := (.int .i64 7)) (by kernel_rfl) (by kernel_rfl) fun w => bi_add (z := (k + 7)) rfl (wi_i64 (by omega)) w) ?_
  refine lp (v := .int .i64 (1000003 * (k + 7))) rfl rfl (run_bin rfl (vx := (.int .i64 1000003)) (vy := (.int .i64 (k + 7))) (by kernel_rfl) (by kernel_rfl) fun w => bi_mul (z := (1000003 * (k + 7))) rfl (wi_i64 (by omega)) w) ?_
  refine lm (v := .int .i64 i) rfl rfl ?_
  refine lp (v := .int .i64 ((1000003 * (k + 7)) + i)) rfl rfl (run_bin rfl (vx := (.int .i64 (1000003 * (k + 7)))) (vy := (.int .i64 i)) (by kernel_rfl) (by kernel_rfl) fun w => bi_add (z := ((1000003 * (k + 7)) + i)) rfl (wi_i64 (by omega)) w) ?_
  refine lm (v := .int .i64 ((1000003 * (k + 7)) + i)) rfl rfl ?_
  refine wpL_done (fun W2 hW2 => ?_)
  refine (show Code.wp _ _ _ _ _ from ?_)
  refine wp_ret ?_
  try simp only [inBlock_ret, then_ret]
  refine bodyPost_ret (v := .int .i64 ((1000003 * (k + 7)) + i)) ?_ rfl ?_
  · kernel_rfl
  · exact ⟨(int_is (by omega)), hW2.1⟩
set_option maxRecDepth 100000 in
set_option maxHeartbeats 4000000 in
theorem LentInts_any (l : List Int) (p : Option Addr) (c : Nat) (hl : l.length ≤ 1000000) (w : World) (hp : SLV w p (l.flatMap inC)) : Calls Try.prog 80 #[.slice p l.length c] w fun e w' => ∃ q d, e = .returned (.slice q l.length d) ∧ l.length + 12 ≤ d ∧ OutV w w' 3 1 (.slice q (l ++ mkL 12).length d) (l ++ mkL 12).length ((l ++ mkL 12).flatMap inC) ∧ Below w.heap.size w w' := by
  have HP := Lib.hid hp
  clear hp
  go_enter Try.func80, Try.ntmps80
  refine wp_seq ?_
  refine wp_region_L (W0 := w) [] (KS.start w) ?_
  refine lm (v := .slice none 0 0) rfl rfl ?_
  refine wpL_done (fun W1 hW1 => ?_)
  refine (show Code.wp _ _ _ _ _ from ?_)
  refine wp_seq ?_
  refine wp_region_L (W0 := w) [] (hW1) ?_
  refine lm (v := .slice p l.length c) rfl rfl ?_
  refine lp (v := .int .i64 ((l.length : Nat) : Int)) rfl rfl (run_lenL (p := p) (cap := c) (n := l.length) rfl Try.underlying39 (by kernel_rfl)) ?_
  refine lp (v := .int .i64 (((l.length + 12) : Nat) : Int)) rfl rfl (run_bin rfl (vx := (.int .i64 ((l.length : Nat) : Int))) (vy := (.int .i64 ((12 : Nat) : Int))) (by kernel_rfl) (by kernel_rfl) fun w => bn_add (z := (l.length + 12)) rfl (wr_i64 (by omega)) w) ?_
  refine wpL_new (fun g => .slice (some ⟨g, 0, none⟩) 0 (l.length + 12)) (obi := .cells (madeCells (Value.cells (.int .i64 0)) ((l.length + 12) * 1)) 3 (0, 0)) rfl rfl (run_mk0 (c := (l.length + 12)) (z := (.int .i64 0)) (sz := 1) (b := 8) rfl Try.underlying39 (by kernel_rfl) (by decide) (by kernel_rfl) (by kernel_rfl) (by omega)) (fun _ => by simp only [List.setIfInBounds_toArray, List.set_cons_succ, List.set_cons_zero] <;> rfl) fun g1 Bg1 Fg1 => ?_
  refine lm (v := .slice (some ⟨g1, 0, none⟩) 0 (l.length + 12)) rfl rfl ?_
  refine wpL_done (fun W2 hW2 => ?_)
  refine (show Code.wp _ _ _ _ _ from ?_)
  refine wp_seq ?_
  refine wp_region_L (W0 := w) [(g1, .cells (madeCells (Value.cells (.int .i64 0)) ((l.length + 12) * 1)) 3 (0, 0))] (hW2) ?_
  refine lm (v := .slice (some ⟨g1, 0, none⟩) 0 (l.length + 12)) rfl rfl ?_
  refine lm (v := .slice p l.length c) rfl rfl ?_
  have Om2 := (own_made (cells := inC) (c := (l.length + 12)) (E := 3) (z := (.int .i64 0)) Bg1 rfl (by omega))
  refine wpL_g (AppO w 3 1 [] (0 + l.length) ((([] : List Int).flatMap inC) ++ (l.flatMap inC))) rfl rfl (app_any el_int (m := l.length) (news := (l.flatMap inC)) (y := .slice p l.length c) rfl (by kernel_rfl) (by kernel_rfl) (src_rl (c := c) Try.underlying39 inC_len inC_one (by decide) ((RL.base HP.out).mono (fun _ h => by cases h)) rfl) Om2 (fun p hp => by cases List.mem_singleton.1 hp; exact (.head _)) (fun _ h => by cases h) (by omega) (by omega)) (fun _ => by simp only [List.setIfInBounds_toArray, List.set_cons_succ, List.set_cons_zero] <;> rfl) ?_
  rintro v3 Kl3 ⟨_, O3, N3, rfl⟩
  refine lm (v := v3) rfl rfl ?_
  refine wpL_done (fun W3 hW3 => ?_)
  refine (show Code.wp _ _ _ _ _ from ?_)
  refine wp_seq ?_
  refine wp_seq ?_
  refine wp_region_L (W0 := w) Kl3 (hW3) ?_
  refine lm (v := .int .i64 0) rfl rfl ?_
  refine wpL_done (fun W4 hW4 => ?_)
  refine (show Code.wp _ _ _ _ _ from ?_)
  refine wp_block ?_
  go_loopw [4, 3] (fun u4 u3 wr => ∃ (i : Nat) (vo : Value) (Ko : List (Nat × Obj)), (i ≤ 12) ∧ (OwnL w 3 1 vo (l.length + i) ((l ++ mkL i).flatMap inC) Ko) ∧ u4 = .int .i64 ((i : Nat) : Int) ∧ vo = u3 ∧ KS w Ko wr) (fun u4 _ _ => 12 - (intOf u4).toNat)
  case atStart => exact ⟨0, v3, Kl3, (Nat.zero_le _), (by have h9 := O3; rw [List.flatMap_nil, List.nil_append, Nat.zero_add] at h9; rw [show l ++ mkL 0 = l from by simp [mkL]]; exact h9), rfl, rfl, (hW4.sub (fun p hp => by first | exact hp | (simp only [List.mem_cons, List.mem_append, List.nil_append, List.not_mem_nil, or_assoc, or_false, false_or] at hp ⊢ <;> grind)))⟩
  case round =>
    obtain ⟨i, vo, Ko, hi, hO, rfl, rfl, hL5⟩ := hrel
    refine wp_seq ?_
    refine wp_seq ?_
    refine wp_region_L (W0 := w) Ko (hL5) ?_
    refine lm (v := .int .i64 ((i : Nat) : Int)) rfl rfl ?_
    refine lp (v := .bool (decide (i < 12))) rfl rfl (run_bin rfl (vx := (.int .i64 ((i : Nat) : Int))) (vy := (.int .i64 ((12 : Nat) : Int))) (by kernel_rfl) (by kernel_rfl) fun w => bn_lss rfl w) ?_
    refine wpL_done (fun W6 hW6 => ?_)
    refine (show Code.wp _ _ _ _ _ from ?_)
    cases hd1 : (decide (i < 12)) with
    | false =>
      have h1 : ¬ (i < 12) := of_decide_eq_false hd1
      clear hd1
      refine wp_cond_false rfl ?_
      refine wp_exit ?_
      refine (show Code.wp _ _ _ _ _ from ?_)
      refine wp_seq ?_
      refine wp_region_L (W0 := w) Ko (hW6) ?_
      refine lm (v := vo) rfl rfl ?_
      refine lm (v := .slice p l.length c) rfl rfl ?_
      refine lp (v := .int .i64 ((l.length : Nat) : Int)) rfl rfl (run_lenL (p := p) (cap := c) (n := l.length) rfl Try.underlying39 (by kernel_rfl)) ?_
      have hi12 : i = 12 := by omega
      subst hi12
      have hO2 := own_app (cells := inC) (l' := l ++ mkL 12) hO rfl (by rw [List.length_append, mkL_len])
      obtain ⟨q9, d9, rfl, hd9, R9⟩ := own_rl hO2
      have hlen : (l ++ mkL 12).length = l.length + 12 := by rw [List.length_append, mkL_len]
      refine lp (v := .slice q9 l.length d9) rfl rfl (run_slt (kd := .i64) (j := l.length) (n := (l ++ mkL 12).length) (c := d9) (sz := 1) rfl Try.underlying39 (by kernel_rfl) (by kernel_rfl) (by kernel_rfl) (by omega)) ?_
      refine lm (v := .slice q9 l.length d9) rfl rfl ?_
      refine wpL_done (fun W7 hW7 => ?_)
      refine (show Code.wp _ _ _ _ _ from ?_)
      refine wp_ret ?_
      try simp only [inBlock_ret, then_ret]
      refine bodyPost_ret (v := .slice q9 l.length d9) ?_ rfl ?_
      · kernel_rfl
      · exact ⟨q9, d9, rfl, by omega, hO2.out (fun p hp => by simp only [List.mem_cons, List.mem_append, List.nil_append, List.not_mem_nil, or_assoc, or_false, false_or, hp, true_or, or_true]) hW7, hW7.1⟩
    | true =>
      have h1 : i < 12 := of_decide_eq_true hd1
      clear hd1
      refine wp_cond_true rfl ?_
      refine wp_skip ?_
      refine (show Code.wp _ _ _ _ _ from ?_)
      refine wp_seq ?_
      refine wp_block ?_
      refine wp_region_L (W0 := w) Ko (hW6) ?_
      refine lm (v := vo) rfl rfl ?_
      refine lm (v := .int .i64 ((i : Nat) : Int)) rfl rfl ?_
      refine lv (v := .int .i64 (mkI i)) rfl rfl (yb_call (f := 81) (args := #[.int .i64 1, .int .i64 ((i : Nat) : Int)]) (fun _ => by kernel_rfl) fun W hW => mark_any 1 ((i : Nat) : Int) (by omega) (by omega) W) ?_
      refine wpL_new (fun g => .slice (some ⟨g, 0, none⟩) 1 1) (obi := .cells #[.int .i64 (mkI i)] 3 (0, 0)) rfl rfl (fun _ => by kernel_rfl) (fun _ => by simp only [List.setIfInBounds_toArray, List.set_cons_succ, List.set_cons_zero] <;> rfl) fun g5 Bg5 Fg5 => ?_
      obtain dj6_0 : Dk g5 Ko := by simpa only [dj_app_l, dj_app_r, dj_cons_l, dj_cons_r, dj_nil_l, dj_nil_r, dk_app, dk_cons, dk_nil, and_true, true_and, and_assoc] using (show Dk g5 Ko from Fg5)
      refine wpL_g (AppO w 3 1 [] ((l.length + i) + 1) (((l ++ mkL i).flatMap inC) ++ [.int .i64 (mkI i)])) rfl rfl (app_own el_int (m := 1) (c := 1) (news := [.int .i64 (mkI i)]) rfl (by kernel_rfl) (by kernel_rfl) (.head _) hO (fun p hp => by simp only [List.mem_cons, List.mem_append, List.nil_append, List.not_mem_nil, or_assoc, or_false, false_or, hp, or_true, true_or]) (fun _ h => by cases h) rfl (by simp [strV, Value.oneCell']) (by omega) (by omega) (by omega)) (fun _ => by simp only [List.setIfInBounds_toArray, List.set_cons_succ, List.set_cons_zero] <;> rfl) ?_
      rintro v7 Kl7 ⟨_, O7, N7, rfl⟩
      refine lm (v := v7) rfl rfl ?_
      refine wpL_done (fun W8 hW8 => ?_)
      refine (show Code.wp _ _ _ _ _ from ?_)
      refine wp_region_L (W0 := w) Kl7 (hW8) ?_
      refine lm (v := .int .i64 ((i : Nat) : Int)) rfl rfl ?_
      refine lp (v := .int .i64 (((i + 1) : Nat) : Int)) rfl rfl (run_bin rfl (vx := (.int .i64 ((i : Nat) : Int))) (vy := (.int .i64 ((1 : Nat) : Int))) (by kernel_rfl) (by kernel_rfl) fun w => bn_add (z := (i + 1)) rfl (wr_i64 (by omega)) w) ?_
      refine lm (v := .int .i64 (((i + 1) : Nat) : Int)) rfl rfl ?_
      refine wpL_done (fun W9 hW9 => ?_)
      go_roundw
      case rel =>
        repeat apply Exists.intro
        exact ⟨⟨i + 1, v7, Kl7, (by omega), (by have h9 := own_snoc (l' := l ++ mkL (i + 1)) O7 (by rw [mkL_s, List.append_assoc]); exact h9), rfl, rfl, (hW9.sub (fun p hp => by first | exact hp | (simp only [List.mem_cons, List.mem_append, List.nil_append, List.not_mem_nil, or_assoc, or_false, false_or] at hp ⊢ <;> grind)))⟩, rfl⟩
      case measure => (show 12 - (intOf (.int .i64 (((i + 1) : Nat) : Int))).toNat < 12 - (intOf (.int .i64 ((i : Nat) : Int))).toNat); simp only [intOf]; omega
set_option maxRecDepth 100000 in
set_option maxHeartbeats 4000000 in
theorem KeptInts_any (l : List Int) (p q : Option Addr) (c d : Nat) (hl : l.length ≤ 1000000) (hc : l.length + 12 ≤ c) (w : World) (hp : SLV w p ((l ++ mkL 12).flatMap inC)) (hq : SLV w q (l.flatMap inC)) : Calls Try.prog 85 #[.slice p l.length c, .slice q l.length d] w fun e w' => e = .returned (.bool true) ∧ Below w.heap.size w w' := by
  have HP := Lib.hid hp
  clear hp
  have HQ := Lib.hid hq
  clear hq
  have hlen : (l ++ mkL 12).length = l.length + 12 := by rw [List.length_append, mkL_len]
  go_enter Try.func85, Try.ntmps85
  refine wp_seq ?_
  refine wp_region_L (W0 := w) [] (KS.start w) ?_
  refine lm (v := .bool false) rfl rfl ?_
  refine wpL_done (fun W1 hW1 => ?_)
  refine (show Code.wp _ _ _ _ _ from ?_)
  refine wp_seq ?_
  refine wp_seq ?_
  refine wp_region_L (W0 := w) [] (hW1) ?_
  refine lm (v := .slice p l.length c) rfl rfl ?_
  refine lp (v := .int .i64 ((l.length : Nat) : Int)) rfl rfl (run_lenL (p := p) (cap := c) (n := l.length) rfl Try.underlying39 (by kernel_rfl)) ?_
  refine lm (v := .slice q l.length d) rfl rfl ?_
  refine lp (v := .int .i64 ((l.length : Nat) : Int)) rfl rfl (run_lenL (p := q) (cap := d) (n := l.length) rfl Try.underlying39 (by kernel_rfl)) ?_
  refine lp (v := .bool false) rfl rfl (run_bin rfl (vx := (.int .i64 ((l.length : Nat) : Int))) (vy := (.int .i64 ((l.length : Nat) : Int))) (by kernel_rfl) (by kernel_rfl) fun w => bn_neq (decide_eq_true rfl) w) ?_
  refine wpL_done (fun W2 hW2 => ?_)
  refine (show Code.wp _ _ _ _ _ from ?_)
  refine wp_cond_false rfl ?_
  refine wp_skip ?_
  refine (show Code.wp _ _ _ _ _ from ?_)
  refine wp_seq ?_
  refine wp_region_L (W0 := w) [] (hW2) ?_
  refine lm (v := .slice p l.length c) rfl rfl ?_
  refine lm (v := .slice q l.length d) rfl rfl ?_
  refine lp (v := .int .i64 ((l.length : Nat) : Int)) rfl rfl (run_lenL (p := q) (cap := d) (n := l.length) rfl Try.underlying39 (by kernel_rfl)) ?_
  refine lp (v := .int .i64 (((l.length + 12) : Nat) : Int)) rfl rfl (run_bin rfl (vx := (.int .i64 ((l.length : Nat) : Int))) (vy := (.int .i64 ((12 : Nat) : Int))) (by kernel_rfl) (by kernel_rfl) fun w => bn_add (z := (l.length + 12)) rfl (wr_i64 (by omega)) w) ?_
  refine lp (v := .slice p (l.length + 12) c) rfl rfl (run_slt (kd := .i64) (j := (l.length + 12)) (n := l.length) (c := c) (sz := 1) rfl Try.underlying39 (by kernel_rfl) (by kernel_rfl) (by kernel_rfl) (by omega)) ?_
  refine lm (v := .slice p (l.length + 12) c) rfl rfl ?_
  refine wpL_done (fun W3 hW3 => ?_)
  refine (show Code.wp _ _ _ _ _ from ?_)
  refine wp_seq ?_
  refine wp_seq ?_
  refine wp_region_L (W0 := w) [] (hW3) ?_
  refine lm (v := .int .i64 0) rfl rfl ?_
  refine wpL_done (fun W4 hW4 => ?_)
  refine (show Code.wp _ _ _ _ _ from ?_)
  refine wp_block ?_
  go_loopw [6] (fun u6 wr => ∃ (i : Nat), (i ≤ l.length + 12) ∧ u6 = .int .i64 ((i : Nat) : Int) ∧ KS w [] wr) (fun u6 _ => l.length + 12 - (intOf u6).toNat)
  case atStart => exact ⟨0, (Nat.zero_le _), rfl, (hW4.sub (fun p hp => by first | exact hp | (simp only [List.mem_cons, List.mem_append, List.nil_append, List.not_mem_nil, or_assoc, or_false, false_or] at hp ⊢ <;> grind)))⟩
  case round =>
    obtain ⟨i, hi, rfl, hL5⟩ := hrel
    refine wp_seq ?_
    refine wp_seq ?_
    refine wp_region_L (W0 := w) [] (hL5) ?_
    refine lm (v := .int .i64 ((i : Nat) : Int)) rfl rfl ?_
    refine lm (v := .slice p (l.length + 12) c) rfl rfl ?_
    refine lp (v := .int .i64 (((l.length + 12) : Nat) : Int)) rfl rfl (run_lenL (p := p) (cap := c) (n := (l.length + 12)) rfl Try.underlying39 (by kernel_rfl)) ?_
    refine lp (v := .bool (decide (i < (l.length + 12)))) rfl rfl (run_bin rfl (vx := (.int .i64 ((i : Nat) : Int))) (vy := (.int .i64 (((l.length + 12) : Nat) : Int))) (by kernel_rfl) (by kernel_rfl) fun w => bn_lss rfl w) ?_
    refine wpL_done (fun W6 hW6 => ?_)
    refine (show Code.wp _ _ _ _ _ from ?_)
    cases hd1 : (decide (i < (l.length + 12))) with
    | false =>
      have h1 : ¬ (i < (l.length + 12)) := of_decide_eq_false hd1
      clear hd1
      refine wp_cond_false rfl ?_
      refine wp_exit ?_
      refine (show Code.wp _ _ _ _ _ from ?_)
      refine wp_seq ?_
      refine wp_region_L (W0 := w) [] (hW6) ?_
      refine lm (v := .bool true) rfl rfl ?_
      refine wpL_done (fun W7 hW7 => ?_)
      refine (show Code.wp _ _ _ _ _ from ?_)
      refine wp_ret ?_
      try simp only [inBlock_ret, then_ret]
      refine bodyPost_ret (v := .bool true) ?_ rfl ?_
      · kernel_rfl
      · exact ⟨rfl, hW7.1⟩
    | true =>
      have h1 : i < (l.length + 12) := of_decide_eq_true hd1
      clear hd1
      refine wp_cond_true rfl ?_
      refine wp_skip ?_
      refine (show Code.wp _ _ _ _ _ from ?_)
      refine wp_seq ?_
      refine wp_block ?_
      refine wp_seq ?_
      refine wp_region_V (W0 := w) [] (by kernel_rfl) (hW6) ?_
      refine vm (i := 0) (v := .int .i64 ((i : Nat) : Int)) rfl rfl rfl ?_
      refine vm (i := 1) (v := .slice q l.length d) rfl rfl rfl ?_
      refine vp (i := 2) (v := .int .i64 ((l.length : Nat) : Int)) rfl rfl rfl (run_lenL (p := q) (cap := d) (n := l.length) rfl Try.underlying39 (by kernel_rfl)) ?_
      refine vp (i := 3) (v := .bool (decide (i < l.length))) rfl rfl rfl (run_bin rfl (vx := (.int .i64 ((i : Nat) : Int))) (vy := (.int .i64 ((l.length : Nat) : Int))) (by kernel_rfl) (by kernel_rfl) fun w => bn_lss rfl w) ?_
      refine vm (i := 4) (v := .bool (decide (i < l.length))) rfl rfl rfl ?_
      cases hd2 : (decide (i < l.length)) with
      | false =>
        have h2 : ¬ (i < l.length) := of_decide_eq_false hd2
        clear hd2
        refine vn (i := 5) rfl rfl ?_
        refine vn (i := 6) rfl rfl ?_
        refine vn (i := 7) rfl rfl ?_
        refine vn (i := 8) rfl rfl ?_
        refine vn (i := 9) rfl rfl ?_
        refine vn (i := 10) rfl rfl ?_
        refine vn (i := 11) rfl rfl ?_
        refine vn (i := 12) rfl rfl ?_
        refine vn (i := 13) rfl rfl ?_
        refine vn (i := 14) rfl rfl ?_
        refine vm (i := 15) (v := .bool false) rfl rfl rfl ?_
        refine vm (i := 16) (v := .bool false) rfl rfl rfl ?_
        refine vm (i := 17) (v := .int .i64 ((i : Nat) : Int)) rfl rfl rfl ?_
        refine vm (i := 18) (v := .slice q l.length d) rfl rfl rfl ?_
        refine vp (i := 19) (v := .int .i64 ((l.length : Nat) : Int)) rfl rfl rfl (run_lenL (p := q) (cap := d) (n := l.length) rfl Try.underlying39 (by kernel_rfl)) ?_
        refine vp (i := 20) (v := .bool true) rfl rfl rfl (run_bin rfl (vx := (.int .i64 ((i : Nat) : Int))) (vy := (.int .i64 ((l.length : Nat) : Int))) (by kernel_rfl) (by kernel_rfl) fun w => bn_geq (decide_eq_false (by assumption)) w) ?_
        refine vm (i := 21) (v := .bool true) rfl rfl rfl ?_
        refine vm (i := 22) (v := .slice p (l.length + 12) c) rfl rfl rfl ?_
        refine vm (i := 23) (v := .int .i64 ((i : Nat) : Int)) rfl rfl rfl ?_
        obtain ⟨y1, g1_, f1_, hy1, hp1, hc1⟩ := RL.at (RL.base HP.out) inC_len (by decide) (hW6.sub (fun _ h => by cases h)) (k := i) (by omega)
        refine vp (i := 24) (v := .pointer (some ⟨g1_, f1_ + i * 1, none⟩)) rfl rfl rfl (run_idxQ (p := p) (cap := c) (n := (l.length + 12)) (j := .i64) (k := i) (sz := 1) rfl Try.underlying39 (by kernel_rfl) (by kernel_rfl) hp1 (by kernel_rfl) (by omega)) ?_
        refine vb (i := 25) (v := .int .i64 y1) rfl rfl rfl (yb_rf (v := .int .i64 y1) rfl (by kernel_rfl) (fun W hW => hc1 W (hW.sub (fun _ h => by cases h)) 0 _ rfl) Try.underlying3 rfl) ?_
        refine vm (i := 26) (v := .int .i64 ((i : Nat) : Int)) rfl rfl rfl ?_
        refine vm (i := 27) (v := .slice q l.length d) rfl rfl rfl ?_
        refine vp (i := 28) (v := .int .i64 ((l.length : Nat) : Int)) rfl rfl rfl (run_lenL (p := q) (cap := d) (n := l.length) rfl Try.underlying39 (by kernel_rfl)) ?_
        refine vp (i := 29) (v := .int .i64 (((i - l.length) : Nat) : Int)) rfl rfl rfl (run_bin rfl (vx := (.int .i64 ((i : Nat) : Int))) (vy := (.int .i64 ((l.length : Nat) : Int))) (by kernel_rfl) (by kernel_rfl) fun w => bn_sub (z := (i - l.length)) rfl (by omega) (wr_i64 (by omega)) w) ?_
        refine vv (i := 30) (v := .int .i64 (mkI (i - l.length))) rfl rfl rfl (yb_call (f := 81) (args := #[.int .i64 1, .int .i64 (((i - l.length) : Nat) : Int)]) (fun _ => by kernel_rfl) fun W hW => mark_any 1 (((i - l.length) : Nat) : Int) (by omega) (by omega) W) ?_
        refine vp (i := 31) (v := .bool (decide (y1 = (mkI (i - l.length))))) rfl rfl rfl (run_bin rfl (vx := (.int .i64 y1)) (vy := (.int .i64 (mkI (i - l.length)))) (by kernel_rfl) (by kernel_rfl) fun w => bi_eql rfl w) ?_
        refine vp (i := 32) (v := .bool (!(decide (y1 = (mkI (i - l.length)))))) rfl rfl rfl (run_un rfl (by kernel_rfl) fun w => un_not w) ?_
        refine vm (i := 33) (v := .bool (!(decide (y1 = (mkI (i - l.length)))))) rfl rfl rfl ?_
        refine vm (i := 34) (v := .bool (!(decide (y1 = (mkI (i - l.length)))))) rfl rfl rfl ?_
        refine wpV_done (by kernel_rfl) (fun W8 hW8 => ?_) _
        refine (show Code.wp _ _ _ _ _ from ?_)
        cases hd3 : (decide (y1 = (mkI (i - l.length)))) with
        | false =>
          have h3 : ¬ (y1 = (mkI (i - l.length))) := of_decide_eq_false hd3
          clear hd3
          exact absurd (by rw [List.getElem?_append_right (by omega), mkL_at (by omega)] at hy1; exact (Option.some.inj hy1).symm) h3
        | true =>
          have h3 : y1 = (mkI (i - l.length)) := of_decide_eq_true hd3
          clear hd3
          refine wp_cond_false rfl ?_
          refine wp_skip ?_
          refine (show Code.wp _ _ _ _ _ from ?_)
          refine wp_region_L (W0 := w) [] (hW8) ?_
          refine lm (v := .int .i64 ((i : Nat) : Int)) rfl rfl ?_
          refine lp (v := .int .i64 (((i + 1) : Nat) : Int)) rfl rfl (run_bin rfl (vx := (.int .i64 ((i : Nat) : Int))) (vy := (.int .i64 ((1 : Nat) : Int))) (by kernel_rfl) (by kernel_rfl) fun w => bn_add (z := (i + 1)) rfl (wr_i64 (by omega)) w) ?_
          refine lm (v := .int .i64 (((i + 1) : Nat) : Int)) rfl rfl ?_
          refine wpL_done (fun W9 hW9 => ?_)
          go_roundw
          case rel =>
            repeat apply Exists.intro
            exact ⟨⟨i + 1, (by omega), rfl, (hW9.sub (fun p hp => by first | exact hp | (simp only [List.mem_cons, List.mem_append, List.nil_append, List.not_mem_nil, or_assoc, or_false, false_or] at hp ⊢ <;> grind)))⟩, rfl⟩
          case measure => (show l.length + 12 - (intOf (.int .i64 (((i + 1) : Nat) : Int))).toNat < l.length + 12 - (intOf (.int .i64 ((i : Nat) : Int))).toNat); simp only [intOf]; omega
      | true =>
        have h2 : i < l.length := of_decide_eq_true hd2
        clear hd2
        refine vm (i := 5) (v := .slice p (l.length + 12) c) rfl rfl rfl ?_
        refine vm (i := 6) (v := .int .i64 ((i : Nat) : Int)) rfl rfl rfl ?_
        obtain ⟨y2, g2_, f2_, hy2, hp2, hc2⟩ := RL.at (RL.base HP.out) inC_len (by decide) (hW6.sub (fun _ h => by cases h)) (k := i) (by omega)
        refine vp (i := 7) (v := .pointer (some ⟨g2_, f2_ + i * 1, none⟩)) rfl rfl rfl (run_idxQ (p := p) (cap := c) (n := (l.length + 12)) (j := .i64) (k := i) (sz := 1) rfl Try.underlying39 (by kernel_rfl) (by kernel_rfl) hp2 (by kernel_rfl) (by omega)) ?_
        refine vb (i := 8) (v := .int .i64 y2) rfl rfl rfl (yb_rf (v := .int .i64 y2) rfl (by kernel_rfl) (fun W hW => hc2 W (hW.sub (fun _ h => by cases h)) 0 _ rfl) Try.underlying3 rfl) ?_
        refine vm (i := 9) (v := .slice q l.length d) rfl rfl rfl ?_
        refine vm (i := 10) (v := .int .i64 ((i : Nat) : Int)) rfl rfl rfl ?_
        obtain ⟨y3, g3_, f3_, hy3, hp3, hc3⟩ := RL.at (RL.base HQ.out) inC_len (by decide) (hW6.sub (fun _ h => by cases h)) (k := i) (by omega)
        refine vp (i := 11) (v := .pointer (some ⟨g3_, f3_ + i * 1, none⟩)) rfl rfl rfl (run_idxQ (p := q) (cap := d) (n := l.length) (j := .i64) (k := i) (sz := 1) rfl Try.underlying39 (by kernel_rfl) (by kernel_rfl) hp3 (by kernel_rfl) (by omega)) ?_
        refine vb (i := 12) (v := .int .i64 y3) rfl rfl rfl (yb_rf (v := .int .i64 y3) rfl (by kernel_rfl) (fun W hW => hc3 W (hW.sub (fun _ h => by cases h)) 0 _ rfl) Try.underlying3 rfl) ?_
        refine vp (i := 13) (v := .bool (decide (y2 = y3))) rfl rfl rfl (run_bin rfl (vx := (.int .i64 y2)) (vy := (.int .i64 y3)) (by kernel_rfl) (by kernel_rfl) fun w => bi_eql rfl w) ?_
        refine vp (i := 14) (v := .bool (!(decide (y2 = y3)))) rfl rfl rfl (run_un rfl (by kernel_rfl) fun w => un_not w) ?_
        refine vm (i := 15) (v := .bool (!(decide (y2 = y3)))) rfl rfl rfl ?_
        refine vm (i := 16) (v := .bool (!(decide (y2 = y3)))) rfl rfl rfl ?_
        cases hd4 : (decide (y2 = y3)) with
        | false =>
          have h4 : ¬ (y2 = y3) := of_decide_eq_false hd4
          clear hd4
          exact absurd (by rw [List.getElem?_append_left (by omega)] at hy2; rw [hy2] at hy3; exact Option.some.inj hy3) h4
        | true =>
          have h4 : y2 = y3 := of_decide_eq_true hd4
          clear hd4
          refine vm (i := 17) (v := .int .i64 ((i : Nat) : Int)) rfl rfl rfl ?_
          refine vm (i := 18) (v := .slice q l.length d) rfl rfl rfl ?_
          refine vp (i := 19) (v := .int .i64 ((l.length : Nat) : Int)) rfl rfl rfl (run_lenL (p := q) (cap := d) (n := l.length) rfl Try.underlying39 (by kernel_rfl)) ?_
          refine vp (i := 20) (v := .bool false) rfl rfl rfl (run_bin rfl (vx := (.int .i64 ((i : Nat) : Int))) (vy := (.int .i64 ((l.length : Nat) : Int))) (by kernel_rfl) (by kernel_rfl) fun w => bn_geq (decide_eq_true (by assumption)) w) ?_
          refine vm (i := 21) (v := .bool false) rfl rfl rfl ?_
          refine vn (i := 22) rfl rfl ?_
          refine vn (i := 23) rfl rfl ?_
          refine vn (i := 24) rfl rfl ?_
          refine vn (i := 25) rfl rfl ?_
          refine vn (i := 26) rfl rfl ?_
          refine vn (i := 27) rfl rfl ?_
          refine vn (i := 28) rfl rfl ?_
          refine vn (i := 29) rfl rfl ?_
          refine vn (i := 30) rfl rfl ?_
          refine vn (i := 31) rfl rfl ?_
          refine vn (i := 32) rfl rfl ?_
          refine vm (i := 33) (v := .bool false) rfl rfl rfl ?_
          refine vm (i := 34) (v := .bool false) rfl rfl rfl ?_
          refine wpV_done (by kernel_rfl) (fun W10 hW10 => ?_) _
          refine (show Code.wp _ _ _ _ _ from ?_)
          refine wp_cond_false rfl ?_
          refine wp_skip ?_
          refine (show Code.wp _ _ _ _ _ from ?_)
          refine wp_region_L (W0 := w) [] (hW10) ?_
          refine lm (v := .int .i64 ((i : Nat) : Int)) rfl rfl ?_
          refine lp (v := .int .i64 (((i + 1) : Nat) : Int)) rfl rfl (run_bin rfl (vx := (.int .i64 ((i : Nat) : Int))) (vy := (.int .i64 ((1 : Nat) : Int))) (by kernel_rfl) (by kernel_rfl) fun w => bn_add (z := (i + 1)) rfl (wr_i64 (by omega)) w) ?_
          refine lm (v := .int .i64 (((i + 1) : Nat) : Int)) rfl rfl ?_
          refine wpL_done (fun W11 hW11 => ?_)
          go_roundw
          case rel =>
            repeat apply Exists.intro
            exact ⟨⟨i + 1, (by omega), rfl, (hW11.sub (fun p hp => by first | exact hp | (simp only [List.mem_cons, List.mem_append, List.nil_append, List.not_mem_nil, or_assoc, or_false, false_or] at hp ⊢ <;> grind)))⟩, rfl⟩
          case measure => (show l.length + 12 - (intOf (.int .i64 (((i + 1) : Nat) : Int))).toNat < l.length + 12 - (intOf (.int .i64 ((i : Nat) : Int))).toNat); simp only [intOf]; omega
end Go.Proofs.Ythpooalhibedpaa
/- Small ships, as the law takes them. -/
namespace Go.Proofs.Ythpooalhibedpaa
open Go Go.RowKit Tw
def fewX (cs : List Col) (os : List Cov) : Bool := decide (cs.length ≤ 250) && decide (os.length ≤ 60) && cs.all (fun c => decide (c.plugs.length ≤ 12)) && os.all (fun o => decide (o.rows.length ≤ 40))
theorem few_yes {cs : List Col} {os : List Cov} (h1 : ¬ 250 < cs.length) (h2 : ¬ 60 < os.length) (h3 : ∀ j c, j < cs.length → cs[j]? = some c → c.plugs.length ≤ 12) (h4 : ∀ j o, j < os.length → os[j]? = some o → o.rows.length ≤ 40) : fewX cs os = true := by
  unfold fewX
  rw [decide_eq_true (show cs.length ≤ 250 by omega), decide_eq_true (show os.length ≤ 60 by omega)]
  simp only [Bool.true_and, Bool.and_eq_true, List.all_eq_true, decide_eq_true_eq]
  refine ⟨fun c hm => ?_, fun o hm => ?_⟩
  · obtain ⟨j, hj⟩ := List.getElem?_of_mem hm
    exact h3 j c (List.getElem?_eq_some_iff.1 hj).1 hj
  · obtain ⟨j, hj⟩ := List.getElem?_of_mem hm
    exact h4 j o (List.getElem?_eq_some_iff.1 hj).1 hj
theorem few_no1 {cs : List Col} {os : List Cov} (h : 250 < cs.length) : fewX cs os = false := by
  unfold fewX
  rw [decide_eq_false (show ¬ cs.length ≤ 250 by omega)]; rfl
theorem few_no2 {cs : List Col} {os : List Cov} (h : 60 < os.length) : fewX cs os = false := by
  unfold fewX
  rw [decide_eq_false (show ¬ os.length ≤ 60 by omega), Bool.and_false]; rfl
theorem few_no3 {cs : List Col} {os : List Cov} {j : Nat} {c : Col} (hj : cs[j]? = some c) (h : 12 < c.plugs.length) : fewX cs os = false := by
  cases hb : fewX cs os with
  | false => rfl
  | true =>
    unfold fewX at hb
    simp only [Bool.and_eq_true, List.all_eq_true, decide_eq_true_eq] at hb
    have := hb.1.2 c (List.mem_of_getElem? hj)
    omega
theorem few_no4 {cs : List Col} {os : List Cov} {j : Nat} {o : Cov} (hj : os[j]? = some o) (h : 40 < o.rows.length) : fewX cs os = false := by
  cases hb : fewX cs os with
  | false => rfl
  | true =>
    unfold fewX at hb
    simp only [Bool.and_eq_true, List.all_eq_true, decide_eq_true_eq] at hb
    have := hb.2 o (List.mem_of_getElem? hj)
    omega
theorem few_is {cs : List Col} {os : List Cov} (hb : fewX cs os = true) : cs.length ≤ 250 ∧ os.length ≤ 60 ∧ (∀ c ∈ cs, c.plugs.length ≤ 12) ∧ ∀ o ∈ os, o.rows.length ≤ 40 := by
  unfold fewX at hb
  simp only [Bool.and_eq_true, List.all_eq_true, decide_eq_true_eq] at hb
  exact ⟨hb.1.1.1, hb.1.1.2, hb.1.2, hb.2⟩
theorem few_c {cs : List Col} {i q : Nat} {y : Col} (hC : ∀ j c, j < i → cs[j]? = some c → c.plugs.length ≤ 12) (hy : cs[i]? = some y) (h : ¬ 12 < y.plugs.length) (_ : q = i) : ∀ j c, j < i + 1 → cs[j]? = some c → c.plugs.length ≤ 12 := by
  intro j c hj hc
  by_cases e : j = i
  · subst e
    rw [hy] at hc
    cases hc
    omega
  · exact hC j c (by omega) hc
theorem few_o {os : List Cov} {i q : Nat} {y : Cov} (hC : ∀ j o, j < i → os[j]? = some o → o.rows.length ≤ 40) (hy : os[i]? = some y) (h : ¬ 40 < y.rows.length) (_ : q = i) : ∀ j o, j < i + 1 → os[j]? = some o → o.rows.length ≤ 40 := by
  intro j c hj hc
  by_cases e : j = i
  · subst e
    rw [hy] at hc
    cases hc
    omega
  · exact hC j c (by omega) hc
end Go.Proofs.Ythpooalhibedpaa
