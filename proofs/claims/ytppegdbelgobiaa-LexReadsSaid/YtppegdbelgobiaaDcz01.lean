import Derived.Test.YtppegdbelgobiaaDcz00
import Derived.Test.YtppegdbelgobiaaG00
/- Part of the proof: Ca0, Sj, Ca1, Cb0. -/
set_option linter.unusedVariables false
set_option linter.unusedSimpArgs false
set_option linter.unusedSectionVars false
namespace Go.Proofs.Ytppegdbelgobiaa
open Go Go.RowKit Tw
set_option maxRecDepth 100000 in
set_option maxHeartbeats 4000000 in
theorem worse_new (a1 a2 a3 b1 b2 b3 : Nat) (h : a3 = 0) (w : World) : Calls Try.prog 36 #[.agg #[.int .i64 ((a1 : Nat) : Int), .int .i64 ((a2 : Nat) : Int), .int .i64 ((a3 : Nat) : Int)], .agg #[.int .i64 ((b1 : Nat) : Int), .int .i64 ((b2 : Nat) : Int), .int .i64 ((b3 : Nat) : Int)]] w fun e w' => e = .returned (.agg #[.int .i64 ((b1 : Nat) : Int), .int .i64 ((b2 : Nat) : Int), .int .i64 ((b3 : Nat) : Int)]) ∧ Below w.heap.size w w' := by
  go_enter Try.func36, Try.ntmps36
  refine wp_seq ?_
  refine wp_region_L (W0 := w) [] (KS.start w) ?_
  refine wpL_new (fun g => .pointer (some ⟨g, 0, none⟩)) (obi := .cells #[.int .i64 ((a1 : Nat) : Int), .int .i64 ((a2 : Nat) : Int), .int .i64 ((a3 : Nat) : Int)] 71 (0, 0)) rfl rfl (fun _ => by kernel_rfl) (fun _ => by simp only [List.setIfInBounds_toArray, List.set_cons_succ, List.set_cons_zero] <;> rfl) fun g1 Bg1 Fg1 => ?_
  refine wpL_new (fun g => .pointer (some ⟨g, 0, none⟩)) (obi := .cells #[.int .i64 ((b1 : Nat) : Int), .int .i64 ((b2 : Nat) : Int), .int .i64 ((b3 : Nat) : Int)] 71 (0, 0)) rfl rfl (fun _ => by kernel_rfl) (fun _ => by simp only [List.setIfInBounds_toArray, List.set_cons_succ, List.set_cons_zero] <;> rfl) fun g2 Bg2 Fg2 => ?_
  refine wpL_new (fun g => .pointer (some ⟨g, 0, none⟩)) (obi := .cells #[.int .i64 0, .int .i64 0, .int .i64 0] 71 (0, 0)) rfl rfl (fun _ => by kernel_rfl) (fun _ => by simp only [List.setIfInBounds_toArray, List.set_cons_succ, List.set_cons_zero] <;> rfl) fun g3 Bg3 Fg3 => ?_
  refine wpL_done (fun W1 hW1 => ?_)
  refine (show Code.wp _ _ _ _ _ from ?_)
  refine wp_seq ?_
  refine wp_seq ?_
  refine wp_region_L (W0 := w) [(g3, .cells #[.int .i64 0, .int .i64 0, .int .i64 0] 71 (0, 0)), (g2, .cells #[.int .i64 ((b1 : Nat) : Int), .int .i64 ((b2 : Nat) : Int), .int .i64 ((b3 : Nat) : Int)] 71 (0, 0)), (g1, .cells #[.int .i64 ((a1 : Nat) : Int), .int .i64 ((a2 : Nat) : Int), .int .i64 ((a3 : Nat) : Int)] 71 (0, 0))] (hW1) ?_
  refine lm (v := .pointer (some ⟨g1, 2, none⟩)) rfl rfl ?_
  refine lv (v := .int .i64 ((a3 : Nat) : Int)) rfl rfl (yb_cell (off := 2) rfl (by kernel_rfl) (.tail _ (.tail _ (.head _))) Try.underlying3 rfl (by kernel_rfl)) ?_
  refine lp (v := .bool true) rfl rfl (run_bin rfl (vx := (.int .i64 ((a3 : Nat) : Int))) (vy := (.int .i64 ((0 : Nat) : Int))) (by kernel_rfl) (by kernel_rfl) fun w => bn_eql (decide_eq_true h) w) ?_
  refine lm (v := .bool true) rfl rfl ?_
  refine ln rfl ?_
  refine ln rfl ?_
  refine ln rfl ?_
  refine ln rfl ?_
  refine ln rfl ?_
  refine ln rfl ?_
  refine ln rfl ?_
  refine ln rfl ?_
  refine ln rfl ?_
  refine ln rfl ?_
  refine ln rfl ?_
  refine ln rfl ?_
  refine ln rfl ?_
  refine ln rfl ?_
  refine ln rfl ?_
  refine ln rfl ?_
  refine ln rfl ?_
  refine ln rfl ?_
  refine ln rfl ?_
  refine ln rfl ?_
  refine ln rfl ?_
  refine ln rfl ?_
  refine ln rfl ?_
  refine ln rfl ?_
  refine lm (v := .bool true) rfl rfl ?_
  refine wpL_done (fun W2 hW2 => ?_)
  refine (show Code.wp _ _ _ _ _ from ?_)
  refine wp_cond_true rfl ?_
  refine wp_seq ?_
  refine wp_region_L (W0 := w) [(g3, .cells #[.int .i64 0, .int .i64 0, .int .i64 0] 71 (0, 0)), (g2, .cells #[.int .i64 ((b1 : Nat) : Int), .int .i64 ((b2 : Nat) : Int), .int .i64 ((b3 : Nat) : Int)] 71 (0, 0)), (g1, .cells #[.int .i64 ((a1 : Nat) : Int), .int .i64 ((a2 : Nat) : Int), .int .i64 ((a3 : Nat) : Int)] 71 (0, 0))] (hW2) ?_
  refine lv (v := .agg #[.int .i64 ((b1 : Nat) : Int), .int .i64 ((b2 : Nat) : Int), .int .i64 ((b3 : Nat) : Int)]) rfl rfl (yb_load (n := 3) (off := 0) rfl (by kernel_rfl) (.tail _ (.head _)) Try.underlying71 rfl (by kernel_rfl) (by simp) (by kernel_rfl)) ?_
  refine wpL_s [(g3, .cells #[.int .i64 ((b1 : Nat) : Int), .int .i64 ((b2 : Nat) : Int), .int .i64 ((b3 : Nat) : Int)] 71 (0, 0)), (g2, .cells #[.int .i64 ((b1 : Nat) : Int), .int .i64 ((b2 : Nat) : Int), .int .i64 ((b3 : Nat) : Int)] 71 (0, 0)), (g1, .cells #[.int .i64 ((a1 : Nat) : Int), .int .i64 ((a2 : Nat) : Int), .int .i64 ((a3 : Nat) : Int)] 71 (0, 0))] rfl rfl (st_row (off := 0) (v := .agg #[.int .i64 ((b1 : Nat) : Int), .int .i64 ((b2 : Nat) : Int), .int .i64 ((b3 : Nat) : Int)]) rfl (by kernel_rfl) (by kernel_rfl) (.head _) Bg3 (by kernel_rfl) (by simp [Value.cells]) (by intro v hv; simp [Value.cells] at hv; first | (subst hv; rfl) | (rcases hv with rfl | rfl | rfl <;> rfl)) (by kernel_rfl) (List.forall_mem_cons.2 ⟨.inl rfl, (List.forall_mem_cons.2 ⟨.inr ⟨(.tail _ (.head _)), (Fg3 _ (.head _))⟩, (List.forall_mem_cons.2 ⟨.inr ⟨(.tail _ (.tail _ (.head _))), (Fg3 _ (.tail _ (.head _)))⟩, (List.forall_mem_nil _)⟩)⟩)⟩)) ?_
  refine wpL_done (fun W3 hW3 => ?_)
  refine (show Code.wp _ _ _ _ _ from ?_)
  refine wp_ret ?_
  try simp only [inBlock_ret, then_ret]
  refine bodyPost_ret (v := .agg #[.int .i64 ((b1 : Nat) : Int), .int .i64 ((b2 : Nat) : Int), .int .i64 ((b3 : Nat) : Int)]) ?_ rfl ?_
  · exact (res_cell (p := 4) rfl rfl (hW3.2 _ (.head _)) Try.underlying71 rfl (by kernel_rfl))
  · exact ⟨rfl, hW3.1⟩
set_option maxRecDepth 100000 in
set_option maxHeartbeats 4000000 in
theorem worse_keep (a1 a2 a3 b1 b2 b3 : Nat) (h : ¬ a3 = 0) (h2 : b3 = 0 ∨ a1 < b1 ∨ (a1 = b1 ∧ a2 ≤ b2)) (w : World) : Calls Try.prog 36 #[.agg #[.int .i64 ((a1 : Nat) : Int), .int .i64 ((a2 : Nat) : Int), .int .i64 ((a3 : Nat) : Int)], .agg #[.int .i64 ((b1 : Nat) : Int), .int .i64 ((b2 : Nat) : Int), .int .i64 ((b3 : Nat) : Int)]] w fun e w' => e = .returned (.agg #[.int .i64 ((a1 : Nat) : Int), .int .i64 ((a2 : Nat) : Int), .int .i64 ((a3 : Nat) : Int)]) ∧ Below w.heap.size w w' := by
  go_enter Try.func36, Try.ntmps36
  refine wp_seq ?_
  refine wp_region_L (W0 := w) [] (KS.start w) ?_
  refine wpL_new (fun g => .pointer (some ⟨g, 0, none⟩)) (obi := .cells #[.int .i64 ((a1 : Nat) : Int), .int .i64 ((a2 : Nat) : Int), .int .i64 ((a3 : Nat) : Int)] 71 (0, 0)) rfl rfl (fun _ => by kernel_rfl) (fun _ => by simp only [List.setIfInBounds_toArray, List.set_cons_succ, List.set_cons_zero] <;> rfl) fun g1 Bg1 Fg1 => ?_
  refine wpL_new (fun g => .pointer (some ⟨g, 0, none⟩)) (obi := .cells #[.int .i64 ((b1 : Nat) : Int), .int .i64 ((b2 : Nat) : Int), .int .i64 ((b3 : Nat) : Int)] 71 (0, 0)) rfl rfl (fun _ => by kernel_rfl) (fun _ => by simp only [List.setIfInBounds_toArray, List.set_cons_succ, List.set_cons_zero] <;> rfl) fun g2 Bg2 Fg2 => ?_
  refine wpL_new (fun g => .pointer (some ⟨g, 0, none⟩)) (obi := .cells #[.int .i64 0, .int .i64 0, .int .i64 0] 71 (0, 0)) rfl rfl (fun _ => by kernel_rfl) (fun _ => by simp only [List.setIfInBounds_toArray, List.set_cons_succ, List.set_cons_zero] <;> rfl) fun g3 Bg3 Fg3 => ?_
  refine wpL_done (fun W1 hW1 => ?_)
  refine (show Code.wp _ _ _ _ _ from ?_)
  refine wp_seq ?_
  refine wp_seq ?_
  refine wp_region_L (W0 := w) [(g3, .cells #[.int .i64 0, .int .i64 0, .int .i64 0] 71 (0, 0)), (g2, .cells #[.int .i64 ((b1 : Nat) : Int), .int .i64 ((b2 : Nat) : Int), .int .i64 ((b3 : Nat) : Int)] 71 (0, 0)), (g1, .cells #[.int .i64 ((a1 : Nat) : Int), .int .i64 ((a2 : Nat) : Int), .int .i64 ((a3 : Nat) : Int)] 71 (0, 0))] (hW1) ?_
  refine lm (v := .pointer (some ⟨g1, 2, none⟩)) rfl rfl ?_
  refine lv (v := .int .i64 ((a3 : Nat) : Int)) rfl rfl (yb_cell (off := 2) rfl (by kernel_rfl) (.tail _ (.tail _ (.head _))) Try.underlying3 rfl (by kernel_rfl)) ?_
  refine lp (v := .bool false) rfl rfl (run_bin rfl (vx := (.int .i64 ((a3 : Nat) : Int))) (vy := (.int .i64 ((0 : Nat) : Int))) (by kernel_rfl) (by kernel_rfl) fun w => bn_eql (decide_eq_false h) w) ?_
  refine lm (v := .bool false) rfl rfl ?_
  refine lm (v := .pointer (some ⟨g2, 2, none⟩)) rfl rfl ?_
  refine lv (v := .int .i64 ((b3 : Nat) : Int)) rfl rfl (yb_cell (off := 2) rfl (by kernel_rfl) (.tail _ (.head _)) Try.underlying3 rfl (by kernel_rfl)) ?_
  refine lp (v := .bool (!(decide (b3 = 0)))) rfl rfl (run_bin rfl (vx := (.int .i64 ((b3 : Nat) : Int))) (vy := (.int .i64 ((0 : Nat) : Int))) (by kernel_rfl) (by kernel_rfl) fun w => bn_neq rfl w) ?_
  refine lm (v := .bool (!(decide (b3 = 0)))) rfl rfl ?_
  cases hd1 : (decide (b3 = 0)) with
  | false =>
    have h1 : ¬ (b3 = 0) := of_decide_eq_false hd1
    clear hd1
    refine lm (v := .pointer (some ⟨g2, 0, none⟩)) rfl rfl ?_
    refine lv (v := .int .i64 ((b1 : Nat) : Int)) rfl rfl (yb_cell (off := 0) rfl (by kernel_rfl) (.tail _ (.head _)) Try.underlying3 rfl (by kernel_rfl)) ?_
    refine lm (v := .pointer (some ⟨g1, 0, none⟩)) rfl rfl ?_
    refine lv (v := .int .i64 ((a1 : Nat) : Int)) rfl rfl (yb_cell (off := 0) rfl (by kernel_rfl) (.tail _ (.tail _ (.head _))) Try.underlying3 rfl (by kernel_rfl)) ?_
    refine lp (v := .bool (decide (b1 < a1))) rfl rfl (run_bin rfl (vx := (.int .i64 ((b1 : Nat) : Int))) (vy := (.int .i64 ((a1 : Nat) : Int))) (by kernel_rfl) (by kernel_rfl) fun w => bn_lss rfl w) ?_
    refine lm (v := .bool (decide (b1 < a1))) rfl rfl ?_
    cases hd2 : (decide (b1 < a1)) with
    | false =>
      have h2 : ¬ (b1 < a1) := of_decide_eq_false hd2
      clear hd2
      refine lm (v := .pointer (some ⟨g2, 0, none⟩)) rfl rfl ?_
      refine lv (v := .int .i64 ((b1 : Nat) : Int)) rfl rfl (yb_cell (off := 0) rfl (by kernel_rfl) (.tail _ (.head _)) Try.underlying3 rfl (by kernel_rfl)) ?_
      refine lm (v := .pointer (some ⟨g1, 0, none⟩)) rfl rfl ?_
      refine lv (v := .int .i64 ((a1 : Nat) : Int)) rfl rfl (yb_cell (off := 0) rfl (by kernel_rfl) (.tail _ (.tail _ (.head _))) Try.underlying3 rfl (by kernel_rfl)) ?_
      refine lp (v := .bool (decide (b1 = a1))) rfl rfl (run_bin rfl (vx := (.int .i64 ((b1 : Nat) : Int))) (vy := (.int .i64 ((a1 : Nat) : Int))) (by kernel_rfl) (by kernel_rfl) fun w => bn_eql rfl w) ?_
      refine lm (v := .bool (decide (b1 = a1))) rfl rfl ?_
      cases hd3 : (decide (b1 = a1)) with
      | false =>
        have h3 : ¬ (b1 = a1) := of_decide_eq_false hd3
        clear hd3
        refine ln rfl ?_
        refine ln rfl ?_
        refine ln rfl ?_
        refine ln rfl ?_
        refine ln rfl ?_
        refine lm (v := .bool false) rfl rfl ?_
        refine lm (v := .bool false) rfl rfl ?_
        refine lm (v := .bool false) rfl rfl ?_
        refine lm (v := .bool false) rfl rfl ?_
        refine wpL_done (fun W2 hW2 => ?_)
        refine (show Code.wp _ _ _ _ _ from ?_)
        refine wp_cond_false rfl ?_
        refine wp_skip ?_
        refine (show Code.wp _ _ _ _ _ from ?_)
        refine wp_seq ?_
        refine wp_region_L (W0 := w) [(g3, .cells #[.int .i64 0, .int .i64 0, .int .i64 0] 71 (0, 0)), (g2, .cells #[.int .i64 ((b1 : Nat) : Int), .int .i64 ((b2 : Nat) : Int), .int .i64 ((b3 : Nat) : Int)] 71 (0, 0)), (g1, .cells #[.int .i64 ((a1 : Nat) : Int), .int .i64 ((a2 : Nat) : Int), .int .i64 ((a3 : Nat) : Int)] 71 (0, 0))] (hW2) ?_
        refine lv (v := .agg #[.int .i64 ((a1 : Nat) : Int), .int .i64 ((a2 : Nat) : Int), .int .i64 ((a3 : Nat) : Int)]) rfl rfl (yb_load (n := 3) (off := 0) rfl (by kernel_rfl) (.tail _ (.tail _ (.head _))) Try.underlying71 rfl (by kernel_rfl) (by simp) (by kernel_rfl)) ?_
        refine wpL_s [(g3, .cells #[.int .i64 ((a1 : Nat) : Int), .int .i64 ((a2 : Nat) : Int), .int .i64 ((a3 : Nat) : Int)] 71 (0, 0)), (g2, .cells #[.int .i64 ((b1 : Nat) : Int), .int .i64 ((b2 : Nat) : Int), .int .i64 ((b3 : Nat) : Int)] 71 (0, 0)), (g1, .cells #[.int .i64 ((a1 : Nat) : Int), .int .i64 ((a2 : Nat) : Int), .int .i64 ((a3 : Nat) : Int)] 71 (0, 0))] rfl rfl (st_row (off := 0) (v := .agg #[.int .i64 ((a1 : Nat) : Int), .int .i64 ((a2 : Nat) : Int), .int .i64 ((a3 : Nat) : Int)]) rfl (by kernel_rfl) (by kernel_rfl) (.head _) Bg3 (by kernel_rfl) (by simp [Value.cells]) (by intro v hv; simp [Value.cells] at hv; first | (subst hv; rfl) | (rcases hv with rfl | rfl | rfl <;> rfl)) (by kernel_rfl) (List.forall_mem_cons.2 ⟨.inl rfl, (List.forall_mem_cons.2 ⟨.inr ⟨(.tail _ (.head _)), (Fg3 _ (.head _))⟩, (List.forall_mem_cons.2 ⟨.inr ⟨(.tail _ (.tail _ (.head _))), (Fg3 _ (.tail _ (.head _)))⟩, (List.forall_mem_nil _)⟩)⟩)⟩)) ?_
        refine wpL_done (fun W3 hW3 => ?_)
        refine (show Code.wp _ _ _ _ _ from ?_)
        refine wp_ret ?_
        try simp only [inBlock_ret, then_ret]
        refine bodyPost_ret (v := .agg #[.int .i64 ((a1 : Nat) : Int), .int .i64 ((a2 : Nat) : Int), .int .i64 ((a3 : Nat) : Int)]) ?_ rfl ?_
        · exact (res_cell (p := 4) rfl rfl (hW3.2 _ (.head _)) Try.underlying71 rfl (by kernel_rfl))
        · exact ⟨rfl, hW3.1⟩
      | true =>
        have h3 : b1 = a1 := of_decide_eq_true hd3
        clear hd3
        refine lm (v := .pointer (some ⟨g2, 1, none⟩)) rfl rfl ?_
        refine lv (v := .int .i64 ((b2 : Nat) : Int)) rfl rfl (yb_cell (off := 1) rfl (by kernel_rfl) (.tail _ (.head _)) Try.underlying3 rfl (by kernel_rfl)) ?_
        refine lm (v := .pointer (some ⟨g1, 1, none⟩)) rfl rfl ?_
        refine lv (v := .int .i64 ((a2 : Nat) : Int)) rfl rfl (yb_cell (off := 1) rfl (by kernel_rfl) (.tail _ (.tail _ (.head _))) Try.underlying3 rfl (by kernel_rfl)) ?_
        refine lp (v := .bool (decide (b2 < a2))) rfl rfl (run_bin rfl (vx := (.int .i64 ((b2 : Nat) : Int))) (vy := (.int .i64 ((a2 : Nat) : Int))) (by kernel_rfl) (by kernel_rfl) fun w => bn_lss rfl w) ?_
        refine lm (v := .bool (decide (b2 < a2))) rfl rfl ?_
        refine lm (v := .bool (decide (b2 < a2))) rfl rfl ?_
        refine lm (v := .bool (decide (b2 < a2))) rfl rfl ?_
        refine lm (v := .bool (decide (b2 < a2))) rfl rfl ?_
        refine wpL_done (fun W4 hW4 => ?_)
        refine (show Code.wp _ _ _ _ _ from ?_)
        cases hd4 : (decide (b2 < a2)) with
        | false =>
          have h4 : ¬ (b2 < a2) := of_decide_eq_false hd4
          clear hd4
          refine wp_cond_false rfl ?_
          refine wp_skip ?_
          refine (show Code.wp _ _ _ _ _ from ?_)
          refine wp_seq ?_
          refine wp_region_L (W0 := w) [(g3, .cells #[.int .i64 0, .int .i64 0, .int .i64 0] 71 (0, 0)), (g2, .cells #[.int .i64 ((b1 : Nat) : Int), .int .i64 ((b2 : Nat) : Int), .int .i64 ((b3 : Nat) : Int)] 71 (0, 0)), (g1, .cells #[.int .i64 ((a1 : Nat) : Int), .int .i64 ((a2 : Nat) : Int), .int .i64 ((a3 : Nat) : Int)] 71 (0, 0))] (hW4) ?_
          refine lv (v := .agg #[.int .i64 ((a1 : Nat) : Int), .int .i64 ((a2 : Nat) : Int), .int .i64 ((a3 : Nat) : Int)]) rfl rfl (yb_load (n := 3) (off := 0) rfl (by kernel_rfl) (.tail _ (.tail _ (.head _))) Try.underlying71 rfl (by kernel_rfl) (by simp) (by kernel_rfl)) ?_
          refine wpL_s [(g3, .cells #[.int .i64 ((a1 : Nat) : Int), .int .i64 ((a2 : Nat) : Int), .int .i64 ((a3 : Nat) : Int)] 71 (0, 0)), (g2, .cells #[.int .i64 ((b1 : Nat) : Int), .int .i64 ((b2 : Nat) : Int), .int .i64 ((b3 : Nat) : Int)] 71 (0, 0)), (g1, .cells #[.int .i64 ((a1 : Nat) : Int), .int .i64 ((a2 : Nat) : Int), .int .i64 ((a3 : Nat) : Int)] 71 (0, 0))] rfl rfl (st_row (off := 0) (v := .agg #[.int .i64 ((a1 : Nat) : Int), .int .i64 ((a2 : Nat) : Int), .int .i64 ((a3 : Nat) : Int)]) rfl (by kernel_rfl) (by kernel_rfl) (.head _) Bg3 (by kernel_rfl) (by simp [Value.cells]) (by intro v hv; simp [Value.cells] at hv; first | (subst hv; rfl) | (rcases hv with rfl | rfl | rfl <;> rfl)) (by kernel_rfl) (List.forall_mem_cons.2 ⟨.inl rfl, (List.forall_mem_cons.2 ⟨.inr ⟨(.tail _ (.head _)), (Fg3 _ (.head _))⟩, (List.forall_mem_cons.2 ⟨.inr ⟨(.tail _ (.tail _ (.head _))), (Fg3 _ (.tail _ (.head _)))⟩, (List.forall_mem_nil _)⟩)⟩)⟩)) ?_
          refine wpL_done (fun W5 hW5 => ?_)
          refine (show Code.wp _ _ _ _ _ from ?_)
          refine wp_ret ?_
          try simp only [inBlock_ret, then_ret]
          refine bodyPost_ret (v := .agg #[.int .i64 ((a1 : Nat) : Int), .int .i64 ((a2 : Nat) : Int), .int .i64 ((a3 : Nat) : Int)]) ?_ rfl ?_
          · exact (res_cell (p := 4) rfl rfl (hW5.2 _ (.head _)) Try.underlying71 rfl (by kernel_rfl))
          · exact ⟨rfl, hW5.1⟩
        | true =>
          have h4 : b2 < a2 := of_decide_eq_true hd4
          clear hd4
          refine wp_cond_true rfl ?_
          refine wp_seq ?_
          refine wp_region_L (W0 := w) [(g3, .cells #[.int .i64 0, .int .i64 0, .int .i64 0] 71 (0, 0)), (g2, .cells #[.int .i64 ((b1 : Nat) : Int), .int .i64 ((b2 : Nat) : Int), .int .i64 ((b3 : Nat) : Int)] 71 (0, 0)), (g1, .cells #[.int .i64 ((a1 : Nat) : Int), .int .i64 ((a2 : Nat) : Int), .int .i64 ((a3 : Nat) : Int)] 71 (0, 0))] (hW4) ?_
          refine lv (v := .agg #[.int .i64 ((b1 : Nat) : Int), .int .i64 ((b2 : Nat) : Int), .int .i64 ((b3 : Nat) : Int)]) rfl rfl (yb_load (n := 3) (off := 0) rfl (by kernel_rfl) (.tail _ (.head _)) Try.underlying71 rfl (by kernel_rfl) (by simp) (by kernel_rfl)) ?_
          refine wpL_s [(g3, .cells #[.int .i64 ((b1 : Nat) : Int), .int .i64 ((b2 : Nat) : Int), .int .i64 ((b3 : Nat) : Int)] 71 (0, 0)), (g2, .cells #[.int .i64 ((b1 : Nat) : Int), .int .i64 ((b2 : Nat) : Int), .int .i64 ((b3 : Nat) : Int)] 71 (0, 0)), (g1, .cells #[.int .i64 ((a1 : Nat) : Int), .int .i64 ((a2 : Nat) : Int), .int .i64 ((a3 : Nat) : Int)] 71 (0, 0))] rfl rfl (st_row (off := 0) (v := .agg #[.int .i64 ((b1 : Nat) : Int), .int .i64 ((b2 : Nat) : Int), .int .i64 ((b3 : Nat) : Int)]) rfl (by kernel_rfl) (by kernel_rfl) (.head _) Bg3 (by kernel_rfl) (by simp [Value.cells]) (by intro v hv; simp [Value.cells] at hv; first | (subst hv; rfl) | (rcases hv with rfl | rfl | rfl <;> rfl)) (by kernel_rfl) (List.forall_mem_cons.2 ⟨.inl rfl, (List.forall_mem_cons.2 ⟨.inr ⟨(.tail _ (.head _)), (Fg3 _ (.head _))⟩, (List.forall_mem_cons.2 ⟨.inr ⟨(.tail _ (.tail _ (.head _))), (Fg3 _ (.tail _ (.head _)))⟩, (List.forall_mem_nil _)⟩)⟩)⟩)) ?_
          refine wpL_done (fun W6 hW6 => ?_)
          refine (show Code.wp _ _ _ _ _ from ?_)
          refine wp_ret ?_
          try simp only [inBlock_ret, then_ret]
          refine bodyPost_ret (v := .agg #[.int .i64 ((b1 : Nat) : Int), .int .i64 ((b2 : Nat) : Int), .int .i64 ((b3 : Nat) : Int)]) ?_ rfl ?_
          · exact (res_cell (p := 4) rfl rfl (hW6.2 _ (.head _)) Try.underlying71 rfl (by kernel_rfl))
          · exact (by exfalso; omega)
    | true =>
      have h2 : b1 < a1 := of_decide_eq_true hd2
      clear hd2
      refine ln rfl ?_
      refine ln rfl ?_
      refine ln rfl ?_
      refine ln rfl ?_
      refine ln rfl ?_
      refine ln rfl ?_
      refine ln rfl ?_
      refine ln rfl ?_
      refine ln rfl ?_
      refine ln rfl ?_
      refine ln rfl ?_
      refine ln rfl ?_
      refine lm (v := .bool true) rfl rfl ?_
      refine lm (v := .bool true) rfl rfl ?_
      refine lm (v := .bool true) rfl rfl ?_
      refine wpL_done (fun W7 hW7 => ?_)
      refine (show Code.wp _ _ _ _ _ from ?_)
      refine wp_cond_true rfl ?_
      refine wp_seq ?_
      refine wp_region_L (W0 := w) [(g3, .cells #[.int .i64 0, .int .i64 0, .int .i64 0] 71 (0, 0)), (g2, .cells #[.int .i64 ((b1 : Nat) : Int), .int .i64 ((b2 : Nat) : Int), .int .i64 ((b3 : Nat) : Int)] 71 (0, 0)), (g1, .cells #[.int .i64 ((a1 : Nat) : Int), .int .i64 ((a2 : Nat) : Int), .int .i64 ((a3 : Nat) : Int)] 71 (0, 0))] (hW7) ?_
      refine lv (v := .agg #[.int .i64 ((b1 : Nat) : Int), .int .i64 ((b2 : Nat) : Int), .int .i64 ((b3 : Nat) : Int)]) rfl rfl (yb_load (n := 3) (off := 0) rfl (by kernel_rfl) (.tail _ (.head _)) Try.underlying71 rfl (by kernel_rfl) (by simp) (by kernel_rfl)) ?_
      refine wpL_s [(g3, .cells #[.int .i64 ((b1 : Nat) : Int), .int .i64 ((b2 : Nat) : Int), .int .i64 ((b3 : Nat) : Int)] 71 (0, 0)), (g2, .cells #[.int .i64 ((b1 : Nat) : Int), .int .i64 ((b2 : Nat) : Int), .int .i64 ((b3 : Nat) : Int)] 71 (0, 0)), (g1, .cells #[.int .i64 ((a1 : Nat) : Int), .int .i64 ((a2 : Nat) : Int), .int .i64 ((a3 : Nat) : Int)] 71 (0, 0))] rfl rfl (st_row (off := 0) (v := .agg #[.int .i64 ((b1 : Nat) : Int), .int .i64 ((b2 : Nat) : Int), .int .i64 ((b3 : Nat) : Int)]) rfl (by kernel_rfl) (by kernel_rfl) (.head _) Bg3 (by kernel_rfl) (by simp [Value.cells]) (by intro v hv; simp [Value.cells] at hv; first | (subst hv; rfl) | (rcases hv with rfl | rfl | rfl <;> rfl)) (by kernel_rfl) (List.forall_mem_cons.2 ⟨.inl rfl, (List.forall_mem_cons.2 ⟨.inr ⟨(.tail _ (.head _)), (Fg3 _ (.head _))⟩, (List.forall_mem_cons.2 ⟨.inr ⟨(.tail _ (.tail _ (.head _))), (Fg3 _ (.tail _ (.head _)))⟩, (List.forall_mem_nil _)⟩)⟩)⟩)) ?_
      refine wpL_done (fun W8 hW8 => ?_)
      refine (show Code.wp _ _ _ _ _ from ?_)
      refine wp_ret ?_
      try simp only [inBlock_ret, then_ret]
      refine bodyPost_ret (v := .agg #[.int .i64 ((b1 : Nat) : Int), .int .i64 ((b2 : Nat) : Int), .int .i64 ((b3 : Nat) : Int)]) ?_ rfl ?_
      · exact (res_cell (p := 4) rfl rfl (hW8.2 _ (.head _)) Try.underlying71 rfl (by kernel_rfl))
      · exact (by exfalso; omega)
  | true =>
    have h1 : b3 = 0 := of_decide_eq_true hd1
    clear hd1
    refine ln rfl ?_
    refine ln rfl ?_
    refine ln rfl ?_
    refine ln rfl ?_
    refine ln rfl ?_
    refine ln rfl ?_
    refine ln rfl ?_
    refine ln rfl ?_
    refine ln rfl ?_
    refine ln rfl ?_
    refine ln rfl ?_
    refine ln rfl ?_
    refine ln rfl ?_
    refine ln rfl ?_
    refine ln rfl ?_
    refine ln rfl ?_
    refine ln rfl ?_
    refine ln rfl ?_
    refine ln rfl ?_
    refine lm (v := .bool false) rfl rfl ?_
    refine lm (v := .bool false) rfl rfl ?_
    refine wpL_done (fun W9 hW9 => ?_)
    refine (show Code.wp _ _ _ _ _ from ?_)
    refine wp_cond_false rfl ?_
    refine wp_skip ?_
    refine (show Code.wp _ _ _ _ _ from ?_)
    refine wp_seq ?_
    refine wp_region_L (W0 := w) [(g3, .cells #[.int .i64 0, .int .i64 0, .int .i64 0] 71 (0, 0)), (g2, .cells #[.int .i64 ((b1 : Nat) : Int), .int .i64 ((b2 : Nat) : Int), .int .i64 ((b3 : Nat) : Int)] 71 (0, 0)), (g1, .cells #[.int .i64 ((a1 : Nat) : Int), .int .i64 ((a2 : Nat) : Int), .int .i64 ((a3 : Nat) : Int)] 71 (0, 0))] (hW9) ?_
    refine lv (v := .agg #[.int .i64 ((a1 : Nat) : Int), .int .i64 ((a2 : Nat) : Int), .int .i64 ((a3 : Nat) : Int)]) rfl rfl (yb_load (n := 3) (off := 0) rfl (by kernel_rfl) (.tail _ (.tail _ (.head _))) Try.underlying71 rfl (by kernel_rfl) (by simp) (by kernel_rfl)) ?_
    refine wpL_s [(g3, .cells #[.int .i64 ((a1 : Nat) : Int), .int .i64 ((a2 : Nat) : Int), .int .i64 ((a3 : Nat) : Int)] 71 (0, 0)), (g2, .cells #[.int .i64 ((b1 : Nat) : Int), .int .i64 ((b2 : Nat) : Int), .int .i64 ((b3 : Nat) : Int)] 71 (0, 0)), (g1, .cells #[.int .i64 ((a1 : Nat) : Int), .int .i64 ((a2 : Nat) : Int), .int .i64 ((a3 : Nat) : Int)] 71 (0, 0))] rfl rfl (st_row (off := 0) (v := .agg #[.int .i64 ((a1 : Nat) : Int), .int .i64 ((a2 : Nat) : Int), .int .i64 ((a3 : Nat) : Int)]) rfl (by kernel_rfl) (by kernel_rfl) (.head _) Bg3 (by kernel_rfl) (by simp [Value.cells]) (by intro v hv; simp [Value.cells] at hv; first | (subst hv; rfl) | (rcases hv with rfl | rfl | rfl <;> rfl)) (by kernel_rfl) (List.forall_mem_cons.2 ⟨.inl rfl, (List.forall_mem_cons.2 ⟨.inr ⟨(.tail _ (.head _)), (Fg3 _ (.head _))⟩, (List.forall_mem_cons.2 ⟨.inr ⟨(.tail _ (.tail _ (.head _))), (Fg3 _ (.tail _ (.head _)))⟩, (List.forall_mem_nil _)⟩)⟩)⟩)) ?_
    refine wpL_done (fun W10 hW10 => ?_)
    refine (show Code.wp _ _ _ _ _ from ?_)
    refine wp_ret ?_
    try simp only [inBlock_ret, then_ret]
    refine bodyPost_ret (v := .agg #[.int .i64 ((a1 : Nat) : Int), .int .i64 ((a2 : Nat) : Int), .int .i64 ((a3 : Nat) : Int)]) ?_ rfl ?_
    · exact (res_cell (p := 4) rfl rfl (hW10.2 _ (.head _)) Try.underlying71 rfl (by kernel_rfl))
    · exact ⟨rfl, hW10.1⟩
def rest (l : List UInt8) (e i : Nat) : List UInt8 := (l.take e).drop i
theorem rest_at {l : List UInt8} {e i : Nat} {b : UInt8} (h : l[i]? = some b) (hi : i < e) : rest l e i = b :: rest l e (i + 1) := by
  have : (l.take e)[i]? = some b := by rw [List.getElem?_take, if_pos hi]; exact h
  exact drop_at this
theorem rest_end {l : List UInt8} {e : Nat} (i : Nat) (h : e ≤ i) : rest l e i = [] := by
  unfold rest
  rw [List.drop_of_length_le]
  rw [List.length_take]
  omega
section
variable {l : List UInt8} {e i : Nat} {b d : UInt8} {c : Cmp}
theorem compR_40 (h : l[i]? = some b) (hi : i < e) (hm : may b = false) : compR i c (rest l e i) = .bad i 40 := by
  rw [rest_at h hi]
  match rest l e (i + 1) with
  | [] => exact if_pos hm
  | x :: r => exact if_pos hm
theorem compR_q (h : l[i]? = some b) (hi : i < e) (h63 : b.toNat = 63) (he : rest l e (i + 1) = []) : compR i c (rest l e i) = .bad i 41 := by
  have hm : may b = true := may_low (by omega) (by omega)
  rw [rest_at h hi, he]
  exact (if_neg (by rw [hm]; simp)).trans (if_pos h63)
theorem compR_q2 (h : l[i]? = some b) (hi : i < e) (h63 : b.toNat = 63) (h2 : l[i + 1]? = some d) (hi2 : i + 1 < e) (hd : ¬ (svc d || decide (d.toNat = 32)) = true) : compR i c (rest l e i) = .bad i 41 := by
  have hm : may b = true := may_low (by omega) (by omega)
  rw [rest_at h hi, rest_at h2 hi2]
  exact (if_neg (by rw [hm]; simp)).trans ((if_pos h63).trans (if_neg hd))
theorem compR_qlong (h : l[i]? = some b) (hi : i < e) (h63 : b.toNat = 63) (h2 : l[i + 1]? = some d) (hi2 : i + 1 < e) (hd : (svc d || decide (d.toNat = 32)) = true) (hc : 100 ≤ c.length) : compR i c (rest l e i) = .bad i 3 := by
  have hm : may b = true := may_low (by omega) (by omega)
  rw [rest_at h hi, rest_at h2 hi2]
  exact (if_neg (by rw [hm]; simp)).trans ((if_pos h63).trans ((if_pos hd).trans (if_pos hc)))
theorem compR_qok (h : l[i]? = some b) (hi : i < e) (h63 : b.toNat = 63) (h2 : l[i + 1]? = some d) (hi2 : i + 1 < e) (hd : (svc d || decide (d.toNat = 32)) = true) (hc : ¬ 100 ≤ c.length) : compR i c (rest l e i) = compR (i + 1 + 1) (c ++ [d]) (rest l e (i + 1 + 1)) := by
  have hm : may b = true := may_low (by omega) (by omega)
  rw [rest_at h hi, rest_at h2 hi2]
  exact (if_neg (by rw [hm]; simp)).trans ((if_pos h63).trans ((if_pos hd).trans (if_neg hc)))
theorem compR_long (h : l[i]? = some b) (hi : i < e) (hm : may b = true) (h63 : ¬ b.toNat = 63) (hc : 100 ≤ c.length) : compR i c (rest l e i) = .bad i 3 := by
  rw [rest_at h hi]
  match rest l e (i + 1) with
  | [] => exact (if_neg (by rw [hm]; simp)).trans ((if_neg h63).trans (if_pos hc))
  | x :: r => exact (if_neg (by rw [hm]; simp)).trans ((if_neg h63).trans (if_pos hc))
theorem compR_ok (h : l[i]? = some b) (hi : i < e) (hm : may b = true) (h63 : ¬ b.toNat = 63) (hc : ¬ 100 ≤ c.length) : compR i c (rest l e i) = compR (i + 1) (c ++ [b]) (rest l e (i + 1)) := by
  rw [rest_at h hi]
  match rest l e (i + 1) with
  | [] => exact (if_neg (by rw [hm]; simp)).trans ((if_neg h63).trans (if_neg hc))
  | x :: r => exact (if_neg (by rw [hm]; simp)).trans ((if_neg h63).trans (if_neg hc))
def Tqe (l : List UInt8) (e i : Nat) : Prop := tq (rest l e i) = true → e = l.length
theorem tqe_one (hq : Tqe l e i) (h : l[i]? = some b) (hi : i < e) (h63 : ¬ b.toNat = 63) : Tqe l e (i + 1) := by
  unfold Tqe at hq ⊢
  rw [rest_at h hi, tq_cons _ h63] at hq
  exact hq
theorem tqe_two (hq : Tqe l e i) (h : l[i]? = some b) (hi : i < e) (h63 : b.toNat = 63) (h2 : l[i + 1]? = some d) (hi2 : i + 1 < e) : Tqe l e (i + 1 + 1) := by
  unfold Tqe at hq ⊢
  rw [rest_at h hi, rest_at h2 hi2, tq_63 _ _ h63] at hq
  exact hq
theorem tqe_end (hq : Tqe l e i) (h : l[i]? = some b) (hi : i < e) (h63 : b.toNat = 63) (he : ¬ i + 1 < e) : e = l.length := by
  refine hq ?_
  rw [rest_at h hi, rest_end (i + 1) (by omega)]
  show decide (b.toNat = 63) = true
  simp [h63]
theorem tqe_big (h : e ≤ i) : Tqe l e i := by
  unfold Tqe
  rw [rest_end i h]
  intro h
  cases h
end
def CI (x : Res Cmp) (l : List UInt8) (f e i : Nat) (c : Cmp) (fa fr fe : Nat) : Prop :=
  (fe = 0 ∧ i ≤ e ∧ c.length ≤ 100 ∧ x = compR i c (rest l e i)) ∨ (¬ fe = 0 ∧ x = .bad fa fe ∧ fa < i ∧ fa < e ∧ f ≤ fa ∧ fr ≤ 4)
theorem CI.ok {x : Res Cmp} {l : List UInt8} {f e i : Nat} {c : Cmp} {fa fr fe : Nat} (h : CI x l f e i c fa fr fe) (h0 : fe = 0) : i ≤ e ∧ c.length ≤ 100 ∧ x = compR i c (rest l e i) := by
  rcases h with h | h
  · exact h.2
  · exact absurd h0 h.1
theorem CI.bad {x : Res Cmp} {l : List UInt8} {f e i : Nat} {c : Cmp} {fa fr fe : Nat} (h : CI x l f e i c fa fr fe) (h0 : ¬ fe = 0) : x = .bad fa fe ∧ fa < i ∧ fa < e ∧ f ≤ fa ∧ fr ≤ 4 := by
  rcases h with h | h
  · exact absurd h.1 h0
  · exact h.2
def CJ (x : Res Cmp) (l : List UInt8) (f e i : Nat) (c : Cmp) (fa fr fe : Nat) : Prop :=
  (fe = 0 ∧ i ≤ e ∧ c.length ≤ 100 ∧ x = compR i c (rest l e i) ∧ ∀ b, l[i]? = some b → may b = true) ∨ (¬ fe = 0 ∧ x = .bad fa fe ∧ fa ≤ i ∧ fa < e ∧ f ≤ fa ∧ fr ≤ 4 ∧ (fa < i ∨ fr ≤ 2))
section
variable {x : Res Cmp} {l : List UInt8} {f e i : Nat} {c : Cmp} {fa fr fe : Nat} {b d : UInt8}
theorem CJ.ok (h : CJ x l f e i c fa fr fe) (h0 : fe = 0) : i ≤ e ∧ c.length ≤ 100 ∧ x = compR i c (rest l e i) ∧ ∀ b, l[i]? = some b → may b = true := by
  rcases h with h | h
  · exact h.2
  · exact absurd h0 h.1
theorem CJ.bad (h : CJ x l f e i c fa fr fe) (h0 : ¬ fe = 0) : x = .bad fa fe ∧ fa ≤ i ∧ fa < e ∧ f ≤ fa ∧ fr ≤ 4 ∧ (fa < i ∨ fr ≤ 2) := by
  rcases h with h | h
  · exact absurd h.1 h0
  · exact h.2
theorem cj_good (h : CI x l f e i c fa fr fe) (hb : l[i]? = some b) (hm : may b = true) : CJ x l f e i c fa fr fe := by
  rcases h with ⟨h0, h1, h2, h3⟩ | ⟨h0, h1, h2, h3, h4, h5⟩
  · exact .inl ⟨h0, h1, h2, h3, fun b' h' => by rw [hb] at h'; cases h'; exact hm⟩
  · exact .inr ⟨h0, h1, by omega, h3, h4, h5, .inl h2⟩
theorem cj_bad {i' : Nat} {c' : Cmp} (h : CJ x l f e i c fa fr fe) (h0 : ¬ fe = 0) (hi : i < i') : CI x l f e i' c' fa fr fe := by
  obtain ⟨h1, h2, h3, h4, h5, _⟩ := h.bad h0
  exact .inr ⟨h0, h1, by omega, h3, h4, h5⟩
theorem cj_ok (h : CJ x l f e i c fa fr fe) (hb : l[i]? = some b) (hi : i < e) (h63 : ¬ b.toNat = 63) (hc : ¬ c.length = 100) : CI x l f e (i + 1) (c ++ [b]) fa fr fe := by
  by_cases h0 : fe = 0
  · obtain ⟨_, h2, h3, h4⟩ := h.ok h0
    exact .inl ⟨h0, by omega, by simp; omega, h3.trans (compR_ok hb hi (h4 b hb) h63 (by omega))⟩
  · exact cj_bad h h0 (by omega)
theorem cj_qok (h : CJ x l f e i c fa fr fe) (hb : l[i]? = some b) (hi : i < e) (h63 : b.toNat = 63) (hd : l[i + 1]? = some d) (hi2 : i + 1 < e) (hs : (svc d || decide (d.toNat = 32)) = true) (hc : ¬ c.length = 100) : CI x l f e (i + 1 + 1) (c ++ [d]) fa fr fe := by
  by_cases h0 : fe = 0
  · obtain ⟨_, h2, h3, h4⟩ := h.ok h0
    exact .inl ⟨h0, by omega, by simp; omega, h3.trans (compR_qok hb hi h63 hd hi2 hs (by omega))⟩
  · exact cj_bad h h0 (by omega)
end
def CompA (x : Res Cmp) (f e : Nat) (c : Cmp) (fa fr fe : Nat) : Prop := (fe = 0 ∧ x = .ok c) ∨ (¬ fe = 0 ∧ x = .bad fa fe ∧ fa < e ∧ f ≤ fa ∧ fr ≤ 4)
theorem comp_end {x : Res Cmp} {l : List UInt8} {f e i : Nat} {c : Cmp} {fa fr fe : Nat} (h : CI x l f e i c fa fr fe) (hi : ¬ i < e) : CompA x f e c fa fr fe := by
  rcases h with ⟨h0, h1, h2, h3⟩ | ⟨h0, h1, h2, h3, h4, h5⟩
  · exact .inl ⟨h0, by rw [h3, rest_end i (by omega)]; cases i <;> rfl⟩
  · exact .inr ⟨h0, h1, h3, h4, h5⟩
end Go.Proofs.Ytppegdbelgobiaa
/- Paths of a walk that come together again. -/
namespace Tw
open Go Go.RowKit Go.Proofs.Ytppegdbelgobiaa
def normQ (R : Act → World → Prop) : Exit → Act → World → Prop
  | .normal, a, w => R a w
  | _, _, _ => False
def preW (P : Program) (R : Act → World → Prop) : Nat → Code → Act → World → Prop
  | 0, _, a, w => R a w
  | n + 1, .seq x y, a, w => x.wp P (normQ (preW P R n y)) a w
  | _ + 1, _, _, _ => False
def cutT : Nat → Code → Code
  | n + 1, .seq _ b => cutT n b
  | _, c => c
theorem wp_joins {P : Program} {Q : Exit → Act → World → Prop} (R : Act → World → Prop) : ∀ (n : Nat) {c : Code} {a : Act} {w : World}, preW P R n c a w → (∀ a' w', R a' w' → (cutT n c).wp P Q a' w') → c.wp P Q a w
  | 0, c, a, w, h1, h2 => by
    have := h2 a w h1
    cases c <;> exact this
  | n + 1, c, a, w, h1, h2 => by
    cases c with
    | seq x y =>
      refine wp_seq (wp_mono h1 ?_)
      rintro e a' w' hq
      cases e with
      | normal => exact wp_joins R n hq h2
      | _ => exact hq.elim
    | _ => exact h1.elim
def JoinR (F : (Nat → Value) → Array Value) (W0 : Base) (K : List (Nat × Obj)) (a : Act) (w : World) : Prop := (∃ z, a = { tmps := F z, defers := [] }) ∧ KS W0 K w
theorem join_mk {F : (Nat → Value) → Array Value} {W0 : Base} {K : List (Nat × Obj)} {T : Array Value} {w : World} (h : F (fun i => T.getD i undef) = T) (hK : KS W0 K w) : JoinR F W0 K { tmps := T, defers := [] } w := ⟨⟨_, by rw [h]⟩, hK⟩
end Tw
namespace Go.Proofs.Ytppegdbelgobiaa
open Go Go.RowKit Tw
set_option maxRecDepth 100000 in
set_option maxHeartbeats 4000000 in
theorem RComp_any (l : List UInt8) (f0 e0 : Nat) (lc : l.length ≤ 4000000) (hf : f0 ≤ e0) (he : e0 ≤ l.length) (hq : Tqe l e0 f0) (w : World) : Calls Try.prog 47 #[strV l, .int .i64 ((f0 : Nat) : Int), .int .i64 ((e0 : Nat) : Int)] w fun e w' => ∃ c fa fr fe, e = .returned (.tuple #[strV c, .agg #[.int .i64 ((fa : Nat) : Int), .int .i64 ((fr : Nat) : Int), .int .i64 ((fe : Nat) : Int)]]) ∧ Below w.heap.size w w' ∧ CompA (compR f0 [] (rest l e0 f0)) f0 e0 c fa fr fe ∧ c.length ≤ e0 + 1 := by
  obtain ⟨x, hx⟩ : ∃ x, x = compR f0 [] (rest l e0 f0) := ⟨_, rfl⟩
  rw [← hx]
  go_enter Try.func47, Try.ntmps47
  refine wp_seq ?_
  refine wp_region_L (W0 := w) [] (KS.start w) ?_
  refine lm (v := strV []) rfl rfl ?_
  refine wpL_new (fun g => .pointer (some ⟨g, 0, none⟩)) (obi := .cells #[.int .i64 0, .int .i64 0, .int .i64 0] 71 (0, 0)) rfl rfl (fun _ => by kernel_rfl) (fun _ => by simp only [List.setIfInBounds_toArray, List.set_cons_succ, List.set_cons_zero] <;> rfl) fun g1 Bg1 Fg1 => ?_
  refine wpL_done (fun W1 hW1 => ?_)
  refine (show Code.wp _ _ _ _ _ from ?_)
  refine wp_seq ?_
  refine wp_region_L (W0 := w) [(g1, .cells #[.int .i64 0, .int .i64 0, .int .i64 0] 71 (0, 0))] (hW1) ?_
  refine lm (v := .slice none 0 0) rfl rfl ?_
  refine wpL_done (fun W2 hW2 => ?_)
  refine (show Code.wp _ _ _ _ _ from ?_)
  refine wp_seq ?_
  refine wp_region_L (W0 := w) [(g1, .cells #[.int .i64 0, .int .i64 0, .int .i64 0] 71 (0, 0))] (hW2) ?_
  refine wpL_new (fun g => .pointer (some ⟨g, 0, none⟩)) (obi := .cells #[.int .i64 0, .int .i64 0, .int .i64 0] 71 (0, 0)) rfl rfl (fun _ => by kernel_rfl) (fun _ => by simp only [List.setIfInBounds_toArray, List.set_cons_succ, List.set_cons_zero] <;> rfl) fun g2 Bg2 Fg2 => ?_
  obtain dj3_0 : g1 ≠ g2 := by simpa only [dj_app_l, dj_app_r, dj_cons_l, dj_cons_r, dj_nil_l, dj_nil_r, dk_app, dk_cons, dk_nil, and_true, true_and, and_assoc] using (show Dk g2 [(g1, .cells #[.int .i64 0, .int .i64 0, .int .i64 0] 71 (0, 0))] from Fg2)
  refine wpL_done (fun W3 hW3 => ?_)
  refine (show Code.wp _ _ _ _ _ from ?_)
  refine wp_seq ?_
  refine wp_seq ?_
  refine wp_region_L (W0 := w) [(g2, .cells #[.int .i64 0, .int .i64 0, .int .i64 0] 71 (0, 0)), (g1, .cells #[.int .i64 0, .int .i64 0, .int .i64 0] 71 (0, 0))] (hW3) ?_
  refine lm (v := .int .i64 ((f0 : Nat) : Int)) rfl rfl ?_
  refine lm (v := .int .i64 ((f0 : Nat) : Int)) rfl rfl ?_
  refine wpL_done (fun W4 hW4 => ?_)
  refine (show Code.wp _ _ _ _ _ from ?_)
  refine wp_block ?_
  go_loopw [10, 8] (fun u10 u8 wr => ∃ (i : Nat) (c : Cmp) (fa fr fe : Nat) (vo : Value) (Ko : List (Nat × Obj)), (i ≤ e0 + 1 ∧ f0 ≤ i) ∧ (c.length ≤ i) ∧ (CI x l f0 e0 i c fa fr fe) ∧ (Tqe l e0 i) ∧ (OwnL w 5 1 vo c.length (u8s c) Ko) ∧ (Dk g2 Ko) ∧ (Dk g1 Ko) ∧ u10 = .int .i64 ((i : Nat) : Int) ∧ vo = u8 ∧ KS w ((g2, .cells #[.int .i64 ((fa : Nat) : Int), .int .i64 ((fr : Nat) : Int), .int .i64 ((fe : Nat) : Int)] 71 (0, 0)) :: (g1, .cells #[.int .i64 0, .int .i64 0, .int .i64 0] 71 (0, 0)) :: Ko) wr) (fun u10 _ _ => e0 + 2 - (intOf u10).toNat)
  case atStart => exact ⟨f0, [], 0, 0, 0, (.slice none 0 0), [], ⟨by omega, Nat.le_refl _⟩, (Nat.zero_le _), (.inl ⟨rfl, hf, (by simp), hx⟩), hq, (OwnL.nil _ _ _), (show Dk g2 [] from (by (try simp only [dj_app_l, dj_app_r, dj_cons_l, dj_cons_r, dj_nil_l, dj_nil_r, dk_app, dk_cons, dk_nil, and_true, true_and, and_assoc]); repeat' (first | trivial | assumption | exact Dj.symm (by assumption) | exact Ne.symm (by assumption) | apply And.intro))), (show Dk g1 [] from (by (try simp only [dj_app_l, dj_app_r, dj_cons_l, dj_cons_r, dj_nil_l, dj_nil_r, dk_app, dk_cons, dk_nil, and_true, true_and, and_assoc]); repeat' (first | trivial | assumption | exact Dj.symm (by assumption) | exact Ne.symm (by assumption) | apply And.intro))), rfl, rfl, (hW4.sub (fun p hp => by first | exact hp | (simp only [List.mem_cons, List.mem_append, List.nil_append, List.not_mem_nil, or_assoc, or_false, false_or, List.cons_append, List.append_assoc] at hp ⊢ <;> grind)))⟩
  case round =>
    obtain ⟨i, c, fa, fr, fe, vo, Ko, hi, hcl, hI, hT, hO, dh4_0, dh4_1, rfl, rfl, hL5⟩ := hrel
    refine wp_seq ?_
    refine wp_seq ?_
    refine wp_region_L (W0 := w) ((g2, .cells #[.int .i64 ((fa : Nat) : Int), .int .i64 ((fr : Nat) : Int), .int .i64 ((fe : Nat) : Int)] 71 (0, 0)) :: (g1, .cells #[.int .i64 0, .int .i64 0, .int .i64 0] 71 (0, 0)) :: Ko) (hL5) ?_
    refine lm (v := .int .i64 ((i : Nat) : Int)) rfl rfl ?_
    refine lm (v := .int .i64 ((e0 : Nat) : Int)) rfl rfl ?_
    refine lp (v := .bool (decide (i < e0))) rfl rfl (run_bin rfl (vx := (.int .i64 ((i : Nat) : Int))) (vy := (.int .i64 ((e0 : Nat) : Int))) (by kernel_rfl) (by kernel_rfl) fun w => bn_lss rfl w) ?_
    refine wpL_done (fun W6 hW6 => ?_)
    refine (show Code.wp _ _ _ _ _ from ?_)
    cases hd1 : (decide (i < e0)) with
    | false =>
      have h1 : ¬ (i < e0) := of_decide_eq_false hd1
      clear hd1
      refine wp_cond_false rfl ?_
      refine wp_exit ?_
      refine (show Code.wp _ _ _ _ _ from ?_)
      refine wp_seq ?_
      refine wp_region_V (W0 := w) ((g2, .cells #[.int .i64 ((fa : Nat) : Int), .int .i64 ((fr : Nat) : Int), .int .i64 ((fe : Nat) : Int)] 71 (0, 0)) :: (g1, .cells #[.int .i64 0, .int .i64 0, .int .i64 0] 71 (0, 0)) :: Ko) (by kernel_rfl) (hW6) ?_
      refine vm (i := 0) (v := vo) rfl rfl rfl ?_
      refine vv (i := 1) (v := strV c) rfl rfl rfl (yb_strO (W0 := w) (l := c) rfl Try.underlying26 Try.underlying5 Try.underlying9 (by kernel_rfl) hO (fun p hp => by simp only [List.mem_cons, List.mem_append, List.nil_append, List.not_mem_nil, or_assoc, or_false, false_or, hp, or_true, true_or])) ?_
      refine vv (i := 2) (v := .agg #[.int .i64 ((fa : Nat) : Int), .int .i64 ((fr : Nat) : Int), .int .i64 ((fe : Nat) : Int)]) rfl rfl rfl (yb_load (n := 3) (off := 0) rfl (by kernel_rfl) (.head _) Try.underlying71 rfl (by kernel_rfl) (by simp) (by kernel_rfl)) ?_
      refine vm (i := 3) (v := strV c) rfl rfl rfl ?_
      refine wpV_s ((g2, .cells #[.int .i64 ((fa : Nat) : Int), .int .i64 ((fr : Nat) : Int), .int .i64 ((fe : Nat) : Int)] 71 (0, 0)) :: (g1, .cells #[.int .i64 ((fa : Nat) : Int), .int .i64 ((fr : Nat) : Int), .int .i64 ((fe : Nat) : Int)] 71 (0, 0)) :: Ko) (i := 4) rfl (by kernel_rfl) rfl rfl rfl (st_row (off := 0) (v := .agg #[.int .i64 ((fa : Nat) : Int), .int .i64 ((fr : Nat) : Int), .int .i64 ((fe : Nat) : Int)]) rfl (by kernel_rfl) (by kernel_rfl) (.tail _ (.head _)) Bg1 (by kernel_rfl) (by simp [Value.cells]) (by intro v hv; simp [Value.cells] at hv; first | (subst hv; rfl) | (rcases hv with rfl | rfl | rfl <;> rfl)) (by kernel_rfl) (List.forall_mem_cons.2 ⟨.inr ⟨(.head _), (by first | assumption | exact Ne.symm (by assumption))⟩, (List.forall_mem_cons.2 ⟨.inl rfl, (fun p hp => .inr ⟨(.tail _ (.tail _ hp)), ((show Dk g1 Ko from (by (try simp only [dj_app_l, dj_app_r, dj_cons_l, dj_cons_r, dj_nil_l, dj_nil_r, dk_app, dk_cons, dk_nil, and_true, true_and, and_assoc]); repeat' (first | trivial | assumption | exact Dj.symm (by assumption) | exact Ne.symm (by assumption) | apply And.intro))) _ hp)⟩)⟩)⟩)) ?_
      refine wpV_done (by kernel_rfl) (fun W7 hW7 => ?_) _
      refine (show Code.wp _ _ _ _ _ from ?_)
      refine wp_ret ?_
      try simp only [inBlock_ret, then_ret]
      refine bodyPost_ret (v := .tuple #[strV c, .agg #[.int .i64 ((fa : Nat) : Int), .int .i64 ((fr : Nat) : Int), .int .i64 ((fe : Nat) : Int)]]) ?_ rfl ?_
      · exact (res_tmp_cell (p := 7) (q := 6) rfl rfl (hW7.2 _ (.tail _ (.head _))) Try.underlying71 rfl (by kernel_rfl))
      · exact ⟨c, fa, fr, fe, rfl, hW7.1, comp_end hI (by omega), by omega⟩
    | true =>
      have h1 : i < e0 := of_decide_eq_true hd1
      clear hd1
      refine wp_cond_true rfl ?_
      refine wp_skip ?_
      refine (show Code.wp _ _ _ _ _ from ?_)
      refine wp_seq ?_
      refine wp_block ?_
      refine wp_seq ?_
      refine wp_region_L (W0 := w) ((g2, .cells #[.int .i64 ((fa : Nat) : Int), .int .i64 ((fr : Nat) : Int), .int .i64 ((fe : Nat) : Int)] 71 (0, 0)) :: (g1, .cells #[.int .i64 0, .int .i64 0, .int .i64 0] 71 (0, 0)) :: Ko) (hW6) ?_
      refine lm (v := .int .i64 ((i : Nat) : Int)) rfl rfl ?_
      refine lm (v := .int .i64 ((i : Nat) : Int)) rfl rfl ?_
      refine wpL_done (fun W8 hW8 => ?_)
      refine (show Code.wp _ _ _ _ _ from ?_)
      refine wp_joins (fun az wz => ∃ (ja jr je : Nat), (CJ x l f0 e0 i c ja jr je) ∧ JoinR (fun zq => List.toArray ((strV l) :: (.int .i64 ((f0 : Nat) : Int)) :: (.int .i64 ((e0 : Nat) : Int)) :: undef :: undef :: undef :: (strV []) :: (.pointer (some ⟨g1, 0, none⟩)) :: (vo) :: (.pointer (some ⟨g2, 0, none⟩)) :: (.int .i64 ((i : Nat) : Int)) :: (.int .i64 ((i : Nat) : Int)) :: (.int .i64 ((f0 : Nat) : Int)) :: (.int .i64 ((i : Nat) : Int)) :: (.int .i64 ((e0 : Nat) : Int)) :: (.bool true) :: zq 16 :: zq 17 :: (.int .i64 ((i : Nat) : Int)) :: zq 19 :: zq 20 :: zq 21 :: zq 22 :: zq 23 :: zq 24 :: zq 25 :: zq 26 :: zq 27 :: zq 28 :: zq 29 :: zq 30 :: zq 31 :: zq 32 :: zq 33 :: zq 34 :: zq 35 :: zq 36 :: zq 37 :: zq 38 :: zq 39 :: zq 40 :: zq 41 :: zq 42 :: zq 43 :: zq 44 :: zq 45 :: zq 46 :: zq 47 :: zq 48 :: zq 49 :: zq 50 :: zq 51 :: zq 52 :: zq 53 :: zq 54 :: zq 55 :: zq 56 :: zq 57 :: zq 58 :: zq 59 :: zq 60 :: zq 61 :: zq 62 :: zq 63 :: zq 64 :: zq 65 :: zq 66 :: zq 67 :: zq 68 :: zq 69 :: zq 70 :: zq 71 :: zq 72 :: undef :: undef :: undef :: [])) w ((g2, .cells #[.int .i64 ((ja : Nat) : Int), .int .i64 ((jr : Nat) : Int), .int .i64 ((je : Nat) : Int)] 71 (0, 0)) :: (g1, .cells #[.int .i64 0, .int .i64 0, .int .i64 0] 71 (0, 0)) :: Ko) az wz) 1 ?_ ?_
      · refine (show Code.wp _ _ _ _ _ from ?_)
        refine wp_seq ?_
        refine wp_region_L (W0 := w) ((g2, .cells #[.int .i64 ((fa : Nat) : Int), .int .i64 ((fr : Nat) : Int), .int .i64 ((fe : Nat) : Int)] 71 (0, 0)) :: (g1, .cells #[.int .i64 0, .int .i64 0, .int .i64 0] 71 (0, 0)) :: Ko) (hW8) ?_
        refine lm (v := strV l) rfl rfl ?_
        refine lm (v := .int .i64 ((i : Nat) : Int)) rfl rfl ?_
        obtain ⟨b5, hb5⟩ : ∃ b, (l : List UInt8)[i]? = some b := ⟨_, List.getElem?_eq_getElem (by omega)⟩
        have lb5 := b5.toNat_lt
        refine lp (v := .int .u8 ((b5.toNat : Nat) : Int)) rfl rfl (run_idxS (j := .i64) (l := l) (k := i) (b := b5) rfl Try.underlying9 (by kernel_rfl) (by kernel_rfl) hb5) ?_
        refine lp (v := .bool (decide (b5.toNat < 32))) rfl rfl (run_bin rfl (vx := (.int .u8 ((b5.toNat : Nat) : Int))) (vy := (.int .u8 ((32 : Nat) : Int))) (by kernel_rfl) (by kernel_rfl) fun w => bn_lss rfl w) ?_
        refine lm (v := .bool (decide (b5.toNat < 32))) rfl rfl ?_
        cases hd2 : (decide (b5.toNat < 32)) with
        | false =>
          have h2 : ¬ (b5.toNat < 32) := of_decide_eq_false hd2
          clear hd2
          refine lm (v := strV l) rfl rfl ?_
          refine lm (v := .int .i64 ((i : Nat) : Int)) rfl rfl ?_
          refine lp (v := .int .u8 ((b5.toNat : Nat) : Int)) rfl rfl (run_idxS (j := .i64) (l := l) (k := i) (b := b5) rfl Try.underlying9 (by kernel_rfl) (by kernel_rfl) hb5) ?_
          refine lp (v := .bool (decide (126 < b5.toNat))) rfl rfl (run_bin rfl (vx := (.int .u8 ((b5.toNat : Nat) : Int))) (vy := (.int .u8 ((126 : Nat) : Int))) (by kernel_rfl) (by kernel_rfl) fun w => bn_gtr rfl w) ?_
          refine lm (v := .bool (decide (126 < b5.toNat))) rfl rfl ?_
          refine wpL_done (fun W9 hW9 => ?_)
          refine (show Code.wp _ _ _ _ _ from ?_)
          cases hd3 : (decide (126 < b5.toNat)) with
          | false =>
            have h3 : ¬ (126 < b5.toNat) := of_decide_eq_false hd3
            clear hd3
            have mtb5 := may_low (b := b5) (by omega) (by omega)
            refine wp_cond_false rfl ?_
            refine wp_skip ?_
            exact ⟨fa, fr, fe, (cj_good hI hb5 mtb5), join_mk (by kernel_rfl) (hW9.sub (fun p hp => by first | exact hp | (simp only [List.mem_cons, List.mem_append, List.nil_append, List.not_mem_nil, or_assoc, or_false, false_or, List.cons_append, List.append_assoc] at hp ⊢ <;> grind)))⟩
          | true =>
            have h3 : 126 < b5.toNat := of_decide_eq_true hd3
            clear hd3
            have mfb5 := may_f1 h3
            refine wp_cond_true rfl ?_
            refine wp_region_L (W0 := w) ((g2, .cells #[.int .i64 ((fa : Nat) : Int), .int .i64 ((fr : Nat) : Int), .int .i64 ((fe : Nat) : Int)] 71 (0, 0)) :: (g1, .cells #[.int .i64 0, .int .i64 0, .int .i64 0] 71 (0, 0)) :: Ko) (hW9) ?_
            refine lv (v := .agg #[.int .i64 ((fa : Nat) : Int), .int .i64 ((fr : Nat) : Int), .int .i64 ((fe : Nat) : Int)]) rfl rfl (yb_load (n := 3) (off := 0) rfl (by kernel_rfl) (.head _) Try.underlying71 rfl (by kernel_rfl) (by simp) (by kernel_rfl)) ?_
            refine lm (v := .int .i64 ((i : Nat) : Int)) rfl rfl ?_
            refine lm (v := .agg #[.int .i64 ((i : Nat) : Int), .int .i64 2, .int .i64 40]) rfl rfl ?_
            cases hd4 : (decide (fe = 0)) with
            | false =>
              have h4 : ¬ (fe = 0) := of_decide_eq_false hd4
              clear hd4
              obtain ⟨hB, hfi, hfe, hff, hfr⟩ := hI.bad h4
              refine lv (v := .agg #[.int .i64 ((fa : Nat) : Int), .int .i64 ((fr : Nat) : Int), .int .i64 ((fe : Nat) : Int)]) rfl rfl (yb_call (f := 36) (args := #[.agg #[.int .i64 ((fa : Nat) : Int), .int .i64 ((fr : Nat) : Int), .int .i64 ((fe : Nat) : Int)], .agg #[.int .i64 ((i : Nat) : Int), .int .i64 2, .int .i64 40]]) (fun _ => by kernel_rfl) fun W hW => worse_keep fa fr fe i 2 40 h4 (by first | omega | exact (.inl rfl)) W) ?_
              refine wpL_s ((g2, .cells #[.int .i64 ((fa : Nat) : Int), .int .i64 ((fr : Nat) : Int), .int .i64 ((fe : Nat) : Int)] 71 (0, 0)) :: (g1, .cells #[.int .i64 0, .int .i64 0, .int .i64 0] 71 (0, 0)) :: Ko) rfl rfl (st_row (off := 0) (v := .agg #[.int .i64 ((fa : Nat) : Int), .int .i64 ((fr : Nat) : Int), .int .i64 ((fe : Nat) : Int)]) rfl (by kernel_rfl) (by kernel_rfl) (.head _) Bg2 (by kernel_rfl) (by simp [Value.cells]) (by intro v hv; simp [Value.cells] at hv; first | (subst hv; rfl) | (rcases hv with rfl | rfl | rfl <;> rfl)) (by kernel_rfl) (List.forall_mem_cons.2 ⟨.inl rfl, (List.forall_mem_cons.2 ⟨.inr ⟨(.tail _ (.head _)), (by first | assumption | exact Ne.symm (by assumption))⟩, (fun p hp => .inr ⟨(.tail _ (.tail _ hp)), ((show Dk g2 Ko from (by (try simp only [dj_app_l, dj_app_r, dj_cons_l, dj_cons_r, dj_nil_l, dj_nil_r, dk_app, dk_cons, dk_nil, and_true, true_and, and_assoc]); repeat' (first | trivial | assumption | exact Dj.symm (by assumption) | exact Ne.symm (by assumption) | apply And.intro))) _ hp)⟩)⟩)⟩)) ?_
              refine wpL_done (fun W10 hW10 => ?_)
              exact ⟨fa, fr, fe, (.inr ⟨h4, hB, by omega, by omega, by omega, by omega, .inl hfi⟩), join_mk (by kernel_rfl) (hW10.sub (fun p hp => by first | exact hp | (simp only [List.mem_cons, List.mem_append, List.nil_append, List.not_mem_nil, or_assoc, or_false, false_or, List.cons_append, List.append_assoc] at hp ⊢ <;> grind)))⟩
            | true =>
              have h4 : fe = 0 := of_decide_eq_true hd4
              clear hd4
              obtain ⟨hie, hc1, hR⟩ := hI.ok h4
              refine lv (v := .agg #[.int .i64 ((i : Nat) : Int), .int .i64 2, .int .i64 40]) rfl rfl (yb_call (f := 36) (args := #[.agg #[.int .i64 ((fa : Nat) : Int), .int .i64 ((fr : Nat) : Int), .int .i64 ((fe : Nat) : Int)], .agg #[.int .i64 ((i : Nat) : Int), .int .i64 2, .int .i64 40]]) (fun _ => by kernel_rfl) fun W hW => worse_new fa fr fe i 2 40 h4 W) ?_
              refine wpL_s ((g2, .cells #[.int .i64 ((i : Nat) : Int), .int .i64 2, .int .i64 40] 71 (0, 0)) :: (g1, .cells #[.int .i64 0, .int .i64 0, .int .i64 0] 71 (0, 0)) :: Ko) rfl rfl (st_row (off := 0) (v := .agg #[.int .i64 ((i : Nat) : Int), .int .i64 2, .int .i64 40]) rfl (by kernel_rfl) (by kernel_rfl) (.head _) Bg2 (by kernel_rfl) (by simp [Value.cells]) (by intro v hv; simp [Value.cells] at hv; first | (subst hv; rfl) | (rcases hv with rfl | rfl | rfl <;> rfl)) (by kernel_rfl) (List.forall_mem_cons.2 ⟨.inl rfl, (List.forall_mem_cons.2 ⟨.inr ⟨(.tail _ (.head _)), (by first | assumption | exact Ne.symm (by assumption))⟩, (fun p hp => .inr ⟨(.tail _ (.tail _ hp)), ((show Dk g2 Ko from (by (try simp only [dj_app_l, dj_app_r, dj_cons_l, dj_cons_r, dj_nil_l, dj_nil_r, dk_app, dk_cons, dk_nil, and_true, true_and, and_assoc]); repeat' (first | trivial | assumption | exact Dj.symm (by assumption) | exact Ne.symm (by assumption) | apply And.intro))) _ hp)⟩)⟩)⟩)) ?_
              refine wpL_done (fun W11 hW11 => ?_)
              exact ⟨i, 2, 40, (.inr ⟨by omega, hR.trans (compR_40 hb5 (by omega) mfb5), by omega, by omega, by omega, by omega, .inr (by omega)⟩), join_mk (by kernel_rfl) (hW11.sub (fun p hp => by first | exact hp | (simp only [List.mem_cons, List.mem_append, List.nil_append, List.not_mem_nil, or_assoc, or_false, false_or, List.cons_append, List.append_assoc] at hp ⊢ <;> grind)))⟩
        | true =>
          have h2 : b5.toNat < 32 := of_decide_eq_true hd2
          clear hd2
          have mfb5 := may_f0 h2
          refine ln rfl ?_
          refine ln rfl ?_
          refine ln rfl ?_
          refine ln rfl ?_
          refine lm (v := .bool true) rfl rfl ?_
          refine wpL_done (fun W12 hW12 => ?_)
          refine (show Code.wp _ _ _ _ _ from ?_)
          refine wp_cond_true rfl ?_
          refine wp_region_L (W0 := w) ((g2, .cells #[.int .i64 ((fa : Nat) : Int), .int .i64 ((fr : Nat) : Int), .int .i64 ((fe : Nat) : Int)] 71 (0, 0)) :: (g1, .cells #[.int .i64 0, .int .i64 0, .int .i64 0] 71 (0, 0)) :: Ko) (hW12) ?_
          refine lv (v := .agg #[.int .i64 ((fa : Nat) : Int), .int .i64 ((fr : Nat) : Int), .int .i64 ((fe : Nat) : Int)]) rfl rfl (yb_load (n := 3) (off := 0) rfl (by kernel_rfl) (.head _) Try.underlying71 rfl (by kernel_rfl) (by simp) (by kernel_rfl)) ?_
          refine lm (v := .int .i64 ((i : Nat) : Int)) rfl rfl ?_
          refine lm (v := .agg #[.int .i64 ((i : Nat) : Int), .int .i64 2, .int .i64 40]) rfl rfl ?_
          cases hd5 : (decide (fe = 0)) with
          | false =>
            have h5 : ¬ (fe = 0) := of_decide_eq_false hd5
            clear hd5
            obtain ⟨hB, hfi, hfe, hff, hfr⟩ := hI.bad h5
            refine lv (v := .agg #[.int .i64 ((fa : Nat) : Int), .int .i64 ((fr : Nat) : Int), .int .i64 ((fe : Nat) : Int)]) rfl rfl (yb_call (f := 36) (args := #[.agg #[.int .i64 ((fa : Nat) : Int), .int .i64 ((fr : Nat) : Int), .int .i64 ((fe : Nat) : Int)], .agg #[.int .i64 ((i : Nat) : Int), .int .i64 2, .int .i64 40]]) (fun _ => by kernel_rfl) fun W hW => worse_keep fa fr fe i 2 40 h5 (by first | omega | exact (.inl rfl)) W) ?_
            refine wpL_s ((g2, .cells #[.int .i64 ((fa : Nat) : Int), .int .i64 ((fr : Nat) : Int), .int .i64 ((fe : Nat) : Int)] 71 (0, 0)) :: (g1, .cells #[.int .i64 0, .int .i64 0, .int .i64 0] 71 (0, 0)) :: Ko) rfl rfl (st_row (off := 0) (v := .agg #[.int .i64 ((fa : Nat) : Int), .int .i64 ((fr : Nat) : Int), .int .i64 ((fe : Nat) : Int)]) rfl (by kernel_rfl) (by kernel_rfl) (.head _) Bg2 (by kernel_rfl) (by simp [Value.cells]) (by intro v hv; simp [Value.cells] at hv; first | (subst hv; rfl) | (rcases hv with rfl | rfl | rfl <;> rfl)) (by kernel_rfl) (List.forall_mem_cons.2 ⟨.inl rfl, (List.forall_mem_cons.2 ⟨.inr ⟨(.tail _ (.head _)), (by first | assumption | exact Ne.symm (by assumption))⟩, (fun p hp => .inr ⟨(.tail _ (.tail _ hp)), ((show Dk g2 Ko from (by (try simp only [dj_app_l, dj_app_r, dj_cons_l, dj_cons_r, dj_nil_l, dj_nil_r, dk_app, dk_cons, dk_nil, and_true, true_and, and_assoc]); repeat' (first | trivial | assumption | exact Dj.symm (by assumption) | exact Ne.symm (by assumption) | apply And.intro))) _ hp)⟩)⟩)⟩)) ?_
            refine wpL_done (fun W13 hW13 => ?_)
            exact ⟨fa, fr, fe, (.inr ⟨h5, hB, by omega, by omega, by omega, by omega, .inl hfi⟩), join_mk (by kernel_rfl) (hW13.sub (fun p hp => by first | exact hp | (simp only [List.mem_cons, List.mem_append, List.nil_append, List.not_mem_nil, or_assoc, or_false, false_or, List.cons_append, List.append_assoc] at hp ⊢ <;> grind)))⟩
          | true =>
            have h5 : fe = 0 := of_decide_eq_true hd5
            clear hd5
            obtain ⟨hie, hc1, hR⟩ := hI.ok h5
            refine lv (v := .agg #[.int .i64 ((i : Nat) : Int), .int .i64 2, .int .i64 40]) rfl rfl (yb_call (f := 36) (args := #[.agg #[.int .i64 ((fa : Nat) : Int), .int .i64 ((fr : Nat) : Int), .int .i64 ((fe : Nat) : Int)], .agg #[.int .i64 ((i : Nat) : Int), .int .i64 2, .int .i64 40]]) (fun _ => by kernel_rfl) fun W hW => worse_new fa fr fe i 2 40 h5 W) ?_
            refine wpL_s ((g2, .cells #[.int .i64 ((i : Nat) : Int), .int .i64 2, .int .i64 40] 71 (0, 0)) :: (g1, .cells #[.int .i64 0, .int .i64 0, .int .i64 0] 71 (0, 0)) :: Ko) rfl rfl (st_row (off := 0) (v := .agg #[.int .i64 ((i : Nat) : Int), .int .i64 2, .int .i64 40]) rfl (by kernel_rfl) (by kernel_rfl) (.head _) Bg2 (by kernel_rfl) (by simp [Value.cells]) (by intro v hv; simp [Value.cells] at hv; first | (subst hv; rfl) | (rcases hv with rfl | rfl | rfl <;> rfl)) (by kernel_rfl) (List.forall_mem_cons.2 ⟨.inl rfl, (List.forall_mem_cons.2 ⟨.inr ⟨(.tail _ (.head _)), (by first | assumption | exact Ne.symm (by assumption))⟩, (fun p hp => .inr ⟨(.tail _ (.tail _ hp)), ((show Dk g2 Ko from (by (try simp only [dj_app_l, dj_app_r, dj_cons_l, dj_cons_r, dj_nil_l, dj_nil_r, dk_app, dk_cons, dk_nil, and_true, true_and, and_assoc]); repeat' (first | trivial | assumption | exact Dj.symm (by assumption) | exact Ne.symm (by assumption) | apply And.intro))) _ hp)⟩)⟩)⟩)) ?_
            refine wpL_done (fun W14 hW14 => ?_)
            exact ⟨i, 2, 40, (.inr ⟨by omega, hR.trans (compR_40 hb5 (by omega) mfb5), by omega, by omega, by omega, by omega, .inr (by omega)⟩), join_mk (by kernel_rfl) (hW14.sub (fun p hp => by first | exact hp | (simp only [List.mem_cons, List.mem_append, List.nil_append, List.not_mem_nil, or_assoc, or_false, false_or, List.cons_append, List.append_assoc] at hp ⊢ <;> grind)))⟩
      · rintro a1 W1j ⟨ja, jr, je, hJ, ⟨zx1, rfl⟩, hW1j⟩
        dsimp only [cutT]
        refine wp_seq ?_
        refine wp_seq ?_
        refine wp_region_L (W0 := w) ((g2, .cells #[.int .i64 ((ja : Nat) : Int), .int .i64 ((jr : Nat) : Int), .int .i64 ((je : Nat) : Int)] 71 (0, 0)) :: (g1, .cells #[.int .i64 0, .int .i64 0, .int .i64 0] 71 (0, 0)) :: Ko) (hW1j) ?_
        refine lm (v := strV l) rfl rfl ?_
        refine lm (v := .int .i64 ((i : Nat) : Int)) rfl rfl ?_
        obtain ⟨b6, hb6⟩ : ∃ b, (l : List UInt8)[i]? = some b := ⟨_, List.getElem?_eq_getElem (by omega)⟩
        have lb6 := b6.toNat_lt
        refine lp (v := .int .u8 ((b6.toNat : Nat) : Int)) rfl rfl (run_idxS (j := .i64) (l := l) (k := i) (b := b6) rfl Try.underlying9 (by kernel_rfl) (by kernel_rfl) hb6) ?_
        refine lp (v := .bool (decide (b6.toNat = 63))) rfl rfl (run_bin rfl (vx := (.int .u8 ((b6.toNat : Nat) : Int))) (vy := (.int .u8 ((63 : Nat) : Int))) (by kernel_rfl) (by kernel_rfl) fun w => bn_eql rfl w) ?_
        refine wpL_done (fun W15 hW15 => ?_)
        refine (show Code.wp _ _ _ _ _ from ?_)
        cases hd6 : (decide (b6.toNat = 63)) with
        | false =>
          have h6 : ¬ (b6.toNat = 63) := of_decide_eq_false hd6
          clear hd6
          refine wp_cond_false rfl ?_
          refine wp_skip ?_
          refine (show Code.wp _ _ _ _ _ from ?_)
          refine wp_seq ?_
          refine wp_seq ?_
          refine wp_region_L (W0 := w) ((g2, .cells #[.int .i64 ((ja : Nat) : Int), .int .i64 ((jr : Nat) : Int), .int .i64 ((je : Nat) : Int)] 71 (0, 0)) :: (g1, .cells #[.int .i64 0, .int .i64 0, .int .i64 0] 71 (0, 0)) :: Ko) (hW15) ?_
          refine lm (v := vo) rfl rfl ?_
          refine lp (v := .int .i64 ((c.length : Nat) : Int)) rfl rfl (run_lenO (W0 := w) rfl Try.underlying26 (by kernel_rfl) hO) ?_
          refine lp (v := .bool (decide (c.length = 100))) rfl rfl (run_bin rfl (vx := (.int .i64 ((c.length : Nat) : Int))) (vy := (.int .i64 ((100 : Nat) : Int))) (by kernel_rfl) (by kernel_rfl) fun w => bn_eql rfl w) ?_
          refine wpL_done (fun W16 hW16 => ?_)
          refine (show Code.wp _ _ _ _ _ from ?_)
          cases hd7 : (decide (c.length = 100)) with
          | false =>
            have h7 : ¬ (c.length = 100) := of_decide_eq_false hd7
            clear hd7
            refine wp_cond_false rfl ?_
            refine wp_skip ?_
            refine (show Code.wp _ _ _ _ _ from ?_)
            refine wp_region_L (W0 := w) ((g2, .cells #[.int .i64 ((ja : Nat) : Int), .int .i64 ((jr : Nat) : Int), .int .i64 ((je : Nat) : Int)] 71 (0, 0)) :: (g1, .cells #[.int .i64 0, .int .i64 0, .int .i64 0] 71 (0, 0)) :: Ko) (hW16) ?_
            refine lm (v := vo) rfl rfl ?_
            refine lm (v := strV l) rfl rfl ?_
            refine lm (v := .int .i64 ((i : Nat) : Int)) rfl rfl ?_
            refine lp (v := .int .u8 ((b6.toNat : Nat) : Int)) rfl rfl (run_idxS (j := .i64) (l := l) (k := i) (b := b6) rfl Try.underlying9 (by kernel_rfl) (by kernel_rfl) hb6) ?_
            refine wpL_new (fun g => .slice (some ⟨g, 0, none⟩) 1 1) (obi := .cells #[.int .u8 ((b6.toNat : Nat) : Int)] 5 (0, 0)) rfl rfl (fun _ => by kernel_rfl) (fun _ => by simp only [List.setIfInBounds_toArray, List.set_cons_succ, List.set_cons_zero] <;> rfl) fun g7 Bg7 Fg7 => ?_
            obtain ⟨dj8_0, dj8_1, dj8_2⟩ : g2 ≠ g7 ∧ g1 ≠ g7 ∧ Dk g7 Ko := by simpa only [dj_app_l, dj_app_r, dj_cons_l, dj_cons_r, dj_nil_l, dj_nil_r, dk_app, dk_cons, dk_nil, and_true, true_and, and_assoc] using (show Dk g7 ((g2, .cells #[.int .i64 ((ja : Nat) : Int), .int .i64 ((jr : Nat) : Int), .int .i64 ((je : Nat) : Int)] 71 (0, 0)) :: (g1, .cells #[.int .i64 0, .int .i64 0, .int .i64 0] 71 (0, 0)) :: Ko) from Fg7)
            refine wpL_g (AppO w 5 1 [(g2, .cells #[.int .i64 ((ja : Nat) : Int), .int .i64 ((jr : Nat) : Int), .int .i64 ((je : Nat) : Int)] 71 (0, 0)), (g1, .cells #[.int .i64 0, .int .i64 0, .int .i64 0] 71 (0, 0))] (c.length + 1) ((u8s c) ++ [.int .u8 ((b6.toNat : Nat) : Int)])) rfl rfl (app_own el_byteM (m := 1) (c := 1) (news := [.int .u8 ((b6.toNat : Nat) : Int)]) rfl (by kernel_rfl) (by kernel_rfl) (.head _) hO (fun p hp => by simp only [List.mem_cons, List.mem_append, List.nil_append, List.not_mem_nil, or_assoc, or_false, false_or, hp, or_true, true_or]) (fun p hp => ⟨by simp only [List.mem_cons, List.mem_append, List.nil_append, List.not_mem_nil, or_assoc, or_false, false_or] at hp ⊢ <;> grind, (show Dj [(g2, .cells #[.int .i64 ((ja : Nat) : Int), .int .i64 ((jr : Nat) : Int), .int .i64 ((je : Nat) : Int)] 71 (0, 0)), (g1, .cells #[.int .i64 0, .int .i64 0, .int .i64 0] 71 (0, 0))] Ko from (by (try simp only [dj_app_l, dj_app_r, dj_cons_l, dj_cons_r, dj_nil_l, dj_nil_r, dk_app, dk_cons, dk_nil, and_true, true_and, and_assoc]); repeat' (first | trivial | assumption | exact Dj.symm (by assumption) | exact Ne.symm (by assumption) | apply And.intro))) p hp⟩) rfl (by simp [strV, Value.oneCell']) (by omega) (by omega) (by omega)) (fun _ => by simp only [List.setIfInBounds_toArray, List.set_cons_succ, List.set_cons_zero] <;> rfl) ?_
            rintro v9 K9 ⟨Kl9, O9, N9, rfl⟩
            obtain ⟨dj10_0, dj10_1⟩ : Dk g2 Kl9 ∧ Dk g1 Kl9 := by simpa only [dj_app_l, dj_app_r, dj_cons_l, dj_cons_r, dj_nil_l, dj_nil_r, dk_app, dk_cons, dk_nil, and_true, true_and, and_assoc] using (show Dj [(g2, .cells #[.int .i64 ((ja : Nat) : Int), .int .i64 ((jr : Nat) : Int), .int .i64 ((je : Nat) : Int)] 71 (0, 0)), (g1, .cells #[.int .i64 0, .int .i64 0, .int .i64 0] 71 (0, 0))] Kl9 from N9)
            refine lm (v := v9) rfl rfl ?_
            refine wpL_done (fun W17 hW17 => ?_)
            refine (show Code.wp _ _ _ _ _ from ?_)
            refine wp_region_L (W0 := w) ((g2, .cells #[.int .i64 ((ja : Nat) : Int), .int .i64 ((jr : Nat) : Int), .int .i64 ((je : Nat) : Int)] 71 (0, 0)) :: (g1, .cells #[.int .i64 0, .int .i64 0, .int .i64 0] 71 (0, 0)) :: Kl9) (hW17) ?_
            refine lm (v := .int .i64 ((i : Nat) : Int)) rfl rfl ?_
            refine lp (v := .int .i64 (((i + 1) : Nat) : Int)) rfl rfl (run_bin rfl (vx := (.int .i64 ((i : Nat) : Int))) (vy := (.int .i64 ((1 : Nat) : Int))) (by kernel_rfl) (by kernel_rfl) fun w => bn_add (z := (i + 1)) rfl (wr_i64 (by omega)) w) ?_
            refine lm (v := .int .i64 (((i + 1) : Nat) : Int)) rfl rfl ?_
            refine wpL_done (fun W18 hW18 => ?_)
            go_roundw
            case rel =>
              repeat apply Exists.intro
              exact ⟨⟨(i + 1), (c ++ [b6]), ja, jr, je, v9, Kl9, ⟨by omega, by omega⟩, (by first | omega | (simp; omega)), (cj_ok hJ hb6 (by omega) h6 (by omega)), (tqe_one hT hb6 (by omega) h6), (own_b1 O9 (by simp) (by simp [u8s])), (show Dk g2 Kl9 from (by (try simp only [dj_app_l, dj_app_r, dj_cons_l, dj_cons_r, dj_nil_l, dj_nil_r, dk_app, dk_cons, dk_nil, and_true, true_and, and_assoc]); repeat' (first | trivial | assumption | exact Dj.symm (by assumption) | exact Ne.symm (by assumption) | apply And.intro))), (show Dk g1 Kl9 from (by (try simp only [dj_app_l, dj_app_r, dj_cons_l, dj_cons_r, dj_nil_l, dj_nil_r, dk_app, dk_cons, dk_nil, and_true, true_and, and_assoc]); repeat' (first | trivial | assumption | exact Dj.symm (by assumption) | exact Ne.symm (by assumption) | apply And.intro))), rfl, rfl, (hW18.sub (fun p hp => by first | exact hp | (simp only [List.mem_cons, List.mem_append, List.nil_append, List.not_mem_nil, or_assoc, or_false, false_or, List.cons_append, List.append_assoc] at hp ⊢ <;> grind)))⟩, rfl⟩
            case measure => (show e0 + 2 - (intOf (.int .i64 (((i + 1) : Nat) : Int))).toNat < e0 + 2 - (intOf (.int .i64 ((i : Nat) : Int))).toNat); simp only [intOf]; omega
          | true =>
            have h7 : c.length = 100 := of_decide_eq_true hd7
            clear hd7
            refine wp_cond_true rfl ?_
            refine wp_region_L (W0 := w) ((g2, .cells #[.int .i64 ((ja : Nat) : Int), .int .i64 ((jr : Nat) : Int), .int .i64 ((je : Nat) : Int)] 71 (0, 0)) :: (g1, .cells #[.int .i64 0, .int .i64 0, .int .i64 0] 71 (0, 0)) :: Ko) (hW16) ?_
            refine lv (v := .agg #[.int .i64 ((ja : Nat) : Int), .int .i64 ((jr : Nat) : Int), .int .i64 ((je : Nat) : Int)]) rfl rfl (yb_load (n := 3) (off := 0) rfl (by kernel_rfl) (.head _) Try.underlying71 rfl (by kernel_rfl) (by simp) (by kernel_rfl)) ?_
            refine lm (v := .int .i64 ((i : Nat) : Int)) rfl rfl ?_
            refine lm (v := .agg #[.int .i64 ((i : Nat) : Int), .int .i64 4, .int .i64 3]) rfl rfl ?_
            cases hd8 : (decide (je = 0)) with
            | false =>
              have h8 : ¬ (je = 0) := of_decide_eq_false hd8
              clear hd8
              obtain ⟨hB, hfi, hfe, hff, hfr, hfj⟩ := hJ.bad h8
              refine lv (v := .agg #[.int .i64 ((ja : Nat) : Int), .int .i64 ((jr : Nat) : Int), .int .i64 ((je : Nat) : Int)]) rfl rfl (yb_call (f := 36) (args := #[.agg #[.int .i64 ((ja : Nat) : Int), .int .i64 ((jr : Nat) : Int), .int .i64 ((je : Nat) : Int)], .agg #[.int .i64 ((i : Nat) : Int), .int .i64 4, .int .i64 3]]) (fun _ => by kernel_rfl) fun W hW => worse_keep ja jr je i 4 3 h8 (by first | omega | exact (.inl rfl)) W) ?_
              refine wpL_s ((g2, .cells #[.int .i64 ((ja : Nat) : Int), .int .i64 ((jr : Nat) : Int), .int .i64 ((je : Nat) : Int)] 71 (0, 0)) :: (g1, .cells #[.int .i64 0, .int .i64 0, .int .i64 0] 71 (0, 0)) :: Ko) rfl rfl (st_row (off := 0) (v := .agg #[.int .i64 ((ja : Nat) : Int), .int .i64 ((jr : Nat) : Int), .int .i64 ((je : Nat) : Int)]) rfl (by kernel_rfl) (by kernel_rfl) (.head _) Bg2 (by kernel_rfl) (by simp [Value.cells]) (by intro v hv; simp [Value.cells] at hv; first | (subst hv; rfl) | (rcases hv with rfl | rfl | rfl <;> rfl)) (by kernel_rfl) (List.forall_mem_cons.2 ⟨.inl rfl, (List.forall_mem_cons.2 ⟨.inr ⟨(.tail _ (.head _)), (by first | assumption | exact Ne.symm (by assumption))⟩, (fun p hp => .inr ⟨(.tail _ (.tail _ hp)), ((show Dk g2 Ko from (by (try simp only [dj_app_l, dj_app_r, dj_cons_l, dj_cons_r, dj_nil_l, dj_nil_r, dk_app, dk_cons, dk_nil, and_true, true_and, and_assoc]); repeat' (first | trivial | assumption | exact Dj.symm (by assumption) | exact Ne.symm (by assumption) | apply And.intro))) _ hp)⟩)⟩)⟩)) ?_
              refine wpL_done (fun W19 hW19 => ?_)
              refine (show Code.wp _ _ _ _ _ from ?_)
              refine wp_region_L (W0 := w) ((g2, .cells #[.int .i64 ((ja : Nat) : Int), .int .i64 ((jr : Nat) : Int), .int .i64 ((je : Nat) : Int)] 71 (0, 0)) :: (g1, .cells #[.int .i64 0, .int .i64 0, .int .i64 0] 71 (0, 0)) :: Ko) (hW19) ?_
              refine lm (v := vo) rfl rfl ?_
              refine lm (v := strV l) rfl rfl ?_
              refine lm (v := .int .i64 ((i : Nat) : Int)) rfl rfl ?_
              refine lp (v := .int .u8 ((b6.toNat : Nat) : Int)) rfl rfl (run_idxS (j := .i64) (l := l) (k := i) (b := b6) rfl Try.underlying9 (by kernel_rfl) (by kernel_rfl) hb6) ?_
              refine wpL_new (fun g => .slice (some ⟨g, 0, none⟩) 1 1) (obi := .cells #[.int .u8 ((b6.toNat : Nat) : Int)] 5 (0, 0)) rfl rfl (fun _ => by kernel_rfl) (fun _ => by simp only [List.setIfInBounds_toArray, List.set_cons_succ, List.set_cons_zero] <;> rfl) fun g11 Bg11 Fg11 => ?_
              obtain ⟨dj12_0, dj12_1, dj12_2⟩ : g2 ≠ g11 ∧ g1 ≠ g11 ∧ Dk g11 Ko := by simpa only [dj_app_l, dj_app_r, dj_cons_l, dj_cons_r, dj_nil_l, dj_nil_r, dk_app, dk_cons, dk_nil, and_true, true_and, and_assoc] using (show Dk g11 ((g2, .cells #[.int .i64 ((ja : Nat) : Int), .int .i64 ((jr : Nat) : Int), .int .i64 ((je : Nat) : Int)] 71 (0, 0)) :: (g1, .cells #[.int .i64 0, .int .i64 0, .int .i64 0] 71 (0, 0)) :: Ko) from Fg11)
              refine wpL_g (AppO w 5 1 [(g2, .cells #[.int .i64 ((ja : Nat) : Int), .int .i64 ((jr : Nat) : Int), .int .i64 ((je : Nat) : Int)] 71 (0, 0)), (g1, .cells #[.int .i64 0, .int .i64 0, .int .i64 0] 71 (0, 0))] (c.length + 1) ((u8s c) ++ [.int .u8 ((b6.toNat : Nat) : Int)])) rfl rfl (app_own el_byteM (m := 1) (c := 1) (news := [.int .u8 ((b6.toNat : Nat) : Int)]) rfl (by kernel_rfl) (by kernel_rfl) (.head _) hO (fun p hp => by simp only [List.mem_cons, List.mem_append, List.nil_append, List.not_mem_nil, or_assoc, or_false, false_or, hp, or_true, true_or]) (fun p hp => ⟨by simp only [List.mem_cons, List.mem_append, List.nil_append, List.not_mem_nil, or_assoc, or_false, false_or] at hp ⊢ <;> grind, (show Dj [(g2, .cells #[.int .i64 ((ja : Nat) : Int), .int .i64 ((jr : Nat) : Int), .int .i64 ((je : Nat) : Int)] 71 (0, 0)), (g1, .cells #[.int .i64 0, .int .i64 0, .int .i64 0] 71 (0, 0))] Ko from (by (try simp only [dj_app_l, dj_app_r, dj_cons_l, dj_cons_r, dj_nil_l, dj_nil_r, dk_app, dk_cons, dk_nil, and_true, true_and, and_assoc]); repeat' (first | trivial | assumption | exact Dj.symm (by assumption) | exact Ne.symm (by assumption) | apply And.intro))) p hp⟩) rfl (by simp [strV, Value.oneCell']) (by omega) (by omega) (by omega)) (fun _ => by simp only [List.setIfInBounds_toArray, List.set_cons_succ, List.set_cons_zero] <;> rfl) ?_
              rintro v13 K9 ⟨Kl13, O13, N13, rfl⟩
              obtain ⟨dj14_0, dj14_1⟩ : Dk g2 Kl13 ∧ Dk g1 Kl13 := by simpa only [dj_app_l, dj_app_r, dj_cons_l, dj_cons_r, dj_nil_l, dj_nil_r, dk_app, dk_cons, dk_nil, and_true, true_and, and_assoc] using (show Dj [(g2, .cells #[.int .i64 ((ja : Nat) : Int), .int .i64 ((jr : Nat) : Int), .int .i64 ((je : Nat) : Int)] 71 (0, 0)), (g1, .cells #[.int .i64 0, .int .i64 0, .int .i64 0] 71 (0, 0))] Kl13 from N13)
              refine lm (v := v13) rfl rfl ?_
              refine wpL_done (fun W20 hW20 => ?_)
              refine (show Code.wp _ _ _ _ _ from ?_)
              refine wp_region_L (W0 := w) ((g2, .cells #[.int .i64 ((ja : Nat) : Int), .int .i64 ((jr : Nat) : Int), .int .i64 ((je : Nat) : Int)] 71 (0, 0)) :: (g1, .cells #[.int .i64 0, .int .i64 0, .int .i64 0] 71 (0, 0)) :: Kl13) (hW20) ?_
              refine lm (v := .int .i64 ((i : Nat) : Int)) rfl rfl ?_
              refine lp (v := .int .i64 (((i + 1) : Nat) : Int)) rfl rfl (run_bin rfl (vx := (.int .i64 ((i : Nat) : Int))) (vy := (.int .i64 ((1 : Nat) : Int))) (by kernel_rfl) (by kernel_rfl) fun w => bn_add (z := (i + 1)) rfl (wr_i64 (by omega)) w) ?_
              refine lm (v := .int .i64 (((i + 1) : Nat) : Int)) rfl rfl ?_
              refine wpL_done (fun W21 hW21 => ?_)
              go_roundw
              case rel =>
                repeat apply Exists.intro
                exact ⟨⟨(i + 1), (c ++ [b6]), ja, jr, je, v13, Kl13, ⟨by omega, by omega⟩, (by first | omega | (simp; omega)), (cj_bad hJ h8 (by omega)), (tqe_one hT hb6 (by omega) h6), (own_b1 O13 (by simp) (by simp [u8s])), (show Dk g2 Kl13 from (by (try simp only [dj_app_l, dj_app_r, dj_cons_l, dj_cons_r, dj_nil_l, dj_nil_r, dk_app, dk_cons, dk_nil, and_true, true_and, and_assoc]); repeat' (first | trivial | assumption | exact Dj.symm (by assumption) | exact Ne.symm (by assumption) | apply And.intro))), (show Dk g1 Kl13 from (by (try simp only [dj_app_l, dj_app_r, dj_cons_l, dj_cons_r, dj_nil_l, dj_nil_r, dk_app, dk_cons, dk_nil, and_true, true_and, and_assoc]); repeat' (first | trivial | assumption | exact Dj.symm (by assumption) | exact Ne.symm (by assumption) | apply And.intro))), rfl, rfl, (hW21.sub (fun p hp => by first | exact hp | (simp only [List.mem_cons, List.mem_append, List.nil_append, List.not_mem_nil, or_assoc, or_false, false_or, List.cons_append, List.append_assoc] at hp ⊢ <;> grind)))⟩, rfl⟩
              case measure => (show e0 + 2 - (intOf (.int .i64 (((i + 1) : Nat) : Int))).toNat < e0 + 2 - (intOf (.int .i64 ((i : Nat) : Int))).toNat); simp only [intOf]; omega
            | true =>
              have h8 : je = 0 := of_decide_eq_true hd8
              clear hd8
              obtain ⟨hie, hc1, hR, hmay⟩ := hJ.ok h8
              refine lv (v := .agg #[.int .i64 ((i : Nat) : Int), .int .i64 4, .int .i64 3]) rfl rfl (yb_call (f := 36) (args := #[.agg #[.int .i64 ((ja : Nat) : Int), .int .i64 ((jr : Nat) : Int), .int .i64 ((je : Nat) : Int)], .agg #[.int .i64 ((i : Nat) : Int), .int .i64 4, .int .i64 3]]) (fun _ => by kernel_rfl) fun W hW => worse_new ja jr je i 4 3 h8 W) ?_
              refine wpL_s ((g2, .cells #[.int .i64 ((i : Nat) : Int), .int .i64 4, .int .i64 3] 71 (0, 0)) :: (g1, .cells #[.int .i64 0, .int .i64 0, .int .i64 0] 71 (0, 0)) :: Ko) rfl rfl (st_row (off := 0) (v := .agg #[.int .i64 ((i : Nat) : Int), .int .i64 4, .int .i64 3]) rfl (by kernel_rfl) (by kernel_rfl) (.head _) Bg2 (by kernel_rfl) (by simp [Value.cells]) (by intro v hv; simp [Value.cells] at hv; first | (subst hv; rfl) | (rcases hv with rfl | rfl | rfl <;> rfl)) (by kernel_rfl) (List.forall_mem_cons.2 ⟨.inl rfl, (List.forall_mem_cons.2 ⟨.inr ⟨(.tail _ (.head _)), (by first | assumption | exact Ne.symm (by assumption))⟩, (fun p hp => .inr ⟨(.tail _ (.tail _ hp)), ((show Dk g2 Ko from (by (try simp only [dj_app_l, dj_app_r, dj_cons_l, dj_cons_r, dj_nil_l, dj_nil_r, dk_app, dk_cons, dk_nil, and_true, true_and, and_assoc]); repeat' (first | trivial | assumption | exact Dj.symm (by assumption) | exact Ne.symm (by assumption) | apply And.intro))) _ hp)⟩)⟩)⟩)) ?_
              refine wpL_done (fun W22 hW22 => ?_)
              refine (show Code.wp _ _ _ _ _ from ?_)
              refine wp_region_L (W0 := w) ((g2, .cells #[.int .i64 ((i : Nat) : Int), .int .i64 4, .int .i64 3] 71 (0, 0)) :: (g1, .cells #[.int .i64 0, .int .i64 0, .int .i64 0] 71 (0, 0)) :: Ko) (hW22) ?_
              refine lm (v := vo) rfl rfl ?_
              refine lm (v := strV l) rfl rfl ?_
              refine lm (v := .int .i64 ((i : Nat) : Int)) rfl rfl ?_
              refine lp (v := .int .u8 ((b6.toNat : Nat) : Int)) rfl rfl (run_idxS (j := .i64) (l := l) (k := i) (b := b6) rfl Try.underlying9 (by kernel_rfl) (by kernel_rfl) hb6) ?_
              refine wpL_new (fun g => .slice (some ⟨g, 0, none⟩) 1 1) (obi := .cells #[.int .u8 ((b6.toNat : Nat) : Int)] 5 (0, 0)) rfl rfl (fun _ => by kernel_rfl) (fun _ => by simp only [List.setIfInBounds_toArray, List.set_cons_succ, List.set_cons_zero] <;> rfl) fun g15 Bg15 Fg15 => ?_
              obtain ⟨dj16_0, dj16_1, dj16_2⟩ : g2 ≠ g15 ∧ g1 ≠ g15 ∧ Dk g15 Ko := by simpa only [dj_app_l, dj_app_r, dj_cons_l, dj_cons_r, dj_nil_l, dj_nil_r, dk_app, dk_cons, dk_nil, and_true, true_and, and_assoc] using (show Dk g15 ((g2, .cells #[.int .i64 ((i : Nat) : Int), .int .i64 4, .int .i64 3] 71 (0, 0)) :: (g1, .cells #[.int .i64 0, .int .i64 0, .int .i64 0] 71 (0, 0)) :: Ko) from Fg15)
              refine wpL_g (AppO w 5 1 [(g2, .cells #[.int .i64 ((i : Nat) : Int), .int .i64 4, .int .i64 3] 71 (0, 0)), (g1, .cells #[.int .i64 0, .int .i64 0, .int .i64 0] 71 (0, 0))] (c.length + 1) ((u8s c) ++ [.int .u8 ((b6.toNat : Nat) : Int)])) rfl rfl (app_own el_byteM (m := 1) (c := 1) (news := [.int .u8 ((b6.toNat : Nat) : Int)]) rfl (by kernel_rfl) (by kernel_rfl) (.head _) hO (fun p hp => by simp only [List.mem_cons, List.mem_append, List.nil_append, List.not_mem_nil, or_assoc, or_false, false_or, hp, or_true, true_or]) (fun p hp => ⟨by simp only [List.mem_cons, List.mem_append, List.nil_append, List.not_mem_nil, or_assoc, or_false, false_or] at hp ⊢ <;> grind, (show Dj [(g2, .cells #[.int .i64 ((i : Nat) : Int), .int .i64 4, .int .i64 3] 71 (0, 0)), (g1, .cells #[.int .i64 0, .int .i64 0, .int .i64 0] 71 (0, 0))] Ko from (by (try simp only [dj_app_l, dj_app_r, dj_cons_l, dj_cons_r, dj_nil_l, dj_nil_r, dk_app, dk_cons, dk_nil, and_true, true_and, and_assoc]); repeat' (first | trivial | assumption | exact Dj.symm (by assumption) | exact Ne.symm (by assumption) | apply And.intro))) p hp⟩) rfl (by simp [strV, Value.oneCell']) (by omega) (by omega) (by omega)) (fun _ => by simp only [List.setIfInBounds_toArray, List.set_cons_succ, List.set_cons_zero] <;> rfl) ?_
              rintro v17 K9 ⟨Kl17, O17, N17, rfl⟩
              obtain ⟨dj18_0, dj18_1⟩ : Dk g2 Kl17 ∧ Dk g1 Kl17 := by simpa only [dj_app_l, dj_app_r, dj_cons_l, dj_cons_r, dj_nil_l, dj_nil_r, dk_app, dk_cons, dk_nil, and_true, true_and, and_assoc] using (show Dj [(g2, .cells #[.int .i64 ((i : Nat) : Int), .int .i64 4, .int .i64 3] 71 (0, 0)), (g1, .cells #[.int .i64 0, .int .i64 0, .int .i64 0] 71 (0, 0))] Kl17 from N17)
              refine lm (v := v17) rfl rfl ?_
              refine wpL_done (fun W23 hW23 => ?_)
              refine (show Code.wp _ _ _ _ _ from ?_)
              refine wp_region_L (W0 := w) ((g2, .cells #[.int .i64 ((i : Nat) : Int), .int .i64 4, .int .i64 3] 71 (0, 0)) :: (g1, .cells #[.int .i64 0, .int .i64 0, .int .i64 0] 71 (0, 0)) :: Kl17) (hW23) ?_
              refine lm (v := .int .i64 ((i : Nat) : Int)) rfl rfl ?_
              refine lp (v := .int .i64 (((i + 1) : Nat) : Int)) rfl rfl (run_bin rfl (vx := (.int .i64 ((i : Nat) : Int))) (vy := (.int .i64 ((1 : Nat) : Int))) (by kernel_rfl) (by kernel_rfl) fun w => bn_add (z := (i + 1)) rfl (wr_i64 (by omega)) w) ?_
              refine lm (v := .int .i64 (((i + 1) : Nat) : Int)) rfl rfl ?_
              refine wpL_done (fun W24 hW24 => ?_)
              go_roundw
              case rel =>
                repeat apply Exists.intro
                exact ⟨⟨(i + 1), (c ++ [b6]), i, 4, 3, v17, Kl17, ⟨by omega, by omega⟩, (by first | omega | (simp; omega)), (.inr ⟨by omega, (hR.trans (compR_long hb6 (by omega) (hmay b6 hb6) h6 (by omega))), by omega, by omega, by omega, by omega⟩), (tqe_one hT hb6 (by omega) h6), (own_b1 O17 (by simp) (by simp [u8s])), (show Dk g2 Kl17 from (by (try simp only [dj_app_l, dj_app_r, dj_cons_l, dj_cons_r, dj_nil_l, dj_nil_r, dk_app, dk_cons, dk_nil, and_true, true_and, and_assoc]); repeat' (first | trivial | assumption | exact Dj.symm (by assumption) | exact Ne.symm (by assumption) | apply And.intro))), (show Dk g1 Kl17 from (by (try simp only [dj_app_l, dj_app_r, dj_cons_l, dj_cons_r, dj_nil_l, dj_nil_r, dk_app, dk_cons, dk_nil, and_true, true_and, and_assoc]); repeat' (first | trivial | assumption | exact Dj.symm (by assumption) | exact Ne.symm (by assumption) | apply And.intro))), rfl, rfl, (hW24.sub (fun p hp => by first | exact hp | (simp only [List.mem_cons, List.mem_append, List.nil_append, List.not_mem_nil, or_assoc, or_false, false_or, List.cons_append, List.append_assoc] at hp ⊢ <;> grind)))⟩, rfl⟩
              case measure => (show e0 + 2 - (intOf (.int .i64 (((i + 1) : Nat) : Int))).toNat < e0 + 2 - (intOf (.int .i64 ((i : Nat) : Int))).toNat); simp only [intOf]; omega
        | true =>
          have h6 : b6.toNat = 63 := of_decide_eq_true hd6
          clear hd6
          refine wp_cond_true rfl ?_
          refine wp_seq ?_
          refine wp_region_L (W0 := w) ((g2, .cells #[.int .i64 ((ja : Nat) : Int), .int .i64 ((jr : Nat) : Int), .int .i64 ((je : Nat) : Int)] 71 (0, 0)) :: (g1, .cells #[.int .i64 0, .int .i64 0, .int .i64 0] 71 (0, 0)) :: Ko) (hW15) ?_
          refine lm (v := .int .i64 ((i : Nat) : Int)) rfl rfl ?_
          refine lp (v := .int .i64 (((i + 1) : Nat) : Int)) rfl rfl (run_bin rfl (vx := (.int .i64 ((i : Nat) : Int))) (vy := (.int .i64 ((1 : Nat) : Int))) (by kernel_rfl) (by kernel_rfl) fun w => bn_add (z := (i + 1)) rfl (wr_i64 (by omega)) w) ?_
          refine lm (v := .int .i64 (((i + 1) : Nat) : Int)) rfl rfl ?_
          refine wpL_done (fun W25 hW25 => ?_)
          refine (show Code.wp _ _ _ _ _ from ?_)
          refine wp_seq ?_
          refine wp_region_L (W0 := w) ((g2, .cells #[.int .i64 ((ja : Nat) : Int), .int .i64 ((jr : Nat) : Int), .int .i64 ((je : Nat) : Int)] 71 (0, 0)) :: (g1, .cells #[.int .i64 0, .int .i64 0, .int .i64 0] 71 (0, 0)) :: Ko) (hW25) ?_
          refine lm (v := .int .i64 (((i + 1) : Nat) : Int)) rfl rfl ?_
          refine lm (v := strV l) rfl rfl ?_
          refine lp (v := .int .i64 ((l.length : Nat) : Int)) rfl rfl (run_lenS (l := l) rfl Try.underlying9 (by kernel_rfl)) ?_
          refine lp (v := .bool (!(decide ((i + 1) < l.length)))) rfl rfl (run_bin rfl (vx := (.int .i64 (((i + 1) : Nat) : Int))) (vy := (.int .i64 ((l.length : Nat) : Int))) (by kernel_rfl) (by kernel_rfl) fun w => bn_geq rfl w) ?_
          refine lm (v := .bool (!(decide ((i + 1) < l.length)))) rfl rfl ?_
          cases hd9 : (decide ((i + 1) < l.length)) with
          | false =>
            have h9 : ¬ ((i + 1) < l.length) := of_decide_eq_false hd9
            clear hd9
            refine ln rfl ?_
            refine ln rfl ?_
            refine ln rfl ?_
            refine ln rfl ?_
            refine ln rfl ?_
            refine ln rfl ?_
            refine ln rfl ?_
            refine ln rfl ?_
            refine ln rfl ?_
            refine ln rfl ?_
            refine ln rfl ?_
            refine lm (v := .bool true) rfl rfl ?_
            refine wpL_done (fun W26 hW26 => ?_)
            refine (show Code.wp _ _ _ _ _ from ?_)
            refine wp_cond_true rfl ?_
            refine wp_seq ?_
            refine wp_region_L (W0 := w) ((g2, .cells #[.int .i64 ((ja : Nat) : Int), .int .i64 ((jr : Nat) : Int), .int .i64 ((je : Nat) : Int)] 71 (0, 0)) :: (g1, .cells #[.int .i64 0, .int .i64 0, .int .i64 0] 71 (0, 0)) :: Ko) (hW26) ?_
            refine lv (v := .agg #[.int .i64 ((ja : Nat) : Int), .int .i64 ((jr : Nat) : Int), .int .i64 ((je : Nat) : Int)]) rfl rfl (yb_load (n := 3) (off := 0) rfl (by kernel_rfl) (.head _) Try.underlying71 rfl (by kernel_rfl) (by simp) (by kernel_rfl)) ?_
            refine lm (v := .int .i64 ((i : Nat) : Int)) rfl rfl ?_
            refine lm (v := .agg #[.int .i64 ((i : Nat) : Int), .int .i64 3, .int .i64 41]) rfl rfl ?_
            cases hd10 : (decide (je = 0)) with
            | false =>
              have h10 : ¬ (je = 0) := of_decide_eq_false hd10
              clear hd10
              obtain ⟨hB, hfi, hfe, hff, hfr, hfj⟩ := hJ.bad h10
              refine lv (v := .agg #[.int .i64 ((ja : Nat) : Int), .int .i64 ((jr : Nat) : Int), .int .i64 ((je : Nat) : Int)]) rfl rfl (yb_call (f := 36) (args := #[.agg #[.int .i64 ((ja : Nat) : Int), .int .i64 ((jr : Nat) : Int), .int .i64 ((je : Nat) : Int)], .agg #[.int .i64 ((i : Nat) : Int), .int .i64 3, .int .i64 41]]) (fun _ => by kernel_rfl) fun W hW => worse_keep ja jr je i 3 41 h10 (by first | omega | exact (.inl rfl)) W) ?_
              refine wpL_s ((g2, .cells #[.int .i64 ((ja : Nat) : Int), .int .i64 ((jr : Nat) : Int), .int .i64 ((je : Nat) : Int)] 71 (0, 0)) :: (g1, .cells #[.int .i64 0, .int .i64 0, .int .i64 0] 71 (0, 0)) :: Ko) rfl rfl (st_row (off := 0) (v := .agg #[.int .i64 ((ja : Nat) : Int), .int .i64 ((jr : Nat) : Int), .int .i64 ((je : Nat) : Int)]) rfl (by kernel_rfl) (by kernel_rfl) (.head _) Bg2 (by kernel_rfl) (by simp [Value.cells]) (by intro v hv; simp [Value.cells] at hv; first | (subst hv; rfl) | (rcases hv with rfl | rfl | rfl <;> rfl)) (by kernel_rfl) (List.forall_mem_cons.2 ⟨.inl rfl, (List.forall_mem_cons.2 ⟨.inr ⟨(.tail _ (.head _)), (by first | assumption | exact Ne.symm (by assumption))⟩, (fun p hp => .inr ⟨(.tail _ (.tail _ hp)), ((show Dk g2 Ko from (by (try simp only [dj_app_l, dj_app_r, dj_cons_l, dj_cons_r, dj_nil_l, dj_nil_r, dk_app, dk_cons, dk_nil, and_true, true_and, and_assoc]); repeat' (first | trivial | assumption | exact Dj.symm (by assumption) | exact Ne.symm (by assumption) | apply And.intro))) _ hp)⟩)⟩)⟩)) ?_
              refine wpL_done (fun W27 hW27 => ?_)
              refine (show Code.wp _ _ _ _ _ from ?_)
              refine wp_exit ?_
              refine (show Code.wp _ _ _ _ _ from ?_)
              refine wp_region_L (W0 := w) ((g2, .cells #[.int .i64 ((ja : Nat) : Int), .int .i64 ((jr : Nat) : Int), .int .i64 ((je : Nat) : Int)] 71 (0, 0)) :: (g1, .cells #[.int .i64 0, .int .i64 0, .int .i64 0] 71 (0, 0)) :: Ko) (hW27) ?_
              refine lm (v := .int .i64 (((i + 1) : Nat) : Int)) rfl rfl ?_
              refine lp (v := .int .i64 ((((i + 1) + 1) : Nat) : Int)) rfl rfl (run_bin rfl (vx := (.int .i64 (((i + 1) : Nat) : Int))) (vy := (.int .i64 ((1 : Nat) : Int))) (by kernel_rfl) (by kernel_rfl) fun w => bn_add (z := ((i + 1) + 1)) rfl (wr_i64 (by omega)) w) ?_
              refine lm (v := .int .i64 ((((i + 1) + 1) : Nat) : Int)) rfl rfl ?_
              refine wpL_done (fun W28 hW28 => ?_)
              go_roundw
              case rel =>
                repeat apply Exists.intro
                exact ⟨⟨((i + 1) + 1), c, ja, jr, je, vo, Ko, ⟨by omega, by omega⟩, (by first | omega | (simp; omega)), (cj_bad hJ h10 (by omega)), (tqe_big (by omega)), hO, (show Dk g2 Ko from (by (try simp only [dj_app_l, dj_app_r, dj_cons_l, dj_cons_r, dj_nil_l, dj_nil_r, dk_app, dk_cons, dk_nil, and_true, true_and, and_assoc]); repeat' (first | trivial | assumption | exact Dj.symm (by assumption) | exact Ne.symm (by assumption) | apply And.intro))), (show Dk g1 Ko from (by (try simp only [dj_app_l, dj_app_r, dj_cons_l, dj_cons_r, dj_nil_l, dj_nil_r, dk_app, dk_cons, dk_nil, and_true, true_and, and_assoc]); repeat' (first | trivial | assumption | exact Dj.symm (by assumption) | exact Ne.symm (by assumption) | apply And.intro))), rfl, rfl, (hW28.sub (fun p hp => by first | exact hp | (simp only [List.mem_cons, List.mem_append, List.nil_append, List.not_mem_nil, or_assoc, or_false, false_or, List.cons_append, List.append_assoc] at hp ⊢ <;> grind)))⟩, rfl⟩
              case measure => (show e0 + 2 - (intOf (.int .i64 ((((i + 1) + 1) : Nat) : Int))).toNat < e0 + 2 - (intOf (.int .i64 ((i : Nat) : Int))).toNat); simp only [intOf]; omega
            | true =>
              have h10 : je = 0 := of_decide_eq_true hd10
              clear hd10
              obtain ⟨hie, hc1, hR, hmay⟩ := hJ.ok h10
              refine lv (v := .agg #[.int .i64 ((i : Nat) : Int), .int .i64 3, .int .i64 41]) rfl rfl (yb_call (f := 36) (args := #[.agg #[.int .i64 ((ja : Nat) : Int), .int .i64 ((jr : Nat) : Int), .int .i64 ((je : Nat) : Int)], .agg #[.int .i64 ((i : Nat) : Int), .int .i64 3, .int .i64 41]]) (fun _ => by kernel_rfl) fun W hW => worse_new ja jr je i 3 41 h10 W) ?_
              refine wpL_s ((g2, .cells #[.int .i64 ((i : Nat) : Int), .int .i64 3, .int .i64 41] 71 (0, 0)) :: (g1, .cells #[.int .i64 0, .int .i64 0, .int .i64 0] 71 (0, 0)) :: Ko) rfl rfl (st_row (off := 0) (v := .agg #[.int .i64 ((i : Nat) : Int), .int .i64 3, .int .i64 41]) rfl (by kernel_rfl) (by kernel_rfl) (.head _) Bg2 (by kernel_rfl) (by simp [Value.cells]) (by intro v hv; simp [Value.cells] at hv; first | (subst hv; rfl) | (rcases hv with rfl | rfl | rfl <;> rfl)) (by kernel_rfl) (List.forall_mem_cons.2 ⟨.inl rfl, (List.forall_mem_cons.2 ⟨.inr ⟨(.tail _ (.head _)), (by first | assumption | exact Ne.symm (by assumption))⟩, (fun p hp => .inr ⟨(.tail _ (.tail _ hp)), ((show Dk g2 Ko from (by (try simp only [dj_app_l, dj_app_r, dj_cons_l, dj_cons_r, dj_nil_l, dj_nil_r, dk_app, dk_cons, dk_nil, and_true, true_and, and_assoc]); repeat' (first | trivial | assumption | exact Dj.symm (by assumption) | exact Ne.symm (by assumption) | apply And.intro))) _ hp)⟩)⟩)⟩)) ?_
              refine wpL_done (fun W29 hW29 => ?_)
              refine (show Code.wp _ _ _ _ _ from ?_)
              refine wp_exit ?_
              refine (show Code.wp _ _ _ _ _ from ?_)
              refine wp_region_L (W0 := w) ((g2, .cells #[.int .i64 ((i : Nat) : Int), .int .i64 3, .int .i64 41] 71 (0, 0)) :: (g1, .cells #[.int .i64 0, .int .i64 0, .int .i64 0] 71 (0, 0)) :: Ko) (hW29) ?_
              refine lm (v := .int .i64 (((i + 1) : Nat) : Int)) rfl rfl ?_
              refine lp (v := .int .i64 ((((i + 1) + 1) : Nat) : Int)) rfl rfl (run_bin rfl (vx := (.int .i64 (((i + 1) : Nat) : Int))) (vy := (.int .i64 ((1 : Nat) : Int))) (by kernel_rfl) (by kernel_rfl) fun w => bn_add (z := ((i + 1) + 1)) rfl (wr_i64 (by omega)) w) ?_
              refine lm (v := .int .i64 ((((i + 1) + 1) : Nat) : Int)) rfl rfl ?_
              refine wpL_done (fun W30 hW30 => ?_)
              go_roundw
              case rel =>
                repeat apply Exists.intro
                exact ⟨⟨((i + 1) + 1), c, i, 3, 41, vo, Ko, ⟨by omega, by omega⟩, (by first | omega | (simp; omega)), (.inr ⟨by omega, (hR.trans (compR_q hb6 (by omega) h6 (rest_end _ (by omega)))), by omega, by omega, by omega, by omega⟩), (tqe_big (by omega)), hO, (show Dk g2 Ko from (by (try simp only [dj_app_l, dj_app_r, dj_cons_l, dj_cons_r, dj_nil_l, dj_nil_r, dk_app, dk_cons, dk_nil, and_true, true_and, and_assoc]); repeat' (first | trivial | assumption | exact Dj.symm (by assumption) | exact Ne.symm (by assumption) | apply And.intro))), (show Dk g1 Ko from (by (try simp only [dj_app_l, dj_app_r, dj_cons_l, dj_cons_r, dj_nil_l, dj_nil_r, dk_app, dk_cons, dk_nil, and_true, true_and, and_assoc]); repeat' (first | trivial | assumption | exact Dj.symm (by assumption) | exact Ne.symm (by assumption) | apply And.intro))), rfl, rfl, (hW30.sub (fun p hp => by first | exact hp | (simp only [List.mem_cons, List.mem_append, List.nil_append, List.not_mem_nil, or_assoc, or_false, false_or, List.cons_append, List.append_assoc] at hp ⊢ <;> grind)))⟩, rfl⟩
              case measure => (show e0 + 2 - (intOf (.int .i64 ((((i + 1) + 1) : Nat) : Int))).toNat < e0 + 2 - (intOf (.int .i64 ((i : Nat) : Int))).toNat); simp only [intOf]; omega
          | true =>
            have h9 : (i + 1) < l.length := of_decide_eq_true hd9
            clear hd9
            have hin2 : i + 1 < e0 := Nat.lt_of_not_le (fun z => by have := tqe_end hT hb6 (by omega) h6 (by omega); omega)
            refine lm (v := strV l) rfl rfl ?_
            refine lm (v := .int .i64 (((i + 1) : Nat) : Int)) rfl rfl ?_
            obtain ⟨b19, hb19⟩ : ∃ b, (l : List UInt8)[(i + 1)]? = some b := ⟨_, List.getElem?_eq_getElem (by omega)⟩
            have lb19 := b19.toNat_lt
            refine lp (v := .int .u8 ((b19.toNat : Nat) : Int)) rfl rfl (run_idxS (j := .i64) (l := l) (k := (i + 1)) (b := b19) rfl Try.underlying9 (by kernel_rfl) (by kernel_rfl) hb19) ?_
            refine lv (v := .bool (svc b19)) rfl rfl (yb_call (f := 58) (args := #[.int .u8 ((b19.toNat : Nat) : Int)]) (fun _ => by kernel_rfl) fun W hW => svc_any b19 W) ?_
            refine lp (v := .bool (!(svc b19))) rfl rfl (run_un rfl (by kernel_rfl) fun w => un_not w) ?_
            refine lm (v := .bool (!(svc b19))) rfl rfl ?_
            cases h11 : (svc b19) with
            | false =>
              refine lm (v := strV l) rfl rfl ?_
              refine lm (v := .int .i64 (((i + 1) : Nat) : Int)) rfl rfl ?_
              refine lp (v := .int .u8 ((b19.toNat : Nat) : Int)) rfl rfl (run_idxS (j := .i64) (l := l) (k := (i + 1)) (b := b19) rfl Try.underlying9 (by kernel_rfl) (by kernel_rfl) hb19) ?_
              refine lp (v := .bool (!(decide (b19.toNat = 32)))) rfl rfl (run_bin rfl (vx := (.int .u8 ((b19.toNat : Nat) : Int))) (vy := (.int .u8 ((32 : Nat) : Int))) (by kernel_rfl) (by kernel_rfl) fun w => bn_neq rfl w) ?_
              refine lm (v := .bool (!(decide (b19.toNat = 32)))) rfl rfl ?_
              refine lm (v := .bool (!(decide (b19.toNat = 32)))) rfl rfl ?_
              refine wpL_done (fun W31 hW31 => ?_)
              refine (show Code.wp _ _ _ _ _ from ?_)
              cases hd12 : (decide (b19.toNat = 32)) with
              | false =>
                have h12 : ¬ (b19.toNat = 32) := of_decide_eq_false hd12
                clear hd12
                have dnb19 : ¬ (svc b19 || decide (b19.toNat = 32)) = true := by simp [*]
                refine wp_cond_true rfl ?_
                refine wp_seq ?_
                refine wp_region_L (W0 := w) ((g2, .cells #[.int .i64 ((ja : Nat) : Int), .int .i64 ((jr : Nat) : Int), .int .i64 ((je : Nat) : Int)] 71 (0, 0)) :: (g1, .cells #[.int .i64 0, .int .i64 0, .int .i64 0] 71 (0, 0)) :: Ko) (hW31) ?_
                refine lv (v := .agg #[.int .i64 ((ja : Nat) : Int), .int .i64 ((jr : Nat) : Int), .int .i64 ((je : Nat) : Int)]) rfl rfl (yb_load (n := 3) (off := 0) rfl (by kernel_rfl) (.head _) Try.underlying71 rfl (by kernel_rfl) (by simp) (by kernel_rfl)) ?_
                refine lm (v := .int .i64 ((i : Nat) : Int)) rfl rfl ?_
                refine lm (v := .agg #[.int .i64 ((i : Nat) : Int), .int .i64 3, .int .i64 41]) rfl rfl ?_
                cases hd13 : (decide (je = 0)) with
                | false =>
                  have h13 : ¬ (je = 0) := of_decide_eq_false hd13
                  clear hd13
                  obtain ⟨hB, hfi, hfe, hff, hfr, hfj⟩ := hJ.bad h13
                  refine lv (v := .agg #[.int .i64 ((ja : Nat) : Int), .int .i64 ((jr : Nat) : Int), .int .i64 ((je : Nat) : Int)]) rfl rfl (yb_call (f := 36) (args := #[.agg #[.int .i64 ((ja : Nat) : Int), .int .i64 ((jr : Nat) : Int), .int .i64 ((je : Nat) : Int)], .agg #[.int .i64 ((i : Nat) : Int), .int .i64 3, .int .i64 41]]) (fun _ => by kernel_rfl) fun W hW => worse_keep ja jr je i 3 41 h13 (by first | omega | exact (.inl rfl)) W) ?_
                  refine wpL_s ((g2, .cells #[.int .i64 ((ja : Nat) : Int), .int .i64 ((jr : Nat) : Int), .int .i64 ((je : Nat) : Int)] 71 (0, 0)) :: (g1, .cells #[.int .i64 0, .int .i64 0, .int .i64 0] 71 (0, 0)) :: Ko) rfl rfl (st_row (off := 0) (v := .agg #[.int .i64 ((ja : Nat) : Int), .int .i64 ((jr : Nat) : Int), .int .i64 ((je : Nat) : Int)]) rfl (by kernel_rfl) (by kernel_rfl) (.head _) Bg2 (by kernel_rfl) (by simp [Value.cells]) (by intro v hv; simp [Value.cells] at hv; first | (subst hv; rfl) | (rcases hv with rfl | rfl | rfl <;> rfl)) (by kernel_rfl) (List.forall_mem_cons.2 ⟨.inl rfl, (List.forall_mem_cons.2 ⟨.inr ⟨(.tail _ (.head _)), (by first | assumption | exact Ne.symm (by assumption))⟩, (fun p hp => .inr ⟨(.tail _ (.tail _ hp)), ((show Dk g2 Ko from (by (try simp only [dj_app_l, dj_app_r, dj_cons_l, dj_cons_r, dj_nil_l, dj_nil_r, dk_app, dk_cons, dk_nil, and_true, true_and, and_assoc]); repeat' (first | trivial | assumption | exact Dj.symm (by assumption) | exact Ne.symm (by assumption) | apply And.intro))) _ hp)⟩)⟩)⟩)) ?_
                  refine wpL_done (fun W32 hW32 => ?_)
                  refine (show Code.wp _ _ _ _ _ from ?_)
                  refine wp_exit ?_
                  refine (show Code.wp _ _ _ _ _ from ?_)
                  refine wp_region_L (W0 := w) ((g2, .cells #[.int .i64 ((ja : Nat) : Int), .int .i64 ((jr : Nat) : Int), .int .i64 ((je : Nat) : Int)] 71 (0, 0)) :: (g1, .cells #[.int .i64 0, .int .i64 0, .int .i64 0] 71 (0, 0)) :: Ko) (hW32) ?_
                  refine lm (v := .int .i64 (((i + 1) : Nat) : Int)) rfl rfl ?_
                  refine lp (v := .int .i64 ((((i + 1) + 1) : Nat) : Int)) rfl rfl (run_bin rfl (vx := (.int .i64 (((i + 1) : Nat) : Int))) (vy := (.int .i64 ((1 : Nat) : Int))) (by kernel_rfl) (by kernel_rfl) fun w => bn_add (z := ((i + 1) + 1)) rfl (wr_i64 (by omega)) w) ?_
                  refine lm (v := .int .i64 ((((i + 1) + 1) : Nat) : Int)) rfl rfl ?_
                  refine wpL_done (fun W33 hW33 => ?_)
                  go_roundw
                  case rel =>
                    repeat apply Exists.intro
                    exact ⟨⟨((i + 1) + 1), c, ja, jr, je, vo, Ko, ⟨by omega, by omega⟩, (by first | omega | (simp; omega)), (cj_bad hJ h13 (by omega)), (tqe_two hT hb6 (by omega) h6 hb19 (by omega)), hO, (show Dk g2 Ko from (by (try simp only [dj_app_l, dj_app_r, dj_cons_l, dj_cons_r, dj_nil_l, dj_nil_r, dk_app, dk_cons, dk_nil, and_true, true_and, and_assoc]); repeat' (first | trivial | assumption | exact Dj.symm (by assumption) | exact Ne.symm (by assumption) | apply And.intro))), (show Dk g1 Ko from (by (try simp only [dj_app_l, dj_app_r, dj_cons_l, dj_cons_r, dj_nil_l, dj_nil_r, dk_app, dk_cons, dk_nil, and_true, true_and, and_assoc]); repeat' (first | trivial | assumption | exact Dj.symm (by assumption) | exact Ne.symm (by assumption) | apply And.intro))), rfl, rfl, (hW33.sub (fun p hp => by first | exact hp | (simp only [List.mem_cons, List.mem_append, List.nil_append, List.not_mem_nil, or_assoc, or_false, false_or, List.cons_append, List.append_assoc] at hp ⊢ <;> grind)))⟩, rfl⟩
                  case measure => (show e0 + 2 - (intOf (.int .i64 ((((i + 1) + 1) : Nat) : Int))).toNat < e0 + 2 - (intOf (.int .i64 ((i : Nat) : Int))).toNat); simp only [intOf]; omega
                | true =>
                  have h13 : je = 0 := of_decide_eq_true hd13
                  clear hd13
                  obtain ⟨hie, hc1, hR, hmay⟩ := hJ.ok h13
                  refine lv (v := .agg #[.int .i64 ((i : Nat) : Int), .int .i64 3, .int .i64 41]) rfl rfl (yb_call (f := 36) (args := #[.agg #[.int .i64 ((ja : Nat) : Int), .int .i64 ((jr : Nat) : Int), .int .i64 ((je : Nat) : Int)], .agg #[.int .i64 ((i : Nat) : Int), .int .i64 3, .int .i64 41]]) (fun _ => by kernel_rfl) fun W hW => worse_new ja jr je i 3 41 h13 W) ?_
                  refine wpL_s ((g2, .cells #[.int .i64 ((i : Nat) : Int), .int .i64 3, .int .i64 41] 71 (0, 0)) :: (g1, .cells #[.int .i64 0, .int .i64 0, .int .i64 0] 71 (0, 0)) :: Ko) rfl rfl (st_row (off := 0) (v := .agg #[.int .i64 ((i : Nat) : Int), .int .i64 3, .int .i64 41]) rfl (by kernel_rfl) (by kernel_rfl) (.head _) Bg2 (by kernel_rfl) (by simp [Value.cells]) (by intro v hv; simp [Value.cells] at hv; first | (subst hv; rfl) | (rcases hv with rfl | rfl | rfl <;> rfl)) (by kernel_rfl) (List.forall_mem_cons.2 ⟨.inl rfl, (List.forall_mem_cons.2 ⟨.inr ⟨(.tail _ (.head _)), (by first | assumption | exact Ne.symm (by assumption))⟩, (fun p hp => .inr ⟨(.tail _ (.tail _ hp)), ((show Dk g2 Ko from (by (try simp only [dj_app_l, dj_app_r, dj_cons_l, dj_cons_r, dj_nil_l, dj_nil_r, dk_app, dk_cons, dk_nil, and_true, true_and, and_assoc]); repeat' (first | trivial | assumption | exact Dj.symm (by assumption) | exact Ne.symm (by assumption) | apply And.intro))) _ hp)⟩)⟩)⟩)) ?_
                  refine wpL_done (fun W34 hW34 => ?_)
                  refine (show Code.wp _ _ _ _ _ from ?_)
                  refine wp_exit ?_
                  refine (show Code.wp _ _ _ _ _ from ?_)
                  refine wp_region_L (W0 := w) ((g2, .cells #[.int .i64 ((i : Nat) : Int), .int .i64 3, .int .i64 41] 71 (0, 0)) :: (g1, .cells #[.int .i64 0, .int .i64 0, .int .i64 0] 71 (0, 0)) :: Ko) (hW34) ?_
                  refine lm (v := .int .i64 (((i + 1) : Nat) : Int)) rfl rfl ?_
                  refine lp (v := .int .i64 ((((i + 1) + 1) : Nat) : Int)) rfl rfl (run_bin rfl (vx := (.int .i64 (((i + 1) : Nat) : Int))) (vy := (.int .i64 ((1 : Nat) : Int))) (by kernel_rfl) (by kernel_rfl) fun w => bn_add (z := ((i + 1) + 1)) rfl (wr_i64 (by omega)) w) ?_
                  refine lm (v := .int .i64 ((((i + 1) + 1) : Nat) : Int)) rfl rfl ?_
                  refine wpL_done (fun W35 hW35 => ?_)
                  go_roundw
                  case rel =>
                    repeat apply Exists.intro
                    exact ⟨⟨((i + 1) + 1), c, i, 3, 41, vo, Ko, ⟨by omega, by omega⟩, (by first | omega | (simp; omega)), (.inr ⟨by omega, (hR.trans (compR_q2 hb6 (by omega) h6 hb19 (by omega) dnb19)), by omega, by omega, by omega, by omega⟩), (tqe_two hT hb6 (by omega) h6 hb19 (by omega)), hO, (show Dk g2 Ko from (by (try simp only [dj_app_l, dj_app_r, dj_cons_l, dj_cons_r, dj_nil_l, dj_nil_r, dk_app, dk_cons, dk_nil, and_true, true_and, and_assoc]); repeat' (first | trivial | assumption | exact Dj.symm (by assumption) | exact Ne.symm (by assumption) | apply And.intro))), (show Dk g1 Ko from (by (try simp only [dj_app_l, dj_app_r, dj_cons_l, dj_cons_r, dj_nil_l, dj_nil_r, dk_app, dk_cons, dk_nil, and_true, true_and, and_assoc]); repeat' (first | trivial | assumption | exact Dj.symm (by assumption) | exact Ne.symm (by assumption) | apply And.intro))), rfl, rfl, (hW35.sub (fun p hp => by first | exact hp | (simp only [List.mem_cons, List.mem_append, List.nil_append, List.not_mem_nil, or_assoc, or_false, false_or, List.cons_append, List.append_assoc] at hp ⊢ <;> grind)))⟩, rfl⟩
                  case measure => (show e0 + 2 - (intOf (.int .i64 ((((i + 1) + 1) : Nat) : Int))).toNat < e0 + 2 - (intOf (.int .i64 ((i : Nat) : Int))).toNat); simp only [intOf]; omega
              | true =>
                have h12 : b19.toNat = 32 := of_decide_eq_true hd12
                clear hd12
                have dkb19 : (svc b19 || decide (b19.toNat = 32)) = true := by rw [decide_eq_true h12]; simp
                refine wp_cond_false rfl ?_
                refine wp_skip ?_
                refine (show Code.wp _ _ _ _ _ from ?_)
                refine wp_seq ?_
                refine wp_seq ?_
                refine wp_region_L (W0 := w) ((g2, .cells #[.int .i64 ((ja : Nat) : Int), .int .i64 ((jr : Nat) : Int), .int .i64 ((je : Nat) : Int)] 71 (0, 0)) :: (g1, .cells #[.int .i64 0, .int .i64 0, .int .i64 0] 71 (0, 0)) :: Ko) (hW31) ?_
                refine lm (v := vo) rfl rfl ?_
                refine lp (v := .int .i64 ((c.length : Nat) : Int)) rfl rfl (run_lenO (W0 := w) rfl Try.underlying26 (by kernel_rfl) hO) ?_
                refine lp (v := .bool (decide (c.length = 100))) rfl rfl (run_bin rfl (vx := (.int .i64 ((c.length : Nat) : Int))) (vy := (.int .i64 ((100 : Nat) : Int))) (by kernel_rfl) (by kernel_rfl) fun w => bn_eql rfl w) ?_
                refine wpL_done (fun W36 hW36 => ?_)
                refine (show Code.wp _ _ _ _ _ from ?_)
                cases hd14 : (decide (c.length = 100)) with
                | false =>
                  have h14 : ¬ (c.length = 100) := of_decide_eq_false hd14
                  clear hd14
                  refine wp_cond_false rfl ?_
                  refine wp_skip ?_
                  refine (show Code.wp _ _ _ _ _ from ?_)
                  refine wp_region_L (W0 := w) ((g2, .cells #[.int .i64 ((ja : Nat) : Int), .int .i64 ((jr : Nat) : Int), .int .i64 ((je : Nat) : Int)] 71 (0, 0)) :: (g1, .cells #[.int .i64 0, .int .i64 0, .int .i64 0] 71 (0, 0)) :: Ko) (hW36) ?_
                  refine lm (v := vo) rfl rfl ?_
                  refine lm (v := strV l) rfl rfl ?_
                  refine lm (v := .int .i64 (((i + 1) : Nat) : Int)) rfl rfl ?_
                  refine lp (v := .int .u8 ((b19.toNat : Nat) : Int)) rfl rfl (run_idxS (j := .i64) (l := l) (k := (i + 1)) (b := b19) rfl Try.underlying9 (by kernel_rfl) (by kernel_rfl) hb19) ?_
                  refine wpL_new (fun g => .slice (some ⟨g, 0, none⟩) 1 1) (obi := .cells #[.int .u8 ((b19.toNat : Nat) : Int)] 5 (0, 0)) rfl rfl (fun _ => by kernel_rfl) (fun _ => by simp only [List.setIfInBounds_toArray, List.set_cons_succ, List.set_cons_zero] <;> rfl) fun g20 Bg20 Fg20 => ?_
                  obtain ⟨dj21_0, dj21_1, dj21_2⟩ : g2 ≠ g20 ∧ g1 ≠ g20 ∧ Dk g20 Ko := by simpa only [dj_app_l, dj_app_r, dj_cons_l, dj_cons_r, dj_nil_l, dj_nil_r, dk_app, dk_cons, dk_nil, and_true, true_and, and_assoc] using (show Dk g20 ((g2, .cells #[.int .i64 ((ja : Nat) : Int), .int .i64 ((jr : Nat) : Int), .int .i64 ((je : Nat) : Int)] 71 (0, 0)) :: (g1, .cells #[.int .i64 0, .int .i64 0, .int .i64 0] 71 (0, 0)) :: Ko) from Fg20)
                  refine wpL_g (AppO w 5 1 [(g2, .cells #[.int .i64 ((ja : Nat) : Int), .int .i64 ((jr : Nat) : Int), .int .i64 ((je : Nat) : Int)] 71 (0, 0)), (g1, .cells #[.int .i64 0, .int .i64 0, .int .i64 0] 71 (0, 0))] (c.length + 1) ((u8s c) ++ [.int .u8 ((b19.toNat : Nat) : Int)])) rfl rfl (app_own el_byteM (m := 1) (c := 1) (news := [.int .u8 ((b19.toNat : Nat) : Int)]) rfl (by kernel_rfl) (by kernel_rfl) (.head _) hO (fun p hp => by simp only [List.mem_cons, List.mem_append, List.nil_append, List.not_mem_nil, or_assoc, or_false, false_or, hp, or_true, true_or]) (fun p hp => ⟨by simp only [List.mem_cons, List.mem_append, List.nil_append, List.not_mem_nil, or_assoc, or_false, false_or] at hp ⊢ <;> grind, (show Dj [(g2, .cells #[.int .i64 ((ja : Nat) : Int), .int .i64 ((jr : Nat) : Int), .int .i64 ((je : Nat) : Int)] 71 (0, 0)), (g1, .cells #[.int .i64 0, .int .i64 0, .int .i64 0] 71 (0, 0))] Ko from (by (try simp only [dj_app_l, dj_app_r, dj_cons_l, dj_cons_r, dj_nil_l, dj_nil_r, dk_app, dk_cons, dk_nil, and_true, true_and, and_assoc]); repeat' (first | trivial | assumption | exact Dj.symm (by assumption) | exact Ne.symm (by assumption) | apply And.intro))) p hp⟩) rfl (by simp [strV, Value.oneCell']) (by omega) (by omega) (by omega)) (fun _ => by simp only [List.setIfInBounds_toArray, List.set_cons_succ, List.set_cons_zero] <;> rfl) ?_
                  rintro v22 K9 ⟨Kl22, O22, N22, rfl⟩
                  obtain ⟨dj23_0, dj23_1⟩ : Dk g2 Kl22 ∧ Dk g1 Kl22 := by simpa only [dj_app_l, dj_app_r, dj_cons_l, dj_cons_r, dj_nil_l, dj_nil_r, dk_app, dk_cons, dk_nil, and_true, true_and, and_assoc] using (show Dj [(g2, .cells #[.int .i64 ((ja : Nat) : Int), .int .i64 ((jr : Nat) : Int), .int .i64 ((je : Nat) : Int)] 71 (0, 0)), (g1, .cells #[.int .i64 0, .int .i64 0, .int .i64 0] 71 (0, 0))] Kl22 from N22)
                  refine lm (v := v22) rfl rfl ?_
                  refine wpL_done (fun W37 hW37 => ?_)
                  refine (show Code.wp _ _ _ _ _ from ?_)
                  refine wp_region_L (W0 := w) ((g2, .cells #[.int .i64 ((ja : Nat) : Int), .int .i64 ((jr : Nat) : Int), .int .i64 ((je : Nat) : Int)] 71 (0, 0)) :: (g1, .cells #[.int .i64 0, .int .i64 0, .int .i64 0] 71 (0, 0)) :: Kl22) (hW37) ?_
                  refine lm (v := .int .i64 (((i + 1) : Nat) : Int)) rfl rfl ?_
                  refine lp (v := .int .i64 ((((i + 1) + 1) : Nat) : Int)) rfl rfl (run_bin rfl (vx := (.int .i64 (((i + 1) : Nat) : Int))) (vy := (.int .i64 ((1 : Nat) : Int))) (by kernel_rfl) (by kernel_rfl) fun w => bn_add (z := ((i + 1) + 1)) rfl (wr_i64 (by omega)) w) ?_
                  refine lm (v := .int .i64 ((((i + 1) + 1) : Nat) : Int)) rfl rfl ?_
                  refine wpL_done (fun W38 hW38 => ?_)
                  go_roundw
                  case rel =>
                    repeat apply Exists.intro
                    exact ⟨⟨((i + 1) + 1), (c ++ [b19]), ja, jr, je, v22, Kl22, ⟨by omega, by omega⟩, (by first | omega | (simp; omega)), (cj_qok hJ hb6 (by omega) h6 hb19 (by omega) dkb19 (by omega)), (tqe_two hT hb6 (by omega) h6 hb19 (by omega)), (own_b1 O22 (by simp) (by simp [u8s])), (show Dk g2 Kl22 from (by (try simp only [dj_app_l, dj_app_r, dj_cons_l, dj_cons_r, dj_nil_l, dj_nil_r, dk_app, dk_cons, dk_nil, and_true, true_and, and_assoc]); repeat' (first | trivial | assumption | exact Dj.symm (by assumption) | exact Ne.symm (by assumption) | apply And.intro))), (show Dk g1 Kl22 from (by (try simp only [dj_app_l, dj_app_r, dj_cons_l, dj_cons_r, dj_nil_l, dj_nil_r, dk_app, dk_cons, dk_nil, and_true, true_and, and_assoc]); repeat' (first | trivial | assumption | exact Dj.symm (by assumption) | exact Ne.symm (by assumption) | apply And.intro))), rfl, rfl, (hW38.sub (fun p hp => by first | exact hp | (simp only [List.mem_cons, List.mem_append, List.nil_append, List.not_mem_nil, or_assoc, or_false, false_or, List.cons_append, List.append_assoc] at hp ⊢ <;> grind)))⟩, rfl⟩
                  case measure => (show e0 + 2 - (intOf (.int .i64 ((((i + 1) + 1) : Nat) : Int))).toNat < e0 + 2 - (intOf (.int .i64 ((i : Nat) : Int))).toNat); simp only [intOf]; omega
                | true =>
                  have h14 : c.length = 100 := of_decide_eq_true hd14
                  clear hd14
                  refine wp_cond_true rfl ?_
                  refine wp_region_L (W0 := w) ((g2, .cells #[.int .i64 ((ja : Nat) : Int), .int .i64 ((jr : Nat) : Int), .int .i64 ((je : Nat) : Int)] 71 (0, 0)) :: (g1, .cells #[.int .i64 0, .int .i64 0, .int .i64 0] 71 (0, 0)) :: Ko) (hW36) ?_
                  refine lv (v := .agg #[.int .i64 ((ja : Nat) : Int), .int .i64 ((jr : Nat) : Int), .int .i64 ((je : Nat) : Int)]) rfl rfl (yb_load (n := 3) (off := 0) rfl (by kernel_rfl) (.head _) Try.underlying71 rfl (by kernel_rfl) (by simp) (by kernel_rfl)) ?_
                  refine lm (v := .int .i64 ((i : Nat) : Int)) rfl rfl ?_
                  refine lm (v := .agg #[.int .i64 ((i : Nat) : Int), .int .i64 4, .int .i64 3]) rfl rfl ?_
                  cases hd15 : (decide (je = 0)) with
                  | false =>
                    have h15 : ¬ (je = 0) := of_decide_eq_false hd15
                    clear hd15
                    obtain ⟨hB, hfi, hfe, hff, hfr, hfj⟩ := hJ.bad h15
                    refine lv (v := .agg #[.int .i64 ((ja : Nat) : Int), .int .i64 ((jr : Nat) : Int), .int .i64 ((je : Nat) : Int)]) rfl rfl (yb_call (f := 36) (args := #[.agg #[.int .i64 ((ja : Nat) : Int), .int .i64 ((jr : Nat) : Int), .int .i64 ((je : Nat) : Int)], .agg #[.int .i64 ((i : Nat) : Int), .int .i64 4, .int .i64 3]]) (fun _ => by kernel_rfl) fun W hW => worse_keep ja jr je i 4 3 h15 (by first | omega | exact (.inl rfl)) W) ?_
                    refine wpL_s ((g2, .cells #[.int .i64 ((ja : Nat) : Int), .int .i64 ((jr : Nat) : Int), .int .i64 ((je : Nat) : Int)] 71 (0, 0)) :: (g1, .cells #[.int .i64 0, .int .i64 0, .int .i64 0] 71 (0, 0)) :: Ko) rfl rfl (st_row (off := 0) (v := .agg #[.int .i64 ((ja : Nat) : Int), .int .i64 ((jr : Nat) : Int), .int .i64 ((je : Nat) : Int)]) rfl (by kernel_rfl) (by kernel_rfl) (.head _) Bg2 (by kernel_rfl) (by simp [Value.cells]) (by intro v hv; simp [Value.cells] at hv; first | (subst hv; rfl) | (rcases hv with rfl | rfl | rfl <;> rfl)) (by kernel_rfl) (List.forall_mem_cons.2 ⟨.inl rfl, (List.forall_mem_cons.2 ⟨.inr ⟨(.tail _ (.head _)), (by first | assumption | exact Ne.symm (by assumption))⟩, (fun p hp => .inr ⟨(.tail _ (.tail _ hp)), ((show Dk g2 Ko from (by (try simp only [dj_app_l, dj_app_r, dj_cons_l, dj_cons_r, dj_nil_l, dj_nil_r, dk_app, dk_cons, dk_nil, and_true, true_and, and_assoc]); repeat' (first | trivial | assumption | exact Dj.symm (by assumption) | exact Ne.symm (by assumption) | apply And.intro))) _ hp)⟩)⟩)⟩)) ?_
                    refine wpL_done (fun W39 hW39 => ?_)
                    refine (show Code.wp _ _ _ _ _ from ?_)
                    refine wp_region_L (W0 := w) ((g2, .cells #[.int .i64 ((ja : Nat) : Int), .int .i64 ((jr : Nat) : Int), .int .i64 ((je : Nat) : Int)] 71 (0, 0)) :: (g1, .cells #[.int .i64 0, .int .i64 0, .int .i64 0] 71 (0, 0)) :: Ko) (hW39) ?_
                    refine lm (v := vo) rfl rfl ?_
                    refine lm (v := strV l) rfl rfl ?_
                    refine lm (v := .int .i64 (((i + 1) : Nat) : Int)) rfl rfl ?_
                    refine lp (v := .int .u8 ((b19.toNat : Nat) : Int)) rfl rfl (run_idxS (j := .i64) (l := l) (k := (i + 1)) (b := b19) rfl Try.underlying9 (by kernel_rfl) (by kernel_rfl) hb19) ?_
                    refine wpL_new (fun g => .slice (some ⟨g, 0, none⟩) 1 1) (obi := .cells #[.int .u8 ((b19.toNat : Nat) : Int)] 5 (0, 0)) rfl rfl (fun _ => by kernel_rfl) (fun _ => by simp only [List.setIfInBounds_toArray, List.set_cons_succ, List.set_cons_zero] <;> rfl) fun g24 Bg24 Fg24 => ?_
                    obtain ⟨dj25_0, dj25_1, dj25_2⟩ : g2 ≠ g24 ∧ g1 ≠ g24 ∧ Dk g24 Ko := by simpa only [dj_app_l, dj_app_r, dj_cons_l, dj_cons_r, dj_nil_l, dj_nil_r, dk_app, dk_cons, dk_nil, and_true, true_and, and_assoc] using (show Dk g24 ((g2, .cells #[.int .i64 ((ja : Nat) : Int), .int .i64 ((jr : Nat) : Int), .int .i64 ((je : Nat) : Int)] 71 (0, 0)) :: (g1, .cells #[.int .i64 0, .int .i64 0, .int .i64 0] 71 (0, 0)) :: Ko) from Fg24)
                    refine wpL_g (AppO w 5 1 [(g2, .cells #[.int .i64 ((ja : Nat) : Int), .int .i64 ((jr : Nat) : Int), .int .i64 ((je : Nat) : Int)] 71 (0, 0)), (g1, .cells #[.int .i64 0, .int .i64 0, .int .i64 0] 71 (0, 0))] (c.length + 1) ((u8s c) ++ [.int .u8 ((b19.toNat : Nat) : Int)])) rfl rfl (app_own el_byteM (m := 1) (c := 1) (news := [.int .u8 ((b19.toNat : Nat) : Int)]) rfl (by kernel_rfl) (by kernel_rfl) (.head _) hO (fun p hp => by simp only [List.mem_cons, List.mem_append, List.nil_append, List.not_mem_nil, or_assoc, or_false, false_or, hp, or_true, true_or]) (fun p hp => ⟨by simp only [List.mem_cons, List.mem_append, List.nil_append, List.not_mem_nil, or_assoc, or_false, false_or] at hp ⊢ <;> grind, (show Dj [(g2, .cells #[.int .i64 ((ja : Nat) : Int), .int .i64 ((jr : Nat) : Int), .int .i64 ((je : Nat) : Int)] 71 (0, 0)), (g1, .cells #[.int .i64 0, .int .i64 0, .int .i64 0] 71 (0, 0))] Ko from (by (try simp only [dj_app_l, dj_app_r, dj_cons_l, dj_cons_r, dj_nil_l, dj_nil_r, dk_app, dk_cons, dk_nil, and_true, true_and, and_assoc]); repeat' (first | trivial | assumption | exact Dj.symm (by assumption) | exact Ne.symm (by assumption) | apply And.intro))) p hp⟩) rfl (by simp [strV, Value.oneCell']) (by omega) (by omega) (by omega)) (fun _ => by simp only [List.setIfInBounds_toArray, List.set_cons_succ, List.set_cons_zero] <;> rfl) ?_
                    rintro v26 K9 ⟨Kl26, O26, N26, rfl⟩
                    obtain ⟨dj27_0, dj27_1⟩ : Dk g2 Kl26 ∧ Dk g1 Kl26 := by simpa only [dj_app_l, dj_app_r, dj_cons_l, dj_cons_r, dj_nil_l, dj_nil_r, dk_app, dk_cons, dk_nil, and_true, true_and, and_assoc] using (show Dj [(g2, .cells #[.int .i64 ((ja : Nat) : Int), .int .i64 ((jr : Nat) : Int), .int .i64 ((je : Nat) : Int)] 71 (0, 0)), (g1, .cells #[.int .i64 0, .int .i64 0, .int .i64 0] 71 (0, 0))] Kl26 from N26)
                    refine lm (v := v26) rfl rfl ?_
                    refine wpL_done (fun W40 hW40 => ?_)
                    refine (show Code.wp _ _ _ _ _ from ?_)
                    refine wp_region_L (W0 := w) ((g2, .cells #[.int .i64 ((ja : Nat) : Int), .int .i64 ((jr : Nat) : Int), .int .i64 ((je : Nat) : Int)] 71 (0, 0)) :: (g1, .cells #[.int .i64 0, .int .i64 0, .int .i64 0] 71 (0, 0)) :: Kl26) (hW40) ?_
                    refine lm (v := .int .i64 (((i + 1) : Nat) : Int)) rfl rfl ?_
                    refine lp (v := .int .i64 ((((i + 1) + 1) : Nat) : Int)) rfl rfl (run_bin rfl (vx := (.int .i64 (((i + 1) : Nat) : Int))) (vy := (.int .i64 ((1 : Nat) : Int))) (by kernel_rfl) (by kernel_rfl) fun w => bn_add (z := ((i + 1) + 1)) rfl (wr_i64 (by omega)) w) ?_
                    refine lm (v := .int .i64 ((((i + 1) + 1) : Nat) : Int)) rfl rfl ?_
                    refine wpL_done (fun W41 hW41 => ?_)
                    go_roundw
                    case rel =>
                      repeat apply Exists.intro
                      exact ⟨⟨((i + 1) + 1), (c ++ [b19]), ja, jr, je, v26, Kl26, ⟨by omega, by omega⟩, (by first | omega | (simp; omega)), (cj_bad hJ h15 (by omega)), (tqe_two hT hb6 (by omega) h6 hb19 (by omega)), (own_b1 O26 (by simp) (by simp [u8s])), (show Dk g2 Kl26 from (by (try simp only [dj_app_l, dj_app_r, dj_cons_l, dj_cons_r, dj_nil_l, dj_nil_r, dk_app, dk_cons, dk_nil, and_true, true_and, and_assoc]); repeat' (first | trivial | assumption | exact Dj.symm (by assumption) | exact Ne.symm (by assumption) | apply And.intro))), (show Dk g1 Kl26 from (by (try simp only [dj_app_l, dj_app_r, dj_cons_l, dj_cons_r, dj_nil_l, dj_nil_r, dk_app, dk_cons, dk_nil, and_true, true_and, and_assoc]); repeat' (first | trivial | assumption | exact Dj.symm (by assumption) | exact Ne.symm (by assumption) | apply And.intro))), rfl, rfl, (hW41.sub (fun p hp => by first | exact hp | (simp only [List.mem_cons, List.mem_append, List.nil_append, List.not_mem_nil, or_assoc, or_false, false_or, List.cons_append, List.append_assoc] at hp ⊢ <;> grind)))⟩, rfl⟩
                    case measure => (show e0 + 2 - (intOf (.int .i64 ((((i + 1) + 1) : Nat) : Int))).toNat < e0 + 2 - (intOf (.int .i64 ((i : Nat) : Int))).toNat); simp only [intOf]; omega
                  | true =>
                    have h15 : je = 0 := of_decide_eq_true hd15
                    clear hd15
                    obtain ⟨hie, hc1, hR, hmay⟩ := hJ.ok h15
                    refine lv (v := .agg #[.int .i64 ((i : Nat) : Int), .int .i64 4, .int .i64 3]) rfl rfl (yb_call (f := 36) (args := #[.agg #[.int .i64 ((ja : Nat) : Int), .int .i64 ((jr : Nat) : Int), .int .i64 ((je : Nat) : Int)], .agg #[.int .i64 ((i : Nat) : Int), .int .i64 4, .int .i64 3]]) (fun _ => by kernel_rfl) fun W hW => worse_new ja jr je i 4 3 h15 W) ?_
                    refine wpL_s ((g2, .cells #[.int .i64 ((i : Nat) : Int), .int .i64 4, .int .i64 3] 71 (0, 0)) :: (g1, .cells #[.int .i64 0, .int .i64 0, .int .i64 0] 71 (0, 0)) :: Ko) rfl rfl (st_row (off := 0) (v := .agg #[.int .i64 ((i : Nat) : Int), .int .i64 4, .int .i64 3]) rfl (by kernel_rfl) (by kernel_rfl) (.head _) Bg2 (by kernel_rfl) (by simp [Value.cells]) (by intro v hv; simp [Value.cells] at hv; first | (subst hv; rfl) | (rcases hv with rfl | rfl | rfl <;> rfl)) (by kernel_rfl) (List.forall_mem_cons.2 ⟨.inl rfl, (List.forall_mem_cons.2 ⟨.inr ⟨(.tail _ (.head _)), (by first | assumption | exact Ne.symm (by assumption))⟩, (fun p hp => .inr ⟨(.tail _ (.tail _ hp)), ((show Dk g2 Ko from (by (try simp only [dj_app_l, dj_app_r, dj_cons_l, dj_cons_r, dj_nil_l, dj_nil_r, dk_app, dk_cons, dk_nil, and_true, true_and, and_assoc]); repeat' (first | trivial | assumption | exact Dj.symm (by assumption) | exact Ne.symm (by assumption) | apply And.intro))) _ hp)⟩)⟩)⟩)) ?_
                    refine wpL_done (fun W42 hW42 => ?_)
                    refine (show Code.wp _ _ _ _ _ from ?_)
                    refine wp_region_L (W0 := w) ((g2, .cells #[.int .i64 ((i : Nat) : Int), .int .i64 4, .int .i64 3] 71 (0, 0)) :: (g1, .cells #[.int .i64 0, .int .i64 0, .int .i64 0] 71 (0, 0)) :: Ko) (hW42) ?_
                    refine lm (v := vo) rfl rfl ?_
                    refine lm (v := strV l) rfl rfl ?_
                    refine lm (v := .int .i64 (((i + 1) : Nat) : Int)) rfl rfl ?_
                    refine lp (v := .int .u8 ((b19.toNat : Nat) : Int)) rfl rfl (run_idxS (j := .i64) (l := l) (k := (i + 1)) (b := b19) rfl Try.underlying9 (by kernel_rfl) (by kernel_rfl) hb19) ?_
                    refine wpL_new (fun g => .slice (some ⟨g, 0, none⟩) 1 1) (obi := .cells #[.int .u8 ((b19.toNat : Nat) : Int)] 5 (0, 0)) rfl rfl (fun _ => by kernel_rfl) (fun _ => by simp only [List.setIfInBounds_toArray, List.set_cons_succ, List.set_cons_zero] <;> rfl) fun g28 Bg28 Fg28 => ?_
                    obtain ⟨dj29_0, dj29_1, dj29_2⟩ : g2 ≠ g28 ∧ g1 ≠ g28 ∧ Dk g28 Ko := by simpa only [dj_app_l, dj_app_r, dj_cons_l, dj_cons_r, dj_nil_l, dj_nil_r, dk_app, dk_cons, dk_nil, and_true, true_and, and_assoc] using (show Dk g28 ((g2, .cells #[.int .i64 ((i : Nat) : Int), .int .i64 4, .int .i64 3] 71 (0, 0)) :: (g1, .cells #[.int .i64 0, .int .i64 0, .int .i64 0] 71 (0, 0)) :: Ko) from Fg28)
                    refine wpL_g (AppO w 5 1 [(g2, .cells #[.int .i64 ((i : Nat) : Int), .int .i64 4, .int .i64 3] 71 (0, 0)), (g1, .cells #[.int .i64 0, .int .i64 0, .int .i64 0] 71 (0, 0))] (c.length + 1) ((u8s c) ++ [.int .u8 ((b19.toNat : Nat) : Int)])) rfl rfl (app_own el_byteM (m := 1) (c := 1) (news := [.int .u8 ((b19.toNat : Nat) : Int)]) rfl (by kernel_rfl) (by kernel_rfl) (.head _) hO (fun p hp => by simp only [List.mem_cons, List.mem_append, List.nil_append, List.not_mem_nil, or_assoc, or_false, false_or, hp, or_true, true_or]) (fun p hp => ⟨by simp only [List.mem_cons, List.mem_append, List.nil_append, List.not_mem_nil, or_assoc, or_false, false_or] at hp ⊢ <;> grind, (show Dj [(g2, .cells #[.int .i64 ((i : Nat) : Int), .int .i64 4, .int .i64 3] 71 (0, 0)), (g1, .cells #[.int .i64 0, .int .i64 0, .int .i64 0] 71 (0, 0))] Ko from (by (try simp only [dj_app_l, dj_app_r, dj_cons_l, dj_cons_r, dj_nil_l, dj_nil_r, dk_app, dk_cons, dk_nil, and_true, true_and, and_assoc]); repeat' (first | trivial | assumption | exact Dj.symm (by assumption) | exact Ne.symm (by assumption) | apply And.intro))) p hp⟩) rfl (by simp [strV, Value.oneCell']) (by omega) (by omega) (by omega)) (fun _ => by simp only [List.setIfInBounds_toArray, List.set_cons_succ, List.set_cons_zero] <;> rfl) ?_
                    rintro v30 K9 ⟨Kl30, O30, N30, rfl⟩
                    obtain ⟨dj31_0, dj31_1⟩ : Dk g2 Kl30 ∧ Dk g1 Kl30 := by simpa only [dj_app_l, dj_app_r, dj_cons_l, dj_cons_r, dj_nil_l, dj_nil_r, dk_app, dk_cons, dk_nil, and_true, true_and, and_assoc] using (show Dj [(g2, .cells #[.int .i64 ((i : Nat) : Int), .int .i64 4, .int .i64 3] 71 (0, 0)), (g1, .cells #[.int .i64 0, .int .i64 0, .int .i64 0] 71 (0, 0))] Kl30 from N30)
                    refine lm (v := v30) rfl rfl ?_
                    refine wpL_done (fun W43 hW43 => ?_)
                    refine (show Code.wp _ _ _ _ _ from ?_)
                    refine wp_region_L (W0 := w) ((g2, .cells #[.int .i64 ((i : Nat) : Int), .int .i64 4, .int .i64 3] 71 (0, 0)) :: (g1, .cells #[.int .i64 0, .int .i64 0, .int .i64 0] 71 (0, 0)) :: Kl30) (hW43) ?_
                    refine lm (v := .int .i64 (((i + 1) : Nat) : Int)) rfl rfl ?_
                    refine lp (v := .int .i64 ((((i + 1) + 1) : Nat) : Int)) rfl rfl (run_bin rfl (vx := (.int .i64 (((i + 1) : Nat) : Int))) (vy := (.int .i64 ((1 : Nat) : Int))) (by kernel_rfl) (by kernel_rfl) fun w => bn_add (z := ((i + 1) + 1)) rfl (wr_i64 (by omega)) w) ?_
                    refine lm (v := .int .i64 ((((i + 1) + 1) : Nat) : Int)) rfl rfl ?_
                    refine wpL_done (fun W44 hW44 => ?_)
                    go_roundw
                    case rel =>
                      repeat apply Exists.intro
                      exact ⟨⟨((i + 1) + 1), (c ++ [b19]), i, 4, 3, v30, Kl30, ⟨by omega, by omega⟩, (by first | omega | (simp; omega)), (.inr ⟨by omega, (hR.trans (compR_qlong hb6 (by omega) h6 hb19 (by omega) dkb19 (by omega))), by omega, by omega, by omega, by omega⟩), (tqe_two hT hb6 (by omega) h6 hb19 (by omega)), (own_b1 O30 (by simp) (by simp [u8s])), (show Dk g2 Kl30 from (by (try simp only [dj_app_l, dj_app_r, dj_cons_l, dj_cons_r, dj_nil_l, dj_nil_r, dk_app, dk_cons, dk_nil, and_true, true_and, and_assoc]); repeat' (first | trivial | assumption | exact Dj.symm (by assumption) | exact Ne.symm (by assumption) | apply And.intro))), (show Dk g1 Kl30 from (by (try simp only [dj_app_l, dj_app_r, dj_cons_l, dj_cons_r, dj_nil_l, dj_nil_r, dk_app, dk_cons, dk_nil, and_true, true_and, and_assoc]); repeat' (first | trivial | assumption | exact Dj.symm (by assumption) | exact Ne.symm (by assumption) | apply And.intro))), rfl, rfl, (hW44.sub (fun p hp => by first | exact hp | (simp only [List.mem_cons, List.mem_append, List.nil_append, List.not_mem_nil, or_assoc, or_false, false_or, List.cons_append, List.append_assoc] at hp ⊢ <;> grind)))⟩, rfl⟩
                    case measure => (show e0 + 2 - (intOf (.int .i64 ((((i + 1) + 1) : Nat) : Int))).toNat < e0 + 2 - (intOf (.int .i64 ((i : Nat) : Int))).toNat); simp only [intOf]; omega
            | true =>
              have dkb19 : (svc b19 || decide (b19.toNat = 32)) = true := by rw [h11]; rfl
              refine ln rfl ?_
              refine ln rfl ?_
              refine ln rfl ?_
              refine ln rfl ?_
              refine lm (v := .bool false) rfl rfl ?_
              refine lm (v := .bool false) rfl rfl ?_
              refine wpL_done (fun W45 hW45 => ?_)
              refine (show Code.wp _ _ _ _ _ from ?_)
              refine wp_cond_false rfl ?_
              refine wp_skip ?_
              refine (show Code.wp _ _ _ _ _ from ?_)
              refine wp_seq ?_
              refine wp_seq ?_
              refine wp_region_L (W0 := w) ((g2, .cells #[.int .i64 ((ja : Nat) : Int), .int .i64 ((jr : Nat) : Int), .int .i64 ((je : Nat) : Int)] 71 (0, 0)) :: (g1, .cells #[.int .i64 0, .int .i64 0, .int .i64 0] 71 (0, 0)) :: Ko) (hW45) ?_
              refine lm (v := vo) rfl rfl ?_
              refine lp (v := .int .i64 ((c.length : Nat) : Int)) rfl rfl (run_lenO (W0 := w) rfl Try.underlying26 (by kernel_rfl) hO) ?_
              refine lp (v := .bool (decide (c.length = 100))) rfl rfl (run_bin rfl (vx := (.int .i64 ((c.length : Nat) : Int))) (vy := (.int .i64 ((100 : Nat) : Int))) (by kernel_rfl) (by kernel_rfl) fun w => bn_eql rfl w) ?_
              refine wpL_done (fun W46 hW46 => ?_)
              refine (show Code.wp _ _ _ _ _ from ?_)
              cases hd16 : (decide (c.length = 100)) with
              | false =>
                have h16 : ¬ (c.length = 100) := of_decide_eq_false hd16
                clear hd16
                refine wp_cond_false rfl ?_
                refine wp_skip ?_
                refine (show Code.wp _ _ _ _ _ from ?_)
                refine wp_region_L (W0 := w) ((g2, .cells #[.int .i64 ((ja : Nat) : Int), .int .i64 ((jr : Nat) : Int), .int .i64 ((je : Nat) : Int)] 71 (0, 0)) :: (g1, .cells #[.int .i64 0, .int .i64 0, .int .i64 0] 71 (0, 0)) :: Ko) (hW46) ?_
                refine lm (v := vo) rfl rfl ?_
                refine lm (v := strV l) rfl rfl ?_
                refine lm (v := .int .i64 (((i + 1) : Nat) : Int)) rfl rfl ?_
                refine lp (v := .int .u8 ((b19.toNat : Nat) : Int)) rfl rfl (run_idxS (j := .i64) (l := l) (k := (i + 1)) (b := b19) rfl Try.underlying9 (by kernel_rfl) (by kernel_rfl) hb19) ?_
                refine wpL_new (fun g => .slice (some ⟨g, 0, none⟩) 1 1) (obi := .cells #[.int .u8 ((b19.toNat : Nat) : Int)] 5 (0, 0)) rfl rfl (fun _ => by kernel_rfl) (fun _ => by simp only [List.setIfInBounds_toArray, List.set_cons_succ, List.set_cons_zero] <;> rfl) fun g32 Bg32 Fg32 => ?_
                obtain ⟨dj33_0, dj33_1, dj33_2⟩ : g2 ≠ g32 ∧ g1 ≠ g32 ∧ Dk g32 Ko := by simpa only [dj_app_l, dj_app_r, dj_cons_l, dj_cons_r, dj_nil_l, dj_nil_r, dk_app, dk_cons, dk_nil, and_true, true_and, and_assoc] using (show Dk g32 ((g2, .cells #[.int .i64 ((ja : Nat) : Int), .int .i64 ((jr : Nat) : Int), .int .i64 ((je : Nat) : Int)] 71 (0, 0)) :: (g1, .cells #[.int .i64 0, .int .i64 0, .int .i64 0] 71 (0, 0)) :: Ko) from Fg32)
                refine wpL_g (AppO w 5 1 [(g2, .cells #[.int .i64 ((ja : Nat) : Int), .int .i64 ((jr : Nat) : Int), .int .i64 ((je : Nat) : Int)] 71 (0, 0)), (g1, .cells #[.int .i64 0, .int .i64 0, .int .i64 0] 71 (0, 0))] (c.length + 1) ((u8s c) ++ [.int .u8 ((b19.toNat : Nat) : Int)])) rfl rfl (app_own el_byteM (m := 1) (c := 1) (news := [.int .u8 ((b19.toNat : Nat) : Int)]) rfl (by kernel_rfl) (by kernel_rfl) (.head _) hO (fun p hp => by simp only [List.mem_cons, List.mem_append, List.nil_append, List.not_mem_nil, or_assoc, or_false, false_or, hp, or_true, true_or]) (fun p hp => ⟨by simp only [List.mem_cons, List.mem_append, List.nil_append, List.not_mem_nil, or_assoc, or_false, false_or] at hp ⊢ <;> grind, (show Dj [(g2, .cells #[.int .i64 ((ja : Nat) : Int), .int .i64 ((jr : Nat) : Int), .int .i64 ((je : Nat) : Int)] 71 (0, 0)), (g1, .cells #[.int .i64 0, .int .i64 0, .int .i64 0] 71 (0, 0))] Ko from (by (try simp only [dj_app_l, dj_app_r, dj_cons_l, dj_cons_r, dj_nil_l, dj_nil_r, dk_app, dk_cons, dk_nil, and_true, true_and, and_assoc]); repeat' (first | trivial | assumption | exact Dj.symm (by assumption) | exact Ne.symm (by assumption) | apply And.intro))) p hp⟩) rfl (by simp [strV, Value.oneCell']) (by omega) (by omega) (by omega)) (fun _ => by simp only [List.setIfInBounds_toArray, List.set_cons_succ, List.set_cons_zero] <;> rfl) ?_
                rintro v34 K9 ⟨Kl34, O34, N34, rfl⟩
                obtain ⟨dj35_0, dj35_1⟩ : Dk g2 Kl34 ∧ Dk g1 Kl34 := by simpa only [dj_app_l, dj_app_r, dj_cons_l, dj_cons_r, dj_nil_l, dj_nil_r, dk_app, dk_cons, dk_nil, and_true, true_and, and_assoc] using (show Dj [(g2, .cells #[.int .i64 ((ja : Nat) : Int), .int .i64 ((jr : Nat) : Int), .int .i64 ((je : Nat) : Int)] 71 (0, 0)), (g1, .cells #[.int .i64 0, .int .i64 0, .int .i64 0] 71 (0, 0))] Kl34 from N34)
                refine lm (v := v34) rfl rfl ?_
                refine wpL_done (fun W47 hW47 => ?_)
                refine (show Code.wp _ _ _ _ _ from ?_)
                refine wp_region_L (W0 := w) ((g2, .cells #[.int .i64 ((ja : Nat) : Int), .int .i64 ((jr : Nat) : Int), .int .i64 ((je : Nat) : Int)] 71 (0, 0)) :: (g1, .cells #[.int .i64 0, .int .i64 0, .int .i64 0] 71 (0, 0)) :: Kl34) (hW47) ?_
                refine lm (v := .int .i64 (((i + 1) : Nat) : Int)) rfl rfl ?_
                refine lp (v := .int .i64 ((((i + 1) + 1) : Nat) : Int)) rfl rfl (run_bin rfl (vx := (.int .i64 (((i + 1) : Nat) : Int))) (vy := (.int .i64 ((1 : Nat) : Int))) (by kernel_rfl) (by kernel_rfl) fun w => bn_add (z := ((i + 1) + 1)) rfl (wr_i64 (by omega)) w) ?_
                refine lm (v := .int .i64 ((((i + 1) + 1) : Nat) : Int)) rfl rfl ?_
                refine wpL_done (fun W48 hW48 => ?_)
                go_roundw
                case rel =>
                  repeat apply Exists.intro
                  exact ⟨⟨((i + 1) + 1), (c ++ [b19]), ja, jr, je, v34, Kl34, ⟨by omega, by omega⟩, (by first | omega | (simp; omega)), (cj_qok hJ hb6 (by omega) h6 hb19 (by omega) dkb19 (by omega)), (tqe_two hT hb6 (by omega) h6 hb19 (by omega)), (own_b1 O34 (by simp) (by simp [u8s])), (show Dk g2 Kl34 from (by (try simp only [dj_app_l, dj_app_r, dj_cons_l, dj_cons_r, dj_nil_l, dj_nil_r, dk_app, dk_cons, dk_nil, and_true, true_and, and_assoc]); repeat' (first | trivial | assumption | exact Dj.symm (by assumption) | exact Ne.symm (by assumption) | apply And.intro))), (show Dk g1 Kl34 from (by (try simp only [dj_app_l, dj_app_r, dj_cons_l, dj_cons_r, dj_nil_l, dj_nil_r, dk_app, dk_cons, dk_nil, and_true, true_and, and_assoc]); repeat' (first | trivial | assumption | exact Dj.symm (by assumption) | exact Ne.symm (by assumption) | apply And.intro))), rfl, rfl, (hW48.sub (fun p hp => by first | exact hp | (simp only [List.mem_cons, List.mem_append, List.nil_append, List.not_mem_nil, or_assoc, or_false, false_or, List.cons_append, List.append_assoc] at hp ⊢ <;> grind)))⟩, rfl⟩
                case measure => (show e0 + 2 - (intOf (.int .i64 ((((i + 1) + 1) : Nat) : Int))).toNat < e0 + 2 - (intOf (.int .i64 ((i : Nat) : Int))).toNat); simp only [intOf]; omega
              | true =>
                have h16 : c.length = 100 := of_decide_eq_true hd16
                clear hd16
                refine wp_cond_true rfl ?_
                refine wp_region_L (W0 := w) ((g2, .cells #[.int .i64 ((ja : Nat) : Int), .int .i64 ((jr : Nat) : Int), .int .i64 ((je : Nat) : Int)] 71 (0, 0)) :: (g1, .cells #[.int .i64 0, .int .i64 0, .int .i64 0] 71 (0, 0)) :: Ko) (hW46) ?_
                refine lv (v := .agg #[.int .i64 ((ja : Nat) : Int), .int .i64 ((jr : Nat) : Int), .int .i64 ((je : Nat) : Int)]) rfl rfl (yb_load (n := 3) (off := 0) rfl (by kernel_rfl) (.head _) Try.underlying71 rfl (by kernel_rfl) (by simp) (by kernel_rfl)) ?_
                refine lm (v := .int .i64 ((i : Nat) : Int)) rfl rfl ?_
                refine lm (v := .agg #[.int .i64 ((i : Nat) : Int), .int .i64 4, .int .i64 3]) rfl rfl ?_
                cases hd17 : (decide (je = 0)) with
                | false =>
                  have h17 : ¬ (je = 0) := of_decide_eq_false hd17
                  clear hd17
                  obtain ⟨hB, hfi, hfe, hff, hfr, hfj⟩ := hJ.bad h17
                  refine lv (v := .agg #[.int .i64 ((ja : Nat) : Int), .int .i64 ((jr : Nat) : Int), .int .i64 ((je : Nat) : Int)]) rfl rfl (yb_call (f := 36) (args := #[.agg #[.int .i64 ((ja : Nat) : Int), .int .i64 ((jr : Nat) : Int), .int .i64 ((je : Nat) : Int)], .agg #[.int .i64 ((i : Nat) : Int), .int .i64 4, .int .i64 3]]) (fun _ => by kernel_rfl) fun W hW => worse_keep ja jr je i 4 3 h17 (by first | omega | exact (.inl rfl)) W) ?_
                  refine wpL_s ((g2, .cells #[.int .i64 ((ja : Nat) : Int), .int .i64 ((jr : Nat) : Int), .int .i64 ((je : Nat) : Int)] 71 (0, 0)) :: (g1, .cells #[.int .i64 0, .int .i64 0, .int .i64 0] 71 (0, 0)) :: Ko) rfl rfl (st_row (off := 0) (v := .agg #[.int .i64 ((ja : Nat) : Int), .int .i64 ((jr : Nat) : Int), .int .i64 ((je : Nat) : Int)]) rfl (by kernel_rfl) (by kernel_rfl) (.head _) Bg2 (by kernel_rfl) (by simp [Value.cells]) (by intro v hv; simp [Value.cells] at hv; first | (subst hv; rfl) | (rcases hv with rfl | rfl | rfl <;> rfl)) (by kernel_rfl) (List.forall_mem_cons.2 ⟨.inl rfl, (List.forall_mem_cons.2 ⟨.inr ⟨(.tail _ (.head _)), (by first | assumption | exact Ne.symm (by assumption))⟩, (fun p hp => .inr ⟨(.tail _ (.tail _ hp)), ((show Dk g2 Ko from (by (try simp only [dj_app_l, dj_app_r, dj_cons_l, dj_cons_r, dj_nil_l, dj_nil_r, dk_app, dk_cons, dk_nil, and_true, true_and, and_assoc]); repeat' (first | trivial | assumption | exact Dj.symm (by assumption) | exact Ne.symm (by assumption) | apply And.intro))) _ hp)⟩)⟩)⟩)) ?_
                  refine wpL_done (fun W49 hW49 => ?_)
                  refine (show Code.wp _ _ _ _ _ from ?_)
                  refine wp_region_L (W0 := w) ((g2, .cells #[.int .i64 ((ja : Nat) : Int), .int .i64 ((jr : Nat) : Int), .int .i64 ((je : Nat) : Int)] 71 (0, 0)) :: (g1, .cells #[.int .i64 0, .int .i64 0, .int .i64 0] 71 (0, 0)) :: Ko) (hW49) ?_
                  refine lm (v := vo) rfl rfl ?_
                  refine lm (v := strV l) rfl rfl ?_
                  refine lm (v := .int .i64 (((i + 1) : Nat) : Int)) rfl rfl ?_
                  refine lp (v := .int .u8 ((b19.toNat : Nat) : Int)) rfl rfl (run_idxS (j := .i64) (l := l) (k := (i + 1)) (b := b19) rfl Try.underlying9 (by kernel_rfl) (by kernel_rfl) hb19) ?_
                  refine wpL_new (fun g => .slice (some ⟨g, 0, none⟩) 1 1) (obi := .cells #[.int .u8 ((b19.toNat : Nat) : Int)] 5 (0, 0)) rfl rfl (fun _ => by kernel_rfl) (fun _ => by simp only [List.setIfInBounds_toArray, List.set_cons_succ, List.set_cons_zero] <;> rfl) fun g36 Bg36 Fg36 => ?_
                  obtain ⟨dj37_0, dj37_1, dj37_2⟩ : g2 ≠ g36 ∧ g1 ≠ g36 ∧ Dk g36 Ko := by simpa only [dj_app_l, dj_app_r, dj_cons_l, dj_cons_r, dj_nil_l, dj_nil_r, dk_app, dk_cons, dk_nil, and_true, true_and, and_assoc] using (show Dk g36 ((g2, .cells #[.int .i64 ((ja : Nat) : Int), .int .i64 ((jr : Nat) : Int), .int .i64 ((je : Nat) : Int)] 71 (0, 0)) :: (g1, .cells #[.int .i64 0, .int .i64 0, .int .i64 0] 71 (0, 0)) :: Ko) from Fg36)
                  refine wpL_g (AppO w 5 1 [(g2, .cells #[.int .i64 ((ja : Nat) : Int), .int .i64 ((jr : Nat) : Int), .int .i64 ((je : Nat) : Int)] 71 (0, 0)), (g1, .cells #[.int .i64 0, .int .i64 0, .int .i64 0] 71 (0, 0))] (c.length + 1) ((u8s c) ++ [.int .u8 ((b19.toNat : Nat) : Int)])) rfl rfl (app_own el_byteM (m := 1) (c := 1) (news := [.int .u8 ((b19.toNat : Nat) : Int)]) rfl (by kernel_rfl) (by kernel_rfl) (.head _) hO (fun p hp => by simp only [List.mem_cons, List.mem_append, List.nil_append, List.not_mem_nil, or_assoc, or_false, false_or, hp, or_true, true_or]) (fun p hp => ⟨by simp only [List.mem_cons, List.mem_append, List.nil_append, List.not_mem_nil, or_assoc, or_false, false_or] at hp ⊢ <;> grind, (show Dj [(g2, .cells #[.int .i64 ((ja : Nat) : Int), .int .i64 ((jr : Nat) : Int), .int .i64 ((je : Nat) : Int)] 71 (0, 0)), (g1, .cells #[.int .i64 0, .int .i64 0, .int .i64 0] 71 (0, 0))] Ko from (by (try simp only [dj_app_l, dj_app_r, dj_cons_l, dj_cons_r, dj_nil_l, dj_nil_r, dk_app, dk_cons, dk_nil, and_true, true_and, and_assoc]); repeat' (first | trivial | assumption | exact Dj.symm (by assumption) | exact Ne.symm (by assumption) | apply And.intro))) p hp⟩) rfl (by simp [strV, Value.oneCell']) (by omega) (by omega) (by omega)) (fun _ => by simp only [List.setIfInBounds_toArray, List.set_cons_succ, List.set_cons_zero] <;> rfl) ?_
                  rintro v38 K9 ⟨Kl38, O38, N38, rfl⟩
                  obtain ⟨dj39_0, dj39_1⟩ : Dk g2 Kl38 ∧ Dk g1 Kl38 := by simpa only [dj_app_l, dj_app_r, dj_cons_l, dj_cons_r, dj_nil_l, dj_nil_r, dk_app, dk_cons, dk_nil, and_true, true_and, and_assoc] using (show Dj [(g2, .cells #[.int .i64 ((ja : Nat) : Int), .int .i64 ((jr : Nat) : Int), .int .i64 ((je : Nat) : Int)] 71 (0, 0)), (g1, .cells #[.int .i64 0, .int .i64 0, .int .i64 0] 71 (0, 0))] Kl38 from N38)
                  refine lm (v := v38) rfl rfl ?_
                  refine wpL_done (fun W50 hW50 => ?_)
                  refine (show Code.wp _ _ _ _ _ from ?_)
                  refine wp_region_L (W0 := w) ((g2, .cells #[.int .i64 ((ja : Nat) : Int), .int .i64 ((jr : Nat) : Int), .int .i64 ((je : Nat) : Int)] 71 (0, 0)) :: (g1, .cells #[.int .i64 0, .int .i64 0, .int .i64 0] 71 (0, 0)) :: Kl38) (hW50) ?_
                  refine lm (v := .int .i64 (((i + 1) : Nat) : Int)) rfl rfl ?_
                  refine lp (v := .int .i64 ((((i + 1) + 1) : Nat) : Int)) rfl rfl (run_bin rfl (vx := (.int .i64 (((i + 1) : Nat) : Int))) (vy := (.int .i64 ((1 : Nat) : Int))) (by kernel_rfl) (by kernel_rfl) fun w => bn_add (z := ((i + 1) + 1)) rfl (wr_i64 (by omega)) w) ?_
                  refine lm (v := .int .i64 ((((i + 1) + 1) : Nat) : Int)) rfl rfl ?_
                  refine wpL_done (fun W51 hW51 => ?_)
                  go_roundw
                  case rel =>
                    repeat apply Exists.intro
                    exact ⟨⟨((i + 1) + 1), (c ++ [b19]), ja, jr, je, v38, Kl38, ⟨by omega, by omega⟩, (by first | omega | (simp; omega)), (cj_bad hJ h17 (by omega)), (tqe_two hT hb6 (by omega) h6 hb19 (by omega)), (own_b1 O38 (by simp) (by simp [u8s])), (show Dk g2 Kl38 from (by (try simp only [dj_app_l, dj_app_r, dj_cons_l, dj_cons_r, dj_nil_l, dj_nil_r, dk_app, dk_cons, dk_nil, and_true, true_and, and_assoc]); repeat' (first | trivial | assumption | exact Dj.symm (by assumption) | exact Ne.symm (by assumption) | apply And.intro))), (show Dk g1 Kl38 from (by (try simp only [dj_app_l, dj_app_r, dj_cons_l, dj_cons_r, dj_nil_l, dj_nil_r, dk_app, dk_cons, dk_nil, and_true, true_and, and_assoc]); repeat' (first | trivial | assumption | exact Dj.symm (by assumption) | exact Ne.symm (by assumption) | apply And.intro))), rfl, rfl, (hW51.sub (fun p hp => by first | exact hp | (simp only [List.mem_cons, List.mem_append, List.nil_append, List.not_mem_nil, or_assoc, or_false, false_or, List.cons_append, List.append_assoc] at hp ⊢ <;> grind)))⟩, rfl⟩
                  case measure => (show e0 + 2 - (intOf (.int .i64 ((((i + 1) + 1) : Nat) : Int))).toNat < e0 + 2 - (intOf (.int .i64 ((i : Nat) : Int))).toNat); simp only [intOf]; omega
                | true =>
                  have h17 : je = 0 := of_decide_eq_true hd17
                  clear hd17
                  obtain ⟨hie, hc1, hR, hmay⟩ := hJ.ok h17
                  refine lv (v := .agg #[.int .i64 ((i : Nat) : Int), .int .i64 4, .int .i64 3]) rfl rfl (yb_call (f := 36) (args := #[.agg #[.int .i64 ((ja : Nat) : Int), .int .i64 ((jr : Nat) : Int), .int .i64 ((je : Nat) : Int)], .agg #[.int .i64 ((i : Nat) : Int), .int .i64 4, .int .i64 3]]) (fun _ => by kernel_rfl) fun W hW => worse_new ja jr je i 4 3 h17 W) ?_
                  refine wpL_s ((g2, .cells #[.int .i64 ((i : Nat) : Int), .int .i64 4, .int .i64 3] 71 (0, 0)) :: (g1, .cells #[.int .i64 0, .int .i64 0, .int .i64 0] 71 (0, 0)) :: Ko) rfl rfl (st_row (off := 0) (v := .agg #[.int .i64 ((i : Nat) : Int), .int .i64 4, .int .i64 3]) rfl (by kernel_rfl) (by kernel_rfl) (.head _) Bg2 (by kernel_rfl) (by simp [Value.cells]) (by intro v hv; simp [Value.cells] at hv; first | (subst hv; rfl) | (rcases hv with rfl | rfl | rfl <;> rfl)) (by kernel_rfl) (List.forall_mem_cons.2 ⟨.inl rfl, (List.forall_mem_cons.2 ⟨.inr ⟨(.tail _ (.head _)), (by first | assumption | exact Ne.symm (by assumption))⟩, (fun p hp => .inr ⟨(.tail _ (.tail _ hp)), ((show Dk g2 Ko from (by (try simp only [dj_app_l, dj_app_r, dj_cons_l, dj_cons_r, dj_nil_l, dj_nil_r, dk_app, dk_cons, dk_nil, and_true, true_and, and_assoc]); repeat' (first | trivial | assumption | exact Dj.symm (by assumption) | exact Ne.symm (by assumption) | apply And.intro))) _ hp)⟩)⟩)⟩)) ?_
                  refine wpL_done (fun W52 hW52 => ?_)
                  refine (show Code.wp _ _ _ _ _ from ?_)
                  refine wp_region_L (W0 := w) ((g2, .cells #[.int .i64 ((i : Nat) : Int), .int .i64 4, .int .i64 3] 71 (0, 0)) :: (g1, .cells #[.int .i64 0, .int .i64 0, .int .i64 0] 71 (0, 0)) :: Ko) (hW52) ?_
                  refine lm (v := vo) rfl rfl ?_
                  refine lm (v := strV l) rfl rfl ?_
                  refine lm (v := .int .i64 (((i + 1) : Nat) : Int)) rfl rfl ?_
                  refine lp (v := .int .u8 ((b19.toNat : Nat) : Int)) rfl rfl (run_idxS (j := .i64) (l := l) (k := (i + 1)) (b := b19) rfl Try.underlying9 (by kernel_rfl) (by kernel_rfl) hb19) ?_
                  refine wpL_new (fun g => .slice (some ⟨g, 0, none⟩) 1 1) (obi := .cells #[.int .u8 ((b19.toNat : Nat) : Int)] 5 (0, 0)) rfl rfl (fun _ => by kernel_rfl) (fun _ => by simp only [List.setIfInBounds_toArray, List.set_cons_succ, List.set_cons_zero] <;> rfl) fun g40 Bg40 Fg40 => ?_
                  obtain ⟨dj41_0, dj41_1, dj41_2⟩ : g2 ≠ g40 ∧ g1 ≠ g40 ∧ Dk g40 Ko := by simpa only [dj_app_l, dj_app_r, dj_cons_l, dj_cons_r, dj_nil_l, dj_nil_r, dk_app, dk_cons, dk_nil, and_true, true_and, and_assoc] using (show Dk g40 ((g2, .cells #[.int .i64 ((i : Nat) : Int), .int .i64 4, .int .i64 3] 71 (0, 0)) :: (g1, .cells #[.int .i64 0, .int .i64 0, .int .i64 0] 71 (0, 0)) :: Ko) from Fg40)
                  refine wpL_g (AppO w 5 1 [(g2, .cells #[.int .i64 ((i : Nat) : Int), .int .i64 4, .int .i64 3] 71 (0, 0)), (g1, .cells #[.int .i64 0, .int .i64 0, .int .i64 0] 71 (0, 0))] (c.length + 1) ((u8s c) ++ [.int .u8 ((b19.toNat : Nat) : Int)])) rfl rfl (app_own el_byteM (m := 1) (c := 1) (news := [.int .u8 ((b19.toNat : Nat) : Int)]) rfl (by kernel_rfl) (by kernel_rfl) (.head _) hO (fun p hp => by simp only [List.mem_cons, List.mem_append, List.nil_append, List.not_mem_nil, or_assoc, or_false, false_or, hp, or_true, true_or]) (fun p hp => ⟨by simp only [List.mem_cons, List.mem_append, List.nil_append, List.not_mem_nil, or_assoc, or_false, false_or] at hp ⊢ <;> grind, (show Dj [(g2, .cells #[.int .i64 ((i : Nat) : Int), .int .i64 4, .int .i64 3] 71 (0, 0)), (g1, .cells #[.int .i64 0, .int .i64 0, .int .i64 0] 71 (0, 0))] Ko from (by (try simp only [dj_app_l, dj_app_r, dj_cons_l, dj_cons_r, dj_nil_l, dj_nil_r, dk_app, dk_cons, dk_nil, and_true, true_and, and_assoc]); repeat' (first | trivial | assumption | exact Dj.symm (by assumption) | exact Ne.symm (by assumption) | apply And.intro))) p hp⟩) rfl (by simp [strV, Value.oneCell']) (by omega) (by omega) (by omega)) (fun _ => by simp only [List.setIfInBounds_toArray, List.set_cons_succ, List.set_cons_zero] <;> rfl) ?_
                  rintro v42 K9 ⟨Kl42, O42, N42, rfl⟩
                  obtain ⟨dj43_0, dj43_1⟩ : Dk g2 Kl42 ∧ Dk g1 Kl42 := by simpa only [dj_app_l, dj_app_r, dj_cons_l, dj_cons_r, dj_nil_l, dj_nil_r, dk_app, dk_cons, dk_nil, and_true, true_and, and_assoc] using (show Dj [(g2, .cells #[.int .i64 ((i : Nat) : Int), .int .i64 4, .int .i64 3] 71 (0, 0)), (g1, .cells #[.int .i64 0, .int .i64 0, .int .i64 0] 71 (0, 0))] Kl42 from N42)
                  refine lm (v := v42) rfl rfl ?_
                  refine wpL_done (fun W53 hW53 => ?_)
                  refine (show Code.wp _ _ _ _ _ from ?_)
                  refine wp_region_L (W0 := w) ((g2, .cells #[.int .i64 ((i : Nat) : Int), .int .i64 4, .int .i64 3] 71 (0, 0)) :: (g1, .cells #[.int .i64 0, .int .i64 0, .int .i64 0] 71 (0, 0)) :: Kl42) (hW53) ?_
                  refine lm (v := .int .i64 (((i + 1) : Nat) : Int)) rfl rfl ?_
                  refine lp (v := .int .i64 ((((i + 1) + 1) : Nat) : Int)) rfl rfl (run_bin rfl (vx := (.int .i64 (((i + 1) : Nat) : Int))) (vy := (.int .i64 ((1 : Nat) : Int))) (by kernel_rfl) (by kernel_rfl) fun w => bn_add (z := ((i + 1) + 1)) rfl (wr_i64 (by omega)) w) ?_
                  refine lm (v := .int .i64 ((((i + 1) + 1) : Nat) : Int)) rfl rfl ?_
                  refine wpL_done (fun W54 hW54 => ?_)
                  go_roundw
                  case rel =>
                    repeat apply Exists.intro
                    exact ⟨⟨((i + 1) + 1), (c ++ [b19]), i, 4, 3, v42, Kl42, ⟨by omega, by omega⟩, (by first | omega | (simp; omega)), (.inr ⟨by omega, (hR.trans (compR_qlong hb6 (by omega) h6 hb19 (by omega) dkb19 (by omega))), by omega, by omega, by omega, by omega⟩), (tqe_two hT hb6 (by omega) h6 hb19 (by omega)), (own_b1 O42 (by simp) (by simp [u8s])), (show Dk g2 Kl42 from (by (try simp only [dj_app_l, dj_app_r, dj_cons_l, dj_cons_r, dj_nil_l, dj_nil_r, dk_app, dk_cons, dk_nil, and_true, true_and, and_assoc]); repeat' (first | trivial | assumption | exact Dj.symm (by assumption) | exact Ne.symm (by assumption) | apply And.intro))), (show Dk g1 Kl42 from (by (try simp only [dj_app_l, dj_app_r, dj_cons_l, dj_cons_r, dj_nil_l, dj_nil_r, dk_app, dk_cons, dk_nil, and_true, true_and, and_assoc]); repeat' (first | trivial | assumption | exact Dj.symm (by assumption) | exact Ne.symm (by assumption) | apply And.intro))), rfl, rfl, (hW54.sub (fun p hp => by first | exact hp | (simp only [List.mem_cons, List.mem_append, List.nil_append, List.not_mem_nil, or_assoc, or_false, false_or, List.cons_append, List.append_assoc] at hp ⊢ <;> grind)))⟩, rfl⟩
                  case measure => (show e0 + 2 - (intOf (.int .i64 ((((i + 1) + 1) : Nat) : Int))).toNat < e0 + 2 - (intOf (.int .i64 ((i : Nat) : Int))).toNat); simp only [intOf]; omega
end Go.Proofs.Ytppegdbelgobiaa
namespace Go.Proofs.Ytppegdbelgobiaa
open Go Go.RowKit Tw
theorem rest_len {l : List UInt8} {e a : Nat} (he : e ≤ l.length) (ha : a ≤ e) : (rest l e a).length = e - a := by
  unfold rest
  rw [List.length_drop, List.length_take]
  omega
theorem rest_take {l : List UInt8} {e a n : Nat} (h : a + n ≤ e) : (rest l e a).take n = rest l (a + n) a := by
  unfold rest
  rw [List.take_drop, List.take_take, Nat.min_eq_left h]
theorem rest_drop {l : List UInt8} {e a n : Nat} : (rest l e a).drop n = rest l e (a + n) := by
  unfold rest
  rw [List.drop_drop]
theorem part_at {l : List UInt8} {e : Nat} (he : e ≤ l.length) (y : UInt8) : ∀ (t : List (List UInt8)) (h : List UInt8) (a : Nat), a ≤ e → joinY y h t = rest l e a → ∀ i, i < t.length + 1 →
    ∃ p q, (a :: starts a h t)[i]? = some p ∧ (h :: t)[i]? = some q ∧ a ≤ p ∧ (0 < i → a < p) ∧ p + q.length ≤ e ∧ q = rest l (p + q.length) p ∧ (i + 1 < t.length + 1 → (a :: starts a h t)[i + 1]? = some (p + q.length + 1) ∧ p + q.length + 1 ≤ e) ∧ (¬ i + 1 < t.length + 1 → p + q.length = e) := by
  intro t
  induction t with
  | nil =>
    intro h a ha hj i hi
    have hj : h = rest l e a := by simpa [joinY] using hj
    have hl := rest_len he ha
    rw [← hj] at hl
    obtain rfl : i = 0 := by simp at hi; omega
    refine ⟨a, h, rfl, rfl, Nat.le_refl _, by omega, by omega, ?_, by simp, fun _ => by omega⟩
    rw [show a + h.length = e from by omega]
    exact hj
  | cons q t ih =>
    intro h a ha hj i hi
    have hj2 : h ++ (y :: joinY y q t) = rest l e a := by
      rw [← hj]
      simp [joinY]
    have hl := rest_len he ha
    rw [← hj2, List.length_append, List.length_cons] at hl
    have h1 : h = rest l (a + h.length) a := by
      rw [← rest_take (e := e) (by omega), ← hj2, List.take_left]
    have h2 : joinY y q t = rest l e (a + h.length + 1) := by
      rw [show a + h.length + 1 = a + (h.length + 1) from by omega, ← rest_drop, ← hj2]
      rw [List.drop_append, List.drop_of_length_le (by omega), List.nil_append, show h.length + 1 - h.length = 1 from by omega]
      rfl
    match i, hi with
    | 0, _ => exact ⟨a, h, rfl, rfl, Nat.le_refl _, by omega, by omega, h1, fun _ => ⟨rfl, by omega⟩, fun hn => absurd (show 0 + 1 < (q :: t).length + 1 by simp) hn⟩
    | i + 1, hi =>
      obtain ⟨p, q', e1, e2, e3, e4, e5, e6, e7, e8⟩ := ih q (a + h.length + 1) (by omega) h2 i (by simp only [List.length_cons] at hi; omega)
      refine ⟨p, q', e1, e2, by omega, by omega, e5, e6, fun hn => ?_, fun hn => ?_⟩
      · exact e7 (by simp only [List.length_cons] at hn; omega)
      · exact e8 (by simp only [List.length_cons] at hn; omega)
theorem good_at : ∀ {Q : List (List UInt8)} {i : Nat} {q : List UInt8}, goodP Q → Q[i]? = some q → i + 1 < Q.length → tq q = false
  | [], _, _, _, h, _ => by simp at h
  | [_], i, _, _, _, h => by simp at h
  | p :: q :: r, 0, x, hg, h, _ => by cases h; exact hg.1
  | p :: q :: r, i + 1, x, hg, h, hl => good_at (Q := q :: r) hg.2 (by simpa using h) (by simp only [List.length_cons] at hl ⊢; omega)
theorem last_at : ∀ {Q : List (List UInt8)} {i : Nat} {q : List UInt8}, Q[i]? = some q → ¬ i + 1 < Q.length → tq q = lastq Q
  | [], _, _, h, _ => by simp at h
  | [p], i, q, h, _ => by
    match i, h with
    | 0, h => cases h; rfl
  | p :: q :: r, 0, x, _, hl => absurd (show 0 + 1 < (p :: q :: r).length by simp) hl
  | p :: q :: r, i + 1, x, h, hl => last_at (Q := q :: r) (by simpa using h) (by simp only [List.length_cons] at hl ⊢; omega)
theorem ints_get {P : List Nat} {i a : Nat} (h : P[i]? = some a) : (ints P)[i]? = some (.int .i64 ((a : Nat) : Int)) := by simp [ints, h]
structure Prt (l : List UInt8) (y : UInt8) (f e : Nat) (Q : List (List UInt8)) : Prop where
  le : f ≤ e
  len : (cutL y f e l).length = Q.length
  pos : 0 < Q.length
  nth : ∀ i, i < Q.length → ∃ p q, (cutL y f e l)[i]? = some p ∧ Q[i]? = some q ∧ f ≤ p ∧ (0 < i → f < p) ∧ p + q.length ≤ e ∧ q = rest l (p + q.length) p ∧ Tqe l (p + q.length) p ∧ (i + 1 < Q.length → (cutL y f e l)[i + 1]? = some (p + q.length + 1) ∧ p + q.length + 1 ≤ e) ∧ (¬ i + 1 < Q.length → p + q.length = e)
  nil : (cutL y f e l)[0]? = some f
theorem starts_length : ∀ (t : List (List UInt8)) (i : Nat) (h : List UInt8), (starts i h t).length = t.length
  | [], _, _ => rfl
  | q :: r, i, h => by simp only [starts, List.length_cons, starts_length r]
theorem prt_of {l : List UInt8} {y : UInt8} {f e : Nat} (hy : ¬ y.toNat = 63) (he : e ≤ l.length) (hf : f ≤ e) (hq : Tqe l e f) : Prt l y f e ((splitU y (rest l e f)).1 :: (splitU y (rest l e f)).2) := by
  have sp := split_spec hy (rest l e f)
  have hc : cutL y f e l = f :: starts f (splitU y (rest l e f)).1 (splitU y (rest l e f)).2 := by
    unfold cutL
    rw [show (l.take e).drop f = rest l e f from rfl, sp.pos]
  have hs := starts_length (splitU y (rest l e f)).2 f (splitU y (rest l e f)).1
  refine ⟨hf, by rw [hc, List.length_cons, List.length_cons, hs], by simp, fun i hi => ?_, by rw [hc]; rfl⟩
  obtain ⟨p, q, e1, e2, e3, e4, e5, e6, e7, e8⟩ := part_at he y _ _ f hf sp.join i (by simpa using hi)
  refine ⟨p, q, by rw [hc]; exact e1, e2, e3, e4, e5, e6, ?_, fun hn => by rw [hc]; exact e7 (by simpa using hn), fun hn => e8 (by simpa using hn)⟩
  intro ht
  rw [← e6] at ht
  by_cases hn : i + 1 < ((splitU y (rest l e f)).1 :: (splitU y (rest l e f)).2).length
  · rw [good_at sp.good e2 hn] at ht
    cases ht
  · rw [last_at e2 hn, sp.last] at ht
    rw [e8 (by simpa using hn)]
    exact hq ht
def aft (a' : Nat) (es : List Elt) (R : List (List UInt8)) : Res Elt → Res Sgm
  | .bad p e => .bad p e
  | .ok e => sgR a' (es ++ [e]) R
def SI (x : Res Sgm) (f0 i a : Nat) (es : List Elt) (Qr : List (List UInt8)) (fa fr fe : Nat) : Prop :=
  (fe = 0 ∧ i ≤ 30 ∧ x = sgR a es Qr) ∨ (¬ fe = 0 ∧ x = .bad fa fe ∧ f0 ≤ fa ∧ fr ≤ 4 ∧ fa + 1 < a)
def SJ (x : Res Sgm) (f0 k b a' : Nat) (es : List Elt) (cs : List Cmp) (R Pr : List (List UInt8)) (ga gr ge : Nat) : Prop :=
  (ge = 0 ∧ k ≤ 10 ∧ es.length < 30 ∧ x = aft a' es R (elR b cs Pr)) ∨ (¬ ge = 0 ∧ x = .bad ga ge ∧ f0 ≤ ga ∧ gr ≤ 4 ∧ ((k = 0 ∧ ga < b) ∨ ga + 1 < b))
def SegA (x : Res Sgm) (f e : Nat) (sg : Sgm) (fa fr fe : Nat) : Prop := (fe = 0 ∧ x = .ok sg) ∨ (¬ fe = 0 ∧ x = .bad fa fe ∧ fa < e ∧ f ≤ fa ∧ fr ≤ 4)
section
variable {x : Res Sgm} {f0 i a : Nat} {es : List Elt} {Qr : List (List UInt8)} {fa fr fe : Nat}
theorem SI.ok (h : SI x f0 i a es Qr fa fr fe) (h0 : fe = 0) : i ≤ 30 ∧ x = sgR a es Qr := by
  rcases h with h | h
  · exact h.2
  · exact absurd h0 h.1
theorem SI.bad (h : SI x f0 i a es Qr fa fr fe) (h0 : ¬ fe = 0) : x = .bad fa fe ∧ f0 ≤ fa ∧ fr ≤ 4 ∧ fa + 1 < a := by
  rcases h with h | h
  · exact absurd h.1 h0
  · exact h.2
theorem sgR_cons {q : List UInt8} {R : List (List UInt8)} (h : ¬ 30 ≤ es.length) : sgR a es (q :: R) = aft (a + q.length + 1) es R (elemR a q) := by
  show (if 30 ≤ es.length then _ else _) = _
  rw [if_neg h]
  cases elemR a q <;> rfl
theorem sgR_many {q : List UInt8} {R : List (List UInt8)} (h : 30 ≤ es.length) : sgR a es (q :: R) = .bad (a - 1) 5 := if_pos h
end
section
variable {x : Res Sgm} {f0 k b a' : Nat} {es : List Elt} {cs : List Cmp} {R Pr : List (List UInt8)} {ga gr ge : Nat}
theorem SJ.ok (h : SJ x f0 k b a' es cs R Pr ga gr ge) (h0 : ge = 0) : k ≤ 10 ∧ es.length < 30 ∧ x = aft a' es R (elR b cs Pr) := by
  rcases h with h | h
  · exact h.2
  · exact absurd h0 h.1
theorem SJ.bad (h : SJ x f0 k b a' es cs R Pr ga gr ge) (h0 : ¬ ge = 0) : x = .bad ga ge ∧ f0 ≤ ga ∧ gr ≤ 4 ∧ ((k = 0 ∧ ga < b) ∨ ga + 1 < b) := by
  rcases h with h | h
  · exact absurd h.1 h0
  · exact h.2
theorem elR_many {m : List UInt8} {r : List (List UInt8)} (h : 10 ≤ cs.length) : elR b cs (m :: r) = .bad (b - 1) 5 := if_pos h
theorem elR_cons {m : List UInt8} {r : List (List UInt8)} {c : Cmp} (h : ¬ 10 ≤ cs.length) (hc : compR b [] m = .ok c) : elR b cs (m :: r) = elR (b + m.length + 1) (cs ++ [c]) r := by
  show (if 10 ≤ cs.length then _ else _) = _
  rw [if_neg h, hc]
theorem elR_bad {m : List UInt8} {r : List (List UInt8)} {p e : Nat} (h : ¬ 10 ≤ cs.length) (hc : compR b [] m = .bad p e) : elR b cs (m :: r) = .bad p e := by
  show (if 10 ≤ cs.length then _ else _) = _
  rw [if_neg h, hc]
theorem sj_step {m : List UInt8} {r : List (List UInt8)} {c : Cmp} {be : Nat} (hx : x = aft a' es R (elR b cs (m :: r))) (hes : es.length < 30) (hcs : cs.length = k) (hk : k < 10) (hbe : be = b + m.length) (hf : f0 ≤ b) (hA : CompA (compR b [] m) b be c ga gr ge) : SJ x f0 (k + 1) (b + m.length + 1) a' es (cs ++ [c]) R r ga gr ge := by
  rcases hA with ⟨h0, hc⟩ | ⟨h0, hc, h1, h2, h3⟩
  · exact .inl ⟨h0, by omega, hes, by rw [hx, elR_cons (by omega) hc]⟩
  · exact .inr ⟨h0, by rw [hx, elR_bad (by omega) hc]; rfl, by omega, h3, .inr (by omega)⟩
end
theorem sj_start {x : Res Sgm} {f0 i a : Nat} {es : List Elt} {Q Q' : List (List UInt8)} {q : List UInt8} {fa fr fe : Nat} (h : SI x f0 i a es (Q.drop i) fa fr fe) (hq : Q[i]? = some q) (hi : ¬ i = 30) (hes : es.length = i) (hQ : Q' = (splitU 58 q).1 :: (splitU 58 q).2) : SJ x f0 0 a (a + q.length + 1) es [] (Q.drop (i + 1)) Q' fa fr fe := by
  have hd : Q.drop i = q :: Q.drop (i + 1) := by
    obtain ⟨h1, rfl⟩ := List.getElem?_eq_some_iff.1 hq
    exact List.drop_eq_getElem_cons h1
  rcases h with ⟨h0, h1, h2⟩ | ⟨h0, h1, h2, h3, h4⟩
  · exact .inl ⟨h0, by omega, by omega, by rw [h2, hd, sgR_cons (by omega), hQ]; rfl⟩
  · exact .inr ⟨h0, h1, h2, h3, .inl ⟨rfl, by omega⟩⟩
def SK (x : Res Sgm) (f0 k b a' : Nat) (es : List Elt) (cs : List Cmp) (R Pr : List (List UInt8)) (ga gr ge : Nat) : Prop :=
  (ge = 0 ∧ k < 10 ∧ es.length < 30 ∧ x = aft a' es R (elR b cs Pr)) ∨ (¬ ge = 0 ∧ x = .bad ga ge ∧ f0 ≤ ga ∧ gr ≤ 4 ∧ ga < b)
theorem sk_of {x : Res Sgm} {f0 k b a' : Nat} {es : List Elt} {cs : List Cmp} {R Pr : List (List UInt8)} {ga gr ge : Nat} (h : SJ x f0 k b a' es cs R Pr ga gr ge) (hk : ¬ k = 10) : SK x f0 k b a' es cs R Pr ga gr ge := by
  rcases h with ⟨h0, h1, h2, h3⟩ | ⟨h0, h1, h2, h3, h4⟩
  · exact .inl ⟨h0, by omega, h2, h3⟩
  · exact .inr ⟨h0, h1, h2, h3, by omega⟩
theorem SK.ok {x : Res Sgm} {f0 k b a' : Nat} {es : List Elt} {cs : List Cmp} {R Pr : List (List UInt8)} {ga gr ge : Nat} (h : SK x f0 k b a' es cs R Pr ga gr ge) (h0 : ge = 0) : k < 10 ∧ es.length < 30 ∧ x = aft a' es R (elR b cs Pr) := by
  rcases h with h | h
  · exact h.2
  · exact absurd h0 h.1
theorem SK.bad {x : Res Sgm} {f0 k b a' : Nat} {es : List Elt} {cs : List Cmp} {R Pr : List (List UInt8)} {ga gr ge : Nat} (h : SK x f0 k b a' es cs R Pr ga gr ge) (h0 : ¬ ge = 0) : x = .bad ga ge ∧ f0 ≤ ga ∧ gr ≤ 4 ∧ ga < b := by
  rcases h with h | h
  · exact absurd h.1 h0
  · exact h.2
theorem si_of {x : Res Sgm} {f0 k b a' i : Nat} {es : List Elt} {cs : List Cmp} {Q Q' : List (List UInt8)} {ga gr ge : Nat} (h : SJ x f0 k b a' es cs (Q.drop (i + 1)) (Q'.drop k) ga gr ge) (hk : ¬ k < Q'.length) (hb : b = a') (hes : es.length = i) (hk0 : 0 < k) : SI x f0 (i + 1) a' (es ++ [cs]) (Q.drop (i + 1)) ga gr ge := by
  have e : Q'.drop k = [] := List.drop_of_length_le (by omega)
  rw [e] at h
  rcases h with ⟨h0, h1, h2, h3⟩ | ⟨h0, h1, h2, h3, h4⟩
  · exact .inl ⟨h0, by omega, h3⟩
  · exact .inr ⟨h0, h1, h2, h3, by omega⟩
theorem drop_nth {α : Type} {Q : List α} {i : Nat} {q : α} (h : Q[i]? = some q) : Q.drop i = q :: Q.drop (i + 1) := by
  obtain ⟨h1, rfl⟩ := List.getElem?_eq_some_iff.1 h
  exact List.drop_eq_getElem_cons h1
theorem el_ref : Elem Try.prog 36 43 1 24 (.slice none 0 0) := Elem.mk' Try.underlying36 (by kernel_rfl) rfl
theorem cutN_len (y : UInt8) : ∀ (m : List UInt8) (i : Nat), (cutN y i m).length ≤ m.length
  | [], _ => Nat.le_refl _
  | [b], i => by
    unfold cutN
    split
    · simp
    · split <;> simp
  | b :: c :: r, i => by
    have i1 := cutN_len y r (i + 1 + 1)
    have i2 := cutN_len y (c :: r) (i + 1)
    unfold cutN
    split
    · simp only [List.length_cons]; omega
    · split
      · simp only [List.length_cons] at i2 ⊢; omega
      · simp only [List.length_cons] at i2 ⊢; omega
theorem cutL_len {l : List UInt8} {y : UInt8} {f e : Nat} (hf : f ≤ e) (he : e ≤ l.length) : (cutL y f e l).length ≤ e + 1 := by
  have h1 := cutN_len y ((l.take e).drop f) f
  rw [List.length_drop, List.length_take] at h1
  unfold cutL
  rw [List.length_cons]
  omega
theorem own_b2 {W0 : Base} {E : TypeId} {v : Value} {n m : Nat} {xs : List Value} {K : List (Nat × Obj)} (h : OwnL W0 E 1 v n xs K) (hn : n = m) : OwnL W0 E 1 v m xs K := by subst hn; exact h
theorem own_b3 {W0 : Base} {E : TypeId} {v : Value} {n : Nat} {xs ys : List Value} {K : List (Nat × Obj)} (h : OwnL W0 E 1 v n xs K) (hx : xs = ys) : OwnL W0 E 1 v n ys K := by subst hx; exact h
theorem sega_of {x : Res Sgm} {f0 e0 i a : Nat} {es : List Elt} {Q : List (List UInt8)} {fa fr fe : Nat} (h : SI x f0 i a es (Q.drop i) fa fr fe) (hi : ¬ i < Q.length) (ha : a = e0 + 1) : SegA x f0 e0 es fa fr fe := by
  rw [List.drop_of_length_le (by omega)] at h
  rcases h with ⟨h0, _, h2⟩ | ⟨h0, h1, h2, h3, h4⟩
  · exact .inl ⟨h0, h2⟩
  · exact .inr ⟨h0, h1, by omega, h2, h3⟩
theorem si_next {x : Res Sgm} {a' b i k : Nat} {es : List Elt} {cs : List Cmp} {Q Q' : List (List UInt8)} {q : List UInt8} (h : x = aft a' es (Q.drop (i + 1)) (elR b cs (Q'.drop k))) (hk : ¬ k < Q'.length) (hq : Q[i]? = some q) : x = sgR a' (es ++ [cs]) (Q.drop (i + 1)) := by
  have e : Q'.drop k = [] := List.drop_of_length_le (by omega)
  rw [h, e]
  rfl
end Go.Proofs.Ytppegdbelgobiaa
