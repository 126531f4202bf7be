import Derived.Test.YthpooalhibedpaaTQ01
import Derived.Test.YthpooalhibedpaaTQ00
import Derived.Laws.MakeOwn
/- Part of the proof: T9, TA, TC, TE0, TN0, TX0, TN, TO0, TO, TP, TQ, TS0, TS, TU0, TU. -/
set_option linter.unusedVariables false
set_option linter.unusedSimpArgs false
set_option linter.unusedSectionVars false
namespace Go.Proofs.Ythpooalhibedpaa
open Go Go.RowKit Tw
set_option maxRecDepth 100000 in
set_option maxHeartbeats 4000000 in
theorem Example_any {W0 : Base} (w : World) (hw : KS W0 [] w) : Calls Try.prog 27 #[] w fun e w' => ∃ v T, e = .returned v ∧ KS W0 T w' ∧ ShipT W0 exCs [(0, [0, 1])] v T := by
  go_enter Try.func27, Try.ntmps27
  refine wp_seq ?_
  refine wp_region_L (W0 := W0) [] (hw) ?_
  refine wpL_new (fun g => .pointer (some ⟨g, 0, none⟩)) (obi := .cells (shC (.slice none 0 0) (.slice none 0 0) tl0).toArray 32 (0, 0)) rfl rfl (fun _ => by kernel_rfl) (fun _ => by simp only [List.setIfInBounds_toArray, List.set_cons_succ, List.set_cons_zero] <;> rfl) fun g1 Bg1 Fg1 => ?_
  refine wpL_done (fun W1 hW1 => ?_)
  refine (show Code.wp _ _ _ _ _ from ?_)
  refine wp_seq ?_
  refine wp_region_L (W0 := W0) [(g1, .cells (shC (.slice none 0 0) (.slice none 0 0) tl0).toArray 32 (0, 0))] (hW1) ?_
  refine lm (v := .agg #[.int .i64 0, .int .i64 0, .bool false, .int .i64 2, .int .i64 0, .int .i64 0, .int .i64 0, .int .i64 0, .slice none 0 0, .int .i64 0, .int .i64 0, .int .i64 0]) rfl rfl ?_
  refine lm (v := .agg #[.int .i64 0, .int .i64 1, .bool false, .int .i64 2, .int .i64 0, .int .i64 0, .int .i64 0, .int .i64 0, .slice none 0 0, .int .i64 0, .int .i64 0, .int .i64 0]) rfl rfl ?_
  refine lm (v := .agg #[.int .i64 0, .int .i64 0, .bool true, .int .i64 3, .int .i64 0, .int .i64 0, .int .i64 0, .int .i64 0, .slice none 0 0, .int .i64 0, .int .i64 0, .int .i64 0]) rfl rfl ?_
  refine lm (v := .agg #[.int .i64 0, .int .i64 1, .bool true, .int .i64 3, .int .i64 0, .int .i64 0, .int .i64 0, .int .i64 0, .slice none 0 0, .int .i64 0, .int .i64 0, .int .i64 0]) rfl rfl ?_
  refine lm (v := .agg #[.int .i64 1, .int .i64 1, .bool true, .int .i64 4, .int .i64 0, .int .i64 0, .int .i64 0, .int .i64 0, .slice none 0 0, .int .i64 0, .int .i64 0, .int .i64 0]) rfl rfl ?_
  refine wpL_new (fun g => .slice (some ⟨g, 0, none⟩) 5 5) (obi := .cells #[.int .i64 0, .int .i64 0, .bool false, .int .i64 2, .int .i64 0, .int .i64 0, .int .i64 0, .int .i64 0, .slice none 0 0, .int .i64 0, .int .i64 0, .int .i64 0, .int .i64 0, .int .i64 1, .bool false, .int .i64 2, .int .i64 0, .int .i64 0, .int .i64 0, .int .i64 0, .slice none 0 0, .int .i64 0, .int .i64 0, .int .i64 0, .int .i64 0, .int .i64 0, .bool true, .int .i64 3, .int .i64 0, .int .i64 0, .int .i64 0, .int .i64 0, .slice none 0 0, .int .i64 0, .int .i64 0, .int .i64 0, .int .i64 0, .int .i64 1, .bool true, .int .i64 3, .int .i64 0, .int .i64 0, .int .i64 0, .int .i64 0, .slice none 0 0, .int .i64 0, .int .i64 0, .int .i64 0, .int .i64 1, .int .i64 1, .bool true, .int .i64 4, .int .i64 0, .int .i64 0, .int .i64 0, .int .i64 0, .slice none 0 0, .int .i64 0, .int .i64 0, .int .i64 0] 49 (0, 0)) rfl rfl (fun _ => by kernel_rfl) (fun _ => by simp only [List.setIfInBounds_toArray, List.set_cons_succ, List.set_cons_zero] <;> rfl) fun g2 Bg2 Fg2 => ?_
  obtain dj3_0 : g1 ≠ g2 := by simpa only [dj_app_l, dj_app_r, dj_cons_l, dj_cons_r, dj_nil_l, dj_nil_r, dk_app, dk_cons, dk_nil, and_true, true_and, and_assoc] using (show Dk g2 [(g1, .cells (shC (.slice none 0 0) (.slice none 0 0) tl0).toArray 32 (0, 0))] from Fg2)
  refine wpL_new (fun g => .slice (some ⟨g, 0, none⟩) 2 2) (obi := .cells #[.int .i64 0, .int .i64 1] 3 (0, 0)) rfl rfl (fun _ => by kernel_rfl) (fun _ => by simp only [List.setIfInBounds_toArray, List.set_cons_succ, List.set_cons_zero] <;> rfl) fun g4 Bg4 Fg4 => ?_
  obtain ⟨dj5_0, dj5_1⟩ : g2 ≠ g4 ∧ g1 ≠ g4 := by simpa only [dj_app_l, dj_app_r, dj_cons_l, dj_cons_r, dj_nil_l, dj_nil_r, dk_app, dk_cons, dk_nil, and_true, true_and, and_assoc] using (show Dk g4 [(g2, .cells #[.int .i64 0, .int .i64 0, .bool false, .int .i64 2, .int .i64 0, .int .i64 0, .int .i64 0, .int .i64 0, .slice none 0 0, .int .i64 0, .int .i64 0, .int .i64 0, .int .i64 0, .int .i64 1, .bool false, .int .i64 2, .int .i64 0, .int .i64 0, .int .i64 0, .int .i64 0, .slice none 0 0, .int .i64 0, .int .i64 0, .int .i64 0, .int .i64 0, .int .i64 0, .bool true, .int .i64 3, .int .i64 0, .int .i64 0, .int .i64 0, .int .i64 0, .slice none 0 0, .int .i64 0, .int .i64 0, .int .i64 0, .int .i64 0, .int .i64 1, .bool true, .int .i64 3, .int .i64 0, .int .i64 0, .int .i64 0, .int .i64 0, .slice none 0 0, .int .i64 0, .int .i64 0, .int .i64 0, .int .i64 1, .int .i64 1, .bool true, .int .i64 4, .int .i64 0, .int .i64 0, .int .i64 0, .int .i64 0, .slice none 0 0, .int .i64 0, .int .i64 0, .int .i64 0] 49 (0, 0)), (g1, .cells (shC (.slice none 0 0) (.slice none 0 0) tl0).toArray 32 (0, 0))] from Fg4)
  refine lm (v := .agg #[.int .i64 0, .slice (some ⟨g4, 0, none⟩) 2 2]) rfl rfl ?_
  refine wpL_new (fun g => .slice (some ⟨g, 0, none⟩) 1 1) (obi := .cells #[.int .i64 0, .slice (some ⟨g4, 0, none⟩) 2 2] 51 (0, 0)) rfl rfl (fun _ => by kernel_rfl) (fun _ => by simp only [List.setIfInBounds_toArray, List.set_cons_succ, List.set_cons_zero] <;> rfl) fun g6 Bg6 Fg6 => ?_
  obtain ⟨dj7_0, dj7_1, dj7_2⟩ : g4 ≠ g6 ∧ g2 ≠ g6 ∧ g1 ≠ g6 := by simpa only [dj_app_l, dj_app_r, dj_cons_l, dj_cons_r, dj_nil_l, dj_nil_r, dk_app, dk_cons, dk_nil, and_true, true_and, and_assoc] using (show Dk g6 [(g4, .cells #[.int .i64 0, .int .i64 1] 3 (0, 0)), (g2, .cells #[.int .i64 0, .int .i64 0, .bool false, .int .i64 2, .int .i64 0, .int .i64 0, .int .i64 0, .int .i64 0, .slice none 0 0, .int .i64 0, .int .i64 0, .int .i64 0, .int .i64 0, .int .i64 1, .bool false, .int .i64 2, .int .i64 0, .int .i64 0, .int .i64 0, .int .i64 0, .slice none 0 0, .int .i64 0, .int .i64 0, .int .i64 0, .int .i64 0, .int .i64 0, .bool true, .int .i64 3, .int .i64 0, .int .i64 0, .int .i64 0, .int .i64 0, .slice none 0 0, .int .i64 0, .int .i64 0, .int .i64 0, .int .i64 0, .int .i64 1, .bool true, .int .i64 3, .int .i64 0, .int .i64 0, .int .i64 0, .int .i64 0, .slice none 0 0, .int .i64 0, .int .i64 0, .int .i64 0, .int .i64 1, .int .i64 1, .bool true, .int .i64 4, .int .i64 0, .int .i64 0, .int .i64 0, .int .i64 0, .slice none 0 0, .int .i64 0, .int .i64 0, .int .i64 0] 49 (0, 0)), (g1, .cells (shC (.slice none 0 0) (.slice none 0 0) tl0).toArray 32 (0, 0))] from Fg6)
  refine lm (v := .agg (shC (.slice (some ⟨g2, 0, none⟩) 5 5) (.slice (some ⟨g6, 0, none⟩) 1 1) tl0).toArray) rfl rfl ?_
  refine wpL_s [(g6, .cells #[.int .i64 0, .slice (some ⟨g4, 0, none⟩) 2 2] 51 (0, 0)), (g4, .cells #[.int .i64 0, .int .i64 1] 3 (0, 0)), (g2, .cells #[.int .i64 0, .int .i64 0, .bool false, .int .i64 2, .int .i64 0, .int .i64 0, .int .i64 0, .int .i64 0, .slice none 0 0, .int .i64 0, .int .i64 0, .int .i64 0, .int .i64 0, .int .i64 1, .bool false, .int .i64 2, .int .i64 0, .int .i64 0, .int .i64 0, .int .i64 0, .slice none 0 0, .int .i64 0, .int .i64 0, .int .i64 0, .int .i64 0, .int .i64 0, .bool true, .int .i64 3, .int .i64 0, .int .i64 0, .int .i64 0, .int .i64 0, .slice none 0 0, .int .i64 0, .int .i64 0, .int .i64 0, .int .i64 0, .int .i64 1, .bool true, .int .i64 3, .int .i64 0, .int .i64 0, .int .i64 0, .int .i64 0, .slice none 0 0, .int .i64 0, .int .i64 0, .int .i64 0, .int .i64 1, .int .i64 1, .bool true, .int .i64 4, .int .i64 0, .int .i64 0, .int .i64 0, .int .i64 0, .slice none 0 0, .int .i64 0, .int .i64 0, .int .i64 0] 49 (0, 0)), (g1, .cells (shC (.slice (some ⟨g2, 0, none⟩) 5 5) (.slice (some ⟨g6, 0, none⟩) 1 1) tl0).toArray 32 (0, 0))] rfl rfl (st_row (off := 0) (v := .agg (shC (.slice (some ⟨g2, 0, none⟩) 5 5) (.slice (some ⟨g6, 0, none⟩) 1 1) tl0).toArray) rfl (by kernel_rfl) (by kernel_rfl) (.tail _ (.tail _ (.tail _ (.head _)))) Bg1 (by kernel_rfl) (by first | (simp [Value.cells]; done) | exact Nat.le_of_ble_eq_true rfl) (fun v hv => shC_one v hv) (by kernel_rfl) (List.forall_mem_cons.2 ⟨.inr ⟨(.head _), (by first | assumption | exact Ne.symm (by assumption))⟩, (List.forall_mem_cons.2 ⟨.inr ⟨(.tail _ (.head _)), (by first | assumption | exact Ne.symm (by assumption))⟩, (List.forall_mem_cons.2 ⟨.inr ⟨(.tail _ (.tail _ (.head _))), (by first | assumption | exact Ne.symm (by assumption))⟩, (List.forall_mem_cons.2 ⟨.inl rfl, (List.forall_mem_nil _)⟩)⟩)⟩)⟩)) ?_
  refine wpL_done (fun W2 hW2 => ?_)
  refine (show Code.wp _ _ _ _ _ from ?_)
  refine wp_ret ?_
  try simp only [inBlock_ret, then_ret]
  refine bodyPost_ret (v := .agg (shC (.slice (some ⟨g2, 0, none⟩) 5 5) (.slice (some ⟨g6, 0, none⟩) 1 1) tl0).toArray) ?_ rfl ?_
  · exact (res_cell (p := 0) rfl rfl (hW2.2 _ (.tail _ (.tail _ (.tail _ (.head _))))) Try.underlying32 rfl (by kernel_rfl))
  · exact ⟨_, _, rfl, hW2, some ⟨g2, 0, none⟩, 5, [⟨0, [0, 1], some ⟨g4, 0, none⟩, 2⟩], some ⟨g6, 0, none⟩, 1, rfl, Nat.le_refl _, Nat.le_refl _, (fun W hW => blk_slv (cs := exCs.flatMap colC) hW (.tail _ (.tail _ (.head _)))), (fun W hW => blk_slv hW (.head _)), (fun W hW o ho => by cases List.mem_singleton.1 ho; exact blk_slv hW (.tail _ (.head _))), rfl⟩
set_option maxRecDepth 100000 in
set_option maxHeartbeats 4000000 in
theorem SameInts_any (l m : List Int) (p q : Option Addr) (c d : Nat) (hl : l.length ≤ 4000000000) (w : World) (hp : SLV w p (l.flatMap inC)) (hq : SLV w q (m.flatMap inC)) : Calls Try.prog 16 #[.slice p l.length c, .slice q m.length d] w fun e w' => e = .returned (.bool (decide (l = m))) ∧ Below w.heap.size w w' := by
  have HP := Lib.hid hp
  clear hp
  have HQ := Lib.hid hq
  clear hq
  go_enter Try.func16, Try.ntmps16
  refine wp_seq ?_
  refine wp_region_L (W0 := w) [] (KS.start w) ?_
  refine lm (v := .bool false) rfl rfl ?_
  refine wpL_done (fun W1 hW1 => ?_)
  refine (show Code.wp _ _ _ _ _ from ?_)
  refine wp_seq ?_
  refine wp_seq ?_
  refine wp_region_L (W0 := w) [] (hW1) ?_
  refine lm (v := .slice p l.length c) rfl rfl ?_
  refine lp (v := .int .i64 ((l.length : Nat) : Int)) rfl rfl (run_lenL (p := p) (cap := c) (n := l.length) rfl Try.underlying39 (by kernel_rfl)) ?_
  refine lm (v := .slice q m.length d) rfl rfl ?_
  refine lp (v := .int .i64 ((m.length : Nat) : Int)) rfl rfl (run_lenL (p := q) (cap := d) (n := m.length) rfl Try.underlying39 (by kernel_rfl)) ?_
  refine lp (v := .bool (!(decide (l.length = m.length)))) rfl rfl (run_bin rfl (vx := (.int .i64 ((l.length : Nat) : Int))) (vy := (.int .i64 ((m.length : Nat) : Int))) (by kernel_rfl) (by kernel_rfl) fun w => bn_neq rfl w) ?_
  refine wpL_done (fun W2 hW2 => ?_)
  refine (show Code.wp _ _ _ _ _ from ?_)
  cases hd1 : (decide (l.length = m.length)) with
  | false =>
    have h1 : ¬ (l.length = m.length) := of_decide_eq_false hd1
    clear hd1
    refine wp_cond_true rfl ?_
    refine wp_seq ?_
    refine wp_region_L (W0 := w) [] (hW2) ?_
    refine lm (v := .bool false) rfl rfl ?_
    refine wpL_done (fun W3 hW3 => ?_)
    refine (show Code.wp _ _ _ _ _ from ?_)
    refine wp_ret ?_
    try simp only [inBlock_ret, then_ret]
    refine bodyPost_ret (v := .bool false) ?_ rfl ?_
    · kernel_rfl
    · exact ⟨(bool_is (by rw [eq_comm, decide_eq_false_iff_not]; exact ne_len h1)), hW3.1⟩
  | true =>
    have h1 : l.length = m.length := of_decide_eq_true hd1
    clear hd1
    refine wp_cond_false rfl ?_
    refine wp_skip ?_
    refine (show Code.wp _ _ _ _ _ from ?_)
    refine wp_seq ?_
    refine wp_seq ?_
    refine wp_region_L (W0 := w) [] (hW2) ?_
    refine lm (v := .int .i64 0) rfl rfl ?_
    refine wpL_done (fun W4 hW4 => ?_)
    refine (show Code.wp _ _ _ _ _ from ?_)
    refine wp_block ?_
    go_loopw [5] (fun u5 wr => ∃ (k : Nat), (k ≤ l.length) ∧ (l.take k = m.take k) ∧ u5 = .int .i64 ((k : Nat) : Int) ∧ KS w [] wr) (fun u5 _ => l.length - (intOf u5).toNat)
    case atStart => exact ⟨0, (Nat.zero_le _), rfl, rfl, (hW4.sub (fun p hp => by first | exact hp | (simp only [List.mem_cons, List.mem_append, List.nil_append, List.not_mem_nil, or_assoc, or_false, false_or] at hp ⊢ <;> grind)))⟩
    case round =>
      obtain ⟨k, hk, hT, rfl, hL5⟩ := hrel
      refine wp_seq ?_
      refine wp_seq ?_
      refine wp_region_L (W0 := w) [] (hL5) ?_
      refine lm (v := .int .i64 ((k : Nat) : Int)) rfl rfl ?_
      refine lm (v := .slice p l.length c) rfl rfl ?_
      refine lp (v := .int .i64 ((l.length : Nat) : Int)) rfl rfl (run_lenL (p := p) (cap := c) (n := l.length) rfl Try.underlying39 (by kernel_rfl)) ?_
      refine lp (v := .bool (decide (k < l.length))) rfl rfl (run_bin rfl (vx := (.int .i64 ((k : Nat) : Int))) (vy := (.int .i64 ((l.length : Nat) : Int))) (by kernel_rfl) (by kernel_rfl) fun w => bn_lss rfl w) ?_
      refine wpL_done (fun W6 hW6 => ?_)
      refine (show Code.wp _ _ _ _ _ from ?_)
      cases hd2 : (decide (k < l.length)) with
      | false =>
        have h2 : ¬ (k < l.length) := of_decide_eq_false hd2
        clear hd2
        refine wp_cond_false rfl ?_
        refine wp_exit ?_
        refine (show Code.wp _ _ _ _ _ from ?_)
        refine wp_seq ?_
        refine wp_region_L (W0 := w) [] (hW6) ?_
        refine lm (v := .bool true) rfl rfl ?_
        refine wpL_done (fun W7 hW7 => ?_)
        refine (show Code.wp _ _ _ _ _ from ?_)
        refine wp_ret ?_
        try simp only [inBlock_ret, then_ret]
        refine bodyPost_ret (v := .bool true) ?_ rfl ?_
        · kernel_rfl
        · exact ⟨(bool_is (by rw [eq_comm, decide_eq_true_iff]; exact eq_of_take hT h2 h1)), hW7.1⟩
      | true =>
        have h2 : k < l.length := of_decide_eq_true hd2
        clear hd2
        refine wp_cond_true rfl ?_
        refine wp_skip ?_
        refine (show Code.wp _ _ _ _ _ from ?_)
        refine wp_seq ?_
        refine wp_block ?_
        refine wp_seq ?_
        refine wp_region_V (W0 := w) [] (by kernel_rfl) (hW6) ?_
        refine vm (i := 0) (v := .slice p l.length c) rfl rfl rfl ?_
        refine vm (i := 1) (v := .int .i64 ((k : Nat) : Int)) rfl rfl rfl ?_
        obtain ⟨y1, g1_, f1_, hy1, hp1, hc1⟩ := RL.at (RL.base HP.out) inC_len (by decide) (hW6.sub (fun _ h => by cases h)) (k := k) (by omega)
        refine vp (i := 2) (v := .pointer (some ⟨g1_, f1_ + k * 1, none⟩)) rfl rfl rfl (run_idxQ (p := p) (cap := c) (n := l.length) (j := .i64) (k := k) (sz := 1) rfl Try.underlying39 (by kernel_rfl) (by kernel_rfl) hp1 (by kernel_rfl) (by omega)) ?_
        refine vv (i := 3) (v := .int .i64 y1) rfl rfl rfl (yb_rf (v := .int .i64 y1) rfl (by kernel_rfl) (fun W hW => hc1 W (hW.sub (fun _ h => by cases h)) 0 _ rfl) Try.underlying3 rfl) ?_
        refine vm (i := 4) (v := .slice q m.length d) rfl rfl rfl ?_
        refine vm (i := 5) (v := .int .i64 ((k : Nat) : Int)) rfl rfl rfl ?_
        obtain ⟨y2, g2_, f2_, hy2, hp2, hc2⟩ := RL.at (RL.base HQ.out) inC_len (by decide) (hW6.sub (fun _ h => by cases h)) (k := k) (by omega)
        refine vp (i := 6) (v := .pointer (some ⟨g2_, f2_ + k * 1, none⟩)) rfl rfl rfl (run_idxQ (p := q) (cap := d) (n := m.length) (j := .i64) (k := k) (sz := 1) rfl Try.underlying39 (by kernel_rfl) (by kernel_rfl) hp2 (by kernel_rfl) (by omega)) ?_
        refine vv (i := 7) (v := .int .i64 y2) rfl rfl rfl (yb_rf (v := .int .i64 y2) rfl (by kernel_rfl) (fun W hW => hc2 W (hW.sub (fun _ h => by cases h)) 0 _ rfl) Try.underlying3 rfl) ?_
        refine vp (i := 8) (v := .bool (!(decide (y1 = y2)))) rfl rfl rfl (run_bin rfl (vx := (.int .i64 y1)) (vy := (.int .i64 y2)) (by kernel_rfl) (by kernel_rfl) fun w => bi_neq rfl w) ?_
        refine wpV_done (by kernel_rfl) (fun W8 hW8 => ?_) _
        refine (show Code.wp _ _ _ _ _ from ?_)
        cases hd3 : (decide (y1 = y2)) with
        | false =>
          have h3 : ¬ (y1 = y2) := of_decide_eq_false hd3
          clear hd3
          refine wp_cond_true rfl ?_
          refine wp_seq ?_
          refine wp_region_L (W0 := w) [] (hW8) ?_
          refine lm (v := .bool false) rfl rfl ?_
          refine wpL_done (fun W9 hW9 => ?_)
          refine (show Code.wp _ _ _ _ _ from ?_)
          refine wp_ret ?_
          try simp only [inBlock_ret, then_ret]
          refine bodyPost_ret (v := .bool false) ?_ rfl ?_
          · kernel_rfl
          · exact ⟨(bool_is (by rw [eq_comm, decide_eq_false_iff_not]; exact ne_at hy1 hy2 h3)), hW9.1⟩
        | true =>
          have h3 : y1 = y2 := of_decide_eq_true hd3
          clear hd3
          refine wp_cond_false rfl ?_
          refine wp_skip ?_
          refine (show Code.wp _ _ _ _ _ from ?_)
          refine wp_region_L (W0 := w) [] (hW8) ?_
          refine lm (v := .int .i64 ((k : Nat) : Int)) rfl rfl ?_
          refine lp (v := .int .i64 (((k + 1) : Nat) : Int)) rfl rfl (run_bin rfl (vx := (.int .i64 ((k : Nat) : Int))) (vy := (.int .i64 ((1 : Nat) : Int))) (by kernel_rfl) (by kernel_rfl) fun w => bn_add (z := (k + 1)) rfl (wr_i64 (by omega)) w) ?_
          refine lm (v := .int .i64 (((k + 1) : Nat) : Int)) rfl rfl ?_
          refine wpL_done (fun W10 hW10 => ?_)
          go_roundw
          case rel =>
            repeat apply Exists.intro
            exact ⟨⟨k + 1, (by omega), (take_snoc_eq hT hy1 hy2 h3), rfl, (hW10.sub (fun p hp => by first | exact hp | (simp only [List.mem_cons, List.mem_append, List.nil_append, List.not_mem_nil, or_assoc, or_false, false_or] at hp ⊢ <;> grind)))⟩, rfl⟩
          case measure => (show l.length - (intOf (.int .i64 (((k + 1) : Nat) : Int))).toNat < l.length - (intOf (.int .i64 ((k : Nat) : Int))).toNat); simp only [intOf]; omega
set_option maxRecDepth 100000 in
set_option maxHeartbeats 4000000 in
theorem awake_any  (w : World) : Calls Try.prog 6 #[] w fun e w' => e = .returned (.bool true) ∧ Below w.heap.size w w' := by
  go_enter Try.func6, Try.ntmps6
  refine wp_seq ?_
  refine wp_region_L (W0 := w) [] (KS.start w) ?_
  refine lm (v := .bool false) rfl rfl ?_
  refine wpL_done (fun W1 hW1 => ?_)
  refine (show Code.wp _ _ _ _ _ from ?_)
  refine wp_seq ?_
  refine wp_region_L (W0 := w) [] (hW1) ?_
  refine wpL_c (f := 27) (args := #[]) (ShipT w exCs [(0, [0, 1])]) rfl (by kernel_rfl) (fun _ => (by kernel_rfl)) (fun W hW => (Example_any W hW).mono fun _ _ ⟨v, T, he, hk, hs⟩ => ⟨v, T, he, hk, hs⟩) (fun _ => by simp only [List.setIfInBounds_toArray, List.set_cons_succ, List.set_cons_zero] <;> rfl) ?_
  rintro _ TS ⟨pcS, ccS, osS, poS, coS, rfl, hccS, hcoS, hCS, hOS, hRS, hMS⟩
  refine wpL_rebase fun WB hWB => ?_
  have HCS := Lib.hid (hCS WB hWB)
  have HOS := Lib.hid (hOS WB hWB)
  have HRS := Lib.hid (hRS WB hWB)
  clear hCS hOS hRS
  obtain ⟨rp, rc, rfl⟩ := one_cov hMS
  have lrS : ∀ o ∈ [(⟨0, [0, 1], rp, rc⟩ : Cov)], o.rows.length ≤ 4000000000 := fun o ho => by cases List.mem_singleton.1 ho; exact Nat.le_of_ble_eq_true rfl
  have HPS := Lib.hid (show PlR WB exCs from plr_nil (by decide))
  have lpS : ∀ c ∈ exCs, c.plugs.length ≤ 4000000000 := by decide
  refine wpL_new (fun g => .pointer (some ⟨g, 0, none⟩)) (obi := .cells (shC (.slice none 0 0) (.slice none 0 0) tl0).toArray 32 (0, 0)) rfl rfl (fun _ => by kernel_rfl) (fun _ => by simp only [List.setIfInBounds_toArray, List.set_cons_succ, List.set_cons_zero] <;> rfl) fun g1 Bg1 Fg1 => ?_
  refine wpL_s [(g1, .cells (shC (.slice pcS exCs.length ccS) (.slice poS ([(⟨0, [0, 1], rp, rc⟩ : Cov)].length) coS) tl0).toArray 32 (0, 0))] rfl rfl (st_row (off := 0) (v := .agg (shC (.slice pcS exCs.length ccS) (.slice poS ([(⟨0, [0, 1], rp, rc⟩ : Cov)].length) coS) tl0).toArray) rfl (by kernel_rfl) (by kernel_rfl) (.head _) Bg1 (by kernel_rfl) (by first | (simp [Value.cells]; done) | exact Nat.le_of_ble_eq_true rfl) (fun v hv => shC_one v hv) (by kernel_rfl) (List.forall_mem_cons.2 ⟨.inl rfl, (List.forall_mem_nil _)⟩)) ?_
  refine wpL_done (fun W2 hW2 => ?_)
  refine (show Code.wp _ _ _ _ _ from ?_)
  refine wp_seq ?_
  refine wp_region_L (W0 := WB) [(g1, .cells (shC (.slice pcS exCs.length ccS) (.slice poS ([(⟨0, [0, 1], rp, rc⟩ : Cov)].length) coS) tl0).toArray 32 (0, 0))] (hW2) ?_
  refine lv (v := .agg (shC (.slice pcS exCs.length ccS) (.slice poS ([(⟨0, [0, 1], rp, rc⟩ : Cov)].length) coS) tl0).toArray) rfl rfl (yb_load (n := 13) (off := 0) rfl (by kernel_rfl) (.head _) Try.underlying32 rfl (by kernel_rfl) (by first | (simp [Value.cells]; done) | exact Nat.le_of_ble_eq_true rfl) (by kernel_rfl)) ?_
  refine lv (v := .tuple #[.int .i64 (findN (fst (isAt 1 1 true) exCs)), .bool ((fst (isAt 1 1 true) exCs).isSome)]) rfl rfl (yb_call (f := 8) (args := #[.agg (shC (.slice pcS exCs.length ccS) (.slice poS ([(⟨0, [0, 1], rp, rc⟩ : Cov)].length) coS) tl0).toArray, .int .i64 1, .int .i64 1, .bool true]) (fun _ => by kernel_rfl) fun W hW => Find_any exCs pcS ccS (by decide) [(⟨0, [0, 1], rp, rc⟩ : Cov)] poS coS (Nat.le_of_ble_eq_true rfl) tl0 1 1 true W ((RL.base HCS.out) _ (hW.sub (fun _ h => by cases h))) ((RL.base HOS.out) _ (hW.sub (fun _ h => by cases h)))) ?_
  refine lm (v := .tuple #[.int .i64 (findN (fst (isAt 1 1 true) exCs)), .bool ((fst (isAt 1 1 true) exCs).isSome)]) rfl rfl ?_
  refine lm (v := .int .i64 (findN (fst (isAt 1 1 true) exCs))) rfl rfl ?_
  refine lm (v := .bool ((fst (isAt 1 1 true) exCs).isSome)) rfl rfl ?_
  refine lm (v := .int .i64 (findN (fst (isAt 1 1 true) exCs))) rfl rfl ?_
  refine lm (v := .bool ((fst (isAt 1 1 true) exCs).isSome)) rfl rfl ?_
  refine wpL_done (fun W3 hW3 => ?_)
  refine (show Code.wp _ _ _ _ _ from ?_)
  refine wp_seq ?_
  refine wp_region_L (W0 := WB) [(g1, .cells (shC (.slice pcS exCs.length ccS) (.slice poS ([(⟨0, [0, 1], rp, rc⟩ : Cov)].length) coS) tl0).toArray 32 (0, 0))] (hW3) ?_
  refine lv (v := .agg (shC (.slice pcS exCs.length ccS) (.slice poS ([(⟨0, [0, 1], rp, rc⟩ : Cov)].length) coS) tl0).toArray) rfl rfl (yb_load (n := 13) (off := 0) rfl (by kernel_rfl) (.head _) Try.underlying32 rfl (by kernel_rfl) (by first | (simp [Value.cells]; done) | exact Nat.le_of_ble_eq_true rfl) (by kernel_rfl)) ?_
  refine lv (v := .tuple #[.int .i64 (apN exCs 0 4), .bool (apB exCs 0 4)]) rfl rfl (yb_call (f := 23) (args := #[.agg (shC (.slice pcS exCs.length ccS) (.slice poS ([(⟨0, [0, 1], rp, rc⟩ : Cov)].length) coS) tl0).toArray, .int .i64 0, .int .i64 4]) (fun _ => by kernel_rfl) fun W hW => Apart_any exCs pcS ccS (by decide) [(⟨0, [0, 1], rp, rc⟩ : Cov)] poS coS (Nat.le_of_ble_eq_true rfl) tl0 0 4 W ((RL.base HCS.out) _ (hW.sub (fun _ h => by cases h))) ((RL.base HOS.out) _ (hW.sub (fun _ h => by cases h)))) ?_
  refine lm (v := .tuple #[.int .i64 (apN exCs 0 4), .bool (apB exCs 0 4)]) rfl rfl ?_
  refine lm (v := .int .i64 (apN exCs 0 4)) rfl rfl ?_
  refine lm (v := .bool (apB exCs 0 4)) rfl rfl ?_
  refine lm (v := .int .i64 (apN exCs 0 4)) rfl rfl ?_
  refine lm (v := .bool (apB exCs 0 4)) rfl rfl ?_
  refine wpL_done (fun W4 hW4 => ?_)
  refine (show Code.wp _ _ _ _ _ from ?_)
  refine wp_seq ?_
  refine wp_region_L (W0 := WB) [(g1, .cells (shC (.slice pcS exCs.length ccS) (.slice poS ([(⟨0, [0, 1], rp, rc⟩ : Cov)].length) coS) tl0).toArray 32 (0, 0))] (hW4) ?_
  refine lv (v := .agg (shC (.slice pcS exCs.length ccS) (.slice poS ([(⟨0, [0, 1], rp, rc⟩ : Cov)].length) coS) tl0).toArray) rfl rfl (yb_load (n := 13) (off := 0) rfl (by kernel_rfl) (.head _) Try.underlying32 rfl (by kernel_rfl) (by first | (simp [Value.cells]; done) | exact Nat.le_of_ble_eq_true rfl) (by kernel_rfl)) ?_
  refine lv (v := .bool (rightX exCs [(⟨0, [0, 1], rp, rc⟩ : Cov)])) rfl rfl (yb_call (f := 10) (args := #[.agg (shC (.slice pcS exCs.length ccS) (.slice poS ([(⟨0, [0, 1], rp, rc⟩ : Cov)].length) coS) tl0).toArray]) (fun _ => by kernel_rfl) fun W hW => Right_any exCs pcS ccS (by decide) [(⟨0, [0, 1], rp, rc⟩ : Cov)] poS coS (Nat.le_of_ble_eq_true rfl) tl0 W ((RL.base HCS.out) _ (hW.sub (fun _ h => by cases h))) ((RL.base HOS.out) _ (hW.sub (fun _ h => by cases h))) (HRS.out.keep hW.1) lrS (HPS.out.keep hW.1) lpS) ?_
  refine lm (v := .bool (rightX exCs [(⟨0, [0, 1], rp, rc⟩ : Cov)])) rfl rfl ?_
  cases h1 : (rightX exCs [(⟨0, [0, 1], rp, rc⟩ : Cov)]) with
  | false =>
    exact absurd (show (rightX exCs [(⟨0, [0, 1], rp, rc⟩ : Cov)]) = true from by rfl) (by rw [h1]; decide)
  | true =>
    refine lm (v := .int .i64 (findN (fst (isAt 1 1 true) exCs))) rfl rfl ?_
    refine lp (v := .bool (decide ((findN (fst (isAt 1 1 true) exCs)) = 4))) rfl rfl (run_bin rfl (vx := (.int .i64 (findN (fst (isAt 1 1 true) exCs)))) (vy := (.int .i64 4)) (by kernel_rfl) (by kernel_rfl) fun w => bi_eql rfl w) ?_
    refine lm (v := .bool (decide ((findN (fst (isAt 1 1 true) exCs)) = 4))) rfl rfl ?_
    refine lm (v := .bool (decide ((findN (fst (isAt 1 1 true) exCs)) = 4))) rfl rfl ?_
    cases hd2 : (decide ((findN (fst (isAt 1 1 true) exCs)) = 4)) with
    | false =>
      have h2 : ¬ ((findN (fst (isAt 1 1 true) exCs)) = 4) := of_decide_eq_false hd2
      clear hd2
      exact absurd (show (findN (fst (isAt 1 1 true) exCs)) = 4 from by rfl) h2
    | true =>
      have h2 : (findN (fst (isAt 1 1 true) exCs)) = 4 := of_decide_eq_true hd2
      clear hd2
      refine lm (v := .bool ((fst (isAt 1 1 true) exCs).isSome)) rfl rfl ?_
      refine lm (v := .bool ((fst (isAt 1 1 true) exCs).isSome)) rfl rfl ?_
      refine lm (v := .bool ((fst (isAt 1 1 true) exCs).isSome)) rfl rfl ?_
      cases h3 : ((fst (isAt 1 1 true) exCs).isSome) with
      | false =>
        exact absurd (show ((fst (isAt 1 1 true) exCs).isSome) = true from by rfl) (by rw [h3]; decide)
      | true =>
        refine lm (v := .int .i64 (apN exCs 0 4)) rfl rfl ?_
        refine lp (v := .bool (decide ((apN exCs 0 4) = 1))) rfl rfl (run_bin rfl (vx := (.int .i64 (apN exCs 0 4))) (vy := (.int .i64 1)) (by kernel_rfl) (by kernel_rfl) fun w => bi_eql rfl w) ?_
        refine lm (v := .bool (decide ((apN exCs 0 4) = 1))) rfl rfl ?_
        refine lm (v := .bool (decide ((apN exCs 0 4) = 1))) rfl rfl ?_
        cases hd4 : (decide ((apN exCs 0 4) = 1)) with
        | false =>
          have h4 : ¬ ((apN exCs 0 4) = 1) := of_decide_eq_false hd4
          clear hd4
          exact absurd (show (apN exCs 0 4) = 1 from by rfl) h4
        | true =>
          have h4 : (apN exCs 0 4) = 1 := of_decide_eq_true hd4
          clear hd4
          refine lm (v := .bool (apB exCs 0 4)) rfl rfl ?_
          refine lm (v := .bool (apB exCs 0 4)) rfl rfl ?_
          refine lm (v := .bool (apB exCs 0 4)) rfl rfl ?_
          cases h5 : (apB exCs 0 4) with
          | false =>
            exact absurd (show (apB exCs 0 4) = true from by rfl) (by rw [h5]; decide)
          | true =>
            refine lv (v := .agg (shC (.slice pcS exCs.length ccS) (.slice poS ([(⟨0, [0, 1], rp, rc⟩ : Cov)].length) coS) tl0).toArray) rfl rfl (yb_load (n := 13) (off := 0) rfl (by kernel_rfl) (.head _) Try.underlying32 rfl (by kernel_rfl) (by first | (simp [Value.cells]; done) | exact Nat.le_of_ble_eq_true rfl) (by kernel_rfl)) ?_
            refine lv (v := .int .i64 (fiN (covOf exCs [(⟨0, [0, 1], rp, rc⟩ : Cov)] 0))) rfl rfl (yb_call (f := 12) (args := #[.agg (shC (.slice pcS exCs.length ccS) (.slice poS ([(⟨0, [0, 1], rp, rc⟩ : Cov)].length) coS) tl0).toArray, .int .i64 0]) (fun _ => by kernel_rfl) fun W hW => CoverOf_any exCs pcS ccS (by decide) [(⟨0, [0, 1], rp, rc⟩ : Cov)] poS coS (Nat.le_of_ble_eq_true rfl) tl0 0 W ((RL.base HCS.out) _ (hW.sub (fun _ h => by cases h))) ((RL.base HOS.out) _ (hW.sub (fun _ h => by cases h))) (HRS.out.keep hW.1) lrS) ?_
            refine lp (v := .bool (decide ((fiN (covOf exCs [(⟨0, [0, 1], rp, rc⟩ : Cov)] 0)) = 0))) rfl rfl (run_bin rfl (vx := (.int .i64 (fiN (covOf exCs [(⟨0, [0, 1], rp, rc⟩ : Cov)] 0)))) (vy := (.int .i64 0)) (by kernel_rfl) (by kernel_rfl) fun w => bi_eql rfl w) ?_
            refine lm (v := .bool (decide ((fiN (covOf exCs [(⟨0, [0, 1], rp, rc⟩ : Cov)] 0)) = 0))) rfl rfl ?_
            refine lm (v := .bool (decide ((fiN (covOf exCs [(⟨0, [0, 1], rp, rc⟩ : Cov)] 0)) = 0))) rfl rfl ?_
            cases hd6 : (decide ((fiN (covOf exCs [(⟨0, [0, 1], rp, rc⟩ : Cov)] 0)) = 0)) with
            | false =>
              have h6 : ¬ ((fiN (covOf exCs [(⟨0, [0, 1], rp, rc⟩ : Cov)] 0)) = 0) := of_decide_eq_false hd6
              clear hd6
              exact absurd (show (fiN (covOf exCs [(⟨0, [0, 1], rp, rc⟩ : Cov)] 0)) = 0 from by rfl) h6
            | true =>
              have h6 : (fiN (covOf exCs [(⟨0, [0, 1], rp, rc⟩ : Cov)] 0)) = 0 := of_decide_eq_true hd6
              clear hd6
              refine lv (v := .agg (shC (.slice pcS exCs.length ccS) (.slice poS ([(⟨0, [0, 1], rp, rc⟩ : Cov)].length) coS) tl0).toArray) rfl rfl (yb_load (n := 13) (off := 0) rfl (by kernel_rfl) (.head _) Try.underlying32 rfl (by kernel_rfl) (by first | (simp [Value.cells]; done) | exact Nat.le_of_ble_eq_true rfl) (by kernel_rfl)) ?_
              refine lv (v := .int .i64 (fiN (covOf exCs [(⟨0, [0, 1], rp, rc⟩ : Cov)] 3))) rfl rfl (yb_call (f := 12) (args := #[.agg (shC (.slice pcS exCs.length ccS) (.slice poS ([(⟨0, [0, 1], rp, rc⟩ : Cov)].length) coS) tl0).toArray, .int .i64 3]) (fun _ => by kernel_rfl) fun W hW => CoverOf_any exCs pcS ccS (by decide) [(⟨0, [0, 1], rp, rc⟩ : Cov)] poS coS (Nat.le_of_ble_eq_true rfl) tl0 3 W ((RL.base HCS.out) _ (hW.sub (fun _ h => by cases h))) ((RL.base HOS.out) _ (hW.sub (fun _ h => by cases h))) (HRS.out.keep hW.1) lrS) ?_
              refine lp (v := .bool (decide ((fiN (covOf exCs [(⟨0, [0, 1], rp, rc⟩ : Cov)] 3)) = 0))) rfl rfl (run_bin rfl (vx := (.int .i64 (fiN (covOf exCs [(⟨0, [0, 1], rp, rc⟩ : Cov)] 3)))) (vy := (.int .i64 0)) (by kernel_rfl) (by kernel_rfl) fun w => bi_eql rfl w) ?_
              refine lm (v := .bool (decide ((fiN (covOf exCs [(⟨0, [0, 1], rp, rc⟩ : Cov)] 3)) = 0))) rfl rfl ?_
              refine lm (v := .bool (decide ((fiN (covOf exCs [(⟨0, [0, 1], rp, rc⟩ : Cov)] 3)) = 0))) rfl rfl ?_
              cases hd7 : (decide ((fiN (covOf exCs [(⟨0, [0, 1], rp, rc⟩ : Cov)] 3)) = 0)) with
              | false =>
                have h7 : ¬ ((fiN (covOf exCs [(⟨0, [0, 1], rp, rc⟩ : Cov)] 3)) = 0) := of_decide_eq_false hd7
                clear hd7
                exact absurd (show (fiN (covOf exCs [(⟨0, [0, 1], rp, rc⟩ : Cov)] 3)) = 0 from by rfl) h7
              | true =>
                have h7 : (fiN (covOf exCs [(⟨0, [0, 1], rp, rc⟩ : Cov)] 3)) = 0 := of_decide_eq_true hd7
                clear hd7
                refine lv (v := .agg (shC (.slice pcS exCs.length ccS) (.slice poS ([(⟨0, [0, 1], rp, rc⟩ : Cov)].length) coS) tl0).toArray) rfl rfl (yb_load (n := 13) (off := 0) rfl (by kernel_rfl) (.head _) Try.underlying32 rfl (by kernel_rfl) (by first | (simp [Value.cells]; done) | exact Nat.le_of_ble_eq_true rfl) (by kernel_rfl)) ?_
                refine lv (v := .int .i64 (fiN (covOf exCs [(⟨0, [0, 1], rp, rc⟩ : Cov)] 4))) rfl rfl (yb_call (f := 12) (args := #[.agg (shC (.slice pcS exCs.length ccS) (.slice poS ([(⟨0, [0, 1], rp, rc⟩ : Cov)].length) coS) tl0).toArray, .int .i64 4]) (fun _ => by kernel_rfl) fun W hW => CoverOf_any exCs pcS ccS (by decide) [(⟨0, [0, 1], rp, rc⟩ : Cov)] poS coS (Nat.le_of_ble_eq_true rfl) tl0 4 W ((RL.base HCS.out) _ (hW.sub (fun _ h => by cases h))) ((RL.base HOS.out) _ (hW.sub (fun _ h => by cases h))) (HRS.out.keep hW.1) lrS) ?_
                refine lp (v := .bool (decide ((fiN (covOf exCs [(⟨0, [0, 1], rp, rc⟩ : Cov)] 4)) = (-1)))) rfl rfl (run_bin rfl (vx := (.int .i64 (fiN (covOf exCs [(⟨0, [0, 1], rp, rc⟩ : Cov)] 4)))) (vy := (.int .i64 (-1))) (by kernel_rfl) (by kernel_rfl) fun w => bi_eql rfl w) ?_
                refine lm (v := .bool (decide ((fiN (covOf exCs [(⟨0, [0, 1], rp, rc⟩ : Cov)] 4)) = (-1)))) rfl rfl ?_
                refine lm (v := .bool (decide ((fiN (covOf exCs [(⟨0, [0, 1], rp, rc⟩ : Cov)] 4)) = (-1)))) rfl rfl ?_
                cases hd8 : (decide ((fiN (covOf exCs [(⟨0, [0, 1], rp, rc⟩ : Cov)] 4)) = (-1))) with
                | false =>
                  have h8 : ¬ ((fiN (covOf exCs [(⟨0, [0, 1], rp, rc⟩ : Cov)] 4)) = (-1)) := of_decide_eq_false hd8
                  clear hd8
                  exact absurd (show (fiN (covOf exCs [(⟨0, [0, 1], rp, rc⟩ : Cov)] 4)) = (-1) from by rfl) h8
                | true =>
                  have h8 : (fiN (covOf exCs [(⟨0, [0, 1], rp, rc⟩ : Cov)] 4)) = (-1) := of_decide_eq_true hd8
                  clear hd8
                  refine lv (v := .agg (shC (.slice pcS exCs.length ccS) (.slice poS ([(⟨0, [0, 1], rp, rc⟩ : Cov)].length) coS) tl0).toArray) rfl rfl (yb_load (n := 13) (off := 0) rfl (by kernel_rfl) (.head _) Try.underlying32 rfl (by kernel_rfl) (by first | (simp [Value.cells]; done) | exact Nat.le_of_ble_eq_true rfl) (by kernel_rfl)) ?_
                  refine wpL_c (f := 14) (args := #[.agg (shC (.slice pcS exCs.length ccS) (.slice poS ([(⟨0, [0, 1], rp, rc⟩ : Cov)].length) coS) tl0).toArray, .int .i64 0]) (OutRL inC WB [(g1, .cells (shC (.slice pcS exCs.length ccS) (.slice poS ([(⟨0, [0, 1], rp, rc⟩ : Cov)].length) coS) tl0).toArray 32 (0, 0))] (alongX exCs [(⟨0, [0, 1], rp, rc⟩ : Cov)] 0 false)) rfl (by kernel_rfl) (fun _ => (by kernel_rfl)) (fun W hW => calls_r hW (Under_any exCs pcS ccS (by decide) [(⟨0, [0, 1], rp, rc⟩ : Cov)] poS coS (Nat.le_of_ble_eq_true rfl) tl0 0 W ((RL.base HCS.out) _ (hW.sub (fun _ h => by cases h))) ((RL.base HOS.out) _ (hW.sub (fun _ h => by cases h))) (HRS.out.keep hW.1) lrS)) (fun _ => by simp only [List.setIfInBounds_toArray, List.set_cons_succ, List.set_cons_zero] <;> rfl) ?_
                  rintro _ _ ⟨p2, c2, Kl2, rfl, n2, R2, N2, rfl⟩
                  obtain dj3_0 : Dk g1 Kl2 := by simpa only [dj_app_l, dj_app_r, dj_cons_l, dj_cons_r, dj_nil_l, dj_nil_r, dk_app, dk_cons, dk_nil, and_true, true_and, and_assoc] using (show Dj [(g1, .cells (shC (.slice pcS exCs.length ccS) (.slice poS ([(⟨0, [0, 1], rp, rc⟩ : Cov)].length) coS) tl0).toArray 32 (0, 0))] Kl2 from N2)
                  refine wpL_newg (fun g => .slice (some ⟨g, 0, none⟩) 2 2) (obi := .cells #[.int .i64 0, .int .i64 1] 3 (0, 0)) rfl (by kernel_rfl) (fun _ => by kernel_rfl) (fun _ => by simp only [List.setIfInBounds_toArray, List.set_cons_succ, List.set_cons_zero] <;> rfl) fun g4 Bg4 Fg4 => ?_
                  obtain ⟨dj5_0, dj5_1⟩ : g1 ≠ g4 ∧ Dk g4 Kl2 := by simpa only [dj_app_l, dj_app_r, dj_cons_l, dj_cons_r, dj_nil_l, dj_nil_r, dk_app, dk_cons, dk_nil, and_true, true_and, and_assoc] using (show Dk g4 ((g1, .cells (shC (.slice pcS exCs.length ccS) (.slice poS ([(⟨0, [0, 1], rp, rc⟩ : Cov)].length) coS) tl0).toArray 32 (0, 0)) :: Kl2) from Fg4)
                  refine lv (v := .bool (decide ((alongX exCs [(⟨0, [0, 1], rp, rc⟩ : Cov)] 0 false) = [0, 1]))) rfl rfl (yb_call (f := 16) (args := #[.slice p2 ((alongX exCs [(⟨0, [0, 1], rp, rc⟩ : Cov)] 0 false).length) c2, .slice (some ⟨g4, 0, none⟩) 2 2]) (fun _ => by kernel_rfl) fun W hW => SameInts_any (alongX exCs [(⟨0, [0, 1], rp, rc⟩ : Cov)] 0 false) [0, 1] p2 (some ⟨g4, 0, none⟩) c2 2 (Nat.le_of_ble_eq_true rfl) W (R2 _ (hW.sub (fun p hp => by simp only [List.mem_cons, List.mem_append, List.nil_append, List.not_mem_nil, or_assoc, or_false, false_or, hp, true_or, or_true]))) (blk_slv hW (.head _))) ?_
                  refine lm (v := .bool (decide ((alongX exCs [(⟨0, [0, 1], rp, rc⟩ : Cov)] 0 false) = [0, 1]))) rfl rfl ?_
                  refine lm (v := .bool (decide ((alongX exCs [(⟨0, [0, 1], rp, rc⟩ : Cov)] 0 false) = [0, 1]))) rfl rfl ?_
                  cases hd9 : (decide ((alongX exCs [(⟨0, [0, 1], rp, rc⟩ : Cov)] 0 false) = [0, 1])) with
                  | false =>
                    have h9 : ¬ ((alongX exCs [(⟨0, [0, 1], rp, rc⟩ : Cov)] 0 false) = [0, 1]) := of_decide_eq_false hd9
                    clear hd9
                    exact absurd (show (alongX exCs [(⟨0, [0, 1], rp, rc⟩ : Cov)] 0 false) = [0, 1] from by rfl) h9
                  | true =>
                    have h9 : (alongX exCs [(⟨0, [0, 1], rp, rc⟩ : Cov)] 0 false) = [0, 1] := of_decide_eq_true hd9
                    clear hd9
                    refine lv (v := .agg (shC (.slice pcS exCs.length ccS) (.slice poS ([(⟨0, [0, 1], rp, rc⟩ : Cov)].length) coS) tl0).toArray) rfl rfl (yb_load (n := 13) (off := 0) rfl (by kernel_rfl) (.tail _ (.head _)) Try.underlying32 rfl (by kernel_rfl) (by first | (simp [Value.cells]; done) | exact Nat.le_of_ble_eq_true rfl) (by kernel_rfl)) ?_
                    refine wpL_c (f := 15) (args := #[.agg (shC (.slice pcS exCs.length ccS) (.slice poS ([(⟨0, [0, 1], rp, rc⟩ : Cov)].length) coS) tl0).toArray, .int .i64 0]) (OutRL inC WB ((g4, .cells #[.int .i64 0, .int .i64 1] 3 (0, 0)) :: (g1, .cells (shC (.slice pcS exCs.length ccS) (.slice poS ([(⟨0, [0, 1], rp, rc⟩ : Cov)].length) coS) tl0).toArray 32 (0, 0)) :: Kl2) (alongX exCs [(⟨0, [0, 1], rp, rc⟩ : Cov)] 0 true)) rfl (by kernel_rfl) (fun _ => (by kernel_rfl)) (fun W hW => calls_r hW (Upon_any exCs pcS ccS (by decide) [(⟨0, [0, 1], rp, rc⟩ : Cov)] poS coS (Nat.le_of_ble_eq_true rfl) tl0 0 W ((RL.base HCS.out) _ (hW.sub (fun _ h => by cases h))) ((RL.base HOS.out) _ (hW.sub (fun _ h => by cases h))) (HRS.out.keep hW.1) lrS)) (fun _ => by simp only [List.setIfInBounds_toArray, List.set_cons_succ, List.set_cons_zero] <;> rfl) ?_
                    rintro _ _ ⟨p6, c6, Kl6, rfl, n6, R6, N6, rfl⟩
                    obtain ⟨dj7_0, dj7_1, dj7_2⟩ : Dk g4 Kl6 ∧ Dk g1 Kl6 ∧ Dj Kl2 Kl6 := by simpa only [dj_app_l, dj_app_r, dj_cons_l, dj_cons_r, dj_nil_l, dj_nil_r, dk_app, dk_cons, dk_nil, and_true, true_and, and_assoc] using (show Dj ((g4, .cells #[.int .i64 0, .int .i64 1] 3 (0, 0)) :: (g1, .cells (shC (.slice pcS exCs.length ccS) (.slice poS ([(⟨0, [0, 1], rp, rc⟩ : Cov)].length) coS) tl0).toArray 32 (0, 0)) :: Kl2) Kl6 from N6)
                    refine wpL_sub (K2 := ((g4, .cells #[.int .i64 0, .int .i64 1] 3 (0, 0)) :: (g1, .cells (shC (.slice pcS exCs.length ccS) (.slice poS ([(⟨0, [0, 1], rp, rc⟩ : Cov)].length) coS) tl0).toArray 32 (0, 0)) :: (Kl2 ++ Kl6))) (fun p hp => by simp only [List.mem_cons, List.mem_append, or_assoc] at hp ⊢; exact hp) ?_
                    refine wpL_newg (fun g => .slice (some ⟨g, 0, none⟩) 2 2) (obi := .cells #[.int .i64 2, .int .i64 3] 3 (0, 0)) rfl (by kernel_rfl) (fun _ => by kernel_rfl) (fun _ => by simp only [List.setIfInBounds_toArray, List.set_cons_succ, List.set_cons_zero] <;> rfl) fun g8 Bg8 Fg8 => ?_
                    obtain ⟨dj9_0, dj9_1, dj9_2, dj9_3⟩ : g4 ≠ g8 ∧ g1 ≠ g8 ∧ Dk g8 Kl2 ∧ Dk g8 Kl6 := by simpa only [dj_app_l, dj_app_r, dj_cons_l, dj_cons_r, dj_nil_l, dj_nil_r, dk_app, dk_cons, dk_nil, and_true, true_and, and_assoc] using (show Dk g8 ((g4, .cells #[.int .i64 0, .int .i64 1] 3 (0, 0)) :: (g1, .cells (shC (.slice pcS exCs.length ccS) (.slice poS ([(⟨0, [0, 1], rp, rc⟩ : Cov)].length) coS) tl0).toArray 32 (0, 0)) :: (Kl2 ++ Kl6)) from Fg8)
                    refine lv (v := .bool (decide ((alongX exCs [(⟨0, [0, 1], rp, rc⟩ : Cov)] 0 true) = [2, 3]))) rfl rfl (yb_call (f := 16) (args := #[.slice p6 ((alongX exCs [(⟨0, [0, 1], rp, rc⟩ : Cov)] 0 true).length) c6, .slice (some ⟨g8, 0, none⟩) 2 2]) (fun _ => by kernel_rfl) fun W hW => SameInts_any (alongX exCs [(⟨0, [0, 1], rp, rc⟩ : Cov)] 0 true) [2, 3] p6 (some ⟨g8, 0, none⟩) c6 2 (Nat.le_of_ble_eq_true rfl) W (R6 _ (hW.sub (fun p hp => by simp only [List.mem_cons, List.mem_append, List.nil_append, List.not_mem_nil, or_assoc, or_false, false_or, hp, true_or, or_true]))) (blk_slv hW (.head _))) ?_
                    refine lm (v := .bool (decide ((alongX exCs [(⟨0, [0, 1], rp, rc⟩ : Cov)] 0 true) = [2, 3]))) rfl rfl ?_
                    refine lm (v := .bool (decide ((alongX exCs [(⟨0, [0, 1], rp, rc⟩ : Cov)] 0 true) = [2, 3]))) rfl rfl ?_
                    cases hd10 : (decide ((alongX exCs [(⟨0, [0, 1], rp, rc⟩ : Cov)] 0 true) = [2, 3])) with
                    | false =>
                      have h10 : ¬ ((alongX exCs [(⟨0, [0, 1], rp, rc⟩ : Cov)] 0 true) = [2, 3]) := of_decide_eq_false hd10
                      clear hd10
                      exact absurd (show (alongX exCs [(⟨0, [0, 1], rp, rc⟩ : Cov)] 0 true) = [2, 3] from by rfl) h10
                    | true =>
                      have h10 : (alongX exCs [(⟨0, [0, 1], rp, rc⟩ : Cov)] 0 true) = [2, 3] := of_decide_eq_true hd10
                      clear hd10
                      refine lv (v := .agg (shC (.slice pcS exCs.length ccS) (.slice poS ([(⟨0, [0, 1], rp, rc⟩ : Cov)].length) coS) tl0).toArray) rfl rfl (yb_load (n := 13) (off := 0) rfl (by kernel_rfl) (.tail _ (.tail _ (.head _))) Try.underlying32 rfl (by kernel_rfl) (by first | (simp [Value.cells]; done) | exact Nat.le_of_ble_eq_true rfl) (by kernel_rfl)) ?_
                      refine wpL_c (f := 25) (args := #[.agg (shC (.slice pcS exCs.length ccS) (.slice poS ([(⟨0, [0, 1], rp, rc⟩ : Cov)].length) coS) tl0).toArray, .int .i64 0]) (OutRL inC WB ((g8, .cells #[.int .i64 2, .int .i64 3] 3 (0, 0)) :: (g4, .cells #[.int .i64 0, .int .i64 1] 3 (0, 0)) :: (g1, .cells (shC (.slice pcS exCs.length ccS) (.slice poS ([(⟨0, [0, 1], rp, rc⟩ : Cov)].length) coS) tl0).toArray 32 (0, 0)) :: (Kl2 ++ Kl6)) (besideX exCs 0)) rfl (by kernel_rfl) (fun _ => (by kernel_rfl)) (fun W hW => calls_r hW (Beside_any exCs pcS ccS (by decide) [(⟨0, [0, 1], rp, rc⟩ : Cov)] poS coS (Nat.le_of_ble_eq_true rfl) tl0 0 W ((RL.base HCS.out) _ (hW.sub (fun _ h => by cases h))) ((RL.base HOS.out) _ (hW.sub (fun _ h => by cases h))))) (fun _ => by simp only [List.setIfInBounds_toArray, List.set_cons_succ, List.set_cons_zero] <;> rfl) ?_
                      rintro _ _ ⟨p10, c10, Kl10, rfl, n10, R10, N10, rfl⟩
                      obtain ⟨dj11_0, dj11_1, dj11_2, dj11_3, dj11_4⟩ : Dk g8 Kl10 ∧ Dk g4 Kl10 ∧ Dk g1 Kl10 ∧ Dj Kl2 Kl10 ∧ Dj Kl6 Kl10 := by simpa only [dj_app_l, dj_app_r, dj_cons_l, dj_cons_r, dj_nil_l, dj_nil_r, dk_app, dk_cons, dk_nil, and_true, true_and, and_assoc] using (show Dj ((g8, .cells #[.int .i64 2, .int .i64 3] 3 (0, 0)) :: (g4, .cells #[.int .i64 0, .int .i64 1] 3 (0, 0)) :: (g1, .cells (shC (.slice pcS exCs.length ccS) (.slice poS ([(⟨0, [0, 1], rp, rc⟩ : Cov)].length) coS) tl0).toArray 32 (0, 0)) :: (Kl2 ++ Kl6)) Kl10 from N10)
                      refine wpL_sub (K2 := ((g8, .cells #[.int .i64 2, .int .i64 3] 3 (0, 0)) :: (g4, .cells #[.int .i64 0, .int .i64 1] 3 (0, 0)) :: (g1, .cells (shC (.slice pcS exCs.length ccS) (.slice poS ([(⟨0, [0, 1], rp, rc⟩ : Cov)].length) coS) tl0).toArray 32 (0, 0)) :: (Kl2 ++ (Kl6 ++ Kl10)))) (fun p hp => by simp only [List.mem_cons, List.mem_append, or_assoc] at hp ⊢; exact hp) ?_
                      refine wpL_newg (fun g => .slice (some ⟨g, 0, none⟩) 1 1) (obi := .cells #[.int .i64 1] 3 (0, 0)) rfl (by kernel_rfl) (fun _ => by kernel_rfl) (fun _ => by simp only [List.setIfInBounds_toArray, List.set_cons_succ, List.set_cons_zero] <;> rfl) fun g12 Bg12 Fg12 => ?_
                      obtain ⟨dj13_0, dj13_1, dj13_2, dj13_3, dj13_4, dj13_5⟩ : g8 ≠ g12 ∧ g4 ≠ g12 ∧ g1 ≠ g12 ∧ Dk g12 Kl2 ∧ Dk g12 Kl6 ∧ Dk g12 Kl10 := by simpa only [dj_app_l, dj_app_r, dj_cons_l, dj_cons_r, dj_nil_l, dj_nil_r, dk_app, dk_cons, dk_nil, and_true, true_and, and_assoc] using (show Dk g12 ((g8, .cells #[.int .i64 2, .int .i64 3] 3 (0, 0)) :: (g4, .cells #[.int .i64 0, .int .i64 1] 3 (0, 0)) :: (g1, .cells (shC (.slice pcS exCs.length ccS) (.slice poS ([(⟨0, [0, 1], rp, rc⟩ : Cov)].length) coS) tl0).toArray 32 (0, 0)) :: (Kl2 ++ (Kl6 ++ Kl10))) from Fg12)
                      refine lv (v := .bool (decide ((besideX exCs 0) = [1]))) rfl rfl (yb_call (f := 16) (args := #[.slice p10 ((besideX exCs 0).length) c10, .slice (some ⟨g12, 0, none⟩) 1 1]) (fun _ => by kernel_rfl) fun W hW => SameInts_any (besideX exCs 0) [1] p10 (some ⟨g12, 0, none⟩) c10 1 (Nat.le_of_ble_eq_true rfl) W (R10 _ (hW.sub (fun p hp => by simp only [List.mem_cons, List.mem_append, List.nil_append, List.not_mem_nil, or_assoc, or_false, false_or, hp, true_or, or_true]))) (blk_slv hW (.head _))) ?_
                      refine lm (v := .bool (decide ((besideX exCs 0) = [1]))) rfl rfl ?_
                      refine lm (v := .bool (decide ((besideX exCs 0) = [1]))) rfl rfl ?_
                      cases hd11 : (decide ((besideX exCs 0) = [1])) with
                      | false =>
                        have h11 : ¬ ((besideX exCs 0) = [1]) := of_decide_eq_false hd11
                        clear hd11
                        exact absurd (show (besideX exCs 0) = [1] from by rfl) h11
                      | true =>
                        have h11 : (besideX exCs 0) = [1] := of_decide_eq_true hd11
                        clear hd11
                        refine lv (v := .agg (shC (.slice pcS exCs.length ccS) (.slice poS ([(⟨0, [0, 1], rp, rc⟩ : Cov)].length) coS) tl0).toArray) rfl rfl (yb_load (n := 13) (off := 0) rfl (by kernel_rfl) (.tail _ (.tail _ (.tail _ (.head _)))) Try.underlying32 rfl (by kernel_rfl) (by first | (simp [Value.cells]; done) | exact Nat.le_of_ble_eq_true rfl) (by kernel_rfl)) ?_
                        refine lv (v := .int .i64 (tallX exCs)) rfl rfl (yb_call (f := 18) (args := #[.agg (shC (.slice pcS exCs.length ccS) (.slice poS ([(⟨0, [0, 1], rp, rc⟩ : Cov)].length) coS) tl0).toArray]) (fun _ => by kernel_rfl) fun W hW => Tallest_any exCs pcS ccS (by decide) [(⟨0, [0, 1], rp, rc⟩ : Cov)] poS coS (Nat.le_of_ble_eq_true rfl) tl0 W ((RL.base HCS.out) _ (hW.sub (fun _ h => by cases h))) ((RL.base HOS.out) _ (hW.sub (fun _ h => by cases h)))) ?_
                        refine lp (v := .bool (decide ((tallX exCs) = 4))) rfl rfl (run_bin rfl (vx := (.int .i64 (tallX exCs))) (vy := (.int .i64 4)) (by kernel_rfl) (by kernel_rfl) fun w => bi_eql rfl w) ?_
                        refine lm (v := .bool (decide ((tallX exCs) = 4))) rfl rfl ?_
                        refine lm (v := .bool (decide ((tallX exCs) = 4))) rfl rfl ?_
                        cases hd12 : (decide ((tallX exCs) = 4)) with
                        | false =>
                          have h12 : ¬ ((tallX exCs) = 4) := of_decide_eq_false hd12
                          clear hd12
                          exact absurd (show (tallX exCs) = 4 from by rfl) h12
                        | true =>
                          have h12 : (tallX exCs) = 4 := of_decide_eq_true hd12
                          clear hd12
                          refine lv (v := .agg (shC (.slice pcS exCs.length ccS) (.slice poS ([(⟨0, [0, 1], rp, rc⟩ : Cov)].length) coS) tl0).toArray) rfl rfl (yb_load (n := 13) (off := 0) rfl (by kernel_rfl) (.tail _ (.tail _ (.tail _ (.head _)))) Try.underlying32 rfl (by kernel_rfl) (by first | (simp [Value.cells]; done) | exact Nat.le_of_ble_eq_true rfl) (by kernel_rfl)) ?_
                          refine lv (v := .int .i64 (placesX exCs)) rfl rfl (yb_call (f := 20) (args := #[.agg (shC (.slice pcS exCs.length ccS) (.slice poS ([(⟨0, [0, 1], rp, rc⟩ : Cov)].length) coS) tl0).toArray]) (fun _ => by kernel_rfl) fun W hW => Places_any exCs pcS ccS (by decide) [(⟨0, [0, 1], rp, rc⟩ : Cov)] poS coS (Nat.le_of_ble_eq_true rfl) tl0 W ((RL.base HCS.out) _ (hW.sub (fun _ h => by cases h))) ((RL.base HOS.out) _ (hW.sub (fun _ h => by cases h)))) ?_
                          refine lp (v := .bool (decide ((placesX exCs) = 28))) rfl rfl (run_bin rfl (vx := (.int .i64 (placesX exCs))) (vy := (.int .i64 28)) (by kernel_rfl) (by kernel_rfl) fun w => bi_eql rfl w) ?_
                          refine lm (v := .bool (decide ((placesX exCs) = 28))) rfl rfl ?_
                          refine lm (v := .bool (decide ((placesX exCs) = 28))) rfl rfl ?_
                          refine wpL_done (fun W5 hW5 => ?_)
                          refine (show Code.wp _ _ _ _ _ from ?_)
                          refine wp_ret ?_
                          try simp only [inBlock_ret, then_ret]
                          refine bodyPost_ret (v := .bool (decide ((placesX exCs) = 28))) ?_ rfl ?_
                          · kernel_rfl
                          · exact ⟨rfl, (hWB.1.trans (hW5.1.mono hWB.1.size))⟩
end Go.Proofs.Ythpooalhibedpaa
/- Ships that are built from places and bits: plain data. -/
namespace Go.Proofs.Ythpooalhibedpaa
open Go Go.RowKit Tw
structure Pl where
  bay : Nat
  row : Nat
  tiers : Nat
  deck : Bool
section
variable {cs : List Col} {p : Pl} {d : Bool}
end
section
variable {n i : Nat}
end
theorem own_app {α : Type} {cells : α → List Value} {sz : Nat} {W0 : Base} {E : TypeId} {v : Value} {n : Nat} {l' : List α} {xs : List Value} {K : List (Nat × Obj)} (h : OwnL W0 E sz v n xs K) (e : xs = l'.flatMap cells) (e2 : n = l'.length) : OwnL W0 E sz v l'.length (l'.flatMap cells) K := by
  subst e e2; exact h
theorem el_col : Elem Try.prog 22 49 12 112 (.agg #[.int .i64 0, .int .i64 0, .bool false, .int .i64 0, .int .i64 0, .int .i64 0, .int .i64 0, .int .i64 0, .slice none 0 0, .int .i64 0, .int .i64 0, .int .i64 0]) := Elem.mk' Try.underlying22 (by kernel_rfl) rfl
theorem el_cov : Elem Try.prog 23 51 2 32 (.agg #[.int .i64 0, .slice none 0 0]) := Elem.mk' Try.underlying23 (by kernel_rfl) rfl
end Go.Proofs.Ythpooalhibedpaa
/- What ships that are built are: plain facts. -/
namespace Go.Proofs.Ythpooalhibedpaa
open Go Go.RowKit Tw
section
variable {cs : List Col}
theorem place_eq {a b : Col} (h1 : a.bay = b.bay) (h2 : a.row = b.row) (h3 : a.deck = b.deck) : placeX a = placeX b := by unfold placeX; rw [h1, h2, h3]
theorem cols_iff {cs : List Col} : ∀ {L : List I3}, colsF L cs = true ↔ (∀ c ∈ cs, colX c = true) ∧ (cs.map placeX).Nodup ∧ ∀ c ∈ cs, placeX c ∉ L := by
  induction cs with
  | nil => intro L; simp [colsF]
  | cons c cs ih =>
    intro L
    show (colX c && (!decide (placeX c ∈ L) && colsF (L ++ [placeX c]) cs)) = true ↔ _
    simp only [Bool.and_eq_true, Bool.not_eq_true', decide_eq_false_iff_not, ih, List.mem_cons, forall_eq_or_imp, List.map_cons, List.nodup_cons, List.mem_append, List.mem_map, List.not_mem_nil, or_false, not_or]
    constructor
    · rintro ⟨h1, h2, h3, h4, h5⟩
      exact ⟨⟨h1, h3⟩, ⟨fun ⟨d, hd, he⟩ => (h5 d hd).2 he, h4⟩, h2, fun d hd => (h5 d hd).1⟩
    · rintro ⟨⟨h1, h3⟩, ⟨h6, h4⟩, h2, h5⟩
      exact ⟨h1, h2, h3, h4, fun d hd => ⟨h5 d hd, fun he => h6 ⟨d, hd, he⟩⟩⟩
end
def keysO (os : List (Int × List Int)) : List I2 := os.flatMap fun o => o.2.map fun r => (o.1, r)
def ovP (o : Int × List Int) : Bool := decide (0 ≤ o.1) && (decide (o.1 ≤ 39) && (decide (0 < o.2.length) && incX o.2 30))
theorem fresh_iff {bay : Int} {l : List Int} : ∀ {L : List I2}, freshF bay L l = true ↔ l.Nodup ∧ ∀ r ∈ l, (bay, r) ∉ L := by
  induction l with
  | nil => intro L; simp [freshF]
  | cons r l ih =>
    intro L
    show (!decide ((bay, r) ∈ L) && freshF bay (L ++ [(bay, r)]) l) = true ↔ _
    simp only [Bool.and_eq_true, Bool.not_eq_true', decide_eq_false_iff_not, ih, List.mem_cons, forall_eq_or_imp, List.nodup_cons, List.mem_append, List.not_mem_nil, or_false, not_or, Prod.mk.injEq, true_and]
    constructor
    · rintro ⟨h1, h2, h3⟩; exact ⟨⟨fun hr => (h3 r hr).2 rfl, h2⟩, h1, fun x hx => (h3 x hx).1⟩
    · rintro ⟨⟨h4, h2⟩, h1, h3⟩; exact ⟨h1, h2, fun x hx => ⟨h3 x hx, fun e => h4 (e ▸ hx)⟩⟩
theorem ovs_of {os : List Cov} : ∀ {L : List I2}, (∀ o ∈ os, ovX o = true) → (keysO (os.map fun o => (o.bay, o.rows))).Nodup → (∀ k ∈ keysO (os.map fun o => (o.bay, o.rows)), k ∉ L) → ovsF L os = true := by
  induction os with
  | nil => intro L _ _ _; rfl
  | cons o os ih =>
    intro L h1 h2 h3
    have e : keysO ((o :: os).map fun o => (o.bay, o.rows)) = (o.rows.map fun r => (o.bay, r)) ++ keysO (os.map fun o => (o.bay, o.rows)) := rfl
    rw [e] at h2 h3
    obtain ⟨n1, n2, n3⟩ := List.nodup_append.1 h2
    show (ovX o && (freshF o.bay L o.rows && ovsF (L ++ o.rows.map (fun r => (o.bay, r))) os)) = true
    rw [h1 o (.head _), Bool.true_and, Bool.and_eq_true]
    refine ⟨fresh_iff.2 ⟨?_, fun r hr => h3 _ (List.mem_append_left _ (List.mem_map.2 ⟨r, hr, rfl⟩))⟩, ih (fun x hx => h1 x (.tail _ hx)) n2 fun k hk hL => ?_⟩
    · have := n1
      rw [List.Nodup, List.pairwise_map] at this
      exact this.imp fun {a b} h e => h (by rw [e])
    · rcases List.mem_append.1 hL with hL | hL
      · exact h3 k (List.mem_append_right _ hk) hL
      · exact n3 k hL k hk rfl
theorem ovs_right {os : List Cov} {ov : List (Int × List Int)} (h : os.map (fun o => (o.bay, o.rows)) = ov) (h1 : ∀ o ∈ ov, ovP o = true) (h2 : (keysO ov).Nodup) (h3 : ov.length ≤ 40) : ovsX os = true := by
  subst h
  unfold ovsX
  rw [decide_eq_false (by simpa using h3)]
  refine ovs_of (fun o ho => ?_) h2 (fun _ _ h => by cases h)
  have := h1 (o.bay, o.rows) (List.mem_map.2 ⟨o, ho, rfl⟩)
  exact this
end Go.Proofs.Ythpooalhibedpaa
/- Without a column, without a cover: plain facts; slices from a place on. -/
namespace Go.Proofs.Ythpooalhibedpaa
open Go Go.RowKit Tw
section
variable {α : Type} {l : List α} {k : Nat} {x : α}
theorem er_split (h : l[k]? = some x) : l = l.take k ++ x :: l.drop (k + 1) := by
  obtain ⟨hk, rfl⟩ := List.getElem?_eq_some_iff.1 h
  conv => lhs; rw [← List.take_append_drop k l, List.drop_eq_getElem_cons hk]
end
section
variable {cs : List Col}
end
end Go.Proofs.Ythpooalhibedpaa
/- Lists that are made empty, with room; the marks behind lists that are lent. -/
namespace Go.Proofs.Ythpooalhibedpaa
open Go Go.RowKit Tw
theorem run_mk0 {P : Program} {T E : TypeId} {o : Oper} {a : Act} {c sz b : Nat} {z : Value} {x y : Operand} (ho : o.op = .makeSlice T x y) (hT : P.underlying T = some (.slice E)) (hi : (P.info? E).map (fun i => (i.zero, i.size, i.bytes)) = some (some z, sz, b)) (hb : b ≤ 10000)
    (hx : a.eval x = .int .i64 0) (hy : a.eval y = .int .i64 ((c : Nat) : Int)) (hn : c ≤ 8000000000) (w : World) : (execOp a.eval o).run P w = .ok (.value (.slice (some ⟨w.heap.size, 0, none⟩) 0 c)) (w.alloc (.cells (madeCells z.cells (c * sz)) E (0, 0))) := by
  unfold execOp
  rw [ho]
  have h1 : b * c ≤ 281474976710656 := Nat.le_trans (Nat.mul_le_mul hb hn) (by decide)
  obtain ⟨i, hi2, hzz⟩ := Option.map_eq_some_iff.1 hi
  simp only [Prod.mk.injEq] at hzz
  obtain ⟨hz, hs, hb2⟩ := hzz
  have hbb : (i.bytes : Int) * (c : Int) ≤ 281474976710656 := by
    rw [hb2]
    have h : ((b * c : Nat) : Int) ≤ 281474976710656 := by omega
    rwa [Int.natCast_mul] at h
  have h2 := run_make (P := P) w T E i z hT hi2 hz .i64 .i64 0 c (Int.le_refl _) (by omega) hbb (by omega)
  simp only [Int.toNat_natCast, hs] at h2
  simp [hx, hy, h2]
theorem own_made {α : Type} {cells : α → List Value} {sz c : Nat} {W0 : Base} {E : TypeId} {g : Nat} {z : Value} (hB : W0.B ≤ g) (hz : z.cells.size = sz) (hc : c ≤ 8000000000) : OwnL W0 E sz (.slice (some ⟨g, 0, none⟩) 0 c) 0 (([] : List α).flatMap cells) [(g, .cells (madeCells z.cells (c * sz)) E (0, 0))] := by
  refine .inr ⟨g, c, _, rfl, hB, ⟨?_, by unfold maxLen; omega, Nat.zero_le _, by simp, by simp⟩, rfl⟩
  simp [madeCells]
def mkI (i : Nat) : Int := 1000003 * (1 + 7) + ((i : Nat) : Int)
def mkL (i : Nat) : List Int := (List.range i).map mkI
theorem mkL_len (i : Nat) : (mkL i).length = i := by simp [mkL]
theorem mkL_s (i : Nat) : mkL (i + 1) = mkL i ++ [mkI i] := by simp [mkL, List.range_succ]
theorem mkL_at {i n : Nat} (h : i < n) : (mkL n)[i]? = some (mkI i) := by simp [mkL, h]
end Go.Proofs.Ythpooalhibedpaa
/- Append and make with the bounds that an input has. -/
namespace Go.Proofs.Ythpooalhibedpaa
open Go Go.RowKit Tw
theorem run_mk0L {P : Program} {T E : TypeId} {o : Oper} {a : Act} {c sz b : Nat} {z : Value} {x y : Operand} (ho : o.op = .makeSlice T x y) (hT : P.underlying T = some (.slice E)) (hi : (P.info? E).map (fun i => (i.zero, i.size, i.bytes)) = some (some z, sz, b)) (hb : b ≤ 10000)
    (hx : a.eval x = .int .i64 0) (hy : a.eval y = .int .i64 ((c : Nat) : Int)) (hn : b * c ≤ 281474976710656 ∧ c ≤ 9223372036854775807) (w : World) : (execOp a.eval o).run P w = .ok (.value (.slice (some ⟨w.heap.size, 0, none⟩) 0 c)) (w.alloc (.cells (madeCells z.cells (c * sz)) E (0, 0))) := by
  unfold execOp
  rw [ho]
  have h1 : b * c ≤ 281474976710656 := hn.1
  obtain ⟨i, hi2, hzz⟩ := Option.map_eq_some_iff.1 hi
  simp only [Prod.mk.injEq] at hzz
  obtain ⟨hz, hs, hb2⟩ := hzz
  have hbb : (i.bytes : Int) * (c : Int) ≤ 281474976710656 := by
    rw [hb2]
    have h : ((b * c : Nat) : Int) ≤ 281474976710656 := by omega
    rwa [Int.natCast_mul] at h
  have h2 := run_make (P := P) w T E i z hT hi2 hz .i64 .i64 0 c (Int.le_refl _) (by omega) hbb (by omega)
  simp only [Int.toNat_natCast, hs] at h2
  simp [hx, hy, h2]
theorem own_madeL {α : Type} {cells : α → List Value} {sz c : Nat} {W0 : Base} {E : TypeId} {g : Nat} {z : Value} (hB : W0.B ≤ g) (hz : z.cells.size = sz) (hc : c ≤ 9223372036854775807) : OwnL W0 E sz (.slice (some ⟨g, 0, none⟩) 0 c) 0 (([] : List α).flatMap cells) [(g, .cells (madeCells z.cells (c * sz)) E (0, 0))] := by
  refine .inr ⟨g, c, _, rfl, hB, ⟨?_, by unfold maxLen; omega, Nat.zero_le _, by simp, by simp⟩, rfl⟩
  simp [madeCells]
section
variable {P : Program} {T U E : TypeId} {W0 : Base}
theorem app_ownL {o : Oper} {a : Act} {K K0 Kl : List (Nat × Obj)} {s x : Operand} {h m c n sz bts : Nat} {z v : Value} {fr : Nat × Nat} {news xs : List Value} (hE : Elem P T E sz bts z)
    (ho : o.op = .call { callee := .builtin .append, args := #[s, x], argTypes := #[T, T] }) (hs : a.eval s = v) (hx : a.eval x = .slice (some ⟨h, 0, none⟩) m c) (hm : (h, .cells news.toArray E fr) ∈ K)
    (hO : OwnL W0 E sz v n xs Kl) (hsub : ∀ p ∈ Kl, p ∈ K) (hK0 : ∀ p ∈ K0, p ∈ K ∧ ∀ q ∈ Kl, q.1 ≠ p.1) (hl : news.length = m * sz) (h1 : ∀ u ∈ news, u.oneCell' = true) (hm0 : 0 < m) (hn : (n + m) * bts ≤ 140737488355328) (hb : n + m ≤ 9223372036854775807) :
    ∀ w, KS W0 K w → ∃ v' K' w', (execOp a.eval o).run P w = .ok (.value v') w' ∧ KS W0 K' w' ∧ AppO W0 E sz K0 (n + m) (xs ++ news) v' K' := by
  intro w hw
  obtain ⟨hu, ⟨i, hi, hz, hsz, hby⟩, hzs⟩ := hE
  have hh := hw.2 _ hm
  have hmax : n + m ≤ maxLen := by unfold maxLen; omega
  have hbt : (n + m) * i.bytes ≤ 140737488355328 := by
    rw [hby]
    exact hn
  rcases hO with ⟨rfl, rfl, rfl, rfl⟩ | ⟨g, cap, cur, rfl, hB, ⟨r1, r2, r3, r4, r5⟩, rfl⟩
  · have hr := run_append_nil (P := P) w T o.type E i z hu hi hz ⟨h, 0, none⟩ m c news (by rw [hsz]; exact hl) (blk_cells hh) hm0 (by omega) (by rw [Nat.zero_add] at hbt; omega)
    have hg := grownCap_ge w m 0 E
    have hg2 := grownCap_le_maxLen w m 0 E (by omega)
    have hR := rown_new (sz := sz) (n := 0) (m := m) (olds := []) (news := news) z.cells hzs (by simp) hl (show 0 + m ≤ grownCap w m 0 E by omega) hg2
    simp only [Nat.zero_add, List.nil_append, show (([] : List Value).toArray ++ news.toArray) = news.toArray from by simp] at hR ⊢
    obtain ⟨e1, e2⟩ := appo_end (E := E) hw (fun p hp => (hK0 p hp).1) hR
    exact ⟨_, _, _, run_appv ho hs hx hr, e1, e2⟩
  · have hgc := hw.2 _ (hsub _ (.head _))
    by_cases hroom : n + m ≤ cap
    · have hmul : n * sz + m * sz ≤ cap * sz := by rw [← Nat.add_mul]; exact Nat.mul_le_mul_right _ hroom
      have hr := run_append_room (P := P) w T o.type E i hu hi g n cap cur hgc ⟨h, 0, none⟩ m c news (by rw [hsz]; exact hl) (blk_cells hh) h1 hroom (by rw [hsz, r1, hl]; exact hmul)
      refine ⟨_, K0 ++ [(g, .cells (cur.toList.take (n * i.size) ++ news ++ cur.toList.drop (n * i.size + news.length)).toArray E (0, 0))], _, run_appv ho hs hx hr, hw.setRow hB hgc ?_, _, .inr ⟨g, cap, _, rfl, hB, ⟨?_, r2, hroom, by simp [r4, hl, Nat.add_mul], ?_⟩, rfl⟩, fun p hp q hq => ?_, rfl⟩
      · intro p hp
        rcases List.mem_append.1 hp with hp | hp
        · exact .inr ⟨(hK0 p hp).1, fun e => (hK0 p hp).2 _ (.head _) e.symm⟩
        · exact .inl (List.mem_singleton.1 hp)
      · rw [hsz]
        simp only [List.size_toArray, List.length_append, List.length_take, List.length_drop, Array.length_toList, r1, hl]
        omega
      · rw [hsz, r5, show (n + m) * sz = (xs ++ news).length from by simp [r4, hl, Nat.add_mul]]
        exact List.take_left
      · cases List.mem_singleton.1 hq
        exact (hK0 p hp).2 (g, .cells cur E (0, 0)) (.head _)
    · have holds : ∀ j u, xs[j]? = some u → w.cell? ((⟨g, 0, none⟩ : Addr).add j) = some u := by
        intro j u hu
        rw [addr_add, Nat.zero_add, cell_of_row w g j cur _ (0, 0) hgc]
        rw [← r5, List.getElem?_take] at hu
        split at hu
        · simpa using hu
        · cases hu
      have hr := run_append_grow (P := P) w T o.type E i z hu hi hz ⟨g, 0, none⟩ n cap xs (by rw [hsz]; exact r4) holds ⟨h, 0, none⟩ m c news (by rw [hsz]; exact hl) (blk_cells hh) (by omega) (by omega)
        (growslice_fits (by omega) hbt)
      have hg1 := grownCap_ge w (n + m) cap E
      have hg2 := grownCap_le_maxLen w (n + m) cap E hmax
      obtain ⟨e1, e2⟩ := appo_end (E := E) hw (fun p hp => (hK0 p hp).1) (rown_new (sz := sz) (olds := xs) (news := news) z.cells hzs r4 hl hg1 hg2)
      exact ⟨_, _, _, run_appv ho hs hx hr, e1, e2⟩
theorem app_anyL {W0 : Base} {o : Oper} {a : Act} {K K0 Kl : List (Nat × Obj)} {s x : Operand} {m n sz bts : Nat} {z v y : Value} {news xs : List Value} (hE : Elem P T E sz bts z)
    (ho : o.op = .call { callee := .builtin .append, args := #[s, x], argTypes := #[T, U] }) (hs : a.eval s = v) (hx : a.eval x = y) (hsrc : ∀ w, KS W0 K w → Src P sz U y m news w)
    (hO : OwnL W0 E sz v n xs Kl) (hsub : ∀ p ∈ Kl, p ∈ K) (hK0 : ∀ p ∈ K0, p ∈ K ∧ ∀ q ∈ Kl, q.1 ≠ p.1) (hn : (n + m) * bts ≤ 140737488355328) (hb : n + m ≤ 9223372036854775807) :
    ∀ w, KS W0 K w → ∃ v' K' w', (execOp a.eval o).run P w = .ok (.value v') w' ∧ KS W0 K' w' ∧ AppO W0 E sz K0 (n + m) (xs ++ news) v' K' := by
  intro w hw
  obtain ⟨hu, ⟨i, hi, hz, hsz, hby⟩, hzs⟩ := hE
  have hS := hsrc w hw
  have hl := hS.newsLen
  have hmax : n + m ≤ maxLen := by unfold maxLen; omega
  have hbt : (n + m) * i.bytes ≤ 140737488355328 := by
    rw [hby]
    exact hn
  subst hsz
  rcases Nat.eq_zero_or_pos m with rfl | hm0
  · have hn0 : news = [] := List.eq_nil_of_length_eq_zero (by rw [hl]; simp)
    subst hn0
    rw [List.append_nil, Nat.add_zero]
    have hv : ∃ p cap, v = .slice p n cap ∧ n ≤ cap := by
      rcases hO with ⟨rfl, _, rfl, _⟩ | ⟨g, cap, cur, rfl, _, ⟨_, _, h3, _⟩, _⟩
      · exact ⟨_, _, rfl, Nat.le_refl _⟩
      · exact ⟨_, _, rfl, h3⟩
    obtain ⟨p, cap, rfl, hle⟩ := hv
    have hr := run_append_nothing (P := P) w T U o.type E i hu hi p n cap hle _ hS
    refine ⟨_, K0 ++ Kl, w, run_appu ho hs hx hr, hw.sub (fun q hq => ?_), Kl, hO, fun q hq => (hK0 q hq).2, rfl⟩
    rcases List.mem_append.1 hq with h | h
    · exact (hK0 q h).1
    · exact hsub q h
  · rcases hO with ⟨rfl, rfl, rfl, rfl⟩ | ⟨g, cap, cur, rfl, hB, ⟨r1, r2, r3, r4, r5⟩, rfl⟩
    · have hf0 : (Builtin.firstCells i.size 0 (.slice none 0 0)).run P w.drew = .ok (([] : List Value).toArray) w.drew := by
        simp [run_firstCells_none]
      have hr := run_append_grow_src (P := P) w T U o.type E i z hu hi hz none 0 0 [] hf0 y m news hS (by omega) (by omega) (growslice_fits (by omega) hbt)
      have hg1 := grownCap_ge w (0 + m) 0 E
      have hg2 := grownCap_le_maxLen w (0 + m) 0 E hmax
      have hR := rown_new (sz := i.size) (n := 0) (m := m) (olds := []) (news := news) z.cells hzs (by simp) hl hg1 hg2
      obtain ⟨e1, e2⟩ := appo_end (E := E) hw (fun p hp => (hK0 p hp).1) hR
      refine ⟨_, _, _, run_appu ho hs hx hr, ?_, e2⟩
      simpa using e1
    · have hgc := hw.2 _ (hsub _ (.head _))
      by_cases hroom : n + m ≤ cap
      · have hmul : n * i.size + m * i.size ≤ cap * i.size := by rw [← Nat.add_mul]; exact Nat.mul_le_mul_right _ hroom
        have hr := run_room_any (P := P) (U := U) w o.type i hu hi g n cap cur hgc y m news hS hroom (by rw [r1, hl]; exact hmul)
        refine ⟨_, K0 ++ [(g, .cells (cur.toList.take (n * i.size) ++ news ++ cur.toList.drop (n * i.size + news.length)).toArray E (0, 0))], _, run_appu ho hs hx hr, hw.setRow hB hgc ?_, _, .inr ⟨g, cap, _, rfl, hB, ⟨?_, r2, hroom, by simp [r4, hl, Nat.add_mul], ?_⟩, rfl⟩, fun p hp q hq => ?_, rfl⟩
        · intro p hp
          rcases List.mem_append.1 hp with hp | hp
          · exact .inr ⟨(hK0 p hp).1, fun e => (hK0 p hp).2 _ (.head _) e.symm⟩
          · exact .inl (List.mem_singleton.1 hp)
        · simp only [List.size_toArray, List.length_append, List.length_take, List.length_drop, Array.length_toList, r1, hl]
          omega
        · rw [r5, show (n + m) * i.size = (xs ++ news).length from by simp [r4, hl, Nat.add_mul]]
          exact List.take_left
        · cases List.mem_singleton.1 hq
          exact (hK0 p hp).2 (g, .cells cur E (0, 0)) (.head _)
      · have hgd : w.drew.heap[g]? = some (.cells cur E (0, 0)) := hgc
        have holds : ∀ j u, xs[j]? = some u → w.drew.cell? ((⟨g, 0, none⟩ : Addr).add j) = some u := by
          intro j u hu
          rw [addr_add, Nat.zero_add, cell_of_row w.drew g j cur _ (0, 0) hgd]
          rw [← r5, List.getElem?_take] at hu
          split at hu
          · simpa using hu
          · cases hu
        have hf := run_firstCells_some (P := P) w.drew i.size n ⟨g, 0, none⟩ n cap xs r4 holds
        have hr := run_append_grow_src (P := P) w T U o.type E i z hu hi hz (some ⟨g, 0, none⟩) n cap xs hf y m news hS (by omega) (by omega) (growslice_fits (by omega) hbt)
        have hg1 := grownCap_ge w (n + m) cap E
        have hg2 := grownCap_le_maxLen w (n + m) cap E hmax
        obtain ⟨e1, e2⟩ := appo_end (E := E) hw (fun p hp => (hK0 p hp).1) (rown_new (sz := i.size) (olds := xs) (news := news) z.cells hzs r4 hl hg1 hg2)
        refine ⟨_, _, _, run_appu ho hs hx hr, ?_, e2⟩
        simpa using e1
end
end Go.Proofs.Ythpooalhibedpaa
namespace Go.Proofs.Ythpooalhibedpaa
open Go Go.RowKit Tw
set_option maxRecDepth 100000 in
set_option maxHeartbeats 4000000 in
theorem mark_any (k i : Int) (hk : 0 ≤ k ∧ k ≤ 1000) (hi : 0 ≤ i ∧ i ≤ 8000000000) (w : World) : Calls Try.prog 81 #[.int .i64 k, .int .i64 i] w fun e w' => e = .returned (.int .i64 (1000003 * (k + 7) + i)) ∧ Below w.heap.size w w' := by
  go_enter Try.func81, Try.ntmps81
  refine wp_seq ?_
  refine wp_region_L (W0 := w) [] (KS.start w) ?_
  refine lm (v := .int .i64 0) rfl rfl ?_
  refine wpL_done (fun W1 hW1 => ?_)
  refine (show Code.wp _ _ _ _ _ from ?_)
  refine wp_seq ?_
  refine wp_region_L (W0 := w) [] (hW1) ?_
  refine lm (v := .int .i64 k) rfl rfl ?_
  refine lp (v := .int .i64 (k + 7)) rfl rfl (run_bin rfl (vx := (.int .i64 k)) (vy := (.int .i64 7)) (by kernel_rfl) (by kernel_rfl) fun w => bi_add (z := (k + 7)) rfl (wi_i64 (by omega)) w) ?_
  refine lp (v := .int .i64 (1000003 * (k + 7))) rfl rfl (run_bin rfl (vx := (.int .i64 1000003)) (vy := (.int .i64 (k + 7))) (by kernel_rfl) (by kernel_rfl) fun w => bi_mul (z := (1000003 * (k + 7))) rfl (wi_i64 (by omega)) w) ?_
  refine lm (v := .int .i64 i) rfl rfl ?_
  refine lp (v := .int .i64 ((1000003 * (k + 7)) + i)) rfl rfl (run_bin rfl (vx := (.int .i64 (1000003 * (k + 7)))) (vy := (.int .i64 i)) (by kernel_rfl) (by kernel_rfl) fun w => bi_add (z := ((1000003 * (k + 7)) + i)) rfl (wi_i64 (by omega)) w) ?_
  refine lm (v := .int .i64 ((1000003 * (k + 7)) + i)) rfl rfl ?_
  refine wpL_done (fun W2 hW2 => ?_)
  refine (show Code.wp _ _ _ _ _ from ?_)
  refine wp_ret ?_
  try simp only [inBlock_ret, then_ret]
  refine bodyPost_ret (v := .int .i64 ((1000003 * (k + 7)) + i)) ?_ rfl ?_
  · kernel_rfl
  · exact ⟨(int_is (by omega)), hW2.1⟩
set_option maxRecDepth 100000 in
set_option maxHeartbeats 4000000 in
theorem LentInts_any (l : List Int) (p : Option Addr) (c : Nat) (hl : l.length ≤ 1000000) (w : World) (hp : SLV w p (l.flatMap inC)) : Calls Try.prog 80 #[.slice p l.length c] w fun e w' => ∃ q d, e = .returned (.slice q l.length d) ∧ l.length + 12 ≤ d ∧ OutV w w' 3 1 (.slice q (l ++ mkL 12).length d) (l ++ mkL 12).length ((l ++ mkL 12).flatMap inC) ∧ Below w.heap.size w w' := by
  have HP := Lib.hid hp
  clear hp
  go_enter Try.func80, Try.ntmps80
  refine wp_seq ?_
  refine wp_region_L (W0 := w) [] (KS.start w) ?_
  refine lm (v := .slice none 0 0) rfl rfl ?_
  refine wpL_done (fun W1 hW1 => ?_)
  refine (show Code.wp _ _ _ _ _ from ?_)
  refine wp_seq ?_
  refine wp_region_L (W0 := w) [] (hW1) ?_
  refine lm (v := .slice p l.length c) rfl rfl ?_
  refine lp (v := .int .i64 ((l.length : Nat) : Int)) rfl rfl (run_lenL (p := p) (cap := c) (n := l.length) rfl Try.underlying39 (by kernel_rfl)) ?_
  refine lp (v := .int .i64 (((l.length + 12) : Nat) : Int)) rfl rfl (run_bin rfl (vx := (.int .i64 ((l.length : Nat) : Int))) (vy := (.int .i64 ((12 : Nat) : Int))) (by kernel_rfl) (by kernel_rfl) fun w => bn_add (z := (l.length + 12)) rfl (wr_i64 (by omega)) w) ?_
  refine wpL_new (fun g => .slice (some ⟨g, 0, none⟩) 0 (l.length + 12)) (obi := .cells (madeCells (Value.cells (.int .i64 0)) ((l.length + 12) * 1)) 3 (0, 0)) rfl rfl (run_mk0 (c := (l.length + 12)) (z := (.int .i64 0)) (sz := 1) (b := 8) rfl Try.underlying39 (by kernel_rfl) (by decide) (by kernel_rfl) (by kernel_rfl) (by omega)) (fun _ => by simp only [List.setIfInBounds_toArray, List.set_cons_succ, List.set_cons_zero] <;> rfl) fun g1 Bg1 Fg1 => ?_
  refine lm (v := .slice (some ⟨g1, 0, none⟩) 0 (l.length + 12)) rfl rfl ?_
  refine wpL_done (fun W2 hW2 => ?_)
  refine (show Code.wp _ _ _ _ _ from ?_)
  refine wp_seq ?_
  refine wp_region_L (W0 := w) [(g1, .cells (madeCells (Value.cells (.int .i64 0)) ((l.length + 12) * 1)) 3 (0, 0))] (hW2) ?_
  refine lm (v := .slice (some ⟨g1, 0, none⟩) 0 (l.length + 12)) rfl rfl ?_
  refine lm (v := .slice p l.length c) rfl rfl ?_
  have Om2 := (own_made (cells := inC) (c := (l.length + 12)) (E := 3) (z := (.int .i64 0)) Bg1 rfl (by omega))
  refine wpL_g (AppO w 3 1 [] (0 + l.length) ((([] : List Int).flatMap inC) ++ (l.flatMap inC))) rfl rfl (app_any el_int (m := l.length) (news := (l.flatMap inC)) (y := .slice p l.length c) rfl (by kernel_rfl) (by kernel_rfl) (src_rl (c := c) Try.underlying39 inC_len inC_one (by decide) ((RL.base HP.out).mono (fun _ h => by cases h)) rfl) Om2 (fun p hp => by cases List.mem_singleton.1 hp; exact (.head _)) (fun _ h => by cases h) (by omega) (by omega)) (fun _ => by simp only [List.setIfInBounds_toArray, List.set_cons_succ, List.set_cons_zero] <;> rfl) ?_
  rintro v3 Kl3 ⟨_, O3, N3, rfl⟩
  refine lm (v := v3) rfl rfl ?_
  refine wpL_done (fun W3 hW3 => ?_)
  refine (show Code.wp _ _ _ _ _ from ?_)
  refine wp_seq ?_
  refine wp_seq ?_
  refine wp_region_L (W0 := w) Kl3 (hW3) ?_
  refine lm (v := .int .i64 0) rfl rfl ?_
  refine wpL_done (fun W4 hW4 => ?_)
  refine (show Code.wp _ _ _ _ _ from ?_)
  refine wp_block ?_
  go_loopw [4, 3] (fun u4 u3 wr => ∃ (i : Nat) (vo : Value) (Ko : List (Nat × Obj)), (i ≤ 12) ∧ (OwnL w 3 1 vo (l.length + i) ((l ++ mkL i).flatMap inC) Ko) ∧ u4 = .int .i64 ((i : Nat) : Int) ∧ vo = u3 ∧ KS w Ko wr) (fun u4 _ _ => 12 - (intOf u4).toNat)
  case atStart => exact ⟨0, v3, Kl3, (Nat.zero_le _), (by have h9 := O3; rw [List.flatMap_nil, List.nil_append, Nat.zero_add] at h9; rw [show l ++ mkL 0 = l from by simp [mkL]]; exact h9), rfl, rfl, (hW4.sub (fun p hp => by first | exact hp | (simp only [List.mem_cons, List.mem_append, List.nil_append, List.not_mem_nil, or_assoc, or_false, false_or] at hp ⊢ <;> grind)))⟩
  case round =>
    obtain ⟨i, vo, Ko, hi, hO, rfl, rfl, hL5⟩ := hrel
    refine wp_seq ?_
    refine wp_seq ?_
    refine wp_region_L (W0 := w) Ko (hL5) ?_
    refine lm (v := .int .i64 ((i : Nat) : Int)) rfl rfl ?_
    refine lp (v := .bool (decide (i < 12))) rfl rfl (run_bin rfl (vx := (.int .i64 ((i : Nat) : Int))) (vy := (.int .i64 ((12 : Nat) : Int))) (by kernel_rfl) (by kernel_rfl) fun w => bn_lss rfl w) ?_
    refine wpL_done (fun W6 hW6 => ?_)
    refine (show Code.wp _ _ _ _ _ from ?_)
    cases hd1 : (decide (i < 12)) with
    | false =>
      have h1 : ¬ (i < 12) := of_decide_eq_false hd1
      clear hd1
      refine wp_cond_false rfl ?_
      refine wp_exit ?_
      refine (show Code.wp _ _ _ _ _ from ?_)
      refine wp_seq ?_
      refine wp_region_L (W0 := w) Ko (hW6) ?_
      refine lm (v := vo) rfl rfl ?_
      refine lm (v := .slice p l.length c) rfl rfl ?_
      refine lp (v := .int .i64 ((l.length : Nat) : Int)) rfl rfl (run_lenL (p := p) (cap := c) (n := l.length) rfl Try.underlying39 (by kernel_rfl)) ?_
      have hi12 : i = 12 := by omega
      subst hi12
      have hO2 := own_app (cells := inC) (l' := l ++ mkL 12) hO rfl (by rw [List.length_append, mkL_len])
      obtain ⟨q9, d9, rfl, hd9, R9⟩ := own_rl hO2
      have hlen : (l ++ mkL 12).length = l.length + 12 := by rw [List.length_append, mkL_len]
      refine lp (v := .slice q9 l.length d9) rfl rfl (run_slt (kd := .i64) (j := l.length) (n := (l ++ mkL 12).length) (c := d9) (sz := 1) rfl Try.underlying39 (by kernel_rfl) (by kernel_rfl) (by kernel_rfl) (by omega)) ?_
      refine lm (v := .slice q9 l.length d9) rfl rfl ?_
      refine wpL_done (fun W7 hW7 => ?_)
      refine (show Code.wp _ _ _ _ _ from ?_)
      refine wp_ret ?_
      try simp only [inBlock_ret, then_ret]
      refine bodyPost_ret (v := .slice q9 l.length d9) ?_ rfl ?_
      · kernel_rfl
      · exact ⟨q9, d9, rfl, by omega, hO2.out (fun p hp => by simp only [List.mem_cons, List.mem_append, List.nil_append, List.not_mem_nil, or_assoc, or_false, false_or, hp, true_or, or_true]) hW7, hW7.1⟩
    | true =>
      have h1 : i < 12 := of_decide_eq_true hd1
      clear hd1
      refine wp_cond_true rfl ?_
      refine wp_skip ?_
      refine (show Code.wp _ _ _ _ _ from ?_)
      refine wp_seq ?_
      refine wp_block ?_
      refine wp_region_L (W0 := w) Ko (hW6) ?_
      refine lm (v := vo) rfl rfl ?_
      refine lm (v := .int .i64 ((i : Nat) : Int)) rfl rfl ?_
      refine lv (v := .int .i64 (mkI i)) rfl rfl (yb_call (f := 81) (args := #[.int .i64 1, .int .i64 ((i : Nat) : Int)]) (fun _ => by kernel_rfl) fun W hW => mark_any 1 ((i : Nat) : Int) (by omega) (by omega) W) ?_
      refine wpL_new (fun g => .slice (some ⟨g, 0, none⟩) 1 1) (obi := .cells #[.int .i64 (mkI i)] 3 (0, 0)) rfl rfl (fun _ => by kernel_rfl) (fun _ => by simp only [List.setIfInBounds_toArray, List.set_cons_succ, List.set_cons_zero] <;> rfl) fun g5 Bg5 Fg5 => ?_
      obtain dj6_0 : Dk g5 Ko := by simpa only [dj_app_l, dj_app_r, dj_cons_l, dj_cons_r, dj_nil_l, dj_nil_r, dk_app, dk_cons, dk_nil, and_true, true_and, and_assoc] using (show Dk g5 Ko from Fg5)
      refine wpL_g (AppO w 3 1 [] ((l.length + i) + 1) (((l ++ mkL i).flatMap inC) ++ [.int .i64 (mkI i)])) rfl rfl (app_own el_int (m := 1) (c := 1) (news := [.int .i64 (mkI i)]) rfl (by kernel_rfl) (by kernel_rfl) (.head _) hO (fun p hp => by simp only [List.mem_cons, List.mem_append, List.nil_append, List.not_mem_nil, or_assoc, or_false, false_or, hp, or_true, true_or]) (fun _ h => by cases h) rfl (by simp [strV, Value.oneCell']) (by omega) (by omega) (by omega)) (fun _ => by simp only [List.setIfInBounds_toArray, List.set_cons_succ, List.set_cons_zero] <;> rfl) ?_
      rintro v7 Kl7 ⟨_, O7, N7, rfl⟩
      refine lm (v := v7) rfl rfl ?_
      refine wpL_done (fun W8 hW8 => ?_)
      refine (show Code.wp _ _ _ _ _ from ?_)
      refine wp_region_L (W0 := w) Kl7 (hW8) ?_
      refine lm (v := .int .i64 ((i : Nat) : Int)) rfl rfl ?_
      refine lp (v := .int .i64 (((i + 1) : Nat) : Int)) rfl rfl (run_bin rfl (vx := (.int .i64 ((i : Nat) : Int))) (vy := (.int .i64 ((1 : Nat) : Int))) (by kernel_rfl) (by kernel_rfl) fun w => bn_add (z := (i + 1)) rfl (wr_i64 (by omega)) w) ?_
      refine lm (v := .int .i64 (((i + 1) : Nat) : Int)) rfl rfl ?_
      refine wpL_done (fun W9 hW9 => ?_)
      go_roundw
      case rel =>
        repeat apply Exists.intro
        exact ⟨⟨i + 1, v7, Kl7, (by omega), (by have h9 := own_snoc (l' := l ++ mkL (i + 1)) O7 (by rw [mkL_s, List.append_assoc]); exact h9), rfl, rfl, (hW9.sub (fun p hp => by first | exact hp | (simp only [List.mem_cons, List.mem_append, List.nil_append, List.not_mem_nil, or_assoc, or_false, false_or] at hp ⊢ <;> grind)))⟩, rfl⟩
      case measure => (show 12 - (intOf (.int .i64 (((i + 1) : Nat) : Int))).toNat < 12 - (intOf (.int .i64 ((i : Nat) : Int))).toNat); simp only [intOf]; omega
set_option maxRecDepth 100000 in
set_option maxHeartbeats 4000000 in
theorem KeptInts_any (l : List Int) (p q : Option Addr) (c d : Nat) (hl : l.length ≤ 1000000) (hc : l.length + 12 ≤ c) (w : World) (hp : SLV w p ((l ++ mkL 12).flatMap inC)) (hq : SLV w q (l.flatMap inC)) : Calls Try.prog 85 #[.slice p l.length c, .slice q l.length d] w fun e w' => e = .returned (.bool true) ∧ Below w.heap.size w w' := by
  have HP := Lib.hid hp
  clear hp
  have HQ := Lib.hid hq
  clear hq
  have hlen : (l ++ mkL 12).length = l.length + 12 := by rw [List.length_append, mkL_len]
  go_enter Try.func85, Try.ntmps85
  refine wp_seq ?_
  refine wp_region_L (W0 := w) [] (KS.start w) ?_
  refine lm (v := .bool false) rfl rfl ?_
  refine wpL_done (fun W1 hW1 => ?_)
  refine (show Code.wp _ _ _ _ _ from ?_)
  refine wp_seq ?_
  refine wp_seq ?_
  refine wp_region_L (W0 := w) [] (hW1) ?_
  refine lm (v := .slice p l.length c) rfl rfl ?_
  refine lp (v := .int .i64 ((l.length : Nat) : Int)) rfl rfl (run_lenL (p := p) (cap := c) (n := l.length) rfl Try.underlying39 (by kernel_rfl)) ?_
  refine lm (v := .slice q l.length d) rfl rfl ?_
  refine lp (v := .int .i64 ((l.length : Nat) : Int)) rfl rfl (run_lenL (p := q) (cap := d) (n := l.length) rfl Try.underlying39 (by kernel_rfl)) ?_
  refine lp (v := .bool false) rfl rfl (run_bin rfl (vx := (.int .i64 ((l.length : Nat) : Int))) (vy := (.int .i64 ((l.length : Nat) : Int))) (by kernel_rfl) (by kernel_rfl) fun w => bn_neq (decide_eq_true rfl) w) ?_
  refine wpL_done (fun W2 hW2 => ?_)
  refine (show Code.wp _ _ _ _ _ from ?_)
  refine wp_cond_false rfl ?_
  refine wp_skip ?_
  refine (show Code.wp _ _ _ _ _ from ?_)
  refine wp_seq ?_
  refine wp_region_L (W0 := w) [] (hW2) ?_
  refine lm (v := .slice p l.length c) rfl rfl ?_
  refine lm (v := .slice q l.length d) rfl rfl ?_
  refine lp (v := .int .i64 ((l.length : Nat) : Int)) rfl rfl (run_lenL (p := q) (cap := d) (n := l.length) rfl Try.underlying39 (by kernel_rfl)) ?_
  refine lp (v := .int .i64 (((l.length + 12) : Nat) : Int)) rfl rfl (run_bin rfl (vx := (.int .i64 ((l.length : Nat) : Int))) (vy := (.int .i64 ((12 : Nat) : Int))) (by kernel_rfl) (by kernel_rfl) fun w => bn_add (z := (l.length + 12)) rfl (wr_i64 (by omega)) w) ?_
  refine lp (v := .slice p (l.length + 12) c) rfl rfl (run_slt (kd := .i64) (j := (l.length + 12)) (n := l.length) (c := c) (sz := 1) rfl Try.underlying39 (by kernel_rfl) (by kernel_rfl) (by kernel_rfl) (by omega)) ?_
  refine lm (v := .slice p (l.length + 12) c) rfl rfl ?_
  refine wpL_done (fun W3 hW3 => ?_)
  refine (show Code.wp _ _ _ _ _ from ?_)
  refine wp_seq ?_
  refine wp_seq ?_
  refine wp_region_L (W0 := w) [] (hW3) ?_
  refine lm (v := .int .i64 0) rfl rfl ?_
  refine wpL_done (fun W4 hW4 => ?_)
  refine (show Code.wp _ _ _ _ _ from ?_)
  refine wp_block ?_
  go_loopw [6] (fun u6 wr => ∃ (i : Nat), (i ≤ l.length + 12) ∧ u6 = .int .i64 ((i : Nat) : Int) ∧ KS w [] wr) (fun u6 _ => l.length + 12 - (intOf u6).toNat)
  case atStart => exact ⟨0, (Nat.zero_le _), rfl, (hW4.sub (fun p hp => by first | exact hp | (simp only [List.mem_cons, List.mem_append, List.nil_append, List.not_mem_nil, or_assoc, or_false, false_or] at hp ⊢ <;> grind)))⟩
  case round =>
    obtain ⟨i, hi, rfl, hL5⟩ := hrel
    refine wp_seq ?_
    refine wp_seq ?_
    refine wp_region_L (W0 := w) [] (hL5) ?_
    refine lm (v := .int .i64 ((i : Nat) : Int)) rfl rfl ?_
    refine lm (v := .slice p (l.length + 12) c) rfl rfl ?_
    refine lp (v := .int .i64 (((l.length + 12) : Nat) : Int)) rfl rfl (run_lenL (p := p) (cap := c) (n := (l.length + 12)) rfl Try.underlying39 (by kernel_rfl)) ?_
    refine lp (v := .bool (decide (i < (l.length + 12)))) rfl rfl (run_bin rfl (vx := (.int .i64 ((i : Nat) : Int))) (vy := (.int .i64 (((l.length + 12) : Nat) : Int))) (by kernel_rfl) (by kernel_rfl) fun w => bn_lss rfl w) ?_
    refine wpL_done (fun W6 hW6 => ?_)
    refine (show Code.wp _ _ _ _ _ from ?_)
    cases hd1 : (decide (i < (l.length + 12))) with
    | false =>
      have h1 : ¬ (i < (l.length + 12)) := of_decide_eq_false hd1
      clear hd1
      refine wp_cond_false rfl ?_
      refine wp_exit ?_
      refine (show Code.wp _ _ _ _ _ from ?_)
      refine wp_seq ?_
      refine wp_region_L (W0 := w) [] (hW6) ?_
      refine lm (v := .bool true) rfl rfl ?_
      refine wpL_done (fun W7 hW7 => ?_)
      refine (show Code.wp _ _ _ _ _ from ?_)
      refine wp_ret ?_
      try simp only [inBlock_ret, then_ret]
      refine bodyPost_ret (v := .bool true) ?_ rfl ?_
      · kernel_rfl
      · exact ⟨rfl, hW7.1⟩
    | true =>
      have h1 : i < (l.length + 12) := of_decide_eq_true hd1
      clear hd1
      refine wp_cond_true rfl ?_
      refine wp_skip ?_
      refine (show Code.wp _ _ _ _ _ from ?_)
      refine wp_seq ?_
      refine wp_block ?_
      refine wp_seq ?_
      refine wp_region_V (W0 := w) [] (by kernel_rfl) (hW6) ?_
      refine vm (i := 0) (v := .int .i64 ((i : Nat) : Int)) rfl rfl rfl ?_
      refine vm (i := 1) (v := .slice q l.length d) rfl rfl rfl ?_
      refine vp (i := 2) (v := .int .i64 ((l.length : Nat) : Int)) rfl rfl rfl (run_lenL (p := q) (cap := d) (n := l.length) rfl Try.underlying39 (by kernel_rfl)) ?_
      refine vp (i := 3) (v := .bool (decide (i < l.length))) rfl rfl rfl (run_bin rfl (vx := (.int .i64 ((i : Nat) : Int))) (vy := (.int .i64 ((l.length : Nat) : Int))) (by kernel_rfl) (by kernel_rfl) fun w => bn_lss rfl w) ?_
      refine vm (i := 4) (v := .bool (decide (i < l.length))) rfl rfl rfl ?_
      cases hd2 : (decide (i < l.length)) with
      | false =>
        have h2 : ¬ (i < l.length) := of_decide_eq_false hd2
        clear hd2
        refine vn (i := 5) rfl rfl ?_
        refine vn (i := 6) rfl rfl ?_
        refine vn (i := 7) rfl rfl ?_
        refine vn (i := 8) rfl rfl ?_
        refine vn (i := 9) rfl rfl ?_
        refine vn (i := 10) rfl rfl ?_
        refine vn (i := 11) rfl rfl ?_
        refine vn (i := 12) rfl rfl ?_
        refine vn (i := 13) rfl rfl ?_
        refine vn (i := 14) rfl rfl ?_
        refine vm (i := 15) (v := .bool false) rfl rfl rfl ?_
        refine vm (i := 16) (v := .bool false) rfl rfl rfl ?_
        refine vm (i := 17) (v := .int .i64 ((i : Nat) : Int)) rfl rfl rfl ?_
        refine vm (i := 18) (v := .slice q l.length d) rfl rfl rfl ?_
        refine vp (i := 19) (v := .int .i64 ((l.length : Nat) : Int)) rfl rfl rfl (run_lenL (p := q) (cap := d) (n := l.length) rfl Try.underlying39 (by kernel_rfl)) ?_
        refine vp (i := 20) (v := .bool true) rfl rfl rfl (run_bin rfl (vx := (.int .i64 ((i : Nat) : Int))) (vy := (.int .i64 ((l.length : Nat) : Int))) (by kernel_rfl) (by kernel_rfl) fun w => bn_geq (decide_eq_false (by assumption)) w) ?_
        refine vm (i := 21) (v := .bool true) rfl rfl rfl ?_
        refine vm (i := 22) (v := .slice p (l.length + 12) c) rfl rfl rfl ?_
        refine vm (i := 23) (v := .int .i64 ((i : Nat) : Int)) rfl rfl rfl ?_
        obtain ⟨y1, g1_, f1_, hy1, hp1, hc1⟩ := RL.at (RL.base HP.out) inC_len (by decide) (hW6.sub (fun _ h => by cases h)) (k := i) (by omega)
        refine vp (i := 24) (v := .pointer (some ⟨g1_, f1_ + i * 1, none⟩)) rfl rfl rfl (run_idxQ (p := p) (cap := c) (n := (l.length + 12)) (j := .i64) (k := i) (sz := 1) rfl Try.underlying39 (by kernel_rfl) (by kernel_rfl) hp1 (by kernel_rfl) (by omega)) ?_
        refine vb (i := 25) (v := .int .i64 y1) rfl rfl rfl (yb_rf (v := .int .i64 y1) rfl (by kernel_rfl) (fun W hW => hc1 W (hW.sub (fun _ h => by cases h)) 0 _ rfl) Try.underlying3 rfl) ?_
        refine vm (i := 26) (v := .int .i64 ((i : Nat) : Int)) rfl rfl rfl ?_
        refine vm (i := 27) (v := .slice q l.length d) rfl rfl rfl ?_
        refine vp (i := 28) (v := .int .i64 ((l.length : Nat) : Int)) rfl rfl rfl (run_lenL (p := q) (cap := d) (n := l.length) rfl Try.underlying39 (by kernel_rfl)) ?_
        refine vp (i := 29) (v := .int .i64 (((i - l.length) : Nat) : Int)) rfl rfl rfl (run_bin rfl (vx := (.int .i64 ((i : Nat) : Int))) (vy := (.int .i64 ((l.length : Nat) : Int))) (by kernel_rfl) (by kernel_rfl) fun w => bn_sub (z := (i - l.length)) rfl (by omega) (wr_i64 (by omega)) w) ?_
        refine vv (i := 30) (v := .int .i64 (mkI (i - l.length))) rfl rfl rfl (yb_call (f := 81) (args := #[.int .i64 1, .int .i64 (((i - l.length) : Nat) : Int)]) (fun _ => by kernel_rfl) fun W hW => mark_any 1 (((i - l.length) : Nat) : Int) (by omega) (by omega) W) ?_
        refine vp (i := 31) (v := .bool (decide (y1 = (mkI (i - l.length))))) rfl rfl rfl (run_bin rfl (vx := (.int .i64 y1)) (vy := (.int .i64 (mkI (i - l.length)))) (by kernel_rfl) (by kernel_rfl) fun w => bi_eql rfl w) ?_
        refine vp (i := 32) (v := .bool (!(decide (y1 = (mkI (i - l.length)))))) rfl rfl rfl (run_un rfl (by kernel_rfl) fun w => un_not w) ?_
        refine vm (i := 33) (v := .bool (!(decide (y1 = (mkI (i - l.length)))))) rfl rfl rfl ?_
        refine vm (i := 34) (v := .bool (!(decide (y1 = (mkI (i - l.length)))))) rfl rfl rfl ?_
        refine wpV_done (by kernel_rfl) (fun W8 hW8 => ?_) _
        refine (show Code.wp _ _ _ _ _ from ?_)
        cases hd3 : (decide (y1 = (mkI (i - l.length)))) with
        | false =>
          have h3 : ¬ (y1 = (mkI (i - l.length))) := of_decide_eq_false hd3
          clear hd3
          exact absurd (by rw [List.getElem?_append_right (by omega), mkL_at (by omega)] at hy1; exact (Option.some.inj hy1).symm) h3
        | true =>
          have h3 : y1 = (mkI (i - l.length)) := of_decide_eq_true hd3
          clear hd3
          refine wp_cond_false rfl ?_
          refine wp_skip ?_
          refine (show Code.wp _ _ _ _ _ from ?_)
          refine wp_region_L (W0 := w) [] (hW8) ?_
          refine lm (v := .int .i64 ((i : Nat) : Int)) rfl rfl ?_
          refine lp (v := .int .i64 (((i + 1) : Nat) : Int)) rfl rfl (run_bin rfl (vx := (.int .i64 ((i : Nat) : Int))) (vy := (.int .i64 ((1 : Nat) : Int))) (by kernel_rfl) (by kernel_rfl) fun w => bn_add (z := (i + 1)) rfl (wr_i64 (by omega)) w) ?_
          refine lm (v := .int .i64 (((i + 1) : Nat) : Int)) rfl rfl ?_
          refine wpL_done (fun W9 hW9 => ?_)
          go_roundw
          case rel =>
            repeat apply Exists.intro
            exact ⟨⟨i + 1, (by omega), rfl, (hW9.sub (fun p hp => by first | exact hp | (simp only [List.mem_cons, List.mem_append, List.nil_append, List.not_mem_nil, or_assoc, or_false, false_or] at hp ⊢ <;> grind)))⟩, rfl⟩
          case measure => (show l.length + 12 - (intOf (.int .i64 (((i + 1) : Nat) : Int))).toNat < l.length + 12 - (intOf (.int .i64 ((i : Nat) : Int))).toNat); simp only [intOf]; omega
      | true =>
        have h2 : i < l.length := of_decide_eq_true hd2
        clear hd2
        refine vm (i := 5) (v := .slice p (l.length + 12) c) rfl rfl rfl ?_
        refine vm (i := 6) (v := .int .i64 ((i : Nat) : Int)) rfl rfl rfl ?_
        obtain ⟨y2, g2_, f2_, hy2, hp2, hc2⟩ := RL.at (RL.base HP.out) inC_len (by decide) (hW6.sub (fun _ h => by cases h)) (k := i) (by omega)
        refine vp (i := 7) (v := .pointer (some ⟨g2_, f2_ + i * 1, none⟩)) rfl rfl rfl (run_idxQ (p := p) (cap := c) (n := (l.length + 12)) (j := .i64) (k := i) (sz := 1) rfl Try.underlying39 (by kernel_rfl) (by kernel_rfl) hp2 (by kernel_rfl) (by omega)) ?_
        refine vb (i := 8) (v := .int .i64 y2) rfl rfl rfl (yb_rf (v := .int .i64 y2) rfl (by kernel_rfl) (fun W hW => hc2 W (hW.sub (fun _ h => by cases h)) 0 _ rfl) Try.underlying3 rfl) ?_
        refine vm (i := 9) (v := .slice q l.length d) rfl rfl rfl ?_
        refine vm (i := 10) (v := .int .i64 ((i : Nat) : Int)) rfl rfl rfl ?_
        obtain ⟨y3, g3_, f3_, hy3, hp3, hc3⟩ := RL.at (RL.base HQ.out) inC_len (by decide) (hW6.sub (fun _ h => by cases h)) (k := i) (by omega)
        refine vp (i := 11) (v := .pointer (some ⟨g3_, f3_ + i * 1, none⟩)) rfl rfl rfl (run_idxQ (p := q) (cap := d) (n := l.length) (j := .i64) (k := i) (sz := 1) rfl Try.underlying39 (by kernel_rfl) (by kernel_rfl) hp3 (by kernel_rfl) (by omega)) ?_
        refine vb (i := 12) (v := .int .i64 y3) rfl rfl rfl (yb_rf (v := .int .i64 y3) rfl (by kernel_rfl) (fun W hW => hc3 W (hW.sub (fun _ h => by cases h)) 0 _ rfl) Try.underlying3 rfl) ?_
        refine vp (i := 13) (v := .bool (decide (y2 = y3))) rfl rfl rfl (run_bin rfl (vx := (.int .i64 y2)) (vy := (.int .i64 y3)) (by kernel_rfl) (by kernel_rfl) fun w => bi_eql rfl w) ?_
        refine vp (i := 14) (v := .bool (!(decide (y2 = y3)))) rfl rfl rfl (run_un rfl (by kernel_rfl) fun w => un_not w) ?_
        refine vm (i := 15) (v := .bool (!(decide (y2 = y3)))) rfl rfl rfl ?_
        refine vm (i := 16) (v := .bool (!(decide (y2 = y3)))) rfl rfl rfl ?_
        cases hd4 : (decide (y2 = y3)) with
        | false =>
          have h4 : ¬ (y2 = y3) := of_decide_eq_false hd4
          clear hd4
          exact absurd (by rw [List.getElem?_append_left (by omega)] at hy2; rw [hy2] at hy3; exact Option.some.inj hy3) h4
        | true =>
          have h4 : y2 = y3 := of_decide_eq_true hd4
          clear hd4
          refine vm (i := 17) (v := .int .i64 ((i : Nat) : Int)) rfl rfl rfl ?_
          refine vm (i := 18) (v := .slice q l.length d) rfl rfl rfl ?_
          refine vp (i := 19) (v := .int .i64 ((l.length : Nat) : Int)) rfl rfl rfl (run_lenL (p := q) (cap := d) (n := l.length) rfl Try.underlying39 (by kernel_rfl)) ?_
          refine vp (i := 20) (v := .bool false) rfl rfl rfl (run_bin rfl (vx := (.int .i64 ((i : Nat) : Int))) (vy := (.int .i64 ((l.length : Nat) : Int))) (by kernel_rfl) (by kernel_rfl) fun w => bn_geq (decide_eq_true (by assumption)) w) ?_
          refine vm (i := 21) (v := .bool false) rfl rfl rfl ?_
          refine vn (i := 22) rfl rfl ?_
          refine vn (i := 23) rfl rfl ?_
          refine vn (i := 24) rfl rfl ?_
          refine vn (i := 25) rfl rfl ?_
          refine vn (i := 26) rfl rfl ?_
          refine vn (i := 27) rfl rfl ?_
          refine vn (i := 28) rfl rfl ?_
          refine vn (i := 29) rfl rfl ?_
          refine vn (i := 30) rfl rfl ?_
          refine vn (i := 31) rfl rfl ?_
          refine vn (i := 32) rfl rfl ?_
          refine vm (i := 33) (v := .bool false) rfl rfl rfl ?_
          refine vm (i := 34) (v := .bool false) rfl rfl rfl ?_
          refine wpV_done (by kernel_rfl) (fun W10 hW10 => ?_) _
          refine (show Code.wp _ _ _ _ _ from ?_)
          refine wp_cond_false rfl ?_
          refine wp_skip ?_
          refine (show Code.wp _ _ _ _ _ from ?_)
          refine wp_region_L (W0 := w) [] (hW10) ?_
          refine lm (v := .int .i64 ((i : Nat) : Int)) rfl rfl ?_
          refine lp (v := .int .i64 (((i + 1) : Nat) : Int)) rfl rfl (run_bin rfl (vx := (.int .i64 ((i : Nat) : Int))) (vy := (.int .i64 ((1 : Nat) : Int))) (by kernel_rfl) (by kernel_rfl) fun w => bn_add (z := (i + 1)) rfl (wr_i64 (by omega)) w) ?_
          refine lm (v := .int .i64 (((i + 1) : Nat) : Int)) rfl rfl ?_
          refine wpL_done (fun W11 hW11 => ?_)
          go_roundw
          case rel =>
            repeat apply Exists.intro
            exact ⟨⟨i + 1, (by omega), rfl, (hW11.sub (fun p hp => by first | exact hp | (simp only [List.mem_cons, List.mem_append, List.nil_append, List.not_mem_nil, or_assoc, or_false, false_or] at hp ⊢ <;> grind)))⟩, rfl⟩
          case measure => (show l.length + 12 - (intOf (.int .i64 (((i + 1) : Nat) : Int))).toNat < l.length + 12 - (intOf (.int .i64 ((i : Nat) : Int))).toNat); simp only [intOf]; omega
end Go.Proofs.Ythpooalhibedpaa
/- Small ships, as the law takes them. -/
namespace Go.Proofs.Ythpooalhibedpaa
open Go Go.RowKit Tw
def fewX (cs : List Col) (os : List Cov) : Bool := decide (cs.length ≤ 250) && decide (os.length ≤ 60) && cs.all (fun c => decide (c.plugs.length ≤ 12)) && os.all (fun o => decide (o.rows.length ≤ 40))
theorem few_yes {cs : List Col} {os : List Cov} (h1 : ¬ 250 < cs.length) (h2 : ¬ 60 < os.length) (h3 : ∀ j c, j < cs.length → cs[j]? = some c → c.plugs.length ≤ 12) (h4 : ∀ j o, j < os.length → os[j]? = some o → o.rows.length ≤ 40) : fewX cs os = true := by
  unfold fewX
  rw [decide_eq_true (show cs.length ≤ 250 by omega), decide_eq_true (show os.length ≤ 60 by omega)]
  simp only [Bool.true_and, Bool.and_eq_true, List.all_eq_true, decide_eq_true_eq]
  refine ⟨fun c hm => ?_, fun o hm => ?_⟩
  · obtain ⟨j, hj⟩ := List.getElem?_of_mem hm
    exact h3 j c (List.getElem?_eq_some_iff.1 hj).1 hj
  · obtain ⟨j, hj⟩ := List.getElem?_of_mem hm
    exact h4 j o (List.getElem?_eq_some_iff.1 hj).1 hj
theorem few_no1 {cs : List Col} {os : List Cov} (h : 250 < cs.length) : fewX cs os = false := by
  unfold fewX
  rw [decide_eq_false (show ¬ cs.length ≤ 250 by omega)]; rfl
theorem few_no2 {cs : List Col} {os : List Cov} (h : 60 < os.length) : fewX cs os = false := by
  unfold fewX
  rw [decide_eq_false (show ¬ os.length ≤ 60 by omega), Bool.and_false]; rfl
theorem few_no3 {cs : List Col} {os : List Cov} {j : Nat} {c : Col} (hj : cs[j]? = some c) (h : 12 < c.plugs.length) : fewX cs os = false := by
  cases hb : fewX cs os with
  | false => rfl
  | true =>
    unfold fewX at hb
    simp only [Bool.and_eq_true, List.all_eq_true, decide_eq_true_eq] at hb
    have := hb.1.2 c (List.mem_of_getElem? hj)
    omega
theorem few_no4 {cs : List Col} {os : List Cov} {j : Nat} {o : Cov} (hj : os[j]? = some o) (h : 40 < o.rows.length) : fewX cs os = false := by
  cases hb : fewX cs os with
  | false => rfl
  | true =>
    unfold fewX at hb
    simp only [Bool.and_eq_true, List.all_eq_true, decide_eq_true_eq] at hb
    have := hb.2 o (List.mem_of_getElem? hj)
    omega
theorem few_is {cs : List Col} {os : List Cov} (hb : fewX cs os = true) : cs.length ≤ 250 ∧ os.length ≤ 60 ∧ (∀ c ∈ cs, c.plugs.length ≤ 12) ∧ ∀ o ∈ os, o.rows.length ≤ 40 := by
  unfold fewX at hb
  simp only [Bool.and_eq_true, List.all_eq_true, decide_eq_true_eq] at hb
  exact ⟨hb.1.1.1, hb.1.1.2, hb.1.2, hb.2⟩
theorem few_c {cs : List Col} {i q : Nat} {y : Col} (hC : ∀ j c, j < i → cs[j]? = some c → c.plugs.length ≤ 12) (hy : cs[i]? = some y) (h : ¬ 12 < y.plugs.length) (_ : q = i) : ∀ j c, j < i + 1 → cs[j]? = some c → c.plugs.length ≤ 12 := by
  intro j c hj hc
  by_cases e : j = i
  · subst e
    rw [hy] at hc
    cases hc
    omega
  · exact hC j c (by omega) hc
theorem few_o {os : List Cov} {i q : Nat} {y : Cov} (hC : ∀ j o, j < i → os[j]? = some o → o.rows.length ≤ 40) (hy : os[i]? = some y) (h : ¬ 40 < y.rows.length) (_ : q = i) : ∀ j o, j < i + 1 → os[j]? = some o → o.rows.length ≤ 40 := by
  intro j c hj hc
  by_cases e : j = i
  · subst e
    rw [hy] at hc
    cases hc
    omega
  · exact hC j c (by omega) hc
end Go.Proofs.Ythpooalhibedpaa
namespace Go.Proofs.Ythpooalhibedpaa
open Go Go.RowKit Tw
end Go.Proofs.Ythpooalhibedpaa
namespace Go.Proofs.Ythpooalhibedpaa
open Go Go.RowKit Tw
def Cov.re (y : Cov) (q : Option Addr) (d : Nat) : Cov := { y with rp := q, rc := d }
def Col.re (y : Col) (q : Option Addr) (d : Nat) : Col := { y with pp := q, pc := d }
theorem SameInts_yes (l : List Int) (p q : Option Addr) (c d : Nat) (hl : l.length ≤ 4000000000) (w : World) (hp : SLV w p (l.flatMap inC)) (hq : SLV w q (l.flatMap inC)) : Calls Try.prog 16 #[.slice p l.length c, .slice q l.length d] w fun e w' => e = .returned (.bool true) ∧ Below w.heap.size w w' := by
  have h := SameInts_any l l p q c d hl w hp hq
  rwa [decide_eq_true (rfl : l = l)] at h
set_option maxRecDepth 100000 in
set_option maxHeartbeats 4000000 in
theorem SameCover_any (y : Cov) (q : Option Addr) (d : Nat) (hl : y.rows.length ≤ 4000000000) (w : World) (hp : SLV w y.rp (y.rows.flatMap inC)) (hq : SLV w q (y.rows.flatMap inC)) : Calls Try.prog 77 #[.agg (covC y).toArray, .agg (covC (y.re q d)).toArray] w fun e w' => e = .returned (.bool true) ∧ Below w.heap.size w w' := by
  have HP := Lib.hid hp
  clear hp
  have HQ := Lib.hid hq
  clear hq
  go_enter Try.func77, Try.ntmps77
  refine wp_seq ?_
  refine wp_region_L (W0 := w) [] (KS.start w) ?_
  refine wpL_new (fun g => .pointer (some ⟨g, 0, none⟩)) (obi := .cells (covC y).toArray 51 (0, 0)) rfl rfl (fun _ => by kernel_rfl) (fun _ => by simp only [List.setIfInBounds_toArray, List.set_cons_succ, List.set_cons_zero] <;> rfl) fun g1 Bg1 Fg1 => ?_
  refine wpL_new (fun g => .pointer (some ⟨g, 0, none⟩)) (obi := .cells (covC (y.re q d)).toArray 51 (0, 0)) rfl rfl (fun _ => by kernel_rfl) (fun _ => by simp only [List.setIfInBounds_toArray, List.set_cons_succ, List.set_cons_zero] <;> rfl) fun g2 Bg2 Fg2 => ?_
  obtain dj3_0 : g1 ≠ g2 := by simpa only [dj_app_l, dj_app_r, dj_cons_l, dj_cons_r, dj_nil_l, dj_nil_r, dk_app, dk_cons, dk_nil, and_true, true_and, and_assoc] using (show Dk g2 [(g1, .cells (covC y).toArray 51 (0, 0))] from Fg2)
  refine lm (v := .bool false) rfl rfl ?_
  refine wpL_done (fun W1 hW1 => ?_)
  refine (show Code.wp _ _ _ _ _ from ?_)
  refine wp_seq ?_
  refine wp_region_L (W0 := w) [(g2, .cells (covC (y.re q d)).toArray 51 (0, 0)), (g1, .cells (covC y).toArray 51 (0, 0))] (hW1) ?_
  refine lm (v := .pointer (some ⟨g1, 0, none⟩)) rfl rfl ?_
  refine lv (v := .int .i64 y.bay) rfl rfl (yb_cell (off := 0) rfl (by kernel_rfl) (.tail _ (.head _)) Try.underlying3 rfl (by kernel_rfl)) ?_
  refine lm (v := .pointer (some ⟨g2, 0, none⟩)) rfl rfl ?_
  refine lv (v := .int .i64 ((y.re q d).bay)) rfl rfl (yb_cell (off := 0) rfl (by kernel_rfl) (.head _) Try.underlying3 rfl (by kernel_rfl)) ?_
  refine lp (v := .bool (decide (y.bay = ((y.re q d).bay)))) rfl rfl (run_bin rfl (vx := (.int .i64 y.bay)) (vy := (.int .i64 ((y.re q d).bay))) (by kernel_rfl) (by kernel_rfl) fun w => bi_eql rfl w) ?_
  refine lm (v := .bool (decide (y.bay = ((y.re q d).bay)))) rfl rfl ?_
  cases hd1 : (decide (y.bay = ((y.re q d).bay))) with
  | false =>
    have h1 : ¬ (y.bay = ((y.re q d).bay)) := of_decide_eq_false hd1
    clear hd1
    exact absurd rfl h1
  | true =>
    have h1 : y.bay = ((y.re q d).bay) := of_decide_eq_true hd1
    clear hd1
    refine lm (v := .pointer (some ⟨g1, 1, none⟩)) rfl rfl ?_
    refine lv (v := .slice y.rp y.rows.length y.rc) rfl rfl (yb_cell (off := 1) rfl (by kernel_rfl) (.tail _ (.head _)) Try.underlying39 rfl (by kernel_rfl)) ?_
    refine lm (v := .pointer (some ⟨g2, 1, none⟩)) rfl rfl ?_
    refine lv (v := .slice ((y.re q d).rp) (((y.re q d).rows).length) ((y.re q d).rc)) rfl rfl (yb_cell (off := 1) rfl (by kernel_rfl) (.head _) Try.underlying39 rfl (by kernel_rfl)) ?_
    refine lv (v := .bool true) rfl rfl (yb_call (f := 16) (args := #[.slice y.rp y.rows.length y.rc, .slice ((y.re q d).rp) (((y.re q d).rows).length) ((y.re q d).rc)]) (fun _ => by kernel_rfl) fun W hW => SameInts_yes y.rows y.rp q y.rc d hl W ((RL.base HP.out) _ (hW.sub (fun _ h => by cases h))) ((RL.base HQ.out) _ (hW.sub (fun _ h => by cases h)))) ?_
    refine lm (v := .bool true) rfl rfl ?_
    refine lm (v := .bool true) rfl rfl ?_
    refine wpL_done (fun W2 hW2 => ?_)
    refine (show Code.wp _ _ _ _ _ from ?_)
    refine wp_ret ?_
    try simp only [inBlock_ret, then_ret]
    refine bodyPost_ret (v := .bool true) ?_ rfl ?_
    · kernel_rfl
    · exact ⟨rfl, hW2.1⟩
set_option maxRecDepth 100000 in
set_option maxHeartbeats 4000000 in
theorem SameColumn_any (y : Col) (q : Option Addr) (d : Nat) (hl : y.plugs.length ≤ 4000000000) (w : World) (hp : SLV w y.pp (y.plugs.flatMap inC)) (hq : SLV w q (y.plugs.flatMap inC)) : Calls Try.prog 75 #[.agg (colC y).toArray, .agg (colC (y.re q d)).toArray] w fun e w' => e = .returned (.bool true) ∧ Below w.heap.size w w' := by
  have HP := Lib.hid hp
  clear hp
  have HQ := Lib.hid hq
  clear hq
  go_enter Try.func75, Try.ntmps75
  refine wp_seq ?_
  refine wp_region_L (W0 := w) [] (KS.start w) ?_
  refine wpL_new (fun g => .pointer (some ⟨g, 0, none⟩)) (obi := .cells (colC y).toArray 49 (0, 0)) rfl rfl (fun _ => by kernel_rfl) (fun _ => by simp only [List.setIfInBounds_toArray, List.set_cons_succ, List.set_cons_zero] <;> rfl) fun g1 Bg1 Fg1 => ?_
  refine wpL_new (fun g => .pointer (some ⟨g, 0, none⟩)) (obi := .cells (colC (y.re q d)).toArray 49 (0, 0)) rfl rfl (fun _ => by kernel_rfl) (fun _ => by simp only [List.setIfInBounds_toArray, List.set_cons_succ, List.set_cons_zero] <;> rfl) fun g2 Bg2 Fg2 => ?_
  obtain dj3_0 : g1 ≠ g2 := by simpa only [dj_app_l, dj_app_r, dj_cons_l, dj_cons_r, dj_nil_l, dj_nil_r, dk_app, dk_cons, dk_nil, and_true, true_and, and_assoc] using (show Dk g2 [(g1, .cells (colC y).toArray 49 (0, 0))] from Fg2)
  refine lm (v := .bool false) rfl rfl ?_
  refine wpL_done (fun W1 hW1 => ?_)
  refine (show Code.wp _ _ _ _ _ from ?_)
  refine wp_seq ?_
  refine wp_region_L (W0 := w) [(g2, .cells (colC (y.re q d)).toArray 49 (0, 0)), (g1, .cells (colC y).toArray 49 (0, 0))] (hW1) ?_
  refine lm (v := .pointer (some ⟨g1, 0, none⟩)) rfl rfl ?_
  refine lv (v := .int .i64 y.bay) rfl rfl (yb_cell (off := 0) rfl (by kernel_rfl) (.tail _ (.head _)) Try.underlying3 rfl (by kernel_rfl)) ?_
  refine lm (v := .pointer (some ⟨g2, 0, none⟩)) rfl rfl ?_
  refine lv (v := .int .i64 ((y.re q d).bay)) rfl rfl (yb_cell (off := 0) rfl (by kernel_rfl) (.head _) Try.underlying3 rfl (by kernel_rfl)) ?_
  refine lp (v := .bool (decide (y.bay = ((y.re q d).bay)))) rfl rfl (run_bin rfl (vx := (.int .i64 y.bay)) (vy := (.int .i64 ((y.re q d).bay))) (by kernel_rfl) (by kernel_rfl) fun w => bi_eql rfl w) ?_
  refine lm (v := .bool (decide (y.bay = ((y.re q d).bay)))) rfl rfl ?_
  cases hd1 : (decide (y.bay = ((y.re q d).bay))) with
  | false =>
    have h1 : ¬ (y.bay = ((y.re q d).bay)) := of_decide_eq_false hd1
    clear hd1
    exact absurd rfl h1
  | true =>
    have h1 : y.bay = ((y.re q d).bay) := of_decide_eq_true hd1
    clear hd1
    refine lm (v := .pointer (some ⟨g1, 1, none⟩)) rfl rfl ?_
    refine lv (v := .int .i64 y.row) rfl rfl (yb_cell (off := 1) rfl (by kernel_rfl) (.tail _ (.head _)) Try.underlying3 rfl (by kernel_rfl)) ?_
    refine lm (v := .pointer (some ⟨g2, 1, none⟩)) rfl rfl ?_
    refine lv (v := .int .i64 ((y.re q d).row)) rfl rfl (yb_cell (off := 1) rfl (by kernel_rfl) (.head _) Try.underlying3 rfl (by kernel_rfl)) ?_
    refine lp (v := .bool (decide (y.row = ((y.re q d).row)))) rfl rfl (run_bin rfl (vx := (.int .i64 y.row)) (vy := (.int .i64 ((y.re q d).row))) (by kernel_rfl) (by kernel_rfl) fun w => bi_eql rfl w) ?_
    refine lm (v := .bool (decide (y.row = ((y.re q d).row)))) rfl rfl ?_
    refine lm (v := .bool (decide (y.row = ((y.re q d).row)))) rfl rfl ?_
    cases hd2 : (decide (y.row = ((y.re q d).row))) with
    | false =>
      have h2 : ¬ (y.row = ((y.re q d).row)) := of_decide_eq_false hd2
      clear hd2
      exact absurd rfl h2
    | true =>
      have h2 : y.row = ((y.re q d).row) := of_decide_eq_true hd2
      clear hd2
      refine lm (v := .pointer (some ⟨g1, 2, none⟩)) rfl rfl ?_
      refine lv (v := .bool y.deck) rfl rfl (yb_cell (off := 2) rfl (by kernel_rfl) (.tail _ (.head _)) Try.underlying4 rfl (by kernel_rfl)) ?_
      refine lm (v := .pointer (some ⟨g2, 2, none⟩)) rfl rfl ?_
      refine lv (v := .bool ((y.re q d).deck)) rfl rfl (yb_cell (off := 2) rfl (by kernel_rfl) (.head _) Try.underlying4 rfl (by kernel_rfl)) ?_
      refine lp (v := .bool (y.deck == ((y.re q d).deck))) rfl rfl (run_bin rfl (vx := .bool y.deck) (vy := .bool ((y.re q d).deck)) (by kernel_rfl) (by kernel_rfl) fun w => bn_bool_eql rfl Try.underlying4 w) ?_
      refine lm (v := .bool (y.deck == ((y.re q d).deck))) rfl rfl ?_
      refine lm (v := .bool (y.deck == ((y.re q d).deck))) rfl rfl ?_
      cases h3 : (y.deck == ((y.re q d).deck)) with
      | false =>
        exact absurd (show (y.deck == ((y.re q d).deck)) = true from beq_self_eq_true y.deck) (by rw [h3]; exact Bool.false_ne_true)
      | true =>
        refine lm (v := .pointer (some ⟨g1, 3, none⟩)) rfl rfl ?_
        refine lv (v := .int .i64 y.tiers) rfl rfl (yb_cell (off := 3) rfl (by kernel_rfl) (.tail _ (.head _)) Try.underlying3 rfl (by kernel_rfl)) ?_
        refine lm (v := .pointer (some ⟨g2, 3, none⟩)) rfl rfl ?_
        refine lv (v := .int .i64 ((y.re q d).tiers)) rfl rfl (yb_cell (off := 3) rfl (by kernel_rfl) (.head _) Try.underlying3 rfl (by kernel_rfl)) ?_
        refine lp (v := .bool (decide (y.tiers = ((y.re q d).tiers)))) rfl rfl (run_bin rfl (vx := (.int .i64 y.tiers)) (vy := (.int .i64 ((y.re q d).tiers))) (by kernel_rfl) (by kernel_rfl) fun w => bi_eql rfl w) ?_
        refine lm (v := .bool (decide (y.tiers = ((y.re q d).tiers)))) rfl rfl ?_
        refine lm (v := .bool (decide (y.tiers = ((y.re q d).tiers)))) rfl rfl ?_
        cases hd4 : (decide (y.tiers = ((y.re q d).tiers))) with
        | false =>
          have h4 : ¬ (y.tiers = ((y.re q d).tiers)) := of_decide_eq_false hd4
          clear hd4
          exact absurd rfl h4
        | true =>
          have h4 : y.tiers = ((y.re q d).tiers) := of_decide_eq_true hd4
          clear hd4
          refine lm (v := .pointer (some ⟨g1, 4, none⟩)) rfl rfl ?_
          refine lv (v := .int .i64 y.height) rfl rfl (yb_cell (off := 4) rfl (by kernel_rfl) (.tail _ (.head _)) Try.underlying3 rfl (by kernel_rfl)) ?_
          refine lm (v := .pointer (some ⟨g2, 4, none⟩)) rfl rfl ?_
          refine lv (v := .int .i64 ((y.re q d).height)) rfl rfl (yb_cell (off := 4) rfl (by kernel_rfl) (.head _) Try.underlying3 rfl (by kernel_rfl)) ?_
          refine lp (v := .bool (decide (y.height = ((y.re q d).height)))) rfl rfl (run_bin rfl (vx := (.int .i64 y.height)) (vy := (.int .i64 ((y.re q d).height))) (by kernel_rfl) (by kernel_rfl) fun w => bi_eql rfl w) ?_
          refine lm (v := .bool (decide (y.height = ((y.re q d).height)))) rfl rfl ?_
          refine lm (v := .bool (decide (y.height = ((y.re q d).height)))) rfl rfl ?_
          cases hd5 : (decide (y.height = ((y.re q d).height))) with
          | false =>
            have h5 : ¬ (y.height = ((y.re q d).height)) := of_decide_eq_false hd5
            clear hd5
            exact absurd rfl h5
          | true =>
            have h5 : y.height = ((y.re q d).height) := of_decide_eq_true hd5
            clear hd5
            refine lm (v := .pointer (some ⟨g1, 5, none⟩)) rfl rfl ?_
            refine lv (v := .int .i64 y.k20) rfl rfl (yb_cell (off := 5) rfl (by kernel_rfl) (.tail _ (.head _)) Try.underlying3 rfl (by kernel_rfl)) ?_
            refine lm (v := .pointer (some ⟨g2, 5, none⟩)) rfl rfl ?_
            refine lv (v := .int .i64 ((y.re q d).k20)) rfl rfl (yb_cell (off := 5) rfl (by kernel_rfl) (.head _) Try.underlying3 rfl (by kernel_rfl)) ?_
            refine lp (v := .bool (decide (y.k20 = ((y.re q d).k20)))) rfl rfl (run_bin rfl (vx := (.int .i64 y.k20)) (vy := (.int .i64 ((y.re q d).k20))) (by kernel_rfl) (by kernel_rfl) fun w => bi_eql rfl w) ?_
            refine lm (v := .bool (decide (y.k20 = ((y.re q d).k20)))) rfl rfl ?_
            refine lm (v := .bool (decide (y.k20 = ((y.re q d).k20)))) rfl rfl ?_
            cases hd6 : (decide (y.k20 = ((y.re q d).k20))) with
            | false =>
              have h6 : ¬ (y.k20 = ((y.re q d).k20)) := of_decide_eq_false hd6
              clear hd6
              exact absurd rfl h6
            | true =>
              have h6 : y.k20 = ((y.re q d).k20) := of_decide_eq_true hd6
              clear hd6
              refine lm (v := .pointer (some ⟨g1, 6, none⟩)) rfl rfl ?_
              refine lv (v := .int .i64 y.k40) rfl rfl (yb_cell (off := 6) rfl (by kernel_rfl) (.tail _ (.head _)) Try.underlying3 rfl (by kernel_rfl)) ?_
              refine lm (v := .pointer (some ⟨g2, 6, none⟩)) rfl rfl ?_
              refine lv (v := .int .i64 ((y.re q d).k40)) rfl rfl (yb_cell (off := 6) rfl (by kernel_rfl) (.head _) Try.underlying3 rfl (by kernel_rfl)) ?_
              refine lp (v := .bool (decide (y.k40 = ((y.re q d).k40)))) rfl rfl (run_bin rfl (vx := (.int .i64 y.k40)) (vy := (.int .i64 ((y.re q d).k40))) (by kernel_rfl) (by kernel_rfl) fun w => bi_eql rfl w) ?_
              refine lm (v := .bool (decide (y.k40 = ((y.re q d).k40)))) rfl rfl ?_
              refine lm (v := .bool (decide (y.k40 = ((y.re q d).k40)))) rfl rfl ?_
              cases hd7 : (decide (y.k40 = ((y.re q d).k40))) with
              | false =>
                have h7 : ¬ (y.k40 = ((y.re q d).k40)) := of_decide_eq_false hd7
                clear hd7
                exact absurd rfl h7
              | true =>
                have h7 : y.k40 = ((y.re q d).k40) := of_decide_eq_true hd7
                clear hd7
                refine lm (v := .pointer (some ⟨g1, 7, none⟩)) rfl rfl ?_
                refine lv (v := .int .i64 y.lash) rfl rfl (yb_cell (off := 7) rfl (by kernel_rfl) (.tail _ (.head _)) Try.underlying3 rfl (by kernel_rfl)) ?_
                refine lm (v := .pointer (some ⟨g2, 7, none⟩)) rfl rfl ?_
                refine lv (v := .int .i64 ((y.re q d).lash)) rfl rfl (yb_cell (off := 7) rfl (by kernel_rfl) (.head _) Try.underlying3 rfl (by kernel_rfl)) ?_
                refine lp (v := .bool (decide (y.lash = ((y.re q d).lash)))) rfl rfl (run_bin rfl (vx := (.int .i64 y.lash)) (vy := (.int .i64 ((y.re q d).lash))) (by kernel_rfl) (by kernel_rfl) fun w => bi_eql rfl w) ?_
                refine lm (v := .bool (decide (y.lash = ((y.re q d).lash)))) rfl rfl ?_
                refine lm (v := .bool (decide (y.lash = ((y.re q d).lash)))) rfl rfl ?_
                cases hd8 : (decide (y.lash = ((y.re q d).lash))) with
                | false =>
                  have h8 : ¬ (y.lash = ((y.re q d).lash)) := of_decide_eq_false hd8
                  clear hd8
                  exact absurd rfl h8
                | true =>
                  have h8 : y.lash = ((y.re q d).lash) := of_decide_eq_true hd8
                  clear hd8
                  refine lm (v := .pointer (some ⟨g1, 8, none⟩)) rfl rfl ?_
                  refine lv (v := .slice y.pp y.plugs.length y.pc) rfl rfl (yb_cell (off := 8) rfl (by kernel_rfl) (.tail _ (.head _)) Try.underlying39 rfl (by kernel_rfl)) ?_
                  refine lm (v := .pointer (some ⟨g2, 8, none⟩)) rfl rfl ?_
                  refine lv (v := .slice ((y.re q d).pp) (((y.re q d).plugs).length) ((y.re q d).pc)) rfl rfl (yb_cell (off := 8) rfl (by kernel_rfl) (.head _) Try.underlying39 rfl (by kernel_rfl)) ?_
                  refine lv (v := .bool true) rfl rfl (yb_call (f := 16) (args := #[.slice y.pp y.plugs.length y.pc, .slice ((y.re q d).pp) (((y.re q d).plugs).length) ((y.re q d).pc)]) (fun _ => by kernel_rfl) fun W hW => SameInts_yes y.plugs y.pp q y.pc d hl W ((RL.base HP.out) _ (hW.sub (fun _ h => by cases h))) ((RL.base HQ.out) _ (hW.sub (fun _ h => by cases h)))) ?_
                  refine lm (v := .bool true) rfl rfl ?_
                  refine lm (v := .bool true) rfl rfl ?_
                  refine lm (v := .pointer (some ⟨g1, 9, none⟩)) rfl rfl ?_
                  refine lv (v := .int .i64 y.x) rfl rfl (yb_cell (off := 9) rfl (by kernel_rfl) (.tail _ (.head _)) Try.underlying3 rfl (by kernel_rfl)) ?_
                  refine lm (v := .pointer (some ⟨g2, 9, none⟩)) rfl rfl ?_
                  refine lv (v := .int .i64 ((y.re q d).x)) rfl rfl (yb_cell (off := 9) rfl (by kernel_rfl) (.head _) Try.underlying3 rfl (by kernel_rfl)) ?_
                  refine lp (v := .bool (decide (y.x = ((y.re q d).x)))) rfl rfl (run_bin rfl (vx := (.int .i64 y.x)) (vy := (.int .i64 ((y.re q d).x))) (by kernel_rfl) (by kernel_rfl) fun w => bi_eql rfl w) ?_
                  refine lm (v := .bool (decide (y.x = ((y.re q d).x)))) rfl rfl ?_
                  refine lm (v := .bool (decide (y.x = ((y.re q d).x)))) rfl rfl ?_
                  cases hd9 : (decide (y.x = ((y.re q d).x))) with
                  | false =>
                    have h9 : ¬ (y.x = ((y.re q d).x)) := of_decide_eq_false hd9
                    clear hd9
                    exact absurd rfl h9
                  | true =>
                    have h9 : y.x = ((y.re q d).x) := of_decide_eq_true hd9
                    clear hd9
                    refine lm (v := .pointer (some ⟨g1, 10, none⟩)) rfl rfl ?_
                    refine lv (v := .int .i64 y.y) rfl rfl (yb_cell (off := 10) rfl (by kernel_rfl) (.tail _ (.head _)) Try.underlying3 rfl (by kernel_rfl)) ?_
                    refine lm (v := .pointer (some ⟨g2, 10, none⟩)) rfl rfl ?_
                    refine lv (v := .int .i64 ((y.re q d).y)) rfl rfl (yb_cell (off := 10) rfl (by kernel_rfl) (.head _) Try.underlying3 rfl (by kernel_rfl)) ?_
                    refine lp (v := .bool (decide (y.y = ((y.re q d).y)))) rfl rfl (run_bin rfl (vx := (.int .i64 y.y)) (vy := (.int .i64 ((y.re q d).y))) (by kernel_rfl) (by kernel_rfl) fun w => bi_eql rfl w) ?_
                    refine lm (v := .bool (decide (y.y = ((y.re q d).y)))) rfl rfl ?_
                    refine lm (v := .bool (decide (y.y = ((y.re q d).y)))) rfl rfl ?_
                    cases hd10 : (decide (y.y = ((y.re q d).y))) with
                    | false =>
                      have h10 : ¬ (y.y = ((y.re q d).y)) := of_decide_eq_false hd10
                      clear hd10
                      exact absurd rfl h10
                    | true =>
                      have h10 : y.y = ((y.re q d).y) := of_decide_eq_true hd10
                      clear hd10
                      refine lm (v := .pointer (some ⟨g1, 11, none⟩)) rfl rfl ?_
                      refine lv (v := .int .i64 y.z) rfl rfl (yb_cell (off := 11) rfl (by kernel_rfl) (.tail _ (.head _)) Try.underlying3 rfl (by kernel_rfl)) ?_
                      refine lm (v := .pointer (some ⟨g2, 11, none⟩)) rfl rfl ?_
                      refine lv (v := .int .i64 ((y.re q d).z)) rfl rfl (yb_cell (off := 11) rfl (by kernel_rfl) (.head _) Try.underlying3 rfl (by kernel_rfl)) ?_
                      refine lp (v := .bool (decide (y.z = ((y.re q d).z)))) rfl rfl (run_bin rfl (vx := (.int .i64 y.z)) (vy := (.int .i64 ((y.re q d).z))) (by kernel_rfl) (by kernel_rfl) fun w => bi_eql rfl w) ?_
                      refine lm (v := .bool (decide (y.z = ((y.re q d).z)))) rfl rfl ?_
                      refine lm (v := .bool (decide (y.z = ((y.re q d).z)))) rfl rfl ?_
                      refine wpL_done (fun W2 hW2 => ?_)
                      refine (show Code.wp _ _ _ _ _ from ?_)
                      refine wp_ret ?_
                      try simp only [inBlock_ret, then_ret]
                      refine bodyPost_ret (v := .bool (decide (y.z = ((y.re q d).z)))) ?_ rfl ?_
                      · kernel_rfl
                      · exact ⟨(bool_is (decide_eq_true rfl)), hW2.1⟩
end Go.Proofs.Ythpooalhibedpaa
namespace Go.Proofs.Ythpooalhibedpaa
open Go Go.RowKit Tw
theorem slv_pre0 {W : World} {p : Option Addr} {l m : List Int} (h : SLV W p ((l ++ m).flatMap inC)) : SLV W p (l.flatMap inC) := by
  rw [List.flatMap_append] at h
  refine h.elim (fun e => .inl (List.append_eq_nil_iff.1 e).1) fun ⟨b, off, hp, hlt, hc⟩ => .inr ⟨b, off, hp, hlt, fun i u hu => hc i u ?_⟩
  rw [List.getElem?_append_left (List.getElem?_eq_some_iff.1 hu).1]
  exact hu
def mkCol (i : Nat) : Col := { bay := mkI i, row := 0, deck := false, tiers := 0, height := 0, k20 := 0, k40 := 0, lash := 0, plugs := [], pp := none, pc := 0, x := 0, y := 0, z := 0 }
def mkCov (i : Nat) : Cov := { bay := mkI i, rows := [], rp := none, rc := 0 }
set_option maxRecDepth 100000 in
set_option maxHeartbeats 4000000 in
theorem KeptCover_any (y : Cov) (q : Option Addr) (d : Nat) (hl : y.rows.length ≤ 1000000) (hd : y.rows.length + 12 ≤ d) (w : World) (hp : SLV w y.rp (y.rows.flatMap inC)) (hq : SLV w q ((y.rows ++ mkL 12).flatMap inC)) : Calls Try.prog 76 #[.agg (covC (y.re q d)).toArray, .agg (covC y).toArray] w fun e w' => e = .returned (.bool true) ∧ Below w.heap.size w w' := by
  have HP := Lib.hid hp
  clear hp
  have HQ := Lib.hid hq
  clear hq
  go_enter Try.func76, Try.ntmps76
  refine wp_seq ?_
  refine wp_region_L (W0 := w) [] (KS.start w) ?_
  refine wpL_new (fun g => .pointer (some ⟨g, 0, none⟩)) (obi := .cells (covC (y.re q d)).toArray 51 (0, 0)) rfl rfl (fun _ => by kernel_rfl) (fun _ => by simp only [List.setIfInBounds_toArray, List.set_cons_succ, List.set_cons_zero] <;> rfl) fun g1 Bg1 Fg1 => ?_
  refine wpL_new (fun g => .pointer (some ⟨g, 0, none⟩)) (obi := .cells (covC y).toArray 51 (0, 0)) rfl rfl (fun _ => by kernel_rfl) (fun _ => by simp only [List.setIfInBounds_toArray, List.set_cons_succ, List.set_cons_zero] <;> rfl) fun g2 Bg2 Fg2 => ?_
  obtain dj3_0 : g1 ≠ g2 := by simpa only [dj_app_l, dj_app_r, dj_cons_l, dj_cons_r, dj_nil_l, dj_nil_r, dk_app, dk_cons, dk_nil, and_true, true_and, and_assoc] using (show Dk g2 [(g1, .cells (covC (y.re q d)).toArray 51 (0, 0))] from Fg2)
  refine lm (v := .bool false) rfl rfl ?_
  refine wpL_done (fun W1 hW1 => ?_)
  refine (show Code.wp _ _ _ _ _ from ?_)
  refine wp_seq ?_
  refine wp_region_L (W0 := w) [(g2, .cells (covC y).toArray 51 (0, 0)), (g1, .cells (covC (y.re q d)).toArray 51 (0, 0))] (hW1) ?_
  refine lv (v := .agg (covC (y.re q d)).toArray) rfl rfl (yb_load (n := 2) (off := 0) rfl (by kernel_rfl) (.tail _ (.head _)) Try.underlying51 rfl (by kernel_rfl) (by first | (simp [Value.cells]; done) | exact Nat.le_of_ble_eq_true rfl) (by kernel_rfl)) ?_
  refine lv (v := .agg (covC y).toArray) rfl rfl (yb_load (n := 2) (off := 0) rfl (by kernel_rfl) (.head _) Try.underlying51 rfl (by kernel_rfl) (by first | (simp [Value.cells]; done) | exact Nat.le_of_ble_eq_true rfl) (by kernel_rfl)) ?_
  refine lv (v := .bool true) rfl rfl (yb_call (f := 77) (args := #[.agg (covC (y.re q d)).toArray, .agg (covC y).toArray]) (fun _ => by kernel_rfl) fun W hW => SameCover_any (y.re q d) y.rp y.rc (show y.rows.length ≤ 4000000000 by omega) W (slv_pre0 (HQ.out.keep hW.1)) (HP.out.keep hW.1)) ?_
  refine lm (v := .bool true) rfl rfl ?_
  refine lm (v := .pointer (some ⟨g1, 1, none⟩)) rfl rfl ?_
  refine lv (v := .slice ((y.re q d).rp) (((y.re q d).rows).length) ((y.re q d).rc)) rfl rfl (yb_cell (off := 1) rfl (by kernel_rfl) (.tail _ (.head _)) Try.underlying39 rfl (by kernel_rfl)) ?_
  refine lm (v := .pointer (some ⟨g2, 1, none⟩)) rfl rfl ?_
  refine lv (v := .slice y.rp y.rows.length y.rc) rfl rfl (yb_cell (off := 1) rfl (by kernel_rfl) (.head _) Try.underlying39 rfl (by kernel_rfl)) ?_
  refine lv (v := .bool true) rfl rfl (yb_call (f := 85) (args := #[.slice ((y.re q d).rp) (((y.re q d).rows).length) ((y.re q d).rc), .slice y.rp y.rows.length y.rc]) (fun _ => by kernel_rfl) fun W hW => KeptInts_any y.rows q y.rp d y.rc hl hd W (HQ.out.keep hW.1) (HP.out.keep hW.1)) ?_
  refine lm (v := .bool true) rfl rfl ?_
  refine lm (v := .bool true) rfl rfl ?_
  refine wpL_done (fun W2 hW2 => ?_)
  refine (show Code.wp _ _ _ _ _ from ?_)
  refine wp_ret ?_
  try simp only [inBlock_ret, then_ret]
  refine bodyPost_ret (v := .bool true) ?_ rfl ?_
  · kernel_rfl
  · exact ⟨rfl, hW2.1⟩
set_option maxRecDepth 100000 in
set_option maxHeartbeats 4000000 in
theorem KeptColumn_any (y : Col) (q : Option Addr) (d : Nat) (hl : y.plugs.length ≤ 1000000) (hd : y.plugs.length + 12 ≤ d) (w : World) (hp : SLV w y.pp (y.plugs.flatMap inC)) (hq : SLV w q ((y.plugs ++ mkL 12).flatMap inC)) : Calls Try.prog 74 #[.agg (colC (y.re q d)).toArray, .agg (colC y).toArray] w fun e w' => e = .returned (.bool true) ∧ Below w.heap.size w w' := by
  have HP := Lib.hid hp
  clear hp
  have HQ := Lib.hid hq
  clear hq
  go_enter Try.func74, Try.ntmps74
  refine wp_seq ?_
  refine wp_region_L (W0 := w) [] (KS.start w) ?_
  refine wpL_new (fun g => .pointer (some ⟨g, 0, none⟩)) (obi := .cells (colC (y.re q d)).toArray 49 (0, 0)) rfl rfl (fun _ => by kernel_rfl) (fun _ => by simp only [List.setIfInBounds_toArray, List.set_cons_succ, List.set_cons_zero] <;> rfl) fun g1 Bg1 Fg1 => ?_
  refine wpL_new (fun g => .pointer (some ⟨g, 0, none⟩)) (obi := .cells (colC y).toArray 49 (0, 0)) rfl rfl (fun _ => by kernel_rfl) (fun _ => by simp only [List.setIfInBounds_toArray, List.set_cons_succ, List.set_cons_zero] <;> rfl) fun g2 Bg2 Fg2 => ?_
  obtain dj3_0 : g1 ≠ g2 := by simpa only [dj_app_l, dj_app_r, dj_cons_l, dj_cons_r, dj_nil_l, dj_nil_r, dk_app, dk_cons, dk_nil, and_true, true_and, and_assoc] using (show Dk g2 [(g1, .cells (colC (y.re q d)).toArray 49 (0, 0))] from Fg2)
  refine lm (v := .bool false) rfl rfl ?_
  refine wpL_done (fun W1 hW1 => ?_)
  refine (show Code.wp _ _ _ _ _ from ?_)
  refine wp_seq ?_
  refine wp_region_L (W0 := w) [(g2, .cells (colC y).toArray 49 (0, 0)), (g1, .cells (colC (y.re q d)).toArray 49 (0, 0))] (hW1) ?_
  refine lv (v := .agg (colC (y.re q d)).toArray) rfl rfl (yb_load (n := 12) (off := 0) rfl (by kernel_rfl) (.tail _ (.head _)) Try.underlying49 rfl (by kernel_rfl) (by first | (simp [Value.cells]; done) | exact Nat.le_of_ble_eq_true rfl) (by kernel_rfl)) ?_
  refine lv (v := .agg (colC y).toArray) rfl rfl (yb_load (n := 12) (off := 0) rfl (by kernel_rfl) (.head _) Try.underlying49 rfl (by kernel_rfl) (by first | (simp [Value.cells]; done) | exact Nat.le_of_ble_eq_true rfl) (by kernel_rfl)) ?_
  refine lv (v := .bool true) rfl rfl (yb_call (f := 75) (args := #[.agg (colC (y.re q d)).toArray, .agg (colC y).toArray]) (fun _ => by kernel_rfl) fun W hW => SameColumn_any (y.re q d) y.pp y.pc (show y.plugs.length ≤ 4000000000 by omega) W (slv_pre0 (HQ.out.keep hW.1)) (HP.out.keep hW.1)) ?_
  refine lm (v := .bool true) rfl rfl ?_
  refine lm (v := .pointer (some ⟨g1, 8, none⟩)) rfl rfl ?_
  refine lv (v := .slice ((y.re q d).pp) (((y.re q d).plugs).length) ((y.re q d).pc)) rfl rfl (yb_cell (off := 8) rfl (by kernel_rfl) (.tail _ (.head _)) Try.underlying39 rfl (by kernel_rfl)) ?_
  refine lm (v := .pointer (some ⟨g2, 8, none⟩)) rfl rfl ?_
  refine lv (v := .slice y.pp y.plugs.length y.pc) rfl rfl (yb_cell (off := 8) rfl (by kernel_rfl) (.head _) Try.underlying39 rfl (by kernel_rfl)) ?_
  refine lv (v := .bool true) rfl rfl (yb_call (f := 85) (args := #[.slice ((y.re q d).pp) (((y.re q d).plugs).length) ((y.re q d).pc), .slice y.pp y.plugs.length y.pc]) (fun _ => by kernel_rfl) fun W hW => KeptInts_any y.plugs q y.pp d y.pc hl hd W (HQ.out.keep hW.1) (HP.out.keep hW.1)) ?_
  refine lm (v := .bool true) rfl rfl ?_
  refine lm (v := .bool true) rfl rfl ?_
  refine wpL_done (fun W2 hW2 => ?_)
  refine (show Code.wp _ _ _ _ _ from ?_)
  refine wp_ret ?_
  try simp only [inBlock_ret, then_ret]
  refine bodyPost_ret (v := .bool true) ?_ rfl ?_
  · kernel_rfl
  · exact ⟨rfl, hW2.1⟩
set_option maxRecDepth 100000 in
set_option maxHeartbeats 4000000 in
theorem markCover_any (i : Nat) (hi : i ≤ 4000000000) (w : World) : Calls Try.prog 58 #[.int .i64 1, .int .i64 i] w fun e w' => e = .returned (.agg (covC (mkCov i)).toArray) ∧ Below w.heap.size w w' := by
  go_enter Try.func58, Try.ntmps58
  refine wp_seq ?_
  refine wp_region_L (W0 := w) [] (KS.start w) ?_
  refine wpL_new (fun g => .pointer (some ⟨g, 0, none⟩)) (obi := .cells #[.int .i64 0, .slice none 0 0] 51 (0, 0)) rfl rfl (fun _ => by kernel_rfl) (fun _ => by simp only [List.setIfInBounds_toArray, List.set_cons_succ, List.set_cons_zero] <;> rfl) fun g1 Bg1 Fg1 => ?_
  refine wpL_done (fun W1 hW1 => ?_)
  refine (show Code.wp _ _ _ _ _ from ?_)
  refine wp_seq ?_
  refine wp_region_L (W0 := w) [(g1, .cells #[.int .i64 0, .slice none 0 0] 51 (0, 0))] (hW1) ?_
  refine lm (v := .int .i64 1) rfl rfl ?_
  refine lm (v := .int .i64 ((i : Nat) : Int)) rfl rfl ?_
  refine lv (v := .int .i64 (mkI i)) rfl rfl (yb_call (f := 81) (args := #[.int .i64 1, .int .i64 ((i : Nat) : Int)]) (fun _ => by kernel_rfl) fun W hW => mark_any 1 ((i : Nat) : Int) (by omega) (by omega) W) ?_
  refine lm (v := .agg #[.int .i64 (mkI i), .slice none 0 0]) rfl rfl ?_
  refine wpL_s [(g1, .cells #[.int .i64 (mkI i), .slice none 0 0] 51 (0, 0))] rfl rfl (st_row (off := 0) (v := .agg #[.int .i64 (mkI i), .slice none 0 0]) rfl (by kernel_rfl) (by kernel_rfl) (.head _) Bg1 (by kernel_rfl) (by first | (simp [Value.cells]; done) | exact Nat.le_of_ble_eq_true rfl) (by intro v hv; simp [Value.cells] at hv; first | (subst hv; rfl) | (rcases hv with rfl | rfl <;> rfl)) (by kernel_rfl) (List.forall_mem_cons.2 ⟨.inl rfl, (List.forall_mem_nil _)⟩)) ?_
  refine wpL_done (fun W2 hW2 => ?_)
  refine (show Code.wp _ _ _ _ _ from ?_)
  refine wp_ret ?_
  try simp only [inBlock_ret, then_ret]
  refine bodyPost_ret (v := .agg #[.int .i64 (mkI i), .slice none 0 0]) ?_ rfl ?_
  · exact (res_cell (p := 4) rfl rfl (hW2.2 _ (.head _)) Try.underlying51 rfl (by kernel_rfl))
  · exact ⟨rfl, hW2.1⟩
set_option maxRecDepth 100000 in
set_option maxHeartbeats 4000000 in
theorem markColumn_any (i : Nat) (hi : i ≤ 4000000000) (w : World) : Calls Try.prog 56 #[.int .i64 1, .int .i64 i] w fun e w' => e = .returned (.agg (colC (mkCol i)).toArray) ∧ Below w.heap.size w w' := by
  go_enter Try.func56, Try.ntmps56
  refine wp_seq ?_
  refine wp_region_L (W0 := w) [] (KS.start w) ?_
  refine wpL_new (fun g => .pointer (some ⟨g, 0, none⟩)) (obi := .cells #[.int .i64 0, .int .i64 0, .bool false, .int .i64 0, .int .i64 0, .int .i64 0, .int .i64 0, .int .i64 0, .slice none 0 0, .int .i64 0, .int .i64 0, .int .i64 0] 49 (0, 0)) rfl rfl (fun _ => by kernel_rfl) (fun _ => by simp only [List.setIfInBounds_toArray, List.set_cons_succ, List.set_cons_zero] <;> rfl) fun g1 Bg1 Fg1 => ?_
  refine wpL_done (fun W1 hW1 => ?_)
  refine (show Code.wp _ _ _ _ _ from ?_)
  refine wp_seq ?_
  refine wp_region_L (W0 := w) [(g1, .cells #[.int .i64 0, .int .i64 0, .bool false, .int .i64 0, .int .i64 0, .int .i64 0, .int .i64 0, .int .i64 0, .slice none 0 0, .int .i64 0, .int .i64 0, .int .i64 0] 49 (0, 0))] (hW1) ?_
  refine lm (v := .int .i64 1) rfl rfl ?_
  refine lm (v := .int .i64 ((i : Nat) : Int)) rfl rfl ?_
  refine lv (v := .int .i64 (mkI i)) rfl rfl (yb_call (f := 81) (args := #[.int .i64 1, .int .i64 ((i : Nat) : Int)]) (fun _ => by kernel_rfl) fun W hW => mark_any 1 ((i : Nat) : Int) (by omega) (by omega) W) ?_
  refine lm (v := .agg #[.int .i64 (mkI i), .int .i64 0, .bool false, .int .i64 0, .int .i64 0, .int .i64 0, .int .i64 0, .int .i64 0, .slice none 0 0, .int .i64 0, .int .i64 0, .int .i64 0]) rfl rfl ?_
  refine wpL_s [(g1, .cells #[.int .i64 (mkI i), .int .i64 0, .bool false, .int .i64 0, .int .i64 0, .int .i64 0, .int .i64 0, .int .i64 0, .slice none 0 0, .int .i64 0, .int .i64 0, .int .i64 0] 49 (0, 0))] rfl rfl (st_row (off := 0) (v := .agg #[.int .i64 (mkI i), .int .i64 0, .bool false, .int .i64 0, .int .i64 0, .int .i64 0, .int .i64 0, .int .i64 0, .slice none 0 0, .int .i64 0, .int .i64 0, .int .i64 0]) rfl (by kernel_rfl) (by kernel_rfl) (.head _) Bg1 (by kernel_rfl) (by first | (simp [Value.cells]; done) | exact Nat.le_of_ble_eq_true rfl) (by intro v hv; simp [Value.cells] at hv; first | (subst hv; rfl) | (rcases hv with rfl | rfl | rfl | rfl | rfl | rfl | rfl | rfl | rfl | rfl | rfl | rfl <;> rfl)) (by kernel_rfl) (List.forall_mem_cons.2 ⟨.inl rfl, (List.forall_mem_nil _)⟩)) ?_
  refine wpL_done (fun W2 hW2 => ?_)
  refine (show Code.wp _ _ _ _ _ from ?_)
  refine wp_ret ?_
  try simp only [inBlock_ret, then_ret]
  refine bodyPost_ret (v := .agg #[.int .i64 (mkI i), .int .i64 0, .bool false, .int .i64 0, .int .i64 0, .int .i64 0, .int .i64 0, .int .i64 0, .slice none 0 0, .int .i64 0, .int .i64 0, .int .i64 0]) ?_ rfl ?_
  · exact (res_cell (p := 4) rfl rfl (hW2.2 _ (.head _)) Try.underlying49 rfl (by kernel_rfl))
  · exact ⟨rfl, hW2.1⟩
end Go.Proofs.Ythpooalhibedpaa
/- A list that was lent. -/
namespace Go.Proofs.Ythpooalhibedpaa
open Go Go.RowKit Tw
def LentRL (W0 : Base) (E : TypeId) (sz n m : Nat) (xs : List Value) (K : List (Nat × Obj)) (v : Value) (K' : List (Nat × Obj)) : Prop :=
  ∃ p c Kl, v = .slice p n c ∧ m ≤ c ∧ OwnL W0 E sz (.slice p m c) m xs Kl ∧ (∀ p ∈ K, ∀ q ∈ Kl, q.1 ≠ p.1) ∧ K' = K ++ Kl
theorem LentRL.sub {W0 : Base} {E : TypeId} {sz n m : Nat} {xs : List Value} {K K' : List (Nat × Obj)} {v : Value} (h : LentRL W0 E sz n m xs K v K') : ∀ p ∈ K, p ∈ K' := by
  obtain ⟨_, _, _, _, _, _, _, rfl⟩ := h
  exact fun p hp => List.mem_append_left _ hp
theorem calls_lent {P : Program} {W0 : Base} {K : List (Nat × Obj)} {W : World} {E : TypeId} {sz n m : Nat} {xs : List Value} {f : FuncId} {args : Array Value} (hW : KS W0 K W) (h : Calls P f args W fun e w' => ∃ q d, e = .returned (.slice q n d) ∧ m ≤ d ∧ OutV W w' E sz (.slice q m d) m xs ∧ Below W.heap.size W w') :
    Calls P f args W fun e w' => ∃ v K', e = .returned v ∧ KS W0 K' w' ∧ LentRL W0 E sz n m xs K v K' :=
  h.mono fun e w' ⟨q, d, he, hm, hO, hb⟩ => by
    obtain ⟨Kl, h1, h2, h3⟩ := hO.own hW hb
    exact ⟨_, _, he, h3, q, d, Kl, rfl, hm, h1, h2, rfl⟩
end Go.Proofs.Ythpooalhibedpaa
namespace Go.Proofs.Ythpooalhibedpaa
open Go Go.RowKit Tw
set_option maxRecDepth 100000 in
set_option maxHeartbeats 4000000 in
theorem LentCover_any (y : Cov) (hl : y.rows.length ≤ 1000000) (w : World) (hp : SLV w y.rp (y.rows.flatMap inC)) : Calls Try.prog 57 #[.agg (covC y).toArray] w fun e w' => ∃ q d, e = .returned (.agg (covC (y.re q d)).toArray) ∧ y.rows.length + 12 ≤ d ∧ OutV w w' 3 1 (.slice q (y.rows ++ mkL 12).length d) (y.rows ++ mkL 12).length ((y.rows ++ mkL 12).flatMap inC) ∧ Below w.heap.size w w' := by
  have HP := Lib.hid hp
  clear hp
  have hlen : (y.rows ++ mkL 12).length = y.rows.length + 12 := by rw [List.length_append, mkL_len]
  go_enter Try.func57, Try.ntmps57
  refine wp_seq ?_
  refine wp_region_L (W0 := w) [] (KS.start w) ?_
  refine wpL_new (fun g => .pointer (some ⟨g, 0, none⟩)) (obi := .cells (covC y).toArray 51 (0, 0)) rfl rfl (fun _ => by kernel_rfl) (fun _ => by simp only [List.setIfInBounds_toArray, List.set_cons_succ, List.set_cons_zero] <;> rfl) fun g1 Bg1 Fg1 => ?_
  refine wpL_new (fun g => .pointer (some ⟨g, 0, none⟩)) (obi := .cells #[.int .i64 0, .slice none 0 0] 51 (0, 0)) rfl rfl (fun _ => by kernel_rfl) (fun _ => by simp only [List.setIfInBounds_toArray, List.set_cons_succ, List.set_cons_zero] <;> rfl) fun g2 Bg2 Fg2 => ?_
  obtain dj3_0 : g1 ≠ g2 := by simpa only [dj_app_l, dj_app_r, dj_cons_l, dj_cons_r, dj_nil_l, dj_nil_r, dk_app, dk_cons, dk_nil, and_true, true_and, and_assoc] using (show Dk g2 [(g1, .cells (covC y).toArray 51 (0, 0))] from Fg2)
  refine wpL_done (fun W1 hW1 => ?_)
  refine (show Code.wp _ _ _ _ _ from ?_)
  refine wp_seq ?_
  refine wp_region_L (W0 := w) [(g2, .cells #[.int .i64 0, .slice none 0 0] 51 (0, 0)), (g1, .cells (covC y).toArray 51 (0, 0))] (hW1) ?_
  refine lm (v := .pointer (some ⟨g1, 1, none⟩)) rfl rfl ?_
  refine lv (v := .slice y.rp y.rows.length y.rc) rfl rfl (yb_cell (off := 1) rfl (by kernel_rfl) (.tail _ (.head _)) Try.underlying39 rfl (by kernel_rfl)) ?_
  refine wpL_c (f := 80) (args := #[.slice y.rp y.rows.length y.rc]) (LentRL w 3 1 y.rows.length (y.rows ++ mkL 12).length ((y.rows ++ mkL 12).flatMap inC) [(g2, .cells #[.int .i64 0, .slice none 0 0] 51 (0, 0)), (g1, .cells (covC y).toArray 51 (0, 0))]) rfl (by kernel_rfl) (fun _ => (by kernel_rfl)) (fun W hW => calls_lent hW (((LentInts_any y.rows y.rp y.rc hl W (HP.out.keep hW.1)).mono fun _ _ ⟨q, d, h1, h2, h3⟩ => ⟨q, d, h1, by rw [hlen]; exact h2, h3⟩))) (fun _ => by simp only [List.setIfInBounds_toArray, List.set_cons_succ, List.set_cons_zero] <;> rfl) ?_
  rintro _ _ ⟨p4, c4, Kl4, rfl, n4, O4, N4, rfl⟩
  obtain ⟨dj5_0, dj5_1⟩ : Dk g2 Kl4 ∧ Dk g1 Kl4 := by simpa only [dj_app_l, dj_app_r, dj_cons_l, dj_cons_r, dj_nil_l, dj_nil_r, dk_app, dk_cons, dk_nil, and_true, true_and, and_assoc] using (show Dj [(g2, .cells #[.int .i64 0, .slice none 0 0] 51 (0, 0)), (g1, .cells (covC y).toArray 51 (0, 0))] Kl4 from N4)
  refine lm (v := .pointer (some ⟨g1, 1, none⟩)) rfl rfl ?_
  refine wpL_s ((g2, .cells #[.int .i64 0, .slice none 0 0] 51 (0, 0)) :: (g1, .cells #[.int .i64 y.bay, .slice p4 y.rows.length c4] 51 (0, 0)) :: Kl4) rfl rfl (st_row (off := 1) (v := .slice p4 y.rows.length c4) rfl (by kernel_rfl) (by kernel_rfl) (.tail _ (.head _)) Bg1 (by kernel_rfl) (by first | (simp [Value.cells]; done) | exact Nat.le_of_ble_eq_true rfl) (by intro v hv; simp [Value.cells] at hv; first | (subst hv; rfl) | (rcases hv with rfl <;> rfl)) (by kernel_rfl) (List.forall_mem_cons.2 ⟨.inr ⟨(.head _), (by first | assumption | exact Ne.symm (by assumption))⟩, (List.forall_mem_cons.2 ⟨.inl rfl, (fun p hp => .inr ⟨(.tail _ (.tail _ hp)), ((show Dk g1 Kl4 from (by (try simp only [dj_app_l, dj_app_r, dj_cons_l, dj_cons_r, dj_nil_l, dj_nil_r, dk_app, dk_cons, dk_nil, and_true, true_and, and_assoc]); repeat' (first | trivial | assumption | exact Dj.symm (by assumption) | exact Ne.symm (by assumption) | apply And.intro))) _ hp)⟩)⟩)⟩)) ?_
  refine wpL_done (fun W2 hW2 => ?_)
  refine (show Code.wp _ _ _ _ _ from ?_)
  refine wp_seq ?_
  refine wp_region_L (W0 := w) ((g2, .cells #[.int .i64 0, .slice none 0 0] 51 (0, 0)) :: (g1, .cells #[.int .i64 y.bay, .slice p4 y.rows.length c4] 51 (0, 0)) :: Kl4) (hW2) ?_
  refine lv (v := .agg #[.int .i64 y.bay, .slice p4 y.rows.length c4]) rfl rfl (yb_load (n := 2) (off := 0) rfl (by kernel_rfl) (.tail _ (.head _)) Try.underlying51 rfl (by kernel_rfl) (by first | (simp [Value.cells]; done) | exact Nat.le_of_ble_eq_true rfl) (by kernel_rfl)) ?_
  refine wpL_s ((g2, .cells #[.int .i64 y.bay, .slice p4 y.rows.length c4] 51 (0, 0)) :: (g1, .cells #[.int .i64 y.bay, .slice p4 y.rows.length c4] 51 (0, 0)) :: Kl4) rfl rfl (st_row (off := 0) (v := .agg #[.int .i64 y.bay, .slice p4 y.rows.length c4]) rfl (by kernel_rfl) (by kernel_rfl) (.head _) Bg2 (by kernel_rfl) (by first | (simp [Value.cells]; done) | exact Nat.le_of_ble_eq_true rfl) (by intro v hv; simp [Value.cells] at hv; first | (subst hv; rfl) | (rcases hv with rfl | rfl <;> rfl)) (by kernel_rfl) (List.forall_mem_cons.2 ⟨.inl rfl, (List.forall_mem_cons.2 ⟨.inr ⟨(.tail _ (.head _)), (by first | assumption | exact Ne.symm (by assumption))⟩, (fun p hp => .inr ⟨(.tail _ (.tail _ hp)), ((show Dk g2 Kl4 from (by (try simp only [dj_app_l, dj_app_r, dj_cons_l, dj_cons_r, dj_nil_l, dj_nil_r, dk_app, dk_cons, dk_nil, and_true, true_and, and_assoc]); repeat' (first | trivial | assumption | exact Dj.symm (by assumption) | exact Ne.symm (by assumption) | apply And.intro))) _ hp)⟩)⟩)⟩)) ?_
  refine wpL_done (fun W3 hW3 => ?_)
  refine (show Code.wp _ _ _ _ _ from ?_)
  refine wp_ret ?_
  try simp only [inBlock_ret, then_ret]
  refine bodyPost_ret (v := .agg #[.int .i64 y.bay, .slice p4 y.rows.length c4]) ?_ rfl ?_
  · exact (res_cell (p := 2) rfl rfl (hW3.2 _ (.head _)) Try.underlying51 rfl (by kernel_rfl))
  · exact ⟨p4, c4, rfl, by omega, O4.out (fun p hp => by simp only [List.mem_cons, List.mem_append, List.nil_append, List.not_mem_nil, or_assoc, or_false, false_or, hp, true_or, or_true]) hW3, hW3.1⟩
set_option maxRecDepth 100000 in
set_option maxHeartbeats 4000000 in
theorem LentColumn_any (y : Col) (hl : y.plugs.length ≤ 1000000) (w : World) (hp : SLV w y.pp (y.plugs.flatMap inC)) : Calls Try.prog 55 #[.agg (colC y).toArray] w fun e w' => ∃ q d, e = .returned (.agg (colC (y.re q d)).toArray) ∧ y.plugs.length + 12 ≤ d ∧ OutV w w' 3 1 (.slice q (y.plugs ++ mkL 12).length d) (y.plugs ++ mkL 12).length ((y.plugs ++ mkL 12).flatMap inC) ∧ Below w.heap.size w w' := by
  have HP := Lib.hid hp
  clear hp
  have hlen : (y.plugs ++ mkL 12).length = y.plugs.length + 12 := by rw [List.length_append, mkL_len]
  go_enter Try.func55, Try.ntmps55
  refine wp_seq ?_
  refine wp_region_L (W0 := w) [] (KS.start w) ?_
  refine wpL_new (fun g => .pointer (some ⟨g, 0, none⟩)) (obi := .cells (colC y).toArray 49 (0, 0)) rfl rfl (fun _ => by kernel_rfl) (fun _ => by simp only [List.setIfInBounds_toArray, List.set_cons_succ, List.set_cons_zero] <;> rfl) fun g1 Bg1 Fg1 => ?_
  refine wpL_new (fun g => .pointer (some ⟨g, 0, none⟩)) (obi := .cells #[.int .i64 0, .int .i64 0, .bool false, .int .i64 0, .int .i64 0, .int .i64 0, .int .i64 0, .int .i64 0, .slice none 0 0, .int .i64 0, .int .i64 0, .int .i64 0] 49 (0, 0)) rfl rfl (fun _ => by kernel_rfl) (fun _ => by simp only [List.setIfInBounds_toArray, List.set_cons_succ, List.set_cons_zero] <;> rfl) fun g2 Bg2 Fg2 => ?_
  obtain dj3_0 : g1 ≠ g2 := by simpa only [dj_app_l, dj_app_r, dj_cons_l, dj_cons_r, dj_nil_l, dj_nil_r, dk_app, dk_cons, dk_nil, and_true, true_and, and_assoc] using (show Dk g2 [(g1, .cells (colC y).toArray 49 (0, 0))] from Fg2)
  refine wpL_done (fun W1 hW1 => ?_)
  refine (show Code.wp _ _ _ _ _ from ?_)
  refine wp_seq ?_
  refine wp_region_L (W0 := w) [(g2, .cells #[.int .i64 0, .int .i64 0, .bool false, .int .i64 0, .int .i64 0, .int .i64 0, .int .i64 0, .int .i64 0, .slice none 0 0, .int .i64 0, .int .i64 0, .int .i64 0] 49 (0, 0)), (g1, .cells (colC y).toArray 49 (0, 0))] (hW1) ?_
  refine lm (v := .pointer (some ⟨g1, 8, none⟩)) rfl rfl ?_
  refine lv (v := .slice y.pp y.plugs.length y.pc) rfl rfl (yb_cell (off := 8) rfl (by kernel_rfl) (.tail _ (.head _)) Try.underlying39 rfl (by kernel_rfl)) ?_
  refine wpL_c (f := 80) (args := #[.slice y.pp y.plugs.length y.pc]) (LentRL w 3 1 y.plugs.length (y.plugs ++ mkL 12).length ((y.plugs ++ mkL 12).flatMap inC) [(g2, .cells #[.int .i64 0, .int .i64 0, .bool false, .int .i64 0, .int .i64 0, .int .i64 0, .int .i64 0, .int .i64 0, .slice none 0 0, .int .i64 0, .int .i64 0, .int .i64 0] 49 (0, 0)), (g1, .cells (colC y).toArray 49 (0, 0))]) rfl (by kernel_rfl) (fun _ => (by kernel_rfl)) (fun W hW => calls_lent hW (((LentInts_any y.plugs y.pp y.pc hl W (HP.out.keep hW.1)).mono fun _ _ ⟨q, d, h1, h2, h3⟩ => ⟨q, d, h1, by rw [hlen]; exact h2, h3⟩))) (fun _ => by simp only [List.setIfInBounds_toArray, List.set_cons_succ, List.set_cons_zero] <;> rfl) ?_
  rintro _ _ ⟨p4, c4, Kl4, rfl, n4, O4, N4, rfl⟩
  obtain ⟨dj5_0, dj5_1⟩ : Dk g2 Kl4 ∧ Dk g1 Kl4 := by simpa only [dj_app_l, dj_app_r, dj_cons_l, dj_cons_r, dj_nil_l, dj_nil_r, dk_app, dk_cons, dk_nil, and_true, true_and, and_assoc] using (show Dj [(g2, .cells #[.int .i64 0, .int .i64 0, .bool false, .int .i64 0, .int .i64 0, .int .i64 0, .int .i64 0, .int .i64 0, .slice none 0 0, .int .i64 0, .int .i64 0, .int .i64 0] 49 (0, 0)), (g1, .cells (colC y).toArray 49 (0, 0))] Kl4 from N4)
  refine lm (v := .pointer (some ⟨g1, 8, none⟩)) rfl rfl ?_
  refine wpL_s ((g2, .cells #[.int .i64 0, .int .i64 0, .bool false, .int .i64 0, .int .i64 0, .int .i64 0, .int .i64 0, .int .i64 0, .slice none 0 0, .int .i64 0, .int .i64 0, .int .i64 0] 49 (0, 0)) :: (g1, .cells #[.int .i64 y.bay, .int .i64 y.row, .bool y.deck, .int .i64 y.tiers, .int .i64 y.height, .int .i64 y.k20, .int .i64 y.k40, .int .i64 y.lash, .slice p4 y.plugs.length c4, .int .i64 y.x, .int .i64 y.y, .int .i64 y.z] 49 (0, 0)) :: Kl4) rfl rfl (st_row (off := 8) (v := .slice p4 y.plugs.length c4) rfl (by kernel_rfl) (by kernel_rfl) (.tail _ (.head _)) Bg1 (by kernel_rfl) (by first | (simp [Value.cells]; done) | exact Nat.le_of_ble_eq_true rfl) (by intro v hv; simp [Value.cells] at hv; first | (subst hv; rfl) | (rcases hv with rfl <;> rfl)) (by kernel_rfl) (List.forall_mem_cons.2 ⟨.inr ⟨(.head _), (by first | assumption | exact Ne.symm (by assumption))⟩, (List.forall_mem_cons.2 ⟨.inl rfl, (fun p hp => .inr ⟨(.tail _ (.tail _ hp)), ((show Dk g1 Kl4 from (by (try simp only [dj_app_l, dj_app_r, dj_cons_l, dj_cons_r, dj_nil_l, dj_nil_r, dk_app, dk_cons, dk_nil, and_true, true_and, and_assoc]); repeat' (first | trivial | assumption | exact Dj.symm (by assumption) | exact Ne.symm (by assumption) | apply And.intro))) _ hp)⟩)⟩)⟩)) ?_
  refine wpL_done (fun W2 hW2 => ?_)
  refine (show Code.wp _ _ _ _ _ from ?_)
  refine wp_seq ?_
  refine wp_region_L (W0 := w) ((g2, .cells #[.int .i64 0, .int .i64 0, .bool false, .int .i64 0, .int .i64 0, .int .i64 0, .int .i64 0, .int .i64 0, .slice none 0 0, .int .i64 0, .int .i64 0, .int .i64 0] 49 (0, 0)) :: (g1, .cells #[.int .i64 y.bay, .int .i64 y.row, .bool y.deck, .int .i64 y.tiers, .int .i64 y.height, .int .i64 y.k20, .int .i64 y.k40, .int .i64 y.lash, .slice p4 y.plugs.length c4, .int .i64 y.x, .int .i64 y.y, .int .i64 y.z] 49 (0, 0)) :: Kl4) (hW2) ?_
  refine lv (v := .agg #[.int .i64 y.bay, .int .i64 y.row, .bool y.deck, .int .i64 y.tiers, .int .i64 y.height, .int .i64 y.k20, .int .i64 y.k40, .int .i64 y.lash, .slice p4 y.plugs.length c4, .int .i64 y.x, .int .i64 y.y, .int .i64 y.z]) rfl rfl (yb_load (n := 12) (off := 0) rfl (by kernel_rfl) (.tail _ (.head _)) Try.underlying49 rfl (by kernel_rfl) (by first | (simp [Value.cells]; done) | exact Nat.le_of_ble_eq_true rfl) (by kernel_rfl)) ?_
  refine wpL_s ((g2, .cells #[.int .i64 y.bay, .int .i64 y.row, .bool y.deck, .int .i64 y.tiers, .int .i64 y.height, .int .i64 y.k20, .int .i64 y.k40, .int .i64 y.lash, .slice p4 y.plugs.length c4, .int .i64 y.x, .int .i64 y.y, .int .i64 y.z] 49 (0, 0)) :: (g1, .cells #[.int .i64 y.bay, .int .i64 y.row, .bool y.deck, .int .i64 y.tiers, .int .i64 y.height, .int .i64 y.k20, .int .i64 y.k40, .int .i64 y.lash, .slice p4 y.plugs.length c4, .int .i64 y.x, .int .i64 y.y, .int .i64 y.z] 49 (0, 0)) :: Kl4) rfl rfl (st_row (off := 0) (v := .agg #[.int .i64 y.bay, .int .i64 y.row, .bool y.deck, .int .i64 y.tiers, .int .i64 y.height, .int .i64 y.k20, .int .i64 y.k40, .int .i64 y.lash, .slice p4 y.plugs.length c4, .int .i64 y.x, .int .i64 y.y, .int .i64 y.z]) rfl (by kernel_rfl) (by kernel_rfl) (.head _) Bg2 (by kernel_rfl) (by first | (simp [Value.cells]; done) | exact Nat.le_of_ble_eq_true rfl) (by intro v hv; simp [Value.cells] at hv; first | (subst hv; rfl) | (rcases hv with rfl | rfl | rfl | rfl | rfl | rfl | rfl | rfl | rfl | rfl | rfl | rfl <;> rfl)) (by kernel_rfl) (List.forall_mem_cons.2 ⟨.inl rfl, (List.forall_mem_cons.2 ⟨.inr ⟨(.tail _ (.head _)), (by first | assumption | exact Ne.symm (by assumption))⟩, (fun p hp => .inr ⟨(.tail _ (.tail _ hp)), ((show Dk g2 Kl4 from (by (try simp only [dj_app_l, dj_app_r, dj_cons_l, dj_cons_r, dj_nil_l, dj_nil_r, dk_app, dk_cons, dk_nil, and_true, true_and, and_assoc]); repeat' (first | trivial | assumption | exact Dj.symm (by assumption) | exact Ne.symm (by assumption) | apply And.intro))) _ hp)⟩)⟩)⟩)) ?_
  refine wpL_done (fun W3 hW3 => ?_)
  refine (show Code.wp _ _ _ _ _ from ?_)
  refine wp_ret ?_
  try simp only [inBlock_ret, then_ret]
  refine bodyPost_ret (v := .agg #[.int .i64 y.bay, .int .i64 y.row, .bool y.deck, .int .i64 y.tiers, .int .i64 y.height, .int .i64 y.k20, .int .i64 y.k40, .int .i64 y.lash, .slice p4 y.plugs.length c4, .int .i64 y.x, .int .i64 y.y, .int .i64 y.z]) ?_ rfl ?_
  · exact (res_cell (p := 2) rfl rfl (hW3.2 _ (.head _)) Try.underlying49 rfl (by kernel_rfl))
  · exact ⟨p4, c4, rfl, by omega, O4.out (fun p hp => by simp only [List.mem_cons, List.mem_append, List.nil_append, List.not_mem_nil, or_assoc, or_false, false_or, hp, true_or, or_true]) hW3, hW3.1⟩
end Go.Proofs.Ythpooalhibedpaa
/- Lists of records that were lent. -/
namespace Go.Proofs.Ythpooalhibedpaa
open Go Go.RowKit Tw
def HL {α : Type} (cells : α → List Value) (p : Option Addr) (l : List α) (T : List (Nat × Obj)) : Prop := ∀ W : World, (∀ b ∈ T, W.heap[b.1]? = some b.2) → SLV W p (l.flatMap cells)
theorem HL.mono {α : Type} {cells : α → List Value} {p : Option Addr} {l : List α} {T T' : List (Nat × Obj)} (h : HL cells p l T) (hs : ∀ b ∈ T, b ∈ T') : HL cells p l T' := fun W hW => h W fun b hb => hW b (hs b hb)
theorem own_hl {α : Type} {cells : α → List Value} {W0 : Base} {E : TypeId} {sz n c : Nat} {p : Option Addr} {l : List α} {T : List (Nat × Obj)} (h : OwnL W0 E sz (.slice p n c) n (l.flatMap cells) T) : HL cells p l T := by
  rcases h with ⟨rfl, h2, he, rfl⟩ | ⟨g, cap, cur, he, hB, hR, rfl⟩
  · exact fun _ _ => .inl h2
  · cases he
    exact fun W hW => have hb := hW _ (.head _); .inr ⟨g, 0, rfl, lt_of_block hb, hR.cel hb⟩
theorem own_new {W0 : Base} {E : TypeId} {sz n : Nat} {v : Value} {xs : List Value} {T : List (Nat × Obj)} (h : OwnL W0 E sz v n xs T) : ∀ b ∈ T, W0.B ≤ b.1 := by
  rcases h with ⟨rfl, h2, he, rfl⟩ | ⟨g, cap, cur, he, hB, hR, rfl⟩
  · exact fun _ h => by cases h
  · exact fun b hb => by cases List.mem_singleton.1 hb; exact hB
theorem new_app {B : Nat} {T K : List (Nat × Obj)} (h : ∀ b ∈ T, B ≤ b.1) (h2 : ∀ b ∈ K, B ≤ b.1) : ∀ b ∈ T ++ K, B ≤ b.1 := fun b hb => (List.mem_append.1 hb).elim (h b) (h2 b)
def mkCovL (i : Nat) : List Cov := (List.range i).map mkCov
theorem mkCovL_len (i : Nat) : (mkCovL i).length = i := by simp [mkCovL]
theorem mkCovL_s (i : Nat) : mkCovL (i + 1) = mkCovL i ++ [mkCov i] := by simp [mkCovL, List.range_succ]
theorem mkCovL_at {i n : Nat} (h : i < n) : (mkCovL n)[i]? = some (mkCov i) := by simp [mkCovL, h]
def mkColL (i : Nat) : List Col := (List.range i).map mkCol
theorem mkColL_len (i : Nat) : (mkColL i).length = i := by simp [mkColL]
theorem mkColL_s (i : Nat) : mkColL (i + 1) = mkColL i ++ [mkCol i] := by simp [mkColL, List.range_succ]
theorem mkColL_at {i n : Nat} (h : i < n) : (mkColL n)[i]? = some (mkCol i) := by simp [mkColL, h]
def LentO (l X : List Cov) (T : List (Nat × Obj)) : Prop := ∀ (j : Nat) (x : Cov), X[j]? = some x → ∃ y q d, l[j]? = some y ∧ x = y.re q d ∧ y.rows.length + 12 ≤ d ∧ HL inC q (y.rows ++ mkL 12) T
def LentC (l X : List Col) (T : List (Nat × Obj)) : Prop := ∀ (j : Nat) (x : Col), X[j]? = some x → ∃ y q d, l[j]? = some y ∧ x = y.re q d ∧ y.plugs.length + 12 ≤ d ∧ HL inC q (y.plugs ++ mkL 12) T
theorem LentO.nil (l : List Cov) : LentO l [] [] := fun _ _ h => by cases h
theorem LentC.nil (l : List Col) : LentC l [] [] := fun _ _ h => by cases h
theorem LentO.mono {l X : List Cov} {T T' : List (Nat × Obj)} (h : LentO l X T) (hs : ∀ b ∈ T, b ∈ T') : LentO l X T' := fun j x hx => by
  obtain ⟨y, q, d, h1, h2, h3, h4⟩ := h j x hx
  exact ⟨y, q, d, h1, h2, h3, h4.mono hs⟩
theorem LentC.mono {l X : List Col} {T T' : List (Nat × Obj)} (h : LentC l X T) (hs : ∀ b ∈ T, b ∈ T') : LentC l X T' := fun j x hx => by
  obtain ⟨y, q, d, h1, h2, h3, h4⟩ := h j x hx
  exact ⟨y, q, d, h1, h2, h3, h4.mono hs⟩
theorem LentO.s {l X : List Cov} {T K : List (Nat × Obj)} {i d : Nat} {y : Cov} {q : Option Addr} (h : LentO l X T) (hi : X.length = i) (hy : l[i]? = some y) (hd : y.rows.length + 12 ≤ d) (hH : HL inC q (y.rows ++ mkL 12) K) : LentO l (X ++ [y.re q d]) (T ++ K) := fun j x hx => by
  by_cases e : j < X.length
  · rw [List.getElem?_append_left e] at hx
    exact h.mono (fun b hb => List.mem_append_left _ hb) j x hx
  · rw [List.getElem?_append_right (by omega)] at hx
    have e2 : j - X.length = 0 := by
      have := (List.getElem?_eq_some_iff.1 hx).1
      simp only [List.length_singleton] at this
      omega
    rw [e2] at hx
    cases hx
    have e3 : j = i := by omega
    subst e3
    exact ⟨y, q, d, hy, rfl, hd, hH.mono fun b hb => List.mem_append_right _ hb⟩
theorem LentC.s {l X : List Col} {T K : List (Nat × Obj)} {i d : Nat} {y : Col} {q : Option Addr} (h : LentC l X T) (hi : X.length = i) (hy : l[i]? = some y) (hd : y.plugs.length + 12 ≤ d) (hH : HL inC q (y.plugs ++ mkL 12) K) : LentC l (X ++ [y.re q d]) (T ++ K) := fun j x hx => by
  by_cases e : j < X.length
  · rw [List.getElem?_append_left e] at hx
    exact h.mono (fun b hb => List.mem_append_left _ hb) j x hx
  · rw [List.getElem?_append_right (by omega)] at hx
    have e2 : j - X.length = 0 := by
      have := (List.getElem?_eq_some_iff.1 hx).1
      simp only [List.length_singleton] at this
      omega
    rw [e2] at hx
    cases hx
    have e3 : j = i := by omega
    subst e3
    exact ⟨y, q, d, hy, rfl, hd, hH.mono fun b hb => List.mem_append_right _ hb⟩
def LentFV (W0 : Base) (E : TypeId) (sz : Nat) (F : Option Addr → Nat → Value) (b m : Nat) (xs : List Value) (K : List (Nat × Obj)) (v : Value) (K' : List (Nat × Obj)) : Prop :=
  ∃ p c Kl, v = F p c ∧ b ≤ c ∧ OwnL W0 E sz (.slice p m c) m xs Kl ∧ (∀ p ∈ K, ∀ q ∈ Kl, q.1 ≠ p.1) ∧ K' = K ++ Kl
theorem LentFV.sub {W0 : Base} {E : TypeId} {sz b m : Nat} {F : Option Addr → Nat → Value} {xs : List Value} {K K' : List (Nat × Obj)} {v : Value} (h : LentFV W0 E sz F b m xs K v K') : ∀ p ∈ K, p ∈ K' := by
  obtain ⟨_, _, _, _, _, _, _, rfl⟩ := h
  exact fun p hp => List.mem_append_left _ hp
theorem calls_lentf {P : Program} {W0 : Base} {K : List (Nat × Obj)} {W : World} {E : TypeId} {sz b m : Nat} {F : Option Addr → Nat → Value} {xs : List Value} {f : FuncId} {args : Array Value} (hW : KS W0 K W) (h : Calls P f args W fun e w' => ∃ q d, e = .returned (F q d) ∧ b ≤ d ∧ OutV W w' E sz (.slice q m d) m xs ∧ Below W.heap.size W w') :
    Calls P f args W fun e w' => ∃ v K', e = .returned v ∧ KS W0 K' w' ∧ LentFV W0 E sz F b m xs K v K' :=
  h.mono fun e w' ⟨q, d, he, hm, hO, hb⟩ => by
    obtain ⟨Kl, h1, h2, h3⟩ := hO.own hW hb
    exact ⟨_, _, he, h3, q, d, Kl, rfl, hm, h1, h2, rfl⟩
def LentOA (W : World) (l X : List Cov) : Prop := ∀ (j : Nat) (x : Cov), X[j]? = some x → ∃ y q d, l[j]? = some y ∧ x = y.re q d ∧ y.rows.length + 12 ≤ d ∧ SLV W q ((y.rows ++ mkL 12).flatMap inC)
def LentCA (W : World) (l X : List Col) : Prop := ∀ (j : Nat) (x : Col), X[j]? = some x → ∃ y q d, l[j]? = some y ∧ x = y.re q d ∧ y.plugs.length + 12 ≤ d ∧ SLV W q ((y.plugs ++ mkL 12).flatMap inC)
theorem LentO.at {W : World} {l X : List Cov} {T : List (Nat × Obj)} (h : LentO l X T) (hT : ∀ b ∈ T, W.heap[b.1]? = some b.2) : LentOA W l X := fun j x hx => by
  obtain ⟨y, q, d, h1, h2, h3, h4⟩ := h j x hx
  exact ⟨y, q, d, h1, h2, h3, h4 W hT⟩
theorem LentC.at {W : World} {l X : List Col} {T : List (Nat × Obj)} (h : LentC l X T) (hT : ∀ b ∈ T, W.heap[b.1]? = some b.2) : LentCA W l X := fun j x hx => by
  obtain ⟨y, q, d, h1, h2, h3, h4⟩ := h j x hx
  exact ⟨y, q, d, h1, h2, h3, h4 W hT⟩
theorem lentOA_at {W : World} {l X : List Cov} {i : Nat} {x y : Cov} (h : LentOA W l X) (hx : (X ++ mkCovL 12)[i]? = some x) (hl : X.length = l.length) (hy : l[i]? = some y) : ∃ q d, x = y.re q d ∧ y.rows.length + 12 ≤ d ∧ SLV W q ((y.rows ++ mkL 12).flatMap inC) := by
  have hi := (List.getElem?_eq_some_iff.1 hy).1
  rw [List.getElem?_append_left (by omega)] at hx
  obtain ⟨z, q, d, h1, h2, h3, h4⟩ := h i x hx
  rw [hy] at h1
  cases h1
  exact ⟨q, d, h2, h3, h4⟩
theorem lentCA_at {W : World} {l X : List Col} {i : Nat} {x y : Col} (h : LentCA W l X) (hx : (X ++ mkColL 12)[i]? = some x) (hl : X.length = l.length) (hy : l[i]? = some y) : ∃ q d, x = y.re q d ∧ y.plugs.length + 12 ≤ d ∧ SLV W q ((y.plugs ++ mkL 12).flatMap inC) := by
  have hi := (List.getElem?_eq_some_iff.1 hy).1
  rw [List.getElem?_append_left (by omega)] at hx
  obtain ⟨z, q, d, h1, h2, h3, h4⟩ := h i x hx
  rw [hy] at h1
  cases h1
  exact ⟨q, d, h2, h3, h4⟩
theorem markOA_at {l X : List Cov} {i : Nat} {x : Cov} (hx : (X ++ mkCovL 12)[i]? = some x) (hl : X.length = l.length) (h : ¬ i < l.length) : x = mkCov (i - l.length) := by
  have h2 := (List.getElem?_eq_some_iff.1 hx).1
  rw [List.length_append, mkCovL_len] at h2
  rw [List.getElem?_append_right (by omega), mkCovL_at (by omega), hl] at hx
  exact (Option.some.inj hx).symm
theorem markCA_at {l X : List Col} {i : Nat} {x : Col} (hx : (X ++ mkColL 12)[i]? = some x) (hl : X.length = l.length) (h : ¬ i < l.length) : x = mkCol (i - l.length) := by
  have h2 := (List.getElem?_eq_some_iff.1 hx).1
  rw [List.length_append, mkColL_len] at h2
  rw [List.getElem?_append_right (by omega), mkColL_at (by omega), hl] at hx
  exact (Option.some.inj hx).symm
theorem lentOA_pre {W : World} {l X : List Cov} {i : Nat} {x y : Cov} (h : LentOA W l X) (hx : X[i]? = some x) (hy : l[i]? = some y) : ∃ q d, x = y.re q d ∧ SLV W q (y.rows.flatMap inC) := by
  obtain ⟨z, q, d, h1, h2, _, h4⟩ := h i x hx
  rw [hy] at h1
  cases h1
  exact ⟨q, d, h2, slv_pre0 h4⟩
theorem lentCA_pre {W : World} {l X : List Col} {i : Nat} {x y : Col} (h : LentCA W l X) (hx : X[i]? = some x) (hy : l[i]? = some y) : ∃ q d, x = y.re q d ∧ SLV W q (y.plugs.flatMap inC) := by
  obtain ⟨z, q, d, h1, h2, _, h4⟩ := h i x hx
  rw [hy] at h1
  cases h1
  exact ⟨q, d, h2, slv_pre0 h4⟩
end Go.Proofs.Ythpooalhibedpaa
namespace Go.Proofs.Ythpooalhibedpaa
open Go Go.RowKit Tw
set_option maxRecDepth 100000 in
set_option maxHeartbeats 4000000 in
theorem LentCovers_any (l : List Cov) (p : Option Addr) (c : Nat) (hl : l.length ≤ 1000000) (lr : ∀ o ∈ l, o.rows.length ≤ 1000000) (w : World) (hp : SLV w p (l.flatMap covC)) (hr : RwR w l) : Calls Try.prog 29 #[.slice p l.length c] w fun e w' => ∃ X q d T, e = .returned (.slice q l.length d) ∧ l.length + 12 ≤ d ∧ X.length = l.length ∧ LentO l X T ∧ HL covC q (X ++ mkCovL 12) T ∧ (∀ b ∈ T, w.heap.size ≤ b.1) ∧ KS (w : Base) T w' := by
  have HP := Lib.hid hp
  clear hp
  have HR := Lib.hid hr
  clear hr
  go_enter Try.func29, Try.ntmps29
  refine wp_seq ?_
  refine wp_region_L (W0 := w) [] (KS.start w) ?_
  refine lm (v := .slice none 0 0) rfl rfl ?_
  refine wpL_done (fun W1 hW1 => ?_)
  refine (show Code.wp _ _ _ _ _ from ?_)
  refine wp_seq ?_
  refine wp_region_L (W0 := w) [] (hW1) ?_
  refine lm (v := .slice p l.length c) rfl rfl ?_
  refine lp (v := .int .i64 ((l.length : Nat) : Int)) rfl rfl (run_lenL (p := p) (cap := c) (n := l.length) rfl Try.underlying23 (by kernel_rfl)) ?_
  refine lp (v := .int .i64 (((l.length + 12) : Nat) : Int)) rfl rfl (run_bin rfl (vx := (.int .i64 ((l.length : Nat) : Int))) (vy := (.int .i64 ((12 : Nat) : Int))) (by kernel_rfl) (by kernel_rfl) fun w => bn_add (z := (l.length + 12)) rfl (wr_i64 (by omega)) w) ?_
  refine wpL_new (fun g => .slice (some ⟨g, 0, none⟩) 0 (l.length + 12)) (obi := .cells (madeCells (Value.cells (.agg #[.int .i64 0, .slice none 0 0])) ((l.length + 12) * 2)) 51 (0, 0)) rfl rfl (run_mk0 (c := (l.length + 12)) (z := (.agg #[.int .i64 0, .slice none 0 0])) (sz := 2) (b := 32) rfl Try.underlying23 (by kernel_rfl) (by decide) (by kernel_rfl) (by kernel_rfl) (by omega)) (fun _ => by simp only [List.setIfInBounds_toArray, List.set_cons_succ, List.set_cons_zero] <;> rfl) fun g1 Bg1 Fg1 => ?_
  refine lm (v := .slice (some ⟨g1, 0, none⟩) 0 (l.length + 12)) rfl rfl ?_
  refine wpL_done (fun W2 hW2 => ?_)
  refine (show Code.wp _ _ _ _ _ from ?_)
  refine wp_seq ?_
  refine wp_seq ?_
  refine wp_region_L (W0 := w) [(g1, .cells (madeCells (Value.cells (.agg #[.int .i64 0, .slice none 0 0])) ((l.length + 12) * 2)) 51 (0, 0))] (hW2) ?_
  refine lm (v := .int .i64 0) rfl rfl ?_
  refine wpL_done (fun W3 hW3 => ?_)
  refine (show Code.wp _ _ _ _ _ from ?_)
  refine wp_block ?_
  have Om := (own_made (cells := covC) (c := (l.length + 12)) (E := 51) (z := (.agg #[.int .i64 0, .slice none 0 0])) Bg1 rfl (by omega))
  go_loopw [4, 3] (fun u4 u3 wr => ∃ (i : Nat) (X : List Cov) (vo : Value) (Ko T : List (Nat × Obj)), (i ≤ l.length) ∧ (X.length = i) ∧ (OwnL w 51 2 vo X.length (X.flatMap covC) Ko) ∧ (LentO l X T) ∧ (∀ b ∈ T, w.heap.size ≤ b.1) ∧ (Dj Ko T) ∧ u4 = .int .i64 ((i : Nat) : Int) ∧ vo = u3 ∧ KS w (Ko ++ T) wr) (fun u4 _ _ => l.length - (intOf u4).toNat)
  case atStart => exact ⟨0, [], .slice (some ⟨g1, 0, none⟩) 0 (l.length + 12), [(g1, .cells (madeCells (Value.cells (.agg #[.int .i64 0, .slice none 0 0])) ((l.length + 12) * 2)) 51 (0, 0))], [], (Nat.zero_le _), rfl, Om, (LentO.nil l), (fun _ h => by cases h), (show Dj [(g1, .cells (madeCells (Value.cells (.agg #[.int .i64 0, .slice none 0 0])) ((l.length + 12) * 2)) 51 (0, 0))] [] from (by (try simp only [dj_app_l, dj_app_r, dj_cons_l, dj_cons_r, dj_nil_l, dj_nil_r, dk_app, dk_cons, dk_nil, and_true, true_and, and_assoc]); repeat' (first | trivial | assumption | exact Dj.symm (by assumption) | exact Ne.symm (by assumption) | apply And.intro))), rfl, rfl, (hW3.sub (fun p hp => by first | exact hp | (simp only [List.mem_cons, List.mem_append, List.nil_append, List.not_mem_nil, or_assoc, or_false, false_or] at hp ⊢ <;> grind)))⟩
  case round =>
    obtain ⟨i, X, vo, Ko, T, hi, hXl, hO, hX, hT, dh2_0, rfl, rfl, hL4⟩ := hrel
    refine wp_seq ?_
    refine wp_seq ?_
    refine wp_region_L (W0 := w) (Ko ++ T) (hL4) ?_
    refine lm (v := .int .i64 ((i : Nat) : Int)) rfl rfl ?_
    refine lm (v := .slice p l.length c) rfl rfl ?_
    refine lp (v := .int .i64 ((l.length : Nat) : Int)) rfl rfl (run_lenL (p := p) (cap := c) (n := l.length) rfl Try.underlying23 (by kernel_rfl)) ?_
    refine lp (v := .bool (decide (i < l.length))) rfl rfl (run_bin rfl (vx := (.int .i64 ((i : Nat) : Int))) (vy := (.int .i64 ((l.length : Nat) : Int))) (by kernel_rfl) (by kernel_rfl) fun w => bn_lss rfl w) ?_
    refine wpL_done (fun W5 hW5 => ?_)
    refine (show Code.wp _ _ _ _ _ from ?_)
    cases hd1 : (decide (i < l.length)) with
    | false =>
      have h1 : ¬ (i < l.length) := of_decide_eq_false hd1
      clear hd1
      refine wp_cond_false rfl ?_
      refine wp_exit ?_
      refine (show Code.wp _ _ _ _ _ from ?_)
      refine wp_seq ?_
      refine wp_seq ?_
      refine wp_region_L (W0 := w) (Ko ++ T) (hW5) ?_
      refine lm (v := .int .i64 0) rfl rfl ?_
      refine wpL_done (fun W6 hW6 => ?_)
      refine (show Code.wp _ _ _ _ _ from ?_)
      refine wp_block ?_
      have hXl2 : X.length = l.length := by have := h1; omega
      go_loopw [6, 3] (fun u6 u3 wr => ∃ (j : Nat) (v2 : Value) (K2 : List (Nat × Obj)), (j ≤ 12) ∧ (OwnL w 51 2 v2 (X ++ mkCovL j).length ((X ++ mkCovL j).flatMap covC) K2) ∧ (Dj T K2) ∧ u6 = .int .i64 ((j : Nat) : Int) ∧ v2 = u3 ∧ KS w (T ++ K2) wr) (fun u6 _ _ => 12 - (intOf u6).toNat)
      case atStart => exact ⟨0, vo, Ko, (Nat.zero_le _), (by rw [show X ++ mkCovL 0 = X from by simp [mkCovL]]; exact hO), (show Dj T Ko from (by (try simp only [dj_app_l, dj_app_r, dj_cons_l, dj_cons_r, dj_nil_l, dj_nil_r, dk_app, dk_cons, dk_nil, and_true, true_and, and_assoc]); repeat' (first | trivial | assumption | exact Dj.symm (by assumption) | exact Ne.symm (by assumption) | apply And.intro))), rfl, rfl, (hW6.sub (fun p hp => by first | exact hp | (simp only [List.mem_cons, List.mem_append, List.nil_append, List.not_mem_nil, or_assoc, or_false, false_or] at hp ⊢ <;> grind)))⟩
      case round =>
        obtain ⟨j, v2, K2, hj, hO2, dh3_0, rfl, rfl, hL7⟩ := hrel
        have hlj : (X ++ mkCovL j).length = X.length + j := by rw [List.length_append, mkCovL_len]
        refine wp_seq ?_
        refine wp_seq ?_
        refine wp_region_L (W0 := w) (T ++ K2) (hL7) ?_
        refine lm (v := .int .i64 ((j : Nat) : Int)) rfl rfl ?_
        refine lp (v := .bool (decide (j < 12))) rfl rfl (run_bin rfl (vx := (.int .i64 ((j : Nat) : Int))) (vy := (.int .i64 ((12 : Nat) : Int))) (by kernel_rfl) (by kernel_rfl) fun w => bn_lss rfl w) ?_
        refine wpL_done (fun W8 hW8 => ?_)
        refine (show Code.wp _ _ _ _ _ from ?_)
        cases hd2 : (decide (j < 12)) with
        | false =>
          have h2 : ¬ (j < 12) := of_decide_eq_false hd2
          clear hd2
          refine wp_cond_false rfl ?_
          refine wp_exit ?_
          refine (show Code.wp _ _ _ _ _ from ?_)
          refine wp_seq ?_
          refine wp_region_L (W0 := w) (T ++ K2) (hW8) ?_
          refine lm (v := v2) rfl rfl ?_
          refine lm (v := .slice p l.length c) rfl rfl ?_
          refine lp (v := .int .i64 ((l.length : Nat) : Int)) rfl rfl (run_lenL (p := p) (cap := c) (n := l.length) rfl Try.underlying23 (by kernel_rfl)) ?_
          have hj12 : j = 12 := by omega
          subst hj12
          obtain ⟨q9, d9, rfl, hd9, R9⟩ := own_rl hO2
          have hlen : (X ++ mkCovL 12).length = l.length + 12 := by rw [List.length_append, mkCovL_len, hXl2]
          refine lp (v := .slice q9 l.length d9) rfl rfl (run_slt (kd := .i64) (j := l.length) (n := (X ++ mkCovL 12).length) (c := d9) (sz := 2) rfl Try.underlying23 (by kernel_rfl) (by kernel_rfl) (by kernel_rfl) (by omega)) ?_
          refine lm (v := .slice q9 l.length d9) rfl rfl ?_
          refine wpL_done (fun W9 hW9 => ?_)
          refine (show Code.wp _ _ _ _ _ from ?_)
          refine wp_ret ?_
          try simp only [inBlock_ret, then_ret]
          refine bodyPost_ret (v := .slice q9 l.length d9) ?_ rfl ?_
          · kernel_rfl
          · exact ⟨X, q9, d9, T ++ K2, rfl, by omega, hXl2, hX.mono (fun p hp => by simp only [List.mem_cons, List.mem_append, List.nil_append, List.not_mem_nil, or_assoc, or_false, false_or, hp, true_or, or_true]), (own_hl hO2).mono (fun p hp => by simp only [List.mem_cons, List.mem_append, List.nil_append, List.not_mem_nil, or_assoc, or_false, false_or, hp, true_or, or_true]), new_app hT (own_new hO2), hW9.sub (fun p hp => by simp only [List.mem_cons, List.mem_append, List.nil_append, List.not_mem_nil, or_assoc, or_false, false_or, hp, true_or, or_true])⟩
        | true =>
          have h2 : j < 12 := of_decide_eq_true hd2
          clear hd2
          refine wp_cond_true rfl ?_
          refine wp_skip ?_
          refine (show Code.wp _ _ _ _ _ from ?_)
          refine wp_seq ?_
          refine wp_block ?_
          refine wp_region_L (W0 := w) (T ++ K2) (hW8) ?_
          refine lm (v := v2) rfl rfl ?_
          refine lm (v := .int .i64 ((j : Nat) : Int)) rfl rfl ?_
          refine lv (v := .agg (covC (mkCov j)).toArray) rfl rfl (yb_call (f := 58) (args := #[.int .i64 1, .int .i64 ((j : Nat) : Int)]) (fun _ => by kernel_rfl) fun W hW => markCover_any j (by omega) W) ?_
          refine wpL_new (fun g => .slice (some ⟨g, 0, none⟩) 1 1) (obi := .cells (covC (mkCov j)).toArray 51 (0, 0)) rfl rfl (fun _ => by kernel_rfl) (fun _ => by simp only [List.setIfInBounds_toArray, List.set_cons_succ, List.set_cons_zero] <;> rfl) fun g4 Bg4 Fg4 => ?_
          obtain ⟨dj5_0, dj5_1⟩ : Dk g4 T ∧ Dk g4 K2 := by simpa only [dj_app_l, dj_app_r, dj_cons_l, dj_cons_r, dj_nil_l, dj_nil_r, dk_app, dk_cons, dk_nil, and_true, true_and, and_assoc] using (show Dk g4 (T ++ K2) from Fg4)
          refine wpL_g (AppO w 51 2 T (((X ++ mkCovL j).length) + 1) (((X ++ mkCovL j).flatMap covC) ++ [.int .i64 ((mkCov j).bay), .slice ((mkCov j).rp) (((mkCov j).rows).length) ((mkCov j).rc)])) rfl rfl (app_own el_cov (m := 1) (c := 1) (news := [.int .i64 ((mkCov j).bay), .slice ((mkCov j).rp) (((mkCov j).rows).length) ((mkCov j).rc)]) rfl (by kernel_rfl) (by kernel_rfl) (.head _) hO2 (fun p hp => by simp only [List.mem_cons, List.mem_append, List.nil_append, List.not_mem_nil, or_assoc, or_false, false_or, hp, or_true, true_or]) (fun p hp => ⟨by simp only [List.mem_cons, List.mem_append, List.nil_append, List.not_mem_nil, or_assoc, or_false, false_or] at hp ⊢ <;> grind, (show Dj T K2 from (by (try simp only [dj_app_l, dj_app_r, dj_cons_l, dj_cons_r, dj_nil_l, dj_nil_r, dk_app, dk_cons, dk_nil, and_true, true_and, and_assoc]); repeat' (first | trivial | assumption | exact Dj.symm (by assumption) | exact Ne.symm (by assumption) | apply And.intro))) p hp⟩) rfl (by simp [strV, Value.oneCell']) (by omega) (by omega) (by omega)) (fun _ => by simp only [List.setIfInBounds_toArray, List.set_cons_succ, List.set_cons_zero] <;> rfl) ?_
          rintro v6 K9 ⟨Kl6, O6, N6, rfl⟩
          obtain dj7_0 : Dj T Kl6 := by simpa only [dj_app_l, dj_app_r, dj_cons_l, dj_cons_r, dj_nil_l, dj_nil_r, dk_app, dk_cons, dk_nil, and_true, true_and, and_assoc] using (show Dj T Kl6 from N6)
          refine lm (v := v6) rfl rfl ?_
          refine wpL_done (fun W10 hW10 => ?_)
          refine (show Code.wp _ _ _ _ _ from ?_)
          refine wp_region_L (W0 := w) (T ++ Kl6) (hW10) ?_
          refine lm (v := .int .i64 ((j : Nat) : Int)) rfl rfl ?_
          refine lp (v := .int .i64 (((j + 1) : Nat) : Int)) rfl rfl (run_bin rfl (vx := (.int .i64 ((j : Nat) : Int))) (vy := (.int .i64 ((1 : Nat) : Int))) (by kernel_rfl) (by kernel_rfl) fun w => bn_add (z := (j + 1)) rfl (wr_i64 (by omega)) w) ?_
          refine lm (v := .int .i64 (((j + 1) : Nat) : Int)) rfl rfl ?_
          refine wpL_done (fun W11 hW11 => ?_)
          go_roundw
          case rel =>
            repeat apply Exists.intro
            exact ⟨⟨j + 1, v6, Kl6, (by omega), (own_app O6 (by rw [mkCovL_s, ← List.append_assoc, List.flatMap_append (ys := [mkCov j])]; rfl) (by rw [mkCovL_s, ← List.append_assoc, List.length_append (bs := [mkCov j])]; rfl)), (show Dj T Kl6 from (by (try simp only [dj_app_l, dj_app_r, dj_cons_l, dj_cons_r, dj_nil_l, dj_nil_r, dk_app, dk_cons, dk_nil, and_true, true_and, and_assoc]); repeat' (first | trivial | assumption | exact Dj.symm (by assumption) | exact Ne.symm (by assumption) | apply And.intro))), rfl, rfl, (hW11.sub (fun p hp => by first | exact hp | (simp only [List.mem_cons, List.mem_append, List.nil_append, List.not_mem_nil, or_assoc, or_false, false_or] at hp ⊢ <;> grind)))⟩, rfl⟩
          case measure => (show 12 - (intOf (.int .i64 (((j + 1) : Nat) : Int))).toNat < 12 - (intOf (.int .i64 ((j : Nat) : Int))).toNat); simp only [intOf]; omega
    | true =>
      have h1 : i < l.length := of_decide_eq_true hd1
      clear hd1
      refine wp_cond_true rfl ?_
      refine wp_skip ?_
      refine (show Code.wp _ _ _ _ _ from ?_)
      refine wp_seq ?_
      refine wp_block ?_
      refine wp_seq ?_
      refine wp_region_L (W0 := w) (Ko ++ T) (hW5) ?_
      refine lm (v := .slice p l.length c) rfl rfl ?_
      refine lm (v := .int .i64 ((i : Nat) : Int)) rfl rfl ?_
      obtain ⟨y8, g8_, f8_, hy8, hp8, hc8⟩ := RL.at (RL.base HP.out) covC_len (by decide) (hW5.sub (fun _ h => by cases h)) (k := i) (by omega)
      refine lp (v := .pointer (some ⟨g8_, f8_ + i * 2, none⟩)) rfl rfl (run_idxQ (p := p) (cap := c) (n := l.length) (j := .i64) (k := i) (sz := 2) rfl Try.underlying23 (by kernel_rfl) (by kernel_rfl) hp8 (by kernel_rfl) (by omega)) ?_
      refine lv (v := .agg (covC y8).toArray) rfl rfl (yb_rs (off := f8_ + i * 2) (cs := covC y8) rfl (by kernel_rfl) (fun W hW => hc8 W (hW.sub (fun _ h => by cases h))) Try.underlying51 rfl (by kernel_rfl)) ?_
      refine wpL_c (f := 57) (args := #[.agg (covC y8).toArray]) (LentFV w 3 1 (fun q d => .agg (covC (y8.re q d)).toArray) (y8.rows.length + 12) (y8.rows ++ mkL 12).length ((y8.rows ++ mkL 12).flatMap inC) (Ko ++ T)) rfl (by kernel_rfl) (fun _ => (by kernel_rfl)) (fun W hW => calls_lentf hW (LentCover_any y8 (lr y8 (List.mem_of_getElem? hy8)) W ((HR.out y8 (List.mem_of_getElem? hy8)).keep hW.1))) (fun _ => by simp only [List.setIfInBounds_toArray, List.set_cons_succ, List.set_cons_zero] <;> rfl) ?_
      rintro _ _ ⟨p9, c9, Kl9, rfl, n9, O9, N9, rfl⟩
      obtain ⟨dj10_0, dj10_1⟩ : Dj Ko Kl9 ∧ Dj T Kl9 := by simpa only [dj_app_l, dj_app_r, dj_cons_l, dj_cons_r, dj_nil_l, dj_nil_r, dk_app, dk_cons, dk_nil, and_true, true_and, and_assoc] using (show Dj (Ko ++ T) Kl9 from N9)
      refine wpL_sub (K2 := (Ko ++ (T ++ Kl9))) (fun p hp => by simp only [List.mem_cons, List.mem_append, or_assoc] at hp ⊢; exact hp) ?_
      refine wpL_new (fun g => .pointer (some ⟨g, 0, none⟩)) (obi := .cells #[.int .i64 0, .slice none 0 0] 51 (0, 0)) rfl rfl (fun _ => by kernel_rfl) (fun _ => by simp only [List.setIfInBounds_toArray, List.set_cons_succ, List.set_cons_zero] <;> rfl) fun g11 Bg11 Fg11 => ?_
      obtain ⟨dj12_0, dj12_1, dj12_2⟩ : Dk g11 Ko ∧ Dk g11 T ∧ Dk g11 Kl9 := by simpa only [dj_app_l, dj_app_r, dj_cons_l, dj_cons_r, dj_nil_l, dj_nil_r, dk_app, dk_cons, dk_nil, and_true, true_and, and_assoc] using (show Dk g11 (Ko ++ (T ++ Kl9)) from Fg11)
      refine wpL_s ((g11, .cells (covC (y8.re p9 c9)).toArray 51 (0, 0)) :: (Ko ++ (T ++ Kl9))) rfl rfl (st_row (off := 0) (v := .agg (covC (y8.re p9 c9)).toArray) rfl (by kernel_rfl) (by kernel_rfl) (.head _) Bg11 (by kernel_rfl) (by first | (simp [Value.cells]; done) | exact Nat.le_of_ble_eq_true rfl) (fun v hv => covC_one (y8.re p9 c9) v hv) (by kernel_rfl) (List.forall_mem_cons.2 ⟨.inl rfl, (fun p hp => .inr ⟨(.tail _ hp), ((show Dk g11 (Ko ++ (T ++ Kl9)) from (by (try simp only [dj_app_l, dj_app_r, dj_cons_l, dj_cons_r, dj_nil_l, dj_nil_r, dk_app, dk_cons, dk_nil, and_true, true_and, and_assoc]); repeat' (first | trivial | assumption | exact Dj.symm (by assumption) | exact Ne.symm (by assumption) | apply And.intro))) _ hp)⟩)⟩)) ?_
      refine wpL_done (fun W12 hW12 => ?_)
      refine (show Code.wp _ _ _ _ _ from ?_)
      refine wp_region_L (W0 := w) ((g11, .cells (covC (y8.re p9 c9)).toArray 51 (0, 0)) :: (Ko ++ (T ++ Kl9))) (hW12) ?_
      refine lm (v := vo) rfl rfl ?_
      refine lv (v := .agg (covC (y8.re p9 c9)).toArray) rfl rfl (yb_load (n := 2) (off := 0) rfl (by kernel_rfl) (.head _) Try.underlying51 rfl (by kernel_rfl) (by first | (simp [Value.cells]; done) | exact Nat.le_of_ble_eq_true rfl) (by kernel_rfl)) ?_
      refine wpL_new (fun g => .slice (some ⟨g, 0, none⟩) 1 1) (obi := .cells (covC (y8.re p9 c9)).toArray 51 (0, 0)) rfl rfl (fun _ => by kernel_rfl) (fun _ => by simp only [List.setIfInBounds_toArray, List.set_cons_succ, List.set_cons_zero] <;> rfl) fun g13 Bg13 Fg13 => ?_
      obtain ⟨dj14_0, dj14_1, dj14_2, dj14_3⟩ : g11 ≠ g13 ∧ Dk g13 Ko ∧ Dk g13 T ∧ Dk g13 Kl9 := by simpa only [dj_app_l, dj_app_r, dj_cons_l, dj_cons_r, dj_nil_l, dj_nil_r, dk_app, dk_cons, dk_nil, and_true, true_and, and_assoc] using (show Dk g13 ((g11, .cells (covC (y8.re p9 c9)).toArray 51 (0, 0)) :: (Ko ++ (T ++ Kl9))) from Fg13)
      refine wpL_g (AppO w 51 2 ((g11, .cells (covC (y8.re p9 c9)).toArray 51 (0, 0)) :: (T ++ Kl9)) (X.length + 1) ((X.flatMap covC) ++ [.int .i64 ((y8.re p9 c9).bay), .slice ((y8.re p9 c9).rp) (((y8.re p9 c9).rows).length) ((y8.re p9 c9).rc)])) rfl rfl (app_own el_cov (m := 1) (c := 1) (news := [.int .i64 ((y8.re p9 c9).bay), .slice ((y8.re p9 c9).rp) (((y8.re p9 c9).rows).length) ((y8.re p9 c9).rc)]) rfl (by kernel_rfl) (by kernel_rfl) (.head _) hO (fun p hp => by simp only [List.mem_cons, List.mem_append, List.nil_append, List.not_mem_nil, or_assoc, or_false, false_or, hp, or_true, true_or]) (fun p hp => ⟨by simp only [List.mem_cons, List.mem_append, List.nil_append, List.not_mem_nil, or_assoc, or_false, false_or] at hp ⊢ <;> grind, (show Dj ((g11, .cells (covC (y8.re p9 c9)).toArray 51 (0, 0)) :: (T ++ Kl9)) Ko from (by (try simp only [dj_app_l, dj_app_r, dj_cons_l, dj_cons_r, dj_nil_l, dj_nil_r, dk_app, dk_cons, dk_nil, and_true, true_and, and_assoc]); repeat' (first | trivial | assumption | exact Dj.symm (by assumption) | exact Ne.symm (by assumption) | apply And.intro))) p hp⟩) rfl (by simp [strV, Value.oneCell']) (by omega) (by omega) (by omega)) (fun _ => by simp only [List.setIfInBounds_toArray, List.set_cons_succ, List.set_cons_zero] <;> rfl) ?_
      rintro v15 K9 ⟨Kl15, O15, N15, rfl⟩
      obtain ⟨dj16_0, dj16_1, dj16_2⟩ : Dk g11 Kl15 ∧ Dj T Kl15 ∧ Dj Kl9 Kl15 := by simpa only [dj_app_l, dj_app_r, dj_cons_l, dj_cons_r, dj_nil_l, dj_nil_r, dk_app, dk_cons, dk_nil, and_true, true_and, and_assoc] using (show Dj ((g11, .cells (covC (y8.re p9 c9)).toArray 51 (0, 0)) :: (T ++ Kl9)) Kl15 from N15)
      refine lm (v := v15) rfl rfl ?_
      refine wpL_done (fun W13 hW13 => ?_)
      refine (show Code.wp _ _ _ _ _ from ?_)
      refine wp_region_L (W0 := w) ((g11, .cells (covC (y8.re p9 c9)).toArray 51 (0, 0)) :: ((T ++ Kl9) ++ Kl15)) (hW13) ?_
      refine lm (v := .int .i64 ((i : Nat) : Int)) rfl rfl ?_
      refine lp (v := .int .i64 (((i + 1) : Nat) : Int)) rfl rfl (run_bin rfl (vx := (.int .i64 ((i : Nat) : Int))) (vy := (.int .i64 ((1 : Nat) : Int))) (by kernel_rfl) (by kernel_rfl) fun w => bn_add (z := (i + 1)) rfl (wr_i64 (by omega)) w) ?_
      refine lm (v := .int .i64 (((i + 1) : Nat) : Int)) rfl rfl ?_
      refine wpL_done (fun W14 hW14 => ?_)
      go_roundw
      case rel =>
        repeat apply Exists.intro
        exact ⟨⟨i + 1, (X ++ [y8.re p9 c9]), v15, Kl15, (T ++ Kl9), (by omega), (by rw [List.length_append, List.length_singleton]; omega), (own_app O15 (by rw [List.flatMap_append]; rfl) (by rw [List.length_append]; rfl)), (LentO.s hX hXl hy8 n9 (own_hl O9)), (new_app hT (own_new O9)), (show Dj Kl15 (T ++ Kl9) from (by (try simp only [dj_app_l, dj_app_r, dj_cons_l, dj_cons_r, dj_nil_l, dj_nil_r, dk_app, dk_cons, dk_nil, and_true, true_and, and_assoc]); repeat' (first | trivial | assumption | exact Dj.symm (by assumption) | exact Ne.symm (by assumption) | apply And.intro))), rfl, rfl, (hW14.sub (fun p hp => by first | exact hp | (simp only [List.mem_cons, List.mem_append, List.nil_append, List.not_mem_nil, or_assoc, or_false, false_or] at hp ⊢ <;> grind)))⟩, rfl⟩
      case measure => (show l.length - (intOf (.int .i64 (((i + 1) : Nat) : Int))).toNat < l.length - (intOf (.int .i64 ((i : Nat) : Int))).toNat); simp only [intOf]; omega
set_option maxRecDepth 100000 in
set_option maxHeartbeats 4000000 in
theorem LentColumns_any (l : List Col) (p : Option Addr) (c : Nat) (hl : l.length ≤ 1000000) (lr : ∀ o ∈ l, o.plugs.length ≤ 1000000) (w : World) (hp : SLV w p (l.flatMap colC)) (hr : PlR w l) : Calls Try.prog 28 #[.slice p l.length c] w fun e w' => ∃ X q d T, e = .returned (.slice q l.length d) ∧ l.length + 12 ≤ d ∧ X.length = l.length ∧ LentC l X T ∧ HL colC q (X ++ mkColL 12) T ∧ (∀ b ∈ T, w.heap.size ≤ b.1) ∧ KS (w : Base) T w' := by
  have HP := Lib.hid hp
  clear hp
  have HR := Lib.hid hr
  clear hr
  go_enter Try.func28, Try.ntmps28
  refine wp_seq ?_
  refine wp_region_L (W0 := w) [] (KS.start w) ?_
  refine lm (v := .slice none 0 0) rfl rfl ?_
  refine wpL_done (fun W1 hW1 => ?_)
  refine (show Code.wp _ _ _ _ _ from ?_)
  refine wp_seq ?_
  refine wp_region_L (W0 := w) [] (hW1) ?_
  refine lm (v := .slice p l.length c) rfl rfl ?_
  refine lp (v := .int .i64 ((l.length : Nat) : Int)) rfl rfl (run_lenL (p := p) (cap := c) (n := l.length) rfl Try.underlying22 (by kernel_rfl)) ?_
  refine lp (v := .int .i64 (((l.length + 12) : Nat) : Int)) rfl rfl (run_bin rfl (vx := (.int .i64 ((l.length : Nat) : Int))) (vy := (.int .i64 ((12 : Nat) : Int))) (by kernel_rfl) (by kernel_rfl) fun w => bn_add (z := (l.length + 12)) rfl (wr_i64 (by omega)) w) ?_
  refine wpL_new (fun g => .slice (some ⟨g, 0, none⟩) 0 (l.length + 12)) (obi := .cells (madeCells (Value.cells (.agg #[.int .i64 0, .int .i64 0, .bool false, .int .i64 0, .int .i64 0, .int .i64 0, .int .i64 0, .int .i64 0, .slice none 0 0, .int .i64 0, .int .i64 0, .int .i64 0])) ((l.length + 12) * 12)) 49 (0, 0)) rfl rfl (run_mk0 (c := (l.length + 12)) (z := (.agg #[.int .i64 0, .int .i64 0, .bool false, .int .i64 0, .int .i64 0, .int .i64 0, .int .i64 0, .int .i64 0, .slice none 0 0, .int .i64 0, .int .i64 0, .int .i64 0])) (sz := 12) (b := 112) rfl Try.underlying22 (by kernel_rfl) (by decide) (by kernel_rfl) (by kernel_rfl) (by omega)) (fun _ => by simp only [List.setIfInBounds_toArray, List.set_cons_succ, List.set_cons_zero] <;> rfl) fun g1 Bg1 Fg1 => ?_
  refine lm (v := .slice (some ⟨g1, 0, none⟩) 0 (l.length + 12)) rfl rfl ?_
  refine wpL_done (fun W2 hW2 => ?_)
  refine (show Code.wp _ _ _ _ _ from ?_)
  refine wp_seq ?_
  refine wp_seq ?_
  refine wp_region_L (W0 := w) [(g1, .cells (madeCells (Value.cells (.agg #[.int .i64 0, .int .i64 0, .bool false, .int .i64 0, .int .i64 0, .int .i64 0, .int .i64 0, .int .i64 0, .slice none 0 0, .int .i64 0, .int .i64 0, .int .i64 0])) ((l.length + 12) * 12)) 49 (0, 0))] (hW2) ?_
  refine lm (v := .int .i64 0) rfl rfl ?_
  refine wpL_done (fun W3 hW3 => ?_)
  refine (show Code.wp _ _ _ _ _ from ?_)
  refine wp_block ?_
  have Om := (own_made (cells := colC) (c := (l.length + 12)) (E := 49) (z := (.agg #[.int .i64 0, .int .i64 0, .bool false, .int .i64 0, .int .i64 0, .int .i64 0, .int .i64 0, .int .i64 0, .slice none 0 0, .int .i64 0, .int .i64 0, .int .i64 0])) Bg1 rfl (by omega))
  go_loopw [4, 3] (fun u4 u3 wr => ∃ (i : Nat) (X : List Col) (vo : Value) (Ko T : List (Nat × Obj)), (i ≤ l.length) ∧ (X.length = i) ∧ (OwnL w 49 12 vo X.length (X.flatMap colC) Ko) ∧ (LentC l X T) ∧ (∀ b ∈ T, w.heap.size ≤ b.1) ∧ (Dj Ko T) ∧ u4 = .int .i64 ((i : Nat) : Int) ∧ vo = u3 ∧ KS w (Ko ++ T) wr) (fun u4 _ _ => l.length - (intOf u4).toNat)
  case atStart => exact ⟨0, [], .slice (some ⟨g1, 0, none⟩) 0 (l.length + 12), [(g1, .cells (madeCells (Value.cells (.agg #[.int .i64 0, .int .i64 0, .bool false, .int .i64 0, .int .i64 0, .int .i64 0, .int .i64 0, .int .i64 0, .slice none 0 0, .int .i64 0, .int .i64 0, .int .i64 0])) ((l.length + 12) * 12)) 49 (0, 0))], [], (Nat.zero_le _), rfl, Om, (LentC.nil l), (fun _ h => by cases h), (show Dj [(g1, .cells (madeCells (Value.cells (.agg #[.int .i64 0, .int .i64 0, .bool false, .int .i64 0, .int .i64 0, .int .i64 0, .int .i64 0, .int .i64 0, .slice none 0 0, .int .i64 0, .int .i64 0, .int .i64 0])) ((l.length + 12) * 12)) 49 (0, 0))] [] from (by (try simp only [dj_app_l, dj_app_r, dj_cons_l, dj_cons_r, dj_nil_l, dj_nil_r, dk_app, dk_cons, dk_nil, and_true, true_and, and_assoc]); repeat' (first | trivial | assumption | exact Dj.symm (by assumption) | exact Ne.symm (by assumption) | apply And.intro))), rfl, rfl, (hW3.sub (fun p hp => by first | exact hp | (simp only [List.mem_cons, List.mem_append, List.nil_append, List.not_mem_nil, or_assoc, or_false, false_or] at hp ⊢ <;> grind)))⟩
  case round =>
    obtain ⟨i, X, vo, Ko, T, hi, hXl, hO, hX, hT, dh2_0, rfl, rfl, hL4⟩ := hrel
    refine wp_seq ?_
    refine wp_seq ?_
    refine wp_region_L (W0 := w) (Ko ++ T) (hL4) ?_
    refine lm (v := .int .i64 ((i : Nat) : Int)) rfl rfl ?_
    refine lm (v := .slice p l.length c) rfl rfl ?_
    refine lp (v := .int .i64 ((l.length : Nat) : Int)) rfl rfl (run_lenL (p := p) (cap := c) (n := l.length) rfl Try.underlying22 (by kernel_rfl)) ?_
    refine lp (v := .bool (decide (i < l.length))) rfl rfl (run_bin rfl (vx := (.int .i64 ((i : Nat) : Int))) (vy := (.int .i64 ((l.length : Nat) : Int))) (by kernel_rfl) (by kernel_rfl) fun w => bn_lss rfl w) ?_
    refine wpL_done (fun W5 hW5 => ?_)
    refine (show Code.wp _ _ _ _ _ from ?_)
    cases hd1 : (decide (i < l.length)) with
    | false =>
      have h1 : ¬ (i < l.length) := of_decide_eq_false hd1
      clear hd1
      refine wp_cond_false rfl ?_
      refine wp_exit ?_
      refine (show Code.wp _ _ _ _ _ from ?_)
      refine wp_seq ?_
      refine wp_seq ?_
      refine wp_region_L (W0 := w) (Ko ++ T) (hW5) ?_
      refine lm (v := .int .i64 0) rfl rfl ?_
      refine wpL_done (fun W6 hW6 => ?_)
      refine (show Code.wp _ _ _ _ _ from ?_)
      refine wp_block ?_
      have hXl2 : X.length = l.length := by have := h1; omega
      go_loopw [6, 3] (fun u6 u3 wr => ∃ (j : Nat) (v2 : Value) (K2 : List (Nat × Obj)), (j ≤ 12) ∧ (OwnL w 49 12 v2 (X ++ mkColL j).length ((X ++ mkColL j).flatMap colC) K2) ∧ (Dj T K2) ∧ u6 = .int .i64 ((j : Nat) : Int) ∧ v2 = u3 ∧ KS w (T ++ K2) wr) (fun u6 _ _ => 12 - (intOf u6).toNat)
      case atStart => exact ⟨0, vo, Ko, (Nat.zero_le _), (by rw [show X ++ mkColL 0 = X from by simp [mkColL]]; exact hO), (show Dj T Ko from (by (try simp only [dj_app_l, dj_app_r, dj_cons_l, dj_cons_r, dj_nil_l, dj_nil_r, dk_app, dk_cons, dk_nil, and_true, true_and, and_assoc]); repeat' (first | trivial | assumption | exact Dj.symm (by assumption) | exact Ne.symm (by assumption) | apply And.intro))), rfl, rfl, (hW6.sub (fun p hp => by first | exact hp | (simp only [List.mem_cons, List.mem_append, List.nil_append, List.not_mem_nil, or_assoc, or_false, false_or] at hp ⊢ <;> grind)))⟩
      case round =>
        obtain ⟨j, v2, K2, hj, hO2, dh3_0, rfl, rfl, hL7⟩ := hrel
        have hlj : (X ++ mkColL j).length = X.length + j := by rw [List.length_append, mkColL_len]
        refine wp_seq ?_
        refine wp_seq ?_
        refine wp_region_L (W0 := w) (T ++ K2) (hL7) ?_
        refine lm (v := .int .i64 ((j : Nat) : Int)) rfl rfl ?_
        refine lp (v := .bool (decide (j < 12))) rfl rfl (run_bin rfl (vx := (.int .i64 ((j : Nat) : Int))) (vy := (.int .i64 ((12 : Nat) : Int))) (by kernel_rfl) (by kernel_rfl) fun w => bn_lss rfl w) ?_
        refine wpL_done (fun W8 hW8 => ?_)
        refine (show Code.wp _ _ _ _ _ from ?_)
        cases hd2 : (decide (j < 12)) with
        | false =>
          have h2 : ¬ (j < 12) := of_decide_eq_false hd2
          clear hd2
          refine wp_cond_false rfl ?_
          refine wp_exit ?_
          refine (show Code.wp _ _ _ _ _ from ?_)
          refine wp_seq ?_
          refine wp_region_L (W0 := w) (T ++ K2) (hW8) ?_
          refine lm (v := v2) rfl rfl ?_
          refine lm (v := .slice p l.length c) rfl rfl ?_
          refine lp (v := .int .i64 ((l.length : Nat) : Int)) rfl rfl (run_lenL (p := p) (cap := c) (n := l.length) rfl Try.underlying22 (by kernel_rfl)) ?_
          have hj12 : j = 12 := by omega
          subst hj12
          obtain ⟨q9, d9, rfl, hd9, R9⟩ := own_rl hO2
          have hlen : (X ++ mkColL 12).length = l.length + 12 := by rw [List.length_append, mkColL_len, hXl2]
          refine lp (v := .slice q9 l.length d9) rfl rfl (run_slt (kd := .i64) (j := l.length) (n := (X ++ mkColL 12).length) (c := d9) (sz := 12) rfl Try.underlying22 (by kernel_rfl) (by kernel_rfl) (by kernel_rfl) (by omega)) ?_
          refine lm (v := .slice q9 l.length d9) rfl rfl ?_
          refine wpL_done (fun W9 hW9 => ?_)
          refine (show Code.wp _ _ _ _ _ from ?_)
          refine wp_ret ?_
          try simp only [inBlock_ret, then_ret]
          refine bodyPost_ret (v := .slice q9 l.length d9) ?_ rfl ?_
          · kernel_rfl
          · exact ⟨X, q9, d9, T ++ K2, rfl, by omega, hXl2, hX.mono (fun p hp => by simp only [List.mem_cons, List.mem_append, List.nil_append, List.not_mem_nil, or_assoc, or_false, false_or, hp, true_or, or_true]), (own_hl hO2).mono (fun p hp => by simp only [List.mem_cons, List.mem_append, List.nil_append, List.not_mem_nil, or_assoc, or_false, false_or, hp, true_or, or_true]), new_app hT (own_new hO2), hW9.sub (fun p hp => by simp only [List.mem_cons, List.mem_append, List.nil_append, List.not_mem_nil, or_assoc, or_false, false_or, hp, true_or, or_true])⟩
        | true =>
          have h2 : j < 12 := of_decide_eq_true hd2
          clear hd2
          refine wp_cond_true rfl ?_
          refine wp_skip ?_
          refine (show Code.wp _ _ _ _ _ from ?_)
          refine wp_seq ?_
          refine wp_block ?_
          refine wp_region_L (W0 := w) (T ++ K2) (hW8) ?_
          refine lm (v := v2) rfl rfl ?_
          refine lm (v := .int .i64 ((j : Nat) : Int)) rfl rfl ?_
          refine lv (v := .agg (colC (mkCol j)).toArray) rfl rfl (yb_call (f := 56) (args := #[.int .i64 1, .int .i64 ((j : Nat) : Int)]) (fun _ => by kernel_rfl) fun W hW => markColumn_any j (by omega) W) ?_
          refine wpL_new (fun g => .slice (some ⟨g, 0, none⟩) 1 1) (obi := .cells (colC (mkCol j)).toArray 49 (0, 0)) rfl rfl (fun _ => by kernel_rfl) (fun _ => by simp only [List.setIfInBounds_toArray, List.set_cons_succ, List.set_cons_zero] <;> rfl) fun g4 Bg4 Fg4 => ?_
          obtain ⟨dj5_0, dj5_1⟩ : Dk g4 T ∧ Dk g4 K2 := by simpa only [dj_app_l, dj_app_r, dj_cons_l, dj_cons_r, dj_nil_l, dj_nil_r, dk_app, dk_cons, dk_nil, and_true, true_and, and_assoc] using (show Dk g4 (T ++ K2) from Fg4)
          refine wpL_g (AppO w 49 12 T (((X ++ mkColL j).length) + 1) (((X ++ mkColL j).flatMap colC) ++ [.int .i64 ((mkCol j).bay), .int .i64 ((mkCol j).row), .bool (mkCol j).deck, .int .i64 ((mkCol j).tiers), .int .i64 ((mkCol j).height), .int .i64 ((mkCol j).k20), .int .i64 ((mkCol j).k40), .int .i64 ((mkCol j).lash), .slice ((mkCol j).pp) (((mkCol j).plugs).length) ((mkCol j).pc), .int .i64 ((mkCol j).x), .int .i64 ((mkCol j).y), .int .i64 ((mkCol j).z)])) rfl rfl (app_own el_col (m := 1) (c := 1) (news := [.int .i64 ((mkCol j).bay), .int .i64 ((mkCol j).row), .bool (mkCol j).deck, .int .i64 ((mkCol j).tiers), .int .i64 ((mkCol j).height), .int .i64 ((mkCol j).k20), .int .i64 ((mkCol j).k40), .int .i64 ((mkCol j).lash), .slice ((mkCol j).pp) (((mkCol j).plugs).length) ((mkCol j).pc), .int .i64 ((mkCol j).x), .int .i64 ((mkCol j).y), .int .i64 ((mkCol j).z)]) rfl (by kernel_rfl) (by kernel_rfl) (.head _) hO2 (fun p hp => by simp only [List.mem_cons, List.mem_append, List.nil_append, List.not_mem_nil, or_assoc, or_false, false_or, hp, or_true, true_or]) (fun p hp => ⟨by simp only [List.mem_cons, List.mem_append, List.nil_append, List.not_mem_nil, or_assoc, or_false, false_or] at hp ⊢ <;> grind, (show Dj T K2 from (by (try simp only [dj_app_l, dj_app_r, dj_cons_l, dj_cons_r, dj_nil_l, dj_nil_r, dk_app, dk_cons, dk_nil, and_true, true_and, and_assoc]); repeat' (first | trivial | assumption | exact Dj.symm (by assumption) | exact Ne.symm (by assumption) | apply And.intro))) p hp⟩) rfl (by simp [strV, Value.oneCell']) (by omega) (by omega) (by omega)) (fun _ => by simp only [List.setIfInBounds_toArray, List.set_cons_succ, List.set_cons_zero] <;> rfl) ?_
          rintro v6 K9 ⟨Kl6, O6, N6, rfl⟩
          obtain dj7_0 : Dj T Kl6 := by simpa only [dj_app_l, dj_app_r, dj_cons_l, dj_cons_r, dj_nil_l, dj_nil_r, dk_app, dk_cons, dk_nil, and_true, true_and, and_assoc] using (show Dj T Kl6 from N6)
          refine lm (v := v6) rfl rfl ?_
          refine wpL_done (fun W10 hW10 => ?_)
          refine (show Code.wp _ _ _ _ _ from ?_)
          refine wp_region_L (W0 := w) (T ++ Kl6) (hW10) ?_
          refine lm (v := .int .i64 ((j : Nat) : Int)) rfl rfl ?_
          refine lp (v := .int .i64 (((j + 1) : Nat) : Int)) rfl rfl (run_bin rfl (vx := (.int .i64 ((j : Nat) : Int))) (vy := (.int .i64 ((1 : Nat) : Int))) (by kernel_rfl) (by kernel_rfl) fun w => bn_add (z := (j + 1)) rfl (wr_i64 (by omega)) w) ?_
          refine lm (v := .int .i64 (((j + 1) : Nat) : Int)) rfl rfl ?_
          refine wpL_done (fun W11 hW11 => ?_)
          go_roundw
          case rel =>
            repeat apply Exists.intro
            exact ⟨⟨j + 1, v6, Kl6, (by omega), (own_app O6 (by rw [mkColL_s, ← List.append_assoc, List.flatMap_append (ys := [mkCol j])]; rfl) (by rw [mkColL_s, ← List.append_assoc, List.length_append (bs := [mkCol j])]; rfl)), (show Dj T Kl6 from (by (try simp only [dj_app_l, dj_app_r, dj_cons_l, dj_cons_r, dj_nil_l, dj_nil_r, dk_app, dk_cons, dk_nil, and_true, true_and, and_assoc]); repeat' (first | trivial | assumption | exact Dj.symm (by assumption) | exact Ne.symm (by assumption) | apply And.intro))), rfl, rfl, (hW11.sub (fun p hp => by first | exact hp | (simp only [List.mem_cons, List.mem_append, List.nil_append, List.not_mem_nil, or_assoc, or_false, false_or] at hp ⊢ <;> grind)))⟩, rfl⟩
          case measure => (show 12 - (intOf (.int .i64 (((j + 1) : Nat) : Int))).toNat < 12 - (intOf (.int .i64 ((j : Nat) : Int))).toNat); simp only [intOf]; omega
    | true =>
      have h1 : i < l.length := of_decide_eq_true hd1
      clear hd1
      refine wp_cond_true rfl ?_
      refine wp_skip ?_
      refine (show Code.wp _ _ _ _ _ from ?_)
      refine wp_seq ?_
      refine wp_block ?_
      refine wp_seq ?_
      refine wp_region_L (W0 := w) (Ko ++ T) (hW5) ?_
      refine lm (v := .slice p l.length c) rfl rfl ?_
      refine lm (v := .int .i64 ((i : Nat) : Int)) rfl rfl ?_
      obtain ⟨y8, g8_, f8_, hy8, hp8, hc8⟩ := RL.at (RL.base HP.out) colC_len (by decide) (hW5.sub (fun _ h => by cases h)) (k := i) (by omega)
      refine lp (v := .pointer (some ⟨g8_, f8_ + i * 12, none⟩)) rfl rfl (run_idxQ (p := p) (cap := c) (n := l.length) (j := .i64) (k := i) (sz := 12) rfl Try.underlying22 (by kernel_rfl) (by kernel_rfl) hp8 (by kernel_rfl) (by omega)) ?_
      refine lv (v := .agg (colC y8).toArray) rfl rfl (yb_rs (off := f8_ + i * 12) (cs := colC y8) rfl (by kernel_rfl) (fun W hW => hc8 W (hW.sub (fun _ h => by cases h))) Try.underlying49 rfl (by kernel_rfl)) ?_
      refine wpL_c (f := 55) (args := #[.agg (colC y8).toArray]) (LentFV w 3 1 (fun q d => .agg (colC (y8.re q d)).toArray) (y8.plugs.length + 12) (y8.plugs ++ mkL 12).length ((y8.plugs ++ mkL 12).flatMap inC) (Ko ++ T)) rfl (by kernel_rfl) (fun _ => (by kernel_rfl)) (fun W hW => calls_lentf hW (LentColumn_any y8 (lr y8 (List.mem_of_getElem? hy8)) W ((HR.out y8 (List.mem_of_getElem? hy8)).keep hW.1))) (fun _ => by simp only [List.setIfInBounds_toArray, List.set_cons_succ, List.set_cons_zero] <;> rfl) ?_
      rintro _ _ ⟨p9, c9, Kl9, rfl, n9, O9, N9, rfl⟩
      obtain ⟨dj10_0, dj10_1⟩ : Dj Ko Kl9 ∧ Dj T Kl9 := by simpa only [dj_app_l, dj_app_r, dj_cons_l, dj_cons_r, dj_nil_l, dj_nil_r, dk_app, dk_cons, dk_nil, and_true, true_and, and_assoc] using (show Dj (Ko ++ T) Kl9 from N9)
      refine wpL_sub (K2 := (Ko ++ (T ++ Kl9))) (fun p hp => by simp only [List.mem_cons, List.mem_append, or_assoc] at hp ⊢; exact hp) ?_
      refine wpL_new (fun g => .pointer (some ⟨g, 0, none⟩)) (obi := .cells #[.int .i64 0, .int .i64 0, .bool false, .int .i64 0, .int .i64 0, .int .i64 0, .int .i64 0, .int .i64 0, .slice none 0 0, .int .i64 0, .int .i64 0, .int .i64 0] 49 (0, 0)) rfl rfl (fun _ => by kernel_rfl) (fun _ => by simp only [List.setIfInBounds_toArray, List.set_cons_succ, List.set_cons_zero] <;> rfl) fun g11 Bg11 Fg11 => ?_
      obtain ⟨dj12_0, dj12_1, dj12_2⟩ : Dk g11 Ko ∧ Dk g11 T ∧ Dk g11 Kl9 := by simpa only [dj_app_l, dj_app_r, dj_cons_l, dj_cons_r, dj_nil_l, dj_nil_r, dk_app, dk_cons, dk_nil, and_true, true_and, and_assoc] using (show Dk g11 (Ko ++ (T ++ Kl9)) from Fg11)
      refine wpL_s ((g11, .cells (colC (y8.re p9 c9)).toArray 49 (0, 0)) :: (Ko ++ (T ++ Kl9))) rfl rfl (st_row (off := 0) (v := .agg (colC (y8.re p9 c9)).toArray) rfl (by kernel_rfl) (by kernel_rfl) (.head _) Bg11 (by kernel_rfl) (by first | (simp [Value.cells]; done) | exact Nat.le_of_ble_eq_true rfl) (fun v hv => colC_one (y8.re p9 c9) v hv) (by kernel_rfl) (List.forall_mem_cons.2 ⟨.inl rfl, (fun p hp => .inr ⟨(.tail _ hp), ((show Dk g11 (Ko ++ (T ++ Kl9)) from (by (try simp only [dj_app_l, dj_app_r, dj_cons_l, dj_cons_r, dj_nil_l, dj_nil_r, dk_app, dk_cons, dk_nil, and_true, true_and, and_assoc]); repeat' (first | trivial | assumption | exact Dj.symm (by assumption) | exact Ne.symm (by assumption) | apply And.intro))) _ hp)⟩)⟩)) ?_
      refine wpL_done (fun W12 hW12 => ?_)
      refine (show Code.wp _ _ _ _ _ from ?_)
      refine wp_region_L (W0 := w) ((g11, .cells (colC (y8.re p9 c9)).toArray 49 (0, 0)) :: (Ko ++ (T ++ Kl9))) (hW12) ?_
      refine lm (v := vo) rfl rfl ?_
      refine lv (v := .agg (colC (y8.re p9 c9)).toArray) rfl rfl (yb_load (n := 12) (off := 0) rfl (by kernel_rfl) (.head _) Try.underlying49 rfl (by kernel_rfl) (by first | (simp [Value.cells]; done) | exact Nat.le_of_ble_eq_true rfl) (by kernel_rfl)) ?_
      refine wpL_new (fun g => .slice (some ⟨g, 0, none⟩) 1 1) (obi := .cells (colC (y8.re p9 c9)).toArray 49 (0, 0)) rfl rfl (fun _ => by kernel_rfl) (fun _ => by simp only [List.setIfInBounds_toArray, List.set_cons_succ, List.set_cons_zero] <;> rfl) fun g13 Bg13 Fg13 => ?_
      obtain ⟨dj14_0, dj14_1, dj14_2, dj14_3⟩ : g11 ≠ g13 ∧ Dk g13 Ko ∧ Dk g13 T ∧ Dk g13 Kl9 := by simpa only [dj_app_l, dj_app_r, dj_cons_l, dj_cons_r, dj_nil_l, dj_nil_r, dk_app, dk_cons, dk_nil, and_true, true_and, and_assoc] using (show Dk g13 ((g11, .cells (colC (y8.re p9 c9)).toArray 49 (0, 0)) :: (Ko ++ (T ++ Kl9))) from Fg13)
      refine wpL_g (AppO w 49 12 ((g11, .cells (colC (y8.re p9 c9)).toArray 49 (0, 0)) :: (T ++ Kl9)) (X.length + 1) ((X.flatMap colC) ++ [.int .i64 ((y8.re p9 c9).bay), .int .i64 ((y8.re p9 c9).row), .bool (y8.re p9 c9).deck, .int .i64 ((y8.re p9 c9).tiers), .int .i64 ((y8.re p9 c9).height), .int .i64 ((y8.re p9 c9).k20), .int .i64 ((y8.re p9 c9).k40), .int .i64 ((y8.re p9 c9).lash), .slice ((y8.re p9 c9).pp) (((y8.re p9 c9).plugs).length) ((y8.re p9 c9).pc), .int .i64 ((y8.re p9 c9).x), .int .i64 ((y8.re p9 c9).y), .int .i64 ((y8.re p9 c9).z)])) rfl rfl (app_own el_col (m := 1) (c := 1) (news := [.int .i64 ((y8.re p9 c9).bay), .int .i64 ((y8.re p9 c9).row), .bool (y8.re p9 c9).deck, .int .i64 ((y8.re p9 c9).tiers), .int .i64 ((y8.re p9 c9).height), .int .i64 ((y8.re p9 c9).k20), .int .i64 ((y8.re p9 c9).k40), .int .i64 ((y8.re p9 c9).lash), .slice ((y8.re p9 c9).pp) (((y8.re p9 c9).plugs).length) ((y8.re p9 c9).pc), .int .i64 ((y8.re p9 c9).x), .int .i64 ((y8.re p9 c9).y), .int .i64 ((y8.re p9 c9).z)]) rfl (by kernel_rfl) (by kernel_rfl) (.head _) hO (fun p hp => by simp only [List.mem_cons, List.mem_append, List.nil_append, List.not_mem_nil, or_assoc, or_false, false_or, hp, or_true, true_or]) (fun p hp => ⟨by simp only [List.mem_cons, List.mem_append, List.nil_append, List.not_mem_nil, or_assoc, or_false, false_or] at hp ⊢ <;> grind, (show Dj ((g11, .cells (colC (y8.re p9 c9)).toArray 49 (0, 0)) :: (T ++ Kl9)) Ko from (by (try simp only [dj_app_l, dj_app_r, dj_cons_l, dj_cons_r, dj_nil_l, dj_nil_r, dk_app, dk_cons, dk_nil, and_true, true_and, and_assoc]); repeat' (first | trivial | assumption | exact Dj.symm (by assumption) | exact Ne.symm (by assumption) | apply And.intro))) p hp⟩) rfl (by simp [strV, Value.oneCell']) (by omega) (by omega) (by omega)) (fun _ => by simp only [List.setIfInBounds_toArray, List.set_cons_succ, List.set_cons_zero] <;> rfl) ?_
      rintro v15 K9 ⟨Kl15, O15, N15, rfl⟩
      obtain ⟨dj16_0, dj16_1, dj16_2⟩ : Dk g11 Kl15 ∧ Dj T Kl15 ∧ Dj Kl9 Kl15 := by simpa only [dj_app_l, dj_app_r, dj_cons_l, dj_cons_r, dj_nil_l, dj_nil_r, dk_app, dk_cons, dk_nil, and_true, true_and, and_assoc] using (show Dj ((g11, .cells (colC (y8.re p9 c9)).toArray 49 (0, 0)) :: (T ++ Kl9)) Kl15 from N15)
      refine lm (v := v15) rfl rfl ?_
      refine wpL_done (fun W13 hW13 => ?_)
      refine (show Code.wp _ _ _ _ _ from ?_)
      refine wp_region_L (W0 := w) ((g11, .cells (colC (y8.re p9 c9)).toArray 49 (0, 0)) :: ((T ++ Kl9) ++ Kl15)) (hW13) ?_
      refine lm (v := .int .i64 ((i : Nat) : Int)) rfl rfl ?_
      refine lp (v := .int .i64 (((i + 1) : Nat) : Int)) rfl rfl (run_bin rfl (vx := (.int .i64 ((i : Nat) : Int))) (vy := (.int .i64 ((1 : Nat) : Int))) (by kernel_rfl) (by kernel_rfl) fun w => bn_add (z := (i + 1)) rfl (wr_i64 (by omega)) w) ?_
      refine lm (v := .int .i64 (((i + 1) : Nat) : Int)) rfl rfl ?_
      refine wpL_done (fun W14 hW14 => ?_)
      go_roundw
      case rel =>
        repeat apply Exists.intro
        exact ⟨⟨i + 1, (X ++ [y8.re p9 c9]), v15, Kl15, (T ++ Kl9), (by omega), (by rw [List.length_append, List.length_singleton]; omega), (own_app O15 (by rw [List.flatMap_append]; rfl) (by rw [List.length_append]; rfl)), (LentC.s hX hXl hy8 n9 (own_hl O9)), (new_app hT (own_new O9)), (show Dj Kl15 (T ++ Kl9) from (by (try simp only [dj_app_l, dj_app_r, dj_cons_l, dj_cons_r, dj_nil_l, dj_nil_r, dk_app, dk_cons, dk_nil, and_true, true_and, and_assoc]); repeat' (first | trivial | assumption | exact Dj.symm (by assumption) | exact Ne.symm (by assumption) | apply And.intro))), rfl, rfl, (hW14.sub (fun p hp => by first | exact hp | (simp only [List.mem_cons, List.mem_append, List.nil_append, List.not_mem_nil, or_assoc, or_false, false_or] at hp ⊢ <;> grind)))⟩, rfl⟩
      case measure => (show l.length - (intOf (.int .i64 (((i + 1) : Nat) : Int))).toNat < l.length - (intOf (.int .i64 ((i : Nat) : Int))).toNat); simp only [intOf]; omega
end Go.Proofs.Ythpooalhibedpaa
