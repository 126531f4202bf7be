import Derived.Test.YthpooalhibedpaaG02
/- Part of the proof: TO, TP, TQ, TS0, TS, TU0, TU, TW, TV. -/
set_option linter.unusedVariables false
set_option linter.unusedSimpArgs false
set_option linter.unusedSectionVars false
namespace Go.Proofs.Ythpooalhibedpaa
open Go Go.RowKit Tw
set_option maxRecDepth 100000 in
set_option maxHeartbeats 4000000 in
theorem few_any (cs : List Col) (pc : Option Addr) (cc : Nat) (lc : cs.length ≤ 4000000000) (os : List Cov) (po : Option Addr) (co : Nat) (lo : os.length ≤ 4000000000) (t : Tl) (w : World) (hc : SLV w pc (cs.flatMap colC)) (ho : SLV w po (os.flatMap covC)) (lr : ∀ o ∈ os, o.rows.length ≤ 4000000000) (lq : ∀ c ∈ cs, c.plugs.length ≤ 4000000000) : Calls Try.prog 5 #[.agg (shC (.slice pc cs.length cc) (.slice po os.length co) t).toArray] w fun e w' => e = .returned (.bool (fewX cs os)) ∧ Below w.heap.size w w' := by
  have HC := Lib.hid hc
  clear hc
  have HO := Lib.hid ho
  clear ho
  go_enter Try.func5, Try.ntmps5
  refine wp_seq ?_
  refine wp_region_L (W0 := w) [] (KS.start w) ?_
  refine wpL_new (fun g => .pointer (some ⟨g, 0, none⟩)) (obi := .cells (shC (.slice pc cs.length cc) (.slice po os.length co) t).toArray 32 (0, 0)) rfl rfl (fun _ => by kernel_rfl) (fun _ => by simp only [List.setIfInBounds_toArray, List.set_cons_succ, List.set_cons_zero] <;> rfl) fun g1 Bg1 Fg1 => ?_
  refine lm (v := .bool false) rfl rfl ?_
  refine wpL_done (fun W1 hW1 => ?_)
  refine (show Code.wp _ _ _ _ _ from ?_)
  refine wp_seq ?_
  refine wp_seq ?_
  refine wp_region_L (W0 := w) [(g1, .cells (shC (.slice pc cs.length cc) (.slice po os.length co) t).toArray 32 (0, 0))] (hW1) ?_
  refine lm (v := .pointer (some ⟨g1, 0, none⟩)) rfl rfl ?_
  refine lv (v := .slice pc cs.length cc) rfl rfl (yb_cell (off := 0) rfl (by kernel_rfl) (.head _) Try.underlying22 rfl (by kernel_rfl)) ?_
  refine lp (v := .int .i64 ((cs.length : Nat) : Int)) rfl rfl (run_lenL (p := pc) (cap := cc) (n := cs.length) rfl Try.underlying22 (by kernel_rfl)) ?_
  refine lp (v := .bool (decide (250 < cs.length))) rfl rfl (run_bin rfl (vx := (.int .i64 ((cs.length : Nat) : Int))) (vy := (.int .i64 ((250 : Nat) : Int))) (by kernel_rfl) (by kernel_rfl) fun w => bn_gtr rfl w) ?_
  refine lm (v := .bool (decide (250 < cs.length))) rfl rfl ?_
  cases hd1 : (decide (250 < cs.length)) with
  | false =>
    have h1 : ¬ (250 < cs.length) := of_decide_eq_false hd1
    clear hd1
    refine lm (v := .pointer (some ⟨g1, 1, none⟩)) rfl rfl ?_
    refine lv (v := .slice po os.length co) rfl rfl (yb_cell (off := 1) rfl (by kernel_rfl) (.head _) Try.underlying23 rfl (by kernel_rfl)) ?_
    refine lp (v := .int .i64 ((os.length : Nat) : Int)) rfl rfl (run_lenL (p := po) (cap := co) (n := os.length) rfl Try.underlying23 (by kernel_rfl)) ?_
    refine lp (v := .bool (decide (60 < os.length))) rfl rfl (run_bin rfl (vx := (.int .i64 ((os.length : Nat) : Int))) (vy := (.int .i64 ((60 : Nat) : Int))) (by kernel_rfl) (by kernel_rfl) fun w => bn_gtr rfl w) ?_
    refine lm (v := .bool (decide (60 < os.length))) rfl rfl ?_
    refine wpL_done (fun W2 hW2 => ?_)
    refine (show Code.wp _ _ _ _ _ from ?_)
    cases hd2 : (decide (60 < os.length)) with
    | false =>
      have h2 : ¬ (60 < os.length) := of_decide_eq_false hd2
      clear hd2
      refine wp_cond_false rfl ?_
      refine wp_skip ?_
      refine (show Code.wp _ _ _ _ _ from ?_)
      refine wp_seq ?_
      refine wp_seq ?_
      refine wp_region_L (W0 := w) [(g1, .cells (shC (.slice pc cs.length cc) (.slice po os.length co) t).toArray 32 (0, 0))] (hW2) ?_
      refine lm (v := .pointer (some ⟨g1, 0, none⟩)) rfl rfl ?_
      refine lv (v := .slice pc cs.length cc) rfl rfl (yb_cell (off := 0) rfl (by kernel_rfl) (.head _) Try.underlying22 rfl (by kernel_rfl)) ?_
      refine lp (v := .int .i64 ((cs.length : Nat) : Int)) rfl rfl (run_lenL (p := pc) (cap := cc) (n := cs.length) rfl Try.underlying22 (by kernel_rfl)) ?_
      refine lm (v := .int .i64 0) rfl rfl ?_
      refine wpL_done (fun W3 hW3 => ?_)
      refine (show Code.wp _ _ _ _ _ from ?_)
      refine wp_block ?_
      go_loopw [20] (fun u20 wr => ∃ (i : Nat), (i ≤ cs.length) ∧ (∀ j c, j < i → cs[j]? = some c → c.plugs.length ≤ 12) ∧ u20 = .int .i64 ((i : Nat) : Int) ∧ KS w [(g1, .cells (shC (.slice pc cs.length cc) (.slice po os.length co) t).toArray 32 (0, 0))] wr) (fun u20 _ => cs.length - (intOf u20).toNat)
      case atStart => exact ⟨0, (Nat.zero_le _), (fun j c h => by omega), rfl, (hW3.sub (fun p hp => by first | exact hp | (simp only [List.mem_cons, List.mem_append, List.nil_append, List.not_mem_nil, or_assoc, or_false, false_or] at hp ⊢ <;> grind)))⟩
      case round =>
        obtain ⟨i, hi, hF, rfl, hL4⟩ := hrel
        refine wp_seq ?_
        refine wp_region_L (W0 := w) [(g1, .cells (shC (.slice pc cs.length cc) (.slice po os.length co) t).toArray 32 (0, 0))] (hL4) ?_
        refine lp (v := .bool (decide (i < cs.length))) rfl rfl (run_bin rfl (vx := (.int .i64 ((i : Nat) : Int))) (vy := (.int .i64 ((cs.length : Nat) : Int))) (by kernel_rfl) (by kernel_rfl) fun w => bn_lss rfl w) ?_
        refine wpL_done (fun W5 hW5 => ?_)
        refine (show Code.wp _ _ _ _ _ from ?_)
        refine wp_seq ?_
        cases hd3 : (decide (i < cs.length)) with
        | false =>
          have h3 : ¬ (i < cs.length) := of_decide_eq_false hd3
          clear hd3
          refine wp_cond_false rfl ?_
          refine wp_exit ?_
          refine (show Code.wp _ _ _ _ _ from ?_)
          refine wp_seq ?_
          refine wp_seq ?_
          refine wp_region_L (W0 := w) [(g1, .cells (shC (.slice pc cs.length cc) (.slice po os.length co) t).toArray 32 (0, 0))] (hW5) ?_
          refine lm (v := .pointer (some ⟨g1, 1, none⟩)) rfl rfl ?_
          refine lv (v := .slice po os.length co) rfl rfl (yb_cell (off := 1) rfl (by kernel_rfl) (.head _) Try.underlying23 rfl (by kernel_rfl)) ?_
          refine lp (v := .int .i64 ((os.length : Nat) : Int)) rfl rfl (run_lenL (p := po) (cap := co) (n := os.length) rfl Try.underlying23 (by kernel_rfl)) ?_
          refine lm (v := .int .i64 0) rfl rfl ?_
          refine wpL_done (fun W6 hW6 => ?_)
          refine (show Code.wp _ _ _ _ _ from ?_)
          refine wp_block ?_
          go_loopw [32] (fun u32 wr => ∃ (i2 : Nat), (i2 ≤ os.length) ∧ (∀ j o, j < i2 → os[j]? = some o → o.rows.length ≤ 40) ∧ u32 = .int .i64 ((i2 : Nat) : Int) ∧ KS w [(g1, .cells (shC (.slice pc cs.length cc) (.slice po os.length co) t).toArray 32 (0, 0))] wr) (fun u32 _ => os.length - (intOf u32).toNat)
          case atStart => exact ⟨0, (Nat.zero_le _), (fun j o h => by omega), rfl, (hW6.sub (fun p hp => by first | exact hp | (simp only [List.mem_cons, List.mem_append, List.nil_append, List.not_mem_nil, or_assoc, or_false, false_or] at hp ⊢ <;> grind)))⟩
          case round =>
            obtain ⟨i2, hi2, hG, rfl, hL7⟩ := hrel
            refine wp_seq ?_
            refine wp_region_L (W0 := w) [(g1, .cells (shC (.slice pc cs.length cc) (.slice po os.length co) t).toArray 32 (0, 0))] (hL7) ?_
            refine lp (v := .bool (decide (i2 < os.length))) rfl rfl (run_bin rfl (vx := (.int .i64 ((i2 : Nat) : Int))) (vy := (.int .i64 ((os.length : Nat) : Int))) (by kernel_rfl) (by kernel_rfl) fun w => bn_lss rfl w) ?_
            refine wpL_done (fun W8 hW8 => ?_)
            refine (show Code.wp _ _ _ _ _ from ?_)
            refine wp_seq ?_
            cases hd4 : (decide (i2 < os.length)) with
            | false =>
              have h4 : ¬ (i2 < os.length) := of_decide_eq_false hd4
              clear hd4
              refine wp_cond_false rfl ?_
              refine wp_exit ?_
              refine (show Code.wp _ _ _ _ _ from ?_)
              refine wp_seq ?_
              refine wp_region_L (W0 := w) [(g1, .cells (shC (.slice pc cs.length cc) (.slice po os.length co) t).toArray 32 (0, 0))] (hW8) ?_
              refine lm (v := .bool true) rfl rfl ?_
              refine wpL_done (fun W9 hW9 => ?_)
              refine (show Code.wp _ _ _ _ _ from ?_)
              refine wp_ret ?_
              try simp only [inBlock_ret, then_ret]
              refine bodyPost_ret (v := .bool true) ?_ rfl ?_
              · kernel_rfl
              · exact ⟨(bool_is (few_yes h1 h2 (fun j c g => hF j c (by omega)) (fun j c g => hG j c (by omega))).symm), hW9.1⟩
            | true =>
              have h4 : i2 < os.length := of_decide_eq_true hd4
              clear hd4
              refine wp_cond_true rfl ?_
              refine wp_skip ?_
              refine (show Code.wp _ _ _ _ _ from ?_)
              refine wp_seq ?_
              refine wp_block ?_
              refine wp_seq ?_
              refine wp_region_L (W0 := w) [(g1, .cells (shC (.slice pc cs.length cc) (.slice po os.length co) t).toArray 32 (0, 0))] (hW8) ?_
              obtain ⟨y2, g2_, f2_, hy2, hp2, hc2⟩ := RL.at (RL.base HO.out) covC_len (by decide) (hW8.sub (fun _ h => by cases h)) (k := i2) (by omega)
              refine lp (v := .pointer (some ⟨g2_, f2_ + i2 * 2, none⟩)) rfl rfl (run_idxQ (p := po) (cap := co) (n := os.length) (j := .i64) (k := i2) (sz := 2) rfl Try.underlying23 (by kernel_rfl) (by kernel_rfl) hp2 (by kernel_rfl) (by omega)) ?_
              refine lv (v := .agg (covC y2).toArray) rfl rfl (yb_rs (off := f2_ + i2 * 2) (cs := covC y2) rfl (by kernel_rfl) (fun W hW => hc2 W (hW.sub (fun _ h => by cases h))) Try.underlying51 rfl (by kernel_rfl)) ?_
              refine wpL_new (fun g => .pointer (some ⟨g, 0, none⟩)) (obi := .cells #[.int .i64 0, .slice none 0 0] 51 (0, 0)) rfl rfl (fun _ => by kernel_rfl) (fun _ => by simp only [List.setIfInBounds_toArray, List.set_cons_succ, List.set_cons_zero] <;> rfl) fun g3 Bg3 Fg3 => ?_
              obtain dj4_0 : g1 ≠ g3 := by simpa only [dj_app_l, dj_app_r, dj_cons_l, dj_cons_r, dj_nil_l, dj_nil_r, dk_app, dk_cons, dk_nil, and_true, true_and, and_assoc] using (show Dk g3 [(g1, .cells (shC (.slice pc cs.length cc) (.slice po os.length co) t).toArray 32 (0, 0))] from Fg3)
              refine wpL_s [(g3, .cells (covC y2).toArray 51 (0, 0)), (g1, .cells (shC (.slice pc cs.length cc) (.slice po os.length co) t).toArray 32 (0, 0))] rfl rfl (st_row (off := 0) (v := .agg (covC y2).toArray) rfl (by kernel_rfl) (by kernel_rfl) (.head _) Bg3 (by kernel_rfl) (by first | (simp [Value.cells]; done) | exact Nat.le_of_ble_eq_true rfl) (fun v hv => covC_one y2 v hv) (by kernel_rfl) (List.forall_mem_cons.2 ⟨.inl rfl, (List.forall_mem_cons.2 ⟨.inr ⟨(.tail _ (.head _)), (by first | assumption | exact Ne.symm (by assumption))⟩, (List.forall_mem_nil _)⟩)⟩)) ?_
              refine wpL_done (fun W10 hW10 => ?_)
              refine (show Code.wp _ _ _ _ _ from ?_)
              refine wp_seq ?_
              refine wp_region_L (W0 := w) [(g3, .cells (covC y2).toArray 51 (0, 0)), (g1, .cells (shC (.slice pc cs.length cc) (.slice po os.length co) t).toArray 32 (0, 0))] (hW10) ?_
              refine lm (v := .pointer (some ⟨g3, 1, none⟩)) rfl rfl ?_
              refine lv (v := .slice y2.rp y2.rows.length y2.rc) rfl rfl (yb_cell (off := 1) rfl (by kernel_rfl) (.head _) Try.underlying39 rfl (by kernel_rfl)) ?_
              refine lp (v := .int .i64 ((y2.rows.length : Nat) : Int)) rfl rfl (run_lenL (p := y2.rp) (cap := y2.rc) (n := y2.rows.length) rfl Try.underlying39 (by kernel_rfl)) ?_
              refine lp (v := .bool (decide (40 < y2.rows.length))) rfl rfl (run_bin rfl (vx := (.int .i64 ((y2.rows.length : Nat) : Int))) (vy := (.int .i64 ((40 : Nat) : Int))) (by kernel_rfl) (by kernel_rfl) fun w => bn_gtr rfl w) ?_
              refine wpL_done (fun W11 hW11 => ?_)
              refine (show Code.wp _ _ _ _ _ from ?_)
              cases hd5 : (decide (40 < y2.rows.length)) with
              | false =>
                have h5 : ¬ (40 < y2.rows.length) := of_decide_eq_false hd5
                clear hd5
                refine wp_cond_false rfl ?_
                refine wp_skip ?_
                refine (show Code.wp _ _ _ _ _ from ?_)
                refine wp_region_L (W0 := w) [(g3, .cells (covC y2).toArray 51 (0, 0)), (g1, .cells (shC (.slice pc cs.length cc) (.slice po os.length co) t).toArray 32 (0, 0))] (hW11) ?_
                refine lp (v := .int .i64 (((i2 + 1) : Nat) : Int)) rfl rfl (run_bin rfl (vx := (.int .i64 ((i2 : Nat) : Int))) (vy := (.int .i64 ((1 : Nat) : Int))) (by kernel_rfl) (by kernel_rfl) fun w => bn_add (z := (i2 + 1)) rfl (wr_i64 (by omega)) w) ?_
                refine lm (v := .int .i64 (((i2 + 1) : Nat) : Int)) rfl rfl ?_
                refine wpL_done (fun W12 hW12 => ?_)
                go_roundw
                case rel =>
                  repeat apply Exists.intro
                  exact ⟨⟨i2 + 1, (by omega), (few_o (q := i2) hG hy2 h5 rfl), rfl, (hW12.sub (fun p hp => by first | exact hp | (simp only [List.mem_cons, List.mem_append, List.nil_append, List.not_mem_nil, or_assoc, or_false, false_or] at hp ⊢ <;> grind)))⟩, rfl⟩
                case measure => (show os.length - (intOf (.int .i64 (((i2 + 1) : Nat) : Int))).toNat < os.length - (intOf (.int .i64 ((i2 : Nat) : Int))).toNat); simp only [intOf]; omega
              | true =>
                have h5 : 40 < y2.rows.length := of_decide_eq_true hd5
                clear hd5
                refine wp_cond_true rfl ?_
                refine wp_seq ?_
                refine wp_region_L (W0 := w) [(g3, .cells (covC y2).toArray 51 (0, 0)), (g1, .cells (shC (.slice pc cs.length cc) (.slice po os.length co) t).toArray 32 (0, 0))] (hW11) ?_
                refine lm (v := .bool false) rfl rfl ?_
                refine wpL_done (fun W13 hW13 => ?_)
                refine (show Code.wp _ _ _ _ _ from ?_)
                refine wp_ret ?_
                try simp only [inBlock_ret, then_ret]
                refine bodyPost_ret (v := .bool false) ?_ rfl ?_
                · kernel_rfl
                · exact ⟨(bool_is (few_no4 hy2 h5).symm), hW13.1⟩
        | true =>
          have h3 : i < cs.length := of_decide_eq_true hd3
          clear hd3
          refine wp_cond_true rfl ?_
          refine wp_skip ?_
          refine (show Code.wp _ _ _ _ _ from ?_)
          refine wp_seq ?_
          refine wp_block ?_
          refine wp_seq ?_
          refine wp_region_L (W0 := w) [(g1, .cells (shC (.slice pc cs.length cc) (.slice po os.length co) t).toArray 32 (0, 0))] (hW5) ?_
          obtain ⟨y5, g5_, f5_, hy5, hp5, hc5⟩ := RL.at (RL.base HC.out) colC_len (by decide) (hW5.sub (fun _ h => by cases h)) (k := i) (by omega)
          refine lp (v := .pointer (some ⟨g5_, f5_ + i * 12, none⟩)) rfl rfl (run_idxQ (p := pc) (cap := cc) (n := cs.length) (j := .i64) (k := i) (sz := 12) rfl Try.underlying22 (by kernel_rfl) (by kernel_rfl) hp5 (by kernel_rfl) (by omega)) ?_
          refine lv (v := .agg (colC y5).toArray) rfl rfl (yb_rs (off := f5_ + i * 12) (cs := colC y5) rfl (by kernel_rfl) (fun W hW => hc5 W (hW.sub (fun _ h => by cases h))) Try.underlying49 rfl (by kernel_rfl)) ?_
          refine wpL_new (fun g => .pointer (some ⟨g, 0, none⟩)) (obi := .cells #[.int .i64 0, .int .i64 0, .bool false, .int .i64 0, .int .i64 0, .int .i64 0, .int .i64 0, .int .i64 0, .slice none 0 0, .int .i64 0, .int .i64 0, .int .i64 0] 49 (0, 0)) rfl rfl (fun _ => by kernel_rfl) (fun _ => by simp only [List.setIfInBounds_toArray, List.set_cons_succ, List.set_cons_zero] <;> rfl) fun g6 Bg6 Fg6 => ?_
          obtain dj7_0 : g1 ≠ g6 := by simpa only [dj_app_l, dj_app_r, dj_cons_l, dj_cons_r, dj_nil_l, dj_nil_r, dk_app, dk_cons, dk_nil, and_true, true_and, and_assoc] using (show Dk g6 [(g1, .cells (shC (.slice pc cs.length cc) (.slice po os.length co) t).toArray 32 (0, 0))] from Fg6)
          refine wpL_s [(g6, .cells (colC y5).toArray 49 (0, 0)), (g1, .cells (shC (.slice pc cs.length cc) (.slice po os.length co) t).toArray 32 (0, 0))] rfl rfl (st_row (off := 0) (v := .agg (colC y5).toArray) rfl (by kernel_rfl) (by kernel_rfl) (.head _) Bg6 (by kernel_rfl) (by first | (simp [Value.cells]; done) | exact Nat.le_of_ble_eq_true rfl) (fun v hv => colC_one y5 v hv) (by kernel_rfl) (List.forall_mem_cons.2 ⟨.inl rfl, (List.forall_mem_cons.2 ⟨.inr ⟨(.tail _ (.head _)), (by first | assumption | exact Ne.symm (by assumption))⟩, (List.forall_mem_nil _)⟩)⟩)) ?_
          refine wpL_done (fun W14 hW14 => ?_)
          refine (show Code.wp _ _ _ _ _ from ?_)
          refine wp_seq ?_
          refine wp_region_L (W0 := w) [(g6, .cells (colC y5).toArray 49 (0, 0)), (g1, .cells (shC (.slice pc cs.length cc) (.slice po os.length co) t).toArray 32 (0, 0))] (hW14) ?_
          refine lm (v := .pointer (some ⟨g6, 8, none⟩)) rfl rfl ?_
          refine lv (v := .slice y5.pp y5.plugs.length y5.pc) rfl rfl (yb_cell (off := 8) rfl (by kernel_rfl) (.head _) Try.underlying39 rfl (by kernel_rfl)) ?_
          refine lp (v := .int .i64 ((y5.plugs.length : Nat) : Int)) rfl rfl (run_lenL (p := y5.pp) (cap := y5.pc) (n := y5.plugs.length) rfl Try.underlying39 (by kernel_rfl)) ?_
          refine lp (v := .bool (decide (12 < y5.plugs.length))) rfl rfl (run_bin rfl (vx := (.int .i64 ((y5.plugs.length : Nat) : Int))) (vy := (.int .i64 ((12 : Nat) : Int))) (by kernel_rfl) (by kernel_rfl) fun w => bn_gtr rfl w) ?_
          refine wpL_done (fun W15 hW15 => ?_)
          refine (show Code.wp _ _ _ _ _ from ?_)
          cases hd6 : (decide (12 < y5.plugs.length)) with
          | false =>
            have h6 : ¬ (12 < y5.plugs.length) := of_decide_eq_false hd6
            clear hd6
            refine wp_cond_false rfl ?_
            refine wp_skip ?_
            refine (show Code.wp _ _ _ _ _ from ?_)
            refine wp_region_L (W0 := w) [(g6, .cells (colC y5).toArray 49 (0, 0)), (g1, .cells (shC (.slice pc cs.length cc) (.slice po os.length co) t).toArray 32 (0, 0))] (hW15) ?_
            refine lp (v := .int .i64 (((i + 1) : Nat) : Int)) rfl rfl (run_bin rfl (vx := (.int .i64 ((i : Nat) : Int))) (vy := (.int .i64 ((1 : Nat) : Int))) (by kernel_rfl) (by kernel_rfl) fun w => bn_add (z := (i + 1)) rfl (wr_i64 (by omega)) w) ?_
            refine lm (v := .int .i64 (((i + 1) : Nat) : Int)) rfl rfl ?_
            refine wpL_done (fun W16 hW16 => ?_)
            go_roundw
            case rel =>
              repeat apply Exists.intro
              exact ⟨⟨i + 1, (by omega), (few_c (q := i) hF hy5 h6 rfl), rfl, (hW16.sub (fun p hp => by first | exact hp | (simp only [List.mem_cons, List.mem_append, List.nil_append, List.not_mem_nil, or_assoc, or_false, false_or] at hp ⊢ <;> grind)))⟩, rfl⟩
            case measure => (show cs.length - (intOf (.int .i64 (((i + 1) : Nat) : Int))).toNat < cs.length - (intOf (.int .i64 ((i : Nat) : Int))).toNat); simp only [intOf]; omega
          | true =>
            have h6 : 12 < y5.plugs.length := of_decide_eq_true hd6
            clear hd6
            refine wp_cond_true rfl ?_
            refine wp_seq ?_
            refine wp_region_L (W0 := w) [(g6, .cells (colC y5).toArray 49 (0, 0)), (g1, .cells (shC (.slice pc cs.length cc) (.slice po os.length co) t).toArray 32 (0, 0))] (hW15) ?_
            refine lm (v := .bool false) rfl rfl ?_
            refine wpL_done (fun W17 hW17 => ?_)
            refine (show Code.wp _ _ _ _ _ from ?_)
            refine wp_ret ?_
            try simp only [inBlock_ret, then_ret]
            refine bodyPost_ret (v := .bool false) ?_ rfl ?_
            · kernel_rfl
            · exact ⟨(bool_is (few_no3 hy5 h6).symm), hW17.1⟩
    | true =>
      have h2 : 60 < os.length := of_decide_eq_true hd2
      clear hd2
      refine wp_cond_true rfl ?_
      refine wp_seq ?_
      refine wp_region_L (W0 := w) [(g1, .cells (shC (.slice pc cs.length cc) (.slice po os.length co) t).toArray 32 (0, 0))] (hW2) ?_
      refine lm (v := .bool false) rfl rfl ?_
      refine wpL_done (fun W18 hW18 => ?_)
      refine (show Code.wp _ _ _ _ _ from ?_)
      refine wp_ret ?_
      try simp only [inBlock_ret, then_ret]
      refine bodyPost_ret (v := .bool false) ?_ rfl ?_
      · kernel_rfl
      · exact ⟨(bool_is (few_no2 h2).symm), hW18.1⟩
  | true =>
    have h1 : 250 < cs.length := of_decide_eq_true hd1
    clear hd1
    refine ln rfl ?_
    refine ln rfl ?_
    refine ln rfl ?_
    refine ln rfl ?_
    refine lm (v := .bool true) rfl rfl ?_
    refine wpL_done (fun W19 hW19 => ?_)
    refine (show Code.wp _ _ _ _ _ from ?_)
    refine wp_cond_true rfl ?_
    refine wp_seq ?_
    refine wp_region_L (W0 := w) [(g1, .cells (shC (.slice pc cs.length cc) (.slice po os.length co) t).toArray 32 (0, 0))] (hW19) ?_
    refine lm (v := .bool false) rfl rfl ?_
    refine wpL_done (fun W20 hW20 => ?_)
    refine (show Code.wp _ _ _ _ _ from ?_)
    refine wp_ret ?_
    try simp only [inBlock_ret, then_ret]
    refine bodyPost_ret (v := .bool false) ?_ rfl ?_
    · kernel_rfl
    · exact ⟨(bool_is (few_no1 h1).symm), hW20.1⟩
end Go.Proofs.Ythpooalhibedpaa
namespace Go.Proofs.Ythpooalhibedpaa
open Go Go.RowKit Tw
def Cov.re (y : Cov) (q : Option Addr) (d : Nat) : Cov := { y with rp := q, rc := d }
def Col.re (y : Col) (q : Option Addr) (d : Nat) : Col := { y with pp := q, pc := d }
theorem SameInts_yes (l : List Int) (p q : Option Addr) (c d : Nat) (hl : l.length ≤ 4000000000) (w : World) (hp : SLV w p (l.flatMap inC)) (hq : SLV w q (l.flatMap inC)) : Calls Try.prog 16 #[.slice p l.length c, .slice q l.length d] w fun e w' => e = .returned (.bool true) ∧ Below w.heap.size w w' := by
  have h := SameInts_any l l p q c d hl w hp hq
  rwa [decide_eq_true (rfl : l = l)] at h
set_option maxRecDepth 100000 in
set_option maxHeartbeats 4000000 in
theorem SameCover_any (y : Cov) (q : Option Addr) (d : Nat) (hl : y.rows.length ≤ 4000000000) (w : World) (hp : SLV w y.rp (y.rows.flatMap inC)) (hq : SLV w q (y.rows.flatMap inC)) : Calls Try.prog 77 #[.agg (covC y).toArray, .agg (covC (y.re q d)).toArray] w fun e w' => e = .returned (.bool true) ∧ Below w.heap.size w w' := by
  have HP := Lib.hid hp
  clear hp
  have HQ := Lib.hid hq
  clear hq
  go_enter Try.func77, Try.ntmps77
  refine wp_seq ?_
  refine wp_region_L (W0 := w) [] (KS.start w) ?_
  refine wpL_new (fun g => .pointer (some ⟨g, 0, none⟩)) (obi := .cells (covC y).toArray 51 (0, 0)) rfl rfl (fun _ => by kernel_rfl) (fun _ => by simp only [List.setIfInBounds_toArray, List.set_cons_succ, List.set_cons_zero] <;> rfl) fun g1 Bg1 Fg1 => ?_
  refine wpL_new (fun g => .pointer (some ⟨g, 0, none⟩)) (obi := .cells (covC (y.re q d)).toArray 51 (0, 0)) rfl rfl (fun _ => by kernel_rfl) (fun _ => by simp only [List.setIfInBounds_toArray, List.set_cons_succ, List.set_cons_zero] <;> rfl) fun g2 Bg2 Fg2 => ?_
  obtain dj3_0 : g1 ≠ g2 := by simpa only [dj_app_l, dj_app_r, dj_cons_l, dj_cons_r, dj_nil_l, dj_nil_r, dk_app, dk_cons, dk_nil, and_true, true_and, and_assoc] using (show Dk g2 [(g1, .cells (covC y).toArray 51 (0, 0))] from Fg2)
  refine lm (v := .bool false) rfl rfl ?_
  refine wpL_done (fun W1 hW1 => ?_)
  refine (show Code.wp _ _ _ _ _ from ?_)
  refine wp_seq ?_
  refine wp_region_L (W0 := w) [(g2, .cells (covC (y.re q d)).toArray 51 (0, 0)), (g1, .cells (covC y).toArray 51 (0, 0))] (hW1) ?_
  refine lm (v := .pointer (some ⟨g1, 0, none⟩)) rfl rfl ?_
  refine lv (v := .int .i64 y.bay) rfl rfl (yb_cell (off := 0) rfl (by kernel_rfl) (.tail _ (.head _)) Try.underlying3 rfl (by kernel_rfl)) ?_
  refine lm (v := .pointer (some ⟨g2, 0, none⟩)) rfl rfl ?_
  refine lv (v := .int .i64 ((y.re q d).bay)) rfl rfl (yb_cell (off := 0) rfl (by kernel_rfl) (.head _) Try.underlying3 rfl (by kernel_rfl)) ?_
  refine lp (v := .bool (decide (y.bay = ((y.re q d).bay)))) rfl rfl (run_bin rfl (vx := (.int .i64 y.bay)) (vy := (.int .i64 ((y.re q d).bay))) (by kernel_rfl) (by kernel_rfl) fun w => bi_eql rfl w) ?_
  refine lm (v := .bool (decide (y.bay = ((y.re q d).bay)))) rfl rfl ?_
  cases hd1 : (decide (y.bay = ((y.re q d).bay))) with
  | false =>
    have h1 : ¬ (y.bay = ((y.re q d).bay)) := of_decide_eq_false hd1
    clear hd1
    exact absurd rfl h1
  | true =>
    have h1 : y.bay = ((y.re q d).bay) := of_decide_eq_true hd1
    clear hd1
    refine lm (v := .pointer (some ⟨g1, 1, none⟩)) rfl rfl ?_
    refine lv (v := .slice y.rp y.rows.length y.rc) rfl rfl (yb_cell (off := 1) rfl (by kernel_rfl) (.tail _ (.head _)) Try.underlying39 rfl (by kernel_rfl)) ?_
    refine lm (v := .pointer (some ⟨g2, 1, none⟩)) rfl rfl ?_
    refine lv (v := .slice ((y.re q d).rp) (((y.re q d).rows).length) ((y.re q d).rc)) rfl rfl (yb_cell (off := 1) rfl (by kernel_rfl) (.head _) Try.underlying39 rfl (by kernel_rfl)) ?_
    refine lv (v := .bool true) rfl rfl (yb_call (f := 16) (args := #[.slice y.rp y.rows.length y.rc, .slice ((y.re q d).rp) (((y.re q d).rows).length) ((y.re q d).rc)]) (fun _ => by kernel_rfl) fun W hW => SameInts_yes y.rows y.rp q y.rc d hl W ((RL.base HP.out) _ (hW.sub (fun _ h => by cases h))) ((RL.base HQ.out) _ (hW.sub (fun _ h => by cases h)))) ?_
    refine lm (v := .bool true) rfl rfl ?_
    refine lm (v := .bool true) rfl rfl ?_
    refine wpL_done (fun W2 hW2 => ?_)
    refine (show Code.wp _ _ _ _ _ from ?_)
    refine wp_ret ?_
    try simp only [inBlock_ret, then_ret]
    refine bodyPost_ret (v := .bool true) ?_ rfl ?_
    · kernel_rfl
    · exact ⟨rfl, hW2.1⟩
set_option maxRecDepth 100000 in
set_option maxHeartbeats 4000000 in
theorem SameColumn_any (y : Col) (q : Option Addr) (d : Nat) (hl : y.plugs.length ≤ 4000000000) (w : World) (hp : SLV w y.pp (y.plugs.flatMap inC)) (hq : SLV w q (y.plugs.flatMap inC)) : Calls Try.prog 75 #[.agg (colC y).toArray, .agg (colC (y.re q d)).toArray] w fun e w' => e = .returned (.bool true) ∧ Below w.heap.size w w' := by
  have HP := Lib.hid hp
  clear hp
  have HQ := Lib.hid hq
  clear hq
  go_enter Try.func75, Try.ntmps75
  refine wp_seq ?_
  refine wp_region_L (W0 := w) [] (KS.start w) ?_
  refine wpL_new (fun g => .pointer (some ⟨g, 0, none⟩)) (obi := .cells (colC y).toArray 49 (0, 0)) rfl rfl (fun _ => by kernel_rfl) (fun _ => by simp only [List.setIfInBounds_toArray, List.set_cons_succ, List.set_cons_zero] <;> rfl) fun g1 Bg1 Fg1 => ?_
  refine wpL_new (fun g => .pointer (some ⟨g, 0, none⟩)) (obi := .cells (colC (y.re q d)).toArray 49 (0, 0)) rfl rfl (fun _ => by kernel_rfl) (fun _ => by simp only [List.setIfInBounds_toArray, List.set_cons_succ, List.set_cons_zero] <;> rfl) fun g2 Bg2 Fg2 => ?_
  obtain dj3_0 : g1 ≠ g2 := by simpa only [dj_app_l, dj_app_r, dj_cons_l, dj_cons_r, dj_nil_l, dj_nil_r, dk_app, dk_cons, dk_nil, and_true, true_and, and_assoc] using (show Dk g2 [(g1, .cells (colC y).toArray 49 (0, 0))] from Fg2)
  refine lm (v := .bool false) rfl rfl ?_
  refine wpL_done (fun W1 hW1 => ?_)
  refine (show Code.wp _ _ _ _ _ from ?_)
  refine wp_seq ?_
  refine wp_region_L (W0 := w) [(g2, .cells (colC (y.re q d)).toArray 49 (0, 0)), (g1, .cells (colC y).toArray 49 (0, 0))] (hW1) ?_
  refine lm (v := .pointer (some ⟨g1, 0, none⟩)) rfl rfl ?_
  refine lv (v := .int .i64 y.bay) rfl rfl (yb_cell (off := 0) rfl (by kernel_rfl) (.tail _ (.head _)) Try.underlying3 rfl (by kernel_rfl)) ?_
  refine lm (v := .pointer (some ⟨g2, 0, none⟩)) rfl rfl ?_
  refine lv (v := .int .i64 ((y.re q d).bay)) rfl rfl (yb_cell (off := 0) rfl (by kernel_rfl) (.head _) Try.underlying3 rfl (by kernel_rfl)) ?_
  refine lp (v := .bool (decide (y.bay = ((y.re q d).bay)))) rfl rfl (run_bin rfl (vx := (.int .i64 y.bay)) (vy := (.int .i64 ((y.re q d).bay))) (by kernel_rfl) (by kernel_rfl) fun w => bi_eql rfl w) ?_
  refine lm (v := .bool (decide (y.bay = ((y.re q d).bay)))) rfl rfl ?_
  cases hd1 : (decide (y.bay = ((y.re q d).bay))) with
  | false =>
    have h1 : ¬ (y.bay = ((y.re q d).bay)) := of_decide_eq_false hd1
    clear hd1
    exact absurd rfl h1
  | true =>
    have h1 : y.bay = ((y.re q d).bay) := of_decide_eq_true hd1
    clear hd1
    refine lm (v := .pointer (some ⟨g1, 1, none⟩)) rfl rfl ?_
    refine lv (v := .int .i64 y.row) rfl rfl (yb_cell (off := 1) rfl (by kernel_rfl) (.tail _ (.head _)) Try.underlying3 rfl (by kernel_rfl)) ?_
    refine lm (v := .pointer (some ⟨g2, 1, none⟩)) rfl rfl ?_
    refine lv (v := .int .i64 ((y.re q d).row)) rfl rfl (yb_cell (off := 1) rfl (by kernel_rfl) (.head _) Try.underlying3 rfl (by kernel_rfl)) ?_
    refine lp (v := .bool (decide (y.row = ((y.re q d).row)))) rfl rfl (run_bin rfl (vx := (.int .i64 y.row)) (vy := (.int .i64 ((y.re q d).row))) (by kernel_rfl) (by kernel_rfl) fun w => bi_eql rfl w) ?_
    refine lm (v := .bool (decide (y.row = ((y.re q d).row)))) rfl rfl ?_
    refine lm (v := .bool (decide (y.row = ((y.re q d).row)))) rfl rfl ?_
    cases hd2 : (decide (y.row = ((y.re q d).row))) with
    | false =>
      have h2 : ¬ (y.row = ((y.re q d).row)) := of_decide_eq_false hd2
      clear hd2
      exact absurd rfl h2
    | true =>
      have h2 : y.row = ((y.re q d).row) := of_decide_eq_true hd2
      clear hd2
      refine lm (v := .pointer (some ⟨g1, 2, none⟩)) rfl rfl ?_
      refine lv (v := .bool y.deck) rfl rfl (yb_cell (off := 2) rfl (by kernel_rfl) (.tail _ (.head _)) Try.underlying4 rfl (by kernel_rfl)) ?_
      refine lm (v := .pointer (some ⟨g2, 2, none⟩)) rfl rfl ?_
      refine lv (v := .bool ((y.re q d).deck)) rfl rfl (yb_cell (off := 2) rfl (by kernel_rfl) (.head _) Try.underlying4 rfl (by kernel_rfl)) ?_
      refine lp (v := .bool (y.deck == ((y.re q d).deck))) rfl rfl (run_bin rfl (vx := .bool y.deck) (vy := .bool ((y.re q d).deck)) (by kernel_rfl) (by kernel_rfl) fun w => bn_bool_eql rfl Try.underlying4 w) ?_
      refine lm (v := .bool (y.deck == ((y.re q d).deck))) rfl rfl ?_
      refine lm (v := .bool (y.deck == ((y.re q d).deck))) rfl rfl ?_
      cases h3 : (y.deck == ((y.re q d).deck)) with
      | false =>
        exact absurd (show (y.deck == ((y.re q d).deck)) = true from beq_self_eq_true y.deck) (by rw [h3]; exact Bool.false_ne_true)
      | true =>
        refine lm (v := .pointer (some ⟨g1, 3, none⟩)) rfl rfl ?_
        refine lv (v := .int .i64 y.tiers) rfl rfl (yb_cell (off := 3) rfl (by kernel_rfl) (.tail _ (.head _)) Try.underlying3 rfl (by kernel_rfl)) ?_
        refine lm (v := .pointer (some ⟨g2, 3, none⟩)) rfl rfl ?_
        refine lv (v := .int .i64 ((y.re q d).tiers)) rfl rfl (yb_cell (off := 3) rfl (by kernel_rfl) (.head _) Try.underlying3 rfl (by kernel_rfl)) ?_
        refine lp (v := .bool (decide (y.tiers = ((y.re q d).tiers)))) rfl rfl (run_bin rfl (vx := (.int .i64 y.tiers)) (vy := (.int .i64 ((y.re q d).tiers))) (by kernel_rfl) (by kernel_rfl) fun w => bi_eql rfl w) ?_
        refine lm (v := .bool (decide (y.tiers = ((y.re q d).tiers)))) rfl rfl ?_
        refine lm (v := .bool (decide (y.tiers = ((y.re q d).tiers)))) rfl rfl ?_
        cases hd4 : (decide (y.tiers = ((y.re q d).tiers))) with
        | false =>
          have h4 : ¬ (y.tiers = ((y.re q d).tiers)) := of_decide_eq_false hd4
          clear hd4
          exact absurd rfl h4
        | true =>
          have h4 : y.tiers = ((y.re q d).tiers) := of_decide_eq_true hd4
          clear hd4
          refine lm (v := .pointer (some ⟨g1, 4, none⟩)) rfl rfl ?_
          refine lv (v := .int .i64 y.height) rfl rfl (yb_cell (off := 4) rfl (by kernel_rfl) (.tail _ (.head _)) Try.underlying3 rfl (by kernel_rfl)) ?_
          refine lm (v := .pointer (some ⟨g2, 4, none⟩)) rfl rfl ?_
          refine lv (v := .int .i64 ((y.re q d).height)) rfl rfl (yb_cell (off := 4) rfl (by kernel_rfl) (.head _) Try.underlying3 rfl (by kernel_rfl)) ?_
          refine lp (v := .bool (decide (y.height = ((y.re q d).height)))) rfl rfl (run_bin rfl (vx := (.int .i64 y.height)) (vy := (.int .i64 ((y.re q d).height))) (by kernel_rfl) (by kernel_rfl) fun w => bi_eql rfl w) ?_
          refine lm (v := .bool (decide (y.height = ((y.re q d).height)))) rfl rfl ?_
          refine lm (v := .bool (decide (y.height = ((y.re q d).height)))) rfl rfl ?_
          cases hd5 : (decide (y.height = ((y.re q d).height))) with
          | false =>
            have h5 : ¬ (y.height = ((y.re q d).height)) := of_decide_eq_false hd5
            clear hd5
            exact absurd rfl h5
          | true =>
            have h5 : y.height = ((y.re q d).height) := of_decide_eq_true hd5
            clear hd5
            refine lm (v := .pointer (some ⟨g1, 5, none⟩)) rfl rfl ?_
            refine lv (v := .int .i64 y.k20) rfl rfl (yb_cell (off := 5) rfl (by kernel_rfl) (.tail _ (.head _)) Try.underlying3 rfl (by kernel_rfl)) ?_
            refine lm (v := .pointer (some ⟨g2, 5, none⟩)) rfl rfl ?_
            refine lv (v := .int .i64 ((y.re q d).k20)) rfl rfl (yb_cell (off := 5) rfl (by kernel_rfl) (.head _) Try.underlying3 rfl (by kernel_rfl)) ?_
            refine lp (v := .bool (decide (y.k20 = ((y.re q d).k20)))) rfl rfl (run_bin rfl (vx := (.int .i64 y.k20)) (vy := (.int .i64 ((y.re q d).k20))) (by kernel_rfl) (by kernel_rfl) fun w => bi_eql rfl w) ?_
            refine lm (v := .bool (decide (y.k20 = ((y.re q d).k20)))) rfl rfl ?_
            refine lm (v := .bool (decide (y.k20 = ((y.re q d).k20)))) rfl rfl ?_
            cases hd6 : (decide (y.k20 = ((y.re q d).k20))) with
            | false =>
              have h6 : ¬ (y.k20 = ((y.re q d).k20)) := of_decide_eq_false hd6
              clear hd6
              exact absurd rfl h6
            | true =>
              have h6 : y.k20 = ((y.re q d).k20) := of_decide_eq_true hd6
              clear hd6
              refine lm (v := .pointer (some ⟨g1, 6, none⟩)) rfl rfl ?_
              refine lv (v := .int .i64 y.k40) rfl rfl (yb_cell (off := 6) rfl (by kernel_rfl) (.tail _ (.head _)) Try.underlying3 rfl (by kernel_rfl)) ?_
              refine lm (v := .pointer (some ⟨g2, 6, none⟩)) rfl rfl ?_
              refine lv (v := .int .i64 ((y.re q d).k40)) rfl rfl (yb_cell (off := 6) rfl (by kernel_rfl) (.head _) Try.underlying3 rfl (by kernel_rfl)) ?_
              refine lp (v := .bool (decide (y.k40 = ((y.re q d).k40)))) rfl rfl (run_bin rfl (vx := (.int .i64 y.k40)) (vy := (.int .i64 ((y.re q d).k40))) (by kernel_rfl) (by kernel_rfl) fun w => bi_eql rfl w) ?_
              refine lm (v := .bool (decide (y.k40 = ((y.re q d).k40)))) rfl rfl ?_
              refine lm (v := .bool (decide (y.k40 = ((y.re q d).k40)))) rfl rfl ?_
              cases hd7 : (decide (y.k40 = ((y.re q d).k40))) with
              | false =>
                have h7 : ¬ (y.k40 = ((y.re q d).k40)) := of_decide_eq_false hd7
                clear hd7
                exact absurd rfl h7
              | true =>
                have h7 : y.k40 = ((y.re q d).k40) := of_decide_eq_true hd7
                clear hd7
                refine lm (v := .pointer (some ⟨g1, 7, none⟩)) rfl rfl ?_
                refine lv (v := .int .i64 y.lash) rfl rfl (yb_cell (off := 7) rfl (by kernel_rfl) (.tail _ (.head _)) Try.underlying3 rfl (by kernel_rfl)) ?_
                refine lm (v := .pointer (some ⟨g2, 7, none⟩)) rfl rfl ?_
                refine lv (v := .int .i64 ((y.re q d).lash)) rfl rfl (yb_cell (off := 7) rfl (by kernel_rfl) (.head _) Try.underlying3 rfl (by kernel_rfl)) ?_
                refine lp (v := .bool (decide (y.lash = ((y.re q d).lash)))) rfl rfl (run_bin rfl (vx := (.int .i64 y.lash)) (vy := (.int .i64 ((y.re q d).lash))) (by kernel_rfl) (by kernel_rfl) fun w => bi_eql rfl w) ?_
                refine lm (v := .bool (decide (y.lash = ((y.re q d).lash)))) rfl rfl ?_
                refine lm (v := .bool (decide (y.lash = ((y.re q d).lash)))) rfl rfl ?_
                cases hd8 : (decide (y.lash = ((y.re q d).lash))) with
                | false =>
                  have h8 : ¬ (y.lash = ((y.re q d).lash)) := of_decide_eq_false hd8
                  clear hd8
                  exact absurd rfl h8
                | true =>
                  have h8 : y.lash = ((y.re q d).lash) := of_decide_eq_true hd8
                  clear hd8
                  refine lm (v := .pointer (some ⟨g1, 8, none⟩)) rfl rfl ?_
                  refine lv (v := .slice y.pp y.plugs.length y.pc) rfl rfl (yb_cell (off := 8) rfl (by kernel_rfl) (.tail _ (.head _)) Try.underlying39 rfl (by kernel_rfl)) ?_
                  refine lm (v := .pointer (some ⟨g2, 8, none⟩)) rfl rfl ?_
                  refine lv (v := .slice ((y.re q d).pp) (((y.re q d).plugs).length) ((y.re q d).pc)) rfl rfl (yb_cell (off := 8) rfl (by kernel_rfl) (.head _) Try.underlying39 rfl (by kernel_rfl)) ?_
                  refine lv (v := .bool true) rfl rfl (yb_call (f := 16) (args := #[.slice y.pp y.plugs.length y.pc, .slice ((y.re q d).pp) (((y.re q d).plugs).length) ((y.re q d).pc)]) (fun _ => by kernel_rfl) fun W hW => SameInts_yes y.plugs y.pp q y.pc d hl W ((RL.base HP.out) _ (hW.sub (fun _ h => by cases h))) ((RL.base HQ.out) _ (hW.sub (fun _ h => by cases h)))) ?_
                  refine lm (v := .bool true) rfl rfl ?_
                  refine lm (v := .bool true) rfl rfl ?_
                  refine lm (v := .pointer (some ⟨g1, 9, none⟩)) rfl rfl ?_
                  refine lv (v := .int .i64 y.x) rfl rfl (yb_cell (off := 9) rfl (by kernel_rfl) (.tail _ (.head _)) Try.underlying3 rfl (by kernel_rfl)) ?_
                  refine lm (v := .pointer (some ⟨g2, 9, none⟩)) rfl rfl ?_
                  refine lv (v := .int .i64 ((y.re q d).x)) rfl rfl (yb_cell (off := 9) rfl (by kernel_rfl) (.head _) Try.underlying3 rfl (by kernel_rfl)) ?_
                  refine lp (v := .bool (decide (y.x = ((y.re q d).x)))) rfl rfl (run_bin rfl (vx := (.int .i64 y.x)) (vy := (.int .i64 ((y.re q d).x))) (by kernel_rfl) (by kernel_rfl) fun w => bi_eql rfl w) ?_
                  refine lm (v := .bool (decide (y.x = ((y.re q d).x)))) rfl rfl ?_
                  refine lm (v := .bool (decide (y.x = ((y.re q d).x)))) rfl rfl ?_
                  cases hd9 : (decide (y.x = ((y.re q d).x))) with
                  | false =>
                    have h9 : ¬ (y.x = ((y.re q d).x)) := of_decide_eq_false hd9
                    clear hd9
                    exact absurd rfl h9
                  | true =>
                    have h9 : y.x = ((y.re q d).x) := of_decide_eq_true hd9
                    clear hd9
                    refine lm (v := .pointer (some ⟨g1, 10, none⟩)) rfl rfl ?_
                    refine lv (v := .int .i64 y.y) rfl rfl (yb_cell (off := 10) rfl (by kernel_rfl) (.tail _ (.head _)) Try.underlying3 rfl (by kernel_rfl)) ?_
                    refine lm (v := .pointer (some ⟨g2, 10, none⟩)) rfl rfl ?_
                    refine lv (v := .int .i64 ((y.re q d).y)) rfl rfl (yb_cell (off := 10) rfl (by kernel_rfl) (.head _) Try.underlying3 rfl (by kernel_rfl)) ?_
                    refine lp (v := .bool (decide (y.y = ((y.re q d).y)))) rfl rfl (run_bin rfl (vx := (.int .i64 y.y)) (vy := (.int .i64 ((y.re q d).y))) (by kernel_rfl) (by kernel_rfl) fun w => bi_eql rfl w) ?_
                    refine lm (v := .bool (decide (y.y = ((y.re q d).y)))) rfl rfl ?_
                    refine lm (v := .bool (decide (y.y = ((y.re q d).y)))) rfl rfl ?_
                    cases hd10 : (decide (y.y = ((y.re q d).y))) with
                    | false =>
                      have h10 : ¬ (y.y = ((y.re q d).y)) := of_decide_eq_false hd10
                      clear hd10
                      exact absurd rfl h10
                    | true =>
                      have h10 : y.y = ((y.re q d).y) := of_decide_eq_true hd10
                      clear hd10
                      refine lm (v := .pointer (some ⟨g1, 11, none⟩)) rfl rfl ?_
                      refine lv (v := .int .i64 y.z) rfl rfl (yb_cell (off := 11) rfl (by kernel_rfl) (.tail _ (.head _)) Try.underlying3 rfl (by kernel_rfl)) ?_
                      refine lm (v := .pointer (some ⟨g2, 11, none⟩)) rfl rfl ?_
                      refine lv (v := .int .i64 ((y.re q d).z)) rfl rfl (yb_cell (off := 11) rfl (by kernel_rfl) (.head _) Try.underlying3 rfl (by kernel_rfl)) ?_
                      refine lp (v := .bool (decide (y.z = ((y.re q d).z)))) rfl rfl (run_bin rfl (vx := (.int .i64 y.z)) (vy := (.int .i64 ((y.re q d).z))) (by kernel_rfl) (by kernel_rfl) fun w => bi_eql rfl w) ?_
                      refine lm (v := .bool (decide (y.z = ((y.re q d).z)))) rfl rfl ?_
                      refine lm (v := .bool (decide (y.z = ((y.re q d).z)))) rfl rfl ?_
                      refine wpL_done (fun W2 hW2 => ?_)
                      refine (show Code.wp _ _ _ _ _ from ?_)
                      refine wp_ret ?_
                      try simp only [inBlock_ret, then_ret]
                      refine bodyPost_ret (v := .bool (decide (y.z = ((y.re q d).z)))) ?_ rfl ?_
                      · kernel_rfl
                      · exact ⟨(bool_is (decide_eq_true rfl)), hW2.1⟩
end Go.Proofs.Ythpooalhibedpaa
namespace Go.Proofs.Ythpooalhibedpaa
open Go Go.RowKit Tw
theorem slv_pre0 {W : World} {p : Option Addr} {l m : List Int} (h : SLV W p ((l ++ m).flatMap inC)) : SLV W p (l.flatMap inC) := by
  rw [List.flatMap_append] at h
  refine h.elim (fun e => .inl (List.append_eq_nil_iff.1 e).1) fun ⟨b, off, hp, hlt, hc⟩ => .inr ⟨b, off, hp, hlt, fun i u hu => hc i u ?_⟩
  rw [List.getElem?_append_left (List.getElem?_eq_some_iff.1 hu).1]
  exact hu
def mkCol (i : Nat) : Col := { bay := mkI i, row := 0, deck := false, tiers := 0, height := 0, k20 := 0, k40 := 0, lash := 0, plugs := [], pp := none, pc := 0, x := 0, y := 0, z := 0 }
def mkCov (i : Nat) : Cov := { bay := mkI i, rows := [], rp := none, rc := 0 }
set_option maxRecDepth 100000 in
set_option maxHeartbeats 4000000 in
theorem KeptCover_any (y : Cov) (q : Option Addr) (d : Nat) (hl : y.rows.length ≤ 1000000) (hd : y.rows.length + 12 ≤ d) (w : World) (hp : SLV w y.rp (y.rows.flatMap inC)) (hq : SLV w q ((y.rows ++ mkL 12).flatMap inC)) : Calls Try.prog 76 #[.agg (covC (y.re q d)).toArray, .agg (covC y).toArray] w fun e w' => e = .returned (.bool true) ∧ Below w.heap.size w w' := by
  have HP := Lib.hid hp
  clear hp
  have HQ := Lib.hid hq
  clear hq
  go_enter Try.func76, Try.ntmps76
  refine wp_seq ?_
  refine wp_region_L (W0 := w) [] (KS.start w) ?_
  refine wpL_new (fun g => .pointer (some ⟨g, 0, none⟩)) (obi := .cells (covC (y.re q d)).toArray 51 (0, 0)) rfl rfl (fun _ => by kernel_rfl) (fun _ => by simp only [List.setIfInBounds_toArray, List.set_cons_succ, List.set_cons_zero] <;> rfl) fun g1 Bg1 Fg1 => ?_
  refine wpL_new (fun g => .pointer (some ⟨g, 0, none⟩)) (obi := .cells (covC y).toArray 51 (0, 0)) rfl rfl (fun _ => by kernel_rfl) (fun _ => by simp only [List.setIfInBounds_toArray, List.set_cons_succ, List.set_cons_zero] <;> rfl) fun g2 Bg2 Fg2 => ?_
  obtain dj3_0 : g1 ≠ g2 := by simpa only [dj_app_l, dj_app_r, dj_cons_l, dj_cons_r, dj_nil_l, dj_nil_r, dk_app, dk_cons, dk_nil, and_true, true_and, and_assoc] using (show Dk g2 [(g1, .cells (covC (y.re q d)).toArray 51 (0, 0))] from Fg2)
  refine lm (v := .bool false) rfl rfl ?_
  refine wpL_done (fun W1 hW1 => ?_)
  refine (show Code.wp _ _ _ _ _ from ?_)
  refine wp_seq ?_
  refine wp_region_L (W0 := w) [(g2, .cells (covC y).toArray 51 (0, 0)), (g1, .cells (covC (y.re q d)).toArray 51 (0, 0))] (hW1) ?_
  refine lv (v := .agg (covC (y.re q d)).toArray) rfl rfl (yb_load (n := 2) (off := 0) rfl (by kernel_rfl) (.tail _ (.head _)) Try.underlying51 rfl (by kernel_rfl) (by first | (simp [Value.cells]; done) | exact Nat.le_of_ble_eq_true rfl) (by kernel_rfl)) ?_
  refine lv (v := .agg (covC y).toArray) rfl rfl (yb_load (n := 2) (off := 0) rfl (by kernel_rfl) (.head _) Try.underlying51 rfl (by kernel_rfl) (by first | (simp [Value.cells]; done) | exact Nat.le_of_ble_eq_true rfl) (by kernel_rfl)) ?_
  refine lv (v := .bool true) rfl rfl (yb_call (f := 77) (args := #[.agg (covC (y.re q d)).toArray, .agg (covC y).toArray]) (fun _ => by kernel_rfl) fun W hW => SameCover_any (y.re q d) y.rp y.rc (show y.rows.length ≤ 4000000000 by omega) W (slv_pre0 (HQ.out.keep hW.1)) (HP.out.keep hW.1)) ?_
  refine lm (v := .bool true) rfl rfl ?_
  refine lm (v := .pointer (some ⟨g1, 1, none⟩)) rfl rfl ?_
  refine lv (v := .slice ((y.re q d).rp) (((y.re q d).rows).length) ((y.re q d).rc)) rfl rfl (yb_cell (off := 1) rfl (by kernel_rfl) (.tail _ (.head _)) Try.underlying39 rfl (by kernel_rfl)) ?_
  refine lm (v := .pointer (some ⟨g2, 1, none⟩)) rfl rfl ?_
  refine lv (v := .slice y.rp y.rows.length y.rc) rfl rfl (yb_cell (off := 1) rfl (by kernel_rfl) (.head _) Try.underlying39 rfl (by kernel_rfl)) ?_
  refine lv (v := .bool true) rfl rfl (yb_call (f := 85) (args := #[.slice ((y.re q d).rp) (((y.re q d).rows).length) ((y.re q d).rc), .slice y.rp y.rows.length y.rc]) (fun _ => by kernel_rfl) fun W hW => KeptInts_any y.rows q y.rp d y.rc hl hd W (HQ.out.keep hW.1) (HP.out.keep hW.1)) ?_
  refine lm (v := .bool true) rfl rfl ?_
  refine lm (v := .bool true) rfl rfl ?_
  refine wpL_done (fun W2 hW2 => ?_)
  refine (show Code.wp _ _ _ _ _ from ?_)
  refine wp_ret ?_
  try simp only [inBlock_ret, then_ret]
  refine bodyPost_ret (v := .bool true) ?_ rfl ?_
  · kernel_rfl
  · exact ⟨rfl, hW2.1⟩
set_option maxRecDepth 100000 in
set_option maxHeartbeats 4000000 in
theorem KeptColumn_any (y : Col) (q : Option Addr) (d : Nat) (hl : y.plugs.length ≤ 1000000) (hd : y.plugs.length + 12 ≤ d) (w : World) (hp : SLV w y.pp (y.plugs.flatMap inC)) (hq : SLV w q ((y.plugs ++ mkL 12).flatMap inC)) : Calls Try.prog 74 #[.agg (colC (y.re q d)).toArray, .agg (colC y).toArray] w fun e w' => e = .returned (.bool true) ∧ Below w.heap.size w w' := by
  have HP := Lib.hid hp
  clear hp
  have HQ := Lib.hid hq
  clear hq
  go_enter Try.func74, Try.ntmps74
  refine wp_seq ?_
  refine wp_region_L (W0 := w) [] (KS.start w) ?_
  refine wpL_new (fun g => .pointer (some ⟨g, 0, none⟩)) (obi := .cells (colC (y.re q d)).toArray 49 (0, 0)) rfl rfl (fun _ => by kernel_rfl) (fun _ => by simp only [List.setIfInBounds_toArray, List.set_cons_succ, List.set_cons_zero] <;> rfl) fun g1 Bg1 Fg1 => ?_
  refine wpL_new (fun g => .pointer (some ⟨g, 0, none⟩)) (obi := .cells (colC y).toArray 49 (0, 0)) rfl rfl (fun _ => by kernel_rfl) (fun _ => by simp only [List.setIfInBounds_toArray, List.set_cons_succ, List.set_cons_zero] <;> rfl) fun g2 Bg2 Fg2 => ?_
  obtain dj3_0 : g1 ≠ g2 := by simpa only [dj_app_l, dj_app_r, dj_cons_l, dj_cons_r, dj_nil_l, dj_nil_r, dk_app, dk_cons, dk_nil, and_true, true_and, and_assoc] using (show Dk g2 [(g1, .cells (colC (y.re q d)).toArray 49 (0, 0))] from Fg2)
  refine lm (v := .bool false) rfl rfl ?_
  refine wpL_done (fun W1 hW1 => ?_)
  refine (show Code.wp _ _ _ _ _ from ?_)
  refine wp_seq ?_
  refine wp_region_L (W0 := w) [(g2, .cells (colC y).toArray 49 (0, 0)), (g1, .cells (colC (y.re q d)).toArray 49 (0, 0))] (hW1) ?_
  refine lv (v := .agg (colC (y.re q d)).toArray) rfl rfl (yb_load (n := 12) (off := 0) rfl (by kernel_rfl) (.tail _ (.head _)) Try.underlying49 rfl (by kernel_rfl) (by first | (simp [Value.cells]; done) | exact Nat.le_of_ble_eq_true rfl) (by kernel_rfl)) ?_
  refine lv (v := .agg (colC y).toArray) rfl rfl (yb_load (n := 12) (off := 0) rfl (by kernel_rfl) (.head _) Try.underlying49 rfl (by kernel_rfl) (by first | (simp [Value.cells]; done) | exact Nat.le_of_ble_eq_true rfl) (by kernel_rfl)) ?_
  refine lv (v := .bool true) rfl rfl (yb_call (f := 75) (args := #[.agg (colC (y.re q d)).toArray, .agg (colC y).toArray]) (fun _ => by kernel_rfl) fun W hW => SameColumn_any (y.re q d) y.pp y.pc (show y.plugs.length ≤ 4000000000 by omega) W (slv_pre0 (HQ.out.keep hW.1)) (HP.out.keep hW.1)) ?_
  refine lm (v := .bool true) rfl rfl ?_
  refine lm (v := .pointer (some ⟨g1, 8, none⟩)) rfl rfl ?_
  refine lv (v := .slice ((y.re q d).pp) (((y.re q d).plugs).length) ((y.re q d).pc)) rfl rfl (yb_cell (off := 8) rfl (by kernel_rfl) (.tail _ (.head _)) Try.underlying39 rfl (by kernel_rfl)) ?_
  refine lm (v := .pointer (some ⟨g2, 8, none⟩)) rfl rfl ?_
  refine lv (v := .slice y.pp y.plugs.length y.pc) rfl rfl (yb_cell (off := 8) rfl (by kernel_rfl) (.head _) Try.underlying39 rfl (by kernel_rfl)) ?_
  refine lv (v := .bool true) rfl rfl (yb_call (f := 85) (args := #[.slice ((y.re q d).pp) (((y.re q d).plugs).length) ((y.re q d).pc), .slice y.pp y.plugs.length y.pc]) (fun _ => by kernel_rfl) fun W hW => KeptInts_any y.plugs q y.pp d y.pc hl hd W (HQ.out.keep hW.1) (HP.out.keep hW.1)) ?_
  refine lm (v := .bool true) rfl rfl ?_
  refine lm (v := .bool true) rfl rfl ?_
  refine wpL_done (fun W2 hW2 => ?_)
  refine (show Code.wp _ _ _ _ _ from ?_)
  refine wp_ret ?_
  try simp only [inBlock_ret, then_ret]
  refine bodyPost_ret (v := .bool true) ?_ rfl ?_
  · kernel_rfl
  · exact ⟨rfl, hW2.1⟩
set_option maxRecDepth 100000 in
set_option maxHeartbeats 4000000 in
theorem markCover_any (i : Nat) (hi : i ≤ 4000000000) (w : World) : Calls Try.prog 58 #[.int .i64 1, .int .i64 i] w fun e w' => e = .returned (.agg (covC (mkCov i)).toArray) ∧ Below w.heap.size w w' := by
  go_enter Try.func58, Try.ntmps58
  refine wp_seq ?_
  refine wp_region_L (W0 := w) [] (KS.start w) ?_
  refine wpL_new (fun g => .pointer (some ⟨g, 0, none⟩)) (obi := .cells #[.int .i64 0, .slice none 0 0] 51 (0, 0)) rfl rfl (fun _ => by kernel_rfl) (fun _ => by simp only [List.setIfInBounds_toArray, List.set_cons_succ, List.set_cons_zero] <;> rfl) fun g1 Bg1 Fg1 => ?_
  refine wpL_done (fun W1 hW1 => ?_)
  refine (show Code.wp _ _ _ _ _ from ?_)
  refine wp_seq ?_
  refine wp_region_L (W0 := w) [(g1, .cells #[.int .i64 0, .slice none 0 0] 51 (0, 0))] (hW1) ?_
  refine lm (v := .int .i64 1) rfl rfl ?_
  refine lm (v := .int .i64 ((i : Nat) : Int)) rfl rfl ?_
  refine lv (v := .int .i64 (mkI i)) rfl rfl (yb_call (f := 81) (args := #[.int .i64 1, .int .i64 ((i : Nat) : Int)]) (fun _ => by kernel_rfl) fun W hW => mark_any 1 ((i : Nat) : Int) (by omega) (by omega) W) ?_
  refine lm (v := .agg #[.int .i64 (mkI i), .slice none 0 0]) rfl rfl ?_
  refine wpL_s [(g1, .cells #[.int .i64 (mkI i), .slice none 0 0] 51 (0, 0))] rfl rfl (st_row (off := 0) (v := .agg #[.int .i64 (mkI i), .slice none 0 0]) rfl (by kernel_rfl) (by kernel_rfl) (.head _) Bg1 (by kernel_rfl) (by first | (simp [Value.cells]; done) | exact Nat.le_of_ble_eq_true rfl) (by intro v hv; simp [Value.cells] at hv; first | (subst hv; rfl) | (rcases hv with rfl | rfl <;> rfl)) (by kernel_rfl) (List.forall_mem_cons.2 ⟨.inl rfl, (List.forall_mem_nil _)⟩)) ?_
  refine wpL_done (fun W2 hW2 => ?_)
  refine (show Code.wp _ _ _ _ _ from ?_)
  refine wp_ret ?_
  try simp only [inBlock_ret, then_ret]
  refine bodyPost_ret (v := .agg #[.int .i64 (mkI i), .slice none 0 0]) ?_ rfl ?_
  · exact (res_cell (p := 4) rfl rfl (hW2.2 _ (.head _)) Try.underlying51 rfl (by kernel_rfl))
  · exact ⟨rfl, hW2.1⟩
set_option maxRecDepth 100000 in
set_option maxHeartbeats 4000000 in
theorem markColumn_any (i : Nat) (hi : i ≤ 4000000000) (w : World) : Calls Try.prog 56 #[.int .i64 1, .int .i64 i] w fun e w' => e = .returned (.agg (colC (mkCol i)).toArray) ∧ Below w.heap.size w w' := by
  go_enter Try.func56, Try.ntmps56
  refine wp_seq ?_
  refine wp_region_L (W0 := w) [] (KS.start w) ?_
  refine wpL_new (fun g => .pointer (some ⟨g, 0, none⟩)) (obi := .cells #[.int .i64 0, .int .i64 0, .bool false, .int .i64 0, .int .i64 0, .int .i64 0, .int .i64 0, .int .i64 0, .slice none 0 0, .int .i64 0, .int .i64 0, .int .i64 0] 49 (0, 0)) rfl rfl (fun _ => by kernel_rfl) (fun _ => by simp only [List.setIfInBounds_toArray, List.set_cons_succ, List.set_cons_zero] <;> rfl) fun g1 Bg1 Fg1 => ?_
  refine wpL_done (fun W1 hW1 => ?_)
  refine (show Code.wp _ _ _ _ _ from ?_)
  refine wp_seq ?_
  refine wp_region_L (W0 := w) [(g1, .cells #[.int .i64 0, .int .i64 0, .bool false, .int .i64 0, .int .i64 0, .int .i64 0, .int .i64 0, .int .i64 0, .slice none 0 0, .int .i64 0, .int .i64 0, .int .i64 0] 49 (0, 0))] (hW1) ?_
  refine lm (v := .int .i64 1) rfl rfl ?_
  refine lm (v := .int .i64 ((i : Nat) : Int)) rfl rfl ?_
  refine lv (v := .int .i64 (mkI i)) rfl rfl (yb_call (f := 81) (args := #[.int .i64 1, .int .i64 ((i : Nat) : Int)]) (fun _ => by kernel_rfl) fun W hW => mark_any 1 ((i : Nat) : Int) (by omega) (by omega) W) ?_
  refine lm (v := .agg #[.int .i64 (mkI i), .int .i64 0, .bool false, .int .i64 0, .int .i64 0, .int .i64 0, .int .i64 0, .int .i64 0, .slice none 0 0, .int .i64 0, .int .i64 0, .int .i64 0]) rfl rfl ?_
  refine wpL_s [(g1, .cells #[.int .i64 (mkI i), .int .i64 0, .bool false, .int .i64 0, .int .i64 0, .int .i64 0, .int .i64 0, .int .i64 0, .slice none 0 0, .int .i64 0, .int .i64 0, .int .i64 0] 49 (0, 0))] rfl rfl (st_row (off := 0) (v := .agg #[.int .i64 (mkI i), .int .i64 0, .bool false, .int .i64 0, .int .i64 0, .int .i64 0, .int .i64 0, .int .i64 0, .slice none 0 0, .int .i64 0, .int .i64 0, .int .i64 0]) rfl (by kernel_rfl) (by kernel_rfl) (.head _) Bg1 (by kernel_rfl) (by first | (simp [Value.cells]; done) | exact Nat.le_of_ble_eq_true rfl) (by intro v hv; simp [Value.cells] at hv; first | (subst hv; rfl) | (rcases hv with rfl | rfl | rfl | rfl | rfl | rfl | rfl | rfl | rfl | rfl | rfl | rfl <;> rfl)) (by kernel_rfl) (List.forall_mem_cons.2 ⟨.inl rfl, (List.forall_mem_nil _)⟩)) ?_
  refine wpL_done (fun W2 hW2 => ?_)
  refine (show Code.wp _ _ _ _ _ from ?_)
  refine wp_ret ?_
  try simp only [inBlock_ret, then_ret]
  refine bodyPost_ret (v := .agg #[.int .i64 (mkI i), .int .i64 0, .bool false, .int .i64 0, .int .i64 0, .int .i64 0, .int .i64 0, .int .i64 0, .slice none 0 0, .int .i64 0, .int .i64 0, .int .i64 0]) ?_ rfl ?_
  · exact (res_cell (p := 4) rfl rfl (hW2.2 _ (.head _)) Try.underlying49 rfl (by kernel_rfl))
  · exact ⟨rfl, hW2.1⟩
end Go.Proofs.Ythpooalhibedpaa
/- A list that was lent. -/
namespace Go.Proofs.Ythpooalhibedpaa
open Go Go.RowKit Tw
def LentRL (W0 : Base) (E : TypeId) (sz n m : Nat) (xs : List Value) (K : List (Nat × Obj)) (v : Value) (K' : List (Nat × Obj)) : Prop :=
  ∃ p c Kl, v = .slice p n c ∧ m ≤ c ∧ OwnL W0 E sz (.slice p m c) m xs Kl ∧ (∀ p ∈ K, ∀ q ∈ Kl, q.1 ≠ p.1) ∧ K' = K ++ Kl
theorem LentRL.sub {W0 : Base} {E : TypeId} {sz n m : Nat} {xs : List Value} {K K' : List (Nat × Obj)} {v : Value} (h : LentRL W0 E sz n m xs K v K') : ∀ p ∈ K, p ∈ K' := by
  obtain ⟨_, _, _, _, _, _, _, rfl⟩ := h
  exact fun p hp => List.mem_append_left _ hp
theorem calls_lent {P : Program} {W0 : Base} {K : List (Nat × Obj)} {W : World} {E : TypeId} {sz n m : Nat} {xs : List Value} {f : FuncId} {args : Array Value} (hW : KS W0 K W) (h : Calls P f args W fun e w' => ∃ q d, e = .returned (.slice q n d) ∧ m ≤ d ∧ OutV W w' E sz (.slice q m d) m xs ∧ Below W.heap.size W w') :
    Calls P f args W fun e w' => ∃ v K', e = .returned v ∧ KS W0 K' w' ∧ LentRL W0 E sz n m xs K v K' :=
  h.mono fun e w' ⟨q, d, he, hm, hO, hb⟩ => by
    obtain ⟨Kl, h1, h2, h3⟩ := hO.own hW hb
    exact ⟨_, _, he, h3, q, d, Kl, rfl, hm, h1, h2, rfl⟩
end Go.Proofs.Ythpooalhibedpaa
namespace Go.Proofs.Ythpooalhibedpaa
open Go Go.RowKit Tw
set_option maxRecDepth 100000 in
set_option maxHeartbeats 4000000 in
theorem LentCover_any (y : Cov) (hl : y.rows.length ≤ 1000000) (w : World) (hp : SLV w y.rp (y.rows.flatMap inC)) : Calls Try.prog 57 #[.agg (covC y).toArray] w fun e w' => ∃ q d, e = .returned (.agg (covC (y.re q d)).toArray) ∧ y.rows.length + 12 ≤ d ∧ OutV w w' 3 1 (.slice q (y.rows ++ mkL 12).length d) (y.rows ++ mkL 12).length ((y.rows ++ mkL 12).flatMap inC) ∧ Below w.heap.size w w' := by
  have HP := Lib.hid hp
  clear hp
  have hlen : (y.rows ++ mkL 12).length = y.rows.length + 12 := by rw [List.length_append, mkL_len]
  go_enter Try.func57, Try.ntmps57
  refine wp_seq ?_
  refine wp_region_L (W0 := w) [] (KS.start w) ?_
  refine wpL_new (fun g => .pointer (some ⟨g, 0, none⟩)) (obi := .cells (covC y).toArray 51 (0, 0)) rfl rfl (fun _ => by kernel_rfl) (fun _ => by simp only [List.setIfInBounds_toArray, List.set_cons_succ, List.set_cons_zero] <;> rfl) fun g1 Bg1 Fg1 => ?_
  refine wpL_new (fun g => .pointer (some ⟨g, 0, none⟩)) (obi := .cells #[.int .i64 0, .slice none 0 0] 51 (0, 0)) rfl rfl (fun _ => by kernel_rfl) (fun _ => by simp only [List.setIfInBounds_toArray, List.set_cons_succ, List.set_cons_zero] <;> rfl) fun g2 Bg2 Fg2 => ?_
  obtain dj3_0 : g1 ≠ g2 := by simpa only [dj_app_l, dj_app_r, dj_cons_l, dj_cons_r, dj_nil_l, dj_nil_r, dk_app, dk_cons, dk_nil, and_true, true_and, and_assoc] using (show Dk g2 [(g1, .cells (covC y).toArray 51 (0, 0))] from Fg2)
  refine wpL_done (fun W1 hW1 => ?_)
  refine (show Code.wp _ _ _ _ _ from ?_)
  refine wp_seq ?_
  refine wp_region_L (W0 := w) [(g2, .cells #[.int .i64 0, .slice none 0 0] 51 (0, 0)), (g1, .cells (covC y).toArray 51 (0, 0))] (hW1) ?_
  refine lm (v := .pointer (some ⟨g1, 1, none⟩)) rfl rfl ?_
  refine lv (v := .slice y.rp y.rows.length y.rc) rfl rfl (yb_cell (off := 1) rfl (by kernel_rfl) (.tail _ (.head _)) Try.underlying39 rfl (by kernel_rfl)) ?_
  refine wpL_c (f := 80) (args := #[.slice y.rp y.rows.length y.rc]) (LentRL w 3 1 y.rows.length (y.rows ++ mkL 12).length ((y.rows ++ mkL 12).flatMap inC) [(g2, .cells #[.int .i64 0, .slice none 0 0] 51 (0, 0)), (g1, .cells (covC y).toArray 51 (0, 0))]) rfl (by kernel_rfl) (fun _ => (by kernel_rfl)) (fun W hW => calls_lent hW (((LentInts_any y.rows y.rp y.rc hl W (HP.out.keep hW.1)).mono fun _ _ ⟨q, d, h1, h2, h3⟩ => ⟨q, d, h1, by rw [hlen]; exact h2, h3⟩))) (fun _ => by simp only [List.setIfInBounds_toArray, List.set_cons_succ, List.set_cons_zero] <;> rfl) ?_
  rintro _ _ ⟨p4, c4, Kl4, rfl, n4, O4, N4, rfl⟩
  obtain ⟨dj5_0, dj5_1⟩ : Dk g2 Kl4 ∧ Dk g1 Kl4 := by simpa only [dj_app_l, dj_app_r, dj_cons_l, dj_cons_r, dj_nil_l, dj_nil_r, dk_app, dk_cons, dk_nil, and_true, true_and, and_assoc] using (show Dj [(g2, .cells #[.int .i64 0, .slice none 0 0] 51 (0, 0)), (g1, .cells (covC y).toArray 51 (0, 0))] Kl4 from N4)
  refine lm (v := .pointer (some ⟨g1, 1, none⟩)) rfl rfl ?_
  refine wpL_s ((g2, .cells #[.int .i64 0, .slice none 0 0] 51 (0, 0)) :: (g1, .cells #[.int .i64 y.bay, .slice p4 y.rows.length c4] 51 (0, 0)) :: Kl4) rfl rfl (st_row (off := 1) (v := .slice p4 y.rows.length c4) rfl (by kernel_rfl) (by kernel_rfl) (.tail _ (.head _)) Bg1 (by kernel_rfl) (by first | (simp [Value.cells]; done) | exact Nat.le_of_ble_eq_true rfl) (by intro v hv; simp [Value.cells] at hv; first | (subst hv; rfl) | (rcases hv with rfl <;> rfl)) (by kernel_rfl) (List.forall_mem_cons.2 ⟨.inr ⟨(.head _), (by first | assumption | exact Ne.symm (by assumption))⟩, (List.forall_mem_cons.2 ⟨.inl rfl, (fun p hp => .inr ⟨(.tail _ (.tail _ hp)), ((show Dk g1 Kl4 from (by (try simp only [dj_app_l, dj_app_r, dj_cons_l, dj_cons_r, dj_nil_l, dj_nil_r, dk_app, dk_cons, dk_nil, and_true, true_and, and_assoc]); repeat' (first | trivial | assumption | exact Dj.symm (by assumption) | exact Ne.symm (by assumption) | apply And.intro))) _ hp)⟩)⟩)⟩)) ?_
  refine wpL_done (fun W2 hW2 => ?_)
  refine (show Code.wp _ _ _ _ _ from ?_)
  refine wp_seq ?_
  refine wp_region_L (W0 := w) ((g2, .cells #[.int .i64 0, .slice none 0 0] 51 (0, 0)) :: (g1, .cells #[.int .i64 y.bay, .slice p4 y.rows.length c4] 51 (0, 0)) :: Kl4) (hW2) ?_
  refine lv (v := .agg #[.int .i64 y.bay, .slice p4 y.rows.length c4]) rfl rfl (yb_load (n := 2) (off := 0) rfl (by kernel_rfl) (.tail _ (.head _)) Try.underlying51 rfl (by kernel_rfl) (by first | (simp [Value.cells]; done) | exact Nat.le_of_ble_eq_true rfl) (by kernel_rfl)) ?_
  refine wpL_s ((g2, .cells #[.int .i64 y.bay, .slice p4 y.rows.length c4] 51 (0, 0)) :: (g1, .cells #[.int .i64 y.bay, .slice p4 y.rows.length c4] 51 (0, 0)) :: Kl4) rfl rfl (st_row (off := 0) (v := .agg #[.int .i64 y.bay, .slice p4 y.rows.length c4]) rfl (by kernel_rfl) (by kernel_rfl) (.head _) Bg2 (by kernel_rfl) (by first | (simp [Value.cells]; done) | exact Nat.le_of_ble_eq_true rfl) (by intro v hv; simp [Value.cells] at hv; first | (subst hv; rfl) | (rcases hv with rfl | rfl <;> rfl)) (by kernel_rfl) (List.forall_mem_cons.2 ⟨.inl rfl, (List.forall_mem_cons.2 ⟨.inr ⟨(.tail _ (.head _)), (by first | assumption | exact Ne.symm (by assumption))⟩, (fun p hp => .inr ⟨(.tail _ (.tail _ hp)), ((show Dk g2 Kl4 from (by (try simp only [dj_app_l, dj_app_r, dj_cons_l, dj_cons_r, dj_nil_l, dj_nil_r, dk_app, dk_cons, dk_nil, and_true, true_and, and_assoc]); repeat' (first | trivial | assumption | exact Dj.symm (by assumption) | exact Ne.symm (by assumption) | apply And.intro))) _ hp)⟩)⟩)⟩)) ?_
  refine wpL_done (fun W3 hW3 => ?_)
  refine (show Code.wp _ _ _ _ _ from ?_)
  refine wp_ret ?_
  try simp only [inBlock_ret, then_ret]
  refine bodyPost_ret (v := .agg #[.int .i64 y.bay, .slice p4 y.rows.length c4]) ?_ rfl ?_
  · exact (res_cell (p := 2) rfl rfl (hW3.2 _ (.head _)) Try.underlying51 rfl (by kernel_rfl))
  · exact ⟨p4, c4, rfl, by omega, O4.out (fun p hp => by simp only [List.mem_cons, List.mem_append, List.nil_append, List.not_mem_nil, or_assoc, or_false, false_or, hp, true_or, or_true]) hW3, hW3.1⟩
set_option maxRecDepth 100000 in
set_option maxHeartbeats 4000000 in
theorem LentColumn_any (y : Col) (hl : y.plugs.length ≤ 1000000) (w : World) (hp : SLV w y.pp (y.plugs.flatMap inC)) : Calls Try.prog 55 #[.agg (colC y).toArray] w fun e w' => ∃ q d, e = .returned (.agg (colC (y.re q d)).toArray) ∧ y.plugs.length + 12 ≤ d ∧ OutV w w' 3 1 (.slice q (y.plugs ++ mkL 12).length d) (y.plugs ++ mkL 12).length ((y.plugs ++ mkL 12).flatMap inC) ∧ Below w.heap.size w w' := by
  have HP := Lib.hid hp
  clear hp
  have hlen : (y.plugs ++ mkL 12).length = y.plugs.length + 12 := by rw [List.length_append, mkL_len]
  go_enter Try.func55, Try.ntmps55
  refine wp_seq ?_
  refine wp_region_L (W0 := w) [] (KS.start w) ?_
  refine wpL_new (fun g => .pointer (some ⟨g, 0, none⟩)) (obi := .cells (colC y).toArray 49 (0, 0)) rfl rfl (fun _ => by kernel_rfl) (fun _ => by simp only [List.setIfInBounds_toArray, List.set_cons_succ, List.set_cons_zero] <;> rfl) fun g1 Bg1 Fg1 => ?_
  refine wpL_new (fun g => .pointer (some ⟨g, 0, none⟩)) (obi := .cells #[.int .i64 0, .int .i64 0, .bool false, .int .i64 0, .int .i64 0, .int .i64 0, .int .i64 0, .int .i64 0, .slice none 0 0, .int .i64 0, .int .i64 0, .int .i64 0] 49 (0, 0)) rfl rfl (fun _ => by kernel_rfl) (fun _ => by simp only [List.setIfInBounds_toArray, List.set_cons_succ, List.set_cons_zero] <;> rfl) fun g2 Bg2 Fg2 => ?_
  obtain dj3_0 : g1 ≠ g2 := by simpa only [dj_app_l, dj_app_r, dj_cons_l, dj_cons_r, dj_nil_l, dj_nil_r, dk_app, dk_cons, dk_nil, and_true, true_and, and_assoc] using (show Dk g2 [(g1, .cells (colC y).toArray 49 (0, 0))] from Fg2)
  refine wpL_done (fun W1 hW1 => ?_)
  refine (show Code.wp _ _ _ _ _ from ?_)
  refine wp_seq ?_
  refine wp_region_L (W0 := w) [(g2, .cells #[.int .i64 0, .int .i64 0, .bool false, .int .i64 0, .int .i64 0, .int .i64 0, .int .i64 0, .int .i64 0, .slice none 0 0, .int .i64 0, .int .i64 0, .int .i64 0] 49 (0, 0)), (g1, .cells (colC y).toArray 49 (0, 0))] (hW1) ?_
  refine lm (v := .pointer (some ⟨g1, 8, none⟩)) rfl rfl ?_
  refine lv (v := .slice y.pp y.plugs.length y.pc) rfl rfl (yb_cell (off := 8) rfl (by kernel_rfl) (.tail _ (.head _)) Try.underlying39 rfl (by kernel_rfl)) ?_
  refine wpL_c (f := 80) (args := #[.slice y.pp y.plugs.length y.pc]) (LentRL w 3 1 y.plugs.length (y.plugs ++ mkL 12).length ((y.plugs ++ mkL 12).flatMap inC) [(g2, .cells #[.int .i64 0, .int .i64 0, .bool false, .int .i64 0, .int .i64 0, .int .i64 0, .int .i64 0, .int .i64 0, .slice none 0 0, .int .i64 0, .int .i64 0, .int .i64 0] 49 (0, 0)), (g1, .cells (colC y).toArray 49 (0, 0))]) rfl (by kernel_rfl) (fun _ => (by kernel_rfl)) (fun W hW => calls_lent hW (((LentInts_any y.plugs y.pp y.pc hl W (HP.out.keep hW.1)).mono fun _ _ ⟨q, d, h1, h2, h3⟩ => ⟨q, d, h1, by rw [hlen]; exact h2, h3⟩))) (fun _ => by simp only [List.setIfInBounds_toArray, List.set_cons_succ, List.set_cons_zero] <;> rfl) ?_
  rintro _ _ ⟨p4, c4, Kl4, rfl, n4, O4, N4, rfl⟩
  obtain ⟨dj5_0, dj5_1⟩ : Dk g2 Kl4 ∧ Dk g1 Kl4 := by simpa only [dj_app_l, dj_app_r, dj_cons_l, dj_cons_r, dj_nil_l, dj_nil_r, dk_app, dk_cons, dk_nil, and_true, true_and, and_assoc] using (show Dj [(g2, .cells #[.int .i64 0, .int .i64 0, .bool false, .int .i64 0, .int .i64 0, .int .i64 0, .int .i64 0, .int .i64 0, .slice none 0 0, .int .i64 0, .int .i64 0, .int .i64 0] 49 (0, 0)), (g1, .cells (colC y).toArray 49 (0, 0))] Kl4 from N4)
  refine lm (v := .pointer (some ⟨g1, 8, none⟩)) rfl rfl ?_
  refine wpL_s ((g2, .cells #[.int .i64 0, .int .i64 0, .bool false, .int .i64 0, .int .i64 0, .int .i64 0, .int .i64 0, .int .i64 0, .slice none 0 0, .int .i64 0, .int .i64 0, .int .i64 0] 49 (0, 0)) :: (g1, .cells #[.int .i64 y.bay, .int .i64 y.row, .bool y.deck, .int .i64 y.tiers, .int .i64 y.height, .int .i64 y.k20, .int .i64 y.k40, .int .i64 y.lash, .slice p4 y.plugs.length c4, .int .i64 y.x, .int .i64 y.y, .int .i64 y.z] 49 (0, 0)) :: Kl4) rfl rfl (st_row (off := 8) (v := .slice p4 y.plugs.length c4) rfl (by kernel_rfl) (by kernel_rfl) (.tail _ (.head _)) Bg1 (by kernel_rfl) (by first | (simp [Value.cells]; done) | exact Nat.le_of_ble_eq_true rfl) (by intro v hv; simp [Value.cells] at hv; first | (subst hv; rfl) | (rcases hv with rfl <;> rfl)) (by kernel_rfl) (List.forall_mem_cons.2 ⟨.inr ⟨(.head _), (by first | assumption | exact Ne.symm (by assumption))⟩, (List.forall_mem_cons.2 ⟨.inl rfl, (fun p hp => .inr ⟨(.tail _ (.tail _ hp)), ((show Dk g1 Kl4 from (by (try simp only [dj_app_l, dj_app_r, dj_cons_l, dj_cons_r, dj_nil_l, dj_nil_r, dk_app, dk_cons, dk_nil, and_true, true_and, and_assoc]); repeat' (first | trivial | assumption | exact Dj.symm (by assumption) | exact Ne.symm (by assumption) | apply And.intro))) _ hp)⟩)⟩)⟩)) ?_
  refine wpL_done (fun W2 hW2 => ?_)
  refine (show Code.wp _ _ _ _ _ from ?_)
  refine wp_seq ?_
  refine wp_region_L (W0 := w) ((g2, .cells #[.int .i64 0, .int .i64 0, .bool false, .int .i64 0, .int .i64 0, .int .i64 0, .int .i64 0, .int .i64 0, .slice none 0 0, .int .i64 0, .int .i64 0, .int .i64 0] 49 (0, 0)) :: (g1, .cells #[.int .i64 y.bay, .int .i64 y.row, .bool y.deck, .int .i64 y.tiers, .int .i64 y.height, .int .i64 y.k20, .int .i64 y.k40, .int .i64 y.lash, .slice p4 y.plugs.length c4, .int .i64 y.x, .int .i64 y.y, .int .i64 y.z] 49 (0, 0)) :: Kl4) (hW2) ?_
  refine lv (v := .agg #[.int .i64 y.bay, .int .i64 y.row, .bool y.deck, .int .i64 y.tiers, .int .i64 y.height, .int .i64 y.k20, .int .i64 y.k40, .int .i64 y.lash, .slice p4 y.plugs.length c4, .int .i64 y.x, .int .i64 y.y, .int .i64 y.z]) rfl rfl (yb_load (n := 12) (off := 0) rfl (by kernel_rfl) (.tail _ (.head _)) Try.underlying49 rfl (by kernel_rfl) (by first | (simp [Value.cells]; done) | exact Nat.le_of_ble_eq_true rfl) (by kernel_rfl)) ?_
  refine wpL_s ((g2, .cells #[.int .i64 y.bay, .int .i64 y.row, .bool y.deck, .int .i64 y.tiers, .int .i64 y.height, .int .i64 y.k20, .int .i64 y.k40, .int .i64 y.lash, .slice p4 y.plugs.length c4, .int .i64 y.x, .int .i64 y.y, .int .i64 y.z] 49 (0, 0)) :: (g1, .cells #[.int .i64 y.bay, .int .i64 y.row, .bool y.deck, .int .i64 y.tiers, .int .i64 y.height, .int .i64 y.k20, .int .i64 y.k40, .int .i64 y.lash, .slice p4 y.plugs.length c4, .int .i64 y.x, .int .i64 y.y, .int .i64 y.z] 49 (0, 0)) :: Kl4) rfl rfl (st_row (off := 0) (v := .agg #[.int .i64 y.bay, .int .i64 y.row, .bool y.deck, .int .i64 y.tiers, .int .i64 y.height, .int .i64 y.k20, .int .i64 y.k40, .int .i64 y.lash, .slice p4 y.plugs.length c4, .int .i64 y.x, .int .i64 y.y, .int .i64 y.z]) rfl (by kernel_rfl) (by kernel_rfl) (.head _) Bg2 (by kernel_rfl) (by first | (simp [Value.cells]; done) | exact Nat.le_of_ble_eq_true rfl) (by intro v hv; simp [Value.cells] at hv; first | (subst hv; rfl) | (rcases hv with rfl | rfl | rfl | rfl | rfl | rfl | rfl | rfl | rfl | rfl | rfl | rfl <;> rfl)) (by kernel_rfl) (List.forall_mem_cons.2 ⟨.inl rfl, (List.forall_mem_cons.2 ⟨.inr ⟨(.tail _ (.head _)), (by first | assumption | exact Ne.symm (by assumption))⟩, (fun p hp => .inr ⟨(.tail _ (.tail _ hp)), ((show Dk g2 Kl4 from (by (try simp only [dj_app_l, dj_app_r, dj_cons_l, dj_cons_r, dj_nil_l, dj_nil_r, dk_app, dk_cons, dk_nil, and_true, true_and, and_assoc]); repeat' (first | trivial | assumption | exact Dj.symm (by assumption) | exact Ne.symm (by assumption) | apply And.intro))) _ hp)⟩)⟩)⟩)) ?_
  refine wpL_done (fun W3 hW3 => ?_)
  refine (show Code.wp _ _ _ _ _ from ?_)
  refine wp_ret ?_
  try simp only [inBlock_ret, then_ret]
  refine bodyPost_ret (v := .agg #[.int .i64 y.bay, .int .i64 y.row, .bool y.deck, .int .i64 y.tiers, .int .i64 y.height, .int .i64 y.k20, .int .i64 y.k40, .int .i64 y.lash, .slice p4 y.plugs.length c4, .int .i64 y.x, .int .i64 y.y, .int .i64 y.z]) ?_ rfl ?_
  · exact (res_cell (p := 2) rfl rfl (hW3.2 _ (.head _)) Try.underlying49 rfl (by kernel_rfl))
  · exact ⟨p4, c4, rfl, by omega, O4.out (fun p hp => by simp only [List.mem_cons, List.mem_append, List.nil_append, List.not_mem_nil, or_assoc, or_false, false_or, hp, true_or, or_true]) hW3, hW3.1⟩
end Go.Proofs.Ythpooalhibedpaa
/- Lists of records that were lent. -/
namespace Go.Proofs.Ythpooalhibedpaa
open Go Go.RowKit Tw
def HL {α : Type} (cells : α → List Value) (p : Option Addr) (l : List α) (T : List (Nat × Obj)) : Prop := ∀ W : World, (∀ b ∈ T, W.heap[b.1]? = some b.2) → SLV W p (l.flatMap cells)
theorem HL.rl {α : Type} {cells : α → List Value} {W0 : Base} {p : Option Addr} {l : List α} {T : List (Nat × Obj)} (h : HL cells p l T) : RL cells W0 p l T := fun W hW => h W hW.2
theorem HL.mono {α : Type} {cells : α → List Value} {p : Option Addr} {l : List α} {T T' : List (Nat × Obj)} (h : HL cells p l T) (hs : ∀ b ∈ T, b ∈ T') : HL cells p l T' := fun W hW => h W fun b hb => hW b (hs b hb)
theorem own_hl {α : Type} {cells : α → List Value} {W0 : Base} {E : TypeId} {sz n c : Nat} {p : Option Addr} {l : List α} {T : List (Nat × Obj)} (h : OwnL W0 E sz (.slice p n c) n (l.flatMap cells) T) : HL cells p l T := by
  rcases h with ⟨rfl, h2, he, rfl⟩ | ⟨g, cap, cur, he, hB, hR, rfl⟩
  · exact fun _ _ => .inl h2
  · cases he
    exact fun W hW => have hb := hW _ (.head _); .inr ⟨g, 0, rfl, lt_of_block hb, hR.cel hb⟩
theorem own_new {W0 : Base} {E : TypeId} {sz n : Nat} {v : Value} {xs : List Value} {T : List (Nat × Obj)} (h : OwnL W0 E sz v n xs T) : ∀ b ∈ T, W0.B ≤ b.1 := by
  rcases h with ⟨rfl, h2, he, rfl⟩ | ⟨g, cap, cur, he, hB, hR, rfl⟩
  · exact fun _ h => by cases h
  · exact fun b hb => by cases List.mem_singleton.1 hb; exact hB
theorem new_app {B : Nat} {T K : List (Nat × Obj)} (h : ∀ b ∈ T, B ≤ b.1) (h2 : ∀ b ∈ K, B ≤ b.1) : ∀ b ∈ T ++ K, B ≤ b.1 := fun b hb => (List.mem_append.1 hb).elim (h b) (h2 b)
def mkCovL (i : Nat) : List Cov := (List.range i).map mkCov
theorem mkCovL_len (i : Nat) : (mkCovL i).length = i := by simp [mkCovL]
theorem mkCovL_s (i : Nat) : mkCovL (i + 1) = mkCovL i ++ [mkCov i] := by simp [mkCovL, List.range_succ]
theorem mkCovL_at {i n : Nat} (h : i < n) : (mkCovL n)[i]? = some (mkCov i) := by simp [mkCovL, h]
def mkColL (i : Nat) : List Col := (List.range i).map mkCol
theorem mkColL_len (i : Nat) : (mkColL i).length = i := by simp [mkColL]
theorem mkColL_s (i : Nat) : mkColL (i + 1) = mkColL i ++ [mkCol i] := by simp [mkColL, List.range_succ]
theorem mkColL_at {i n : Nat} (h : i < n) : (mkColL n)[i]? = some (mkCol i) := by simp [mkColL, h]
def LentO (l X : List Cov) (T : List (Nat × Obj)) : Prop := ∀ (j : Nat) (x : Cov), X[j]? = some x → ∃ y q d, l[j]? = some y ∧ x = y.re q d ∧ y.rows.length + 12 ≤ d ∧ HL inC q (y.rows ++ mkL 12) T
def LentC (l X : List Col) (T : List (Nat × Obj)) : Prop := ∀ (j : Nat) (x : Col), X[j]? = some x → ∃ y q d, l[j]? = some y ∧ x = y.re q d ∧ y.plugs.length + 12 ≤ d ∧ HL inC q (y.plugs ++ mkL 12) T
theorem LentO.nil (l : List Cov) : LentO l [] [] := fun _ _ h => by cases h
theorem LentC.nil (l : List Col) : LentC l [] [] := fun _ _ h => by cases h
theorem LentO.mono {l X : List Cov} {T T' : List (Nat × Obj)} (h : LentO l X T) (hs : ∀ b ∈ T, b ∈ T') : LentO l X T' := fun j x hx => by
  obtain ⟨y, q, d, h1, h2, h3, h4⟩ := h j x hx
  exact ⟨y, q, d, h1, h2, h3, h4.mono hs⟩
theorem LentC.mono {l X : List Col} {T T' : List (Nat × Obj)} (h : LentC l X T) (hs : ∀ b ∈ T, b ∈ T') : LentC l X T' := fun j x hx => by
  obtain ⟨y, q, d, h1, h2, h3, h4⟩ := h j x hx
  exact ⟨y, q, d, h1, h2, h3, h4.mono hs⟩
theorem LentO.s {l X : List Cov} {T K : List (Nat × Obj)} {i d : Nat} {y : Cov} {q : Option Addr} (h : LentO l X T) (hi : X.length = i) (hy : l[i]? = some y) (hd : y.rows.length + 12 ≤ d) (hH : HL inC q (y.rows ++ mkL 12) K) : LentO l (X ++ [y.re q d]) (T ++ K) := fun j x hx => by
  by_cases e : j < X.length
  · rw [List.getElem?_append_left e] at hx
    exact h.mono (fun b hb => List.mem_append_left _ hb) j x hx
  · rw [List.getElem?_append_right (by omega)] at hx
    have e2 : j - X.length = 0 := by
      have := (List.getElem?_eq_some_iff.1 hx).1
      simp only [List.length_singleton] at this
      omega
    rw [e2] at hx
    cases hx
    have e3 : j = i := by omega
    subst e3
    exact ⟨y, q, d, hy, rfl, hd, hH.mono fun b hb => List.mem_append_right _ hb⟩
theorem LentC.s {l X : List Col} {T K : List (Nat × Obj)} {i d : Nat} {y : Col} {q : Option Addr} (h : LentC l X T) (hi : X.length = i) (hy : l[i]? = some y) (hd : y.plugs.length + 12 ≤ d) (hH : HL inC q (y.plugs ++ mkL 12) K) : LentC l (X ++ [y.re q d]) (T ++ K) := fun j x hx => by
  by_cases e : j < X.length
  · rw [List.getElem?_append_left e] at hx
    exact h.mono (fun b hb => List.mem_append_left _ hb) j x hx
  · rw [List.getElem?_append_right (by omega)] at hx
    have e2 : j - X.length = 0 := by
      have := (List.getElem?_eq_some_iff.1 hx).1
      simp only [List.length_singleton] at this
      omega
    rw [e2] at hx
    cases hx
    have e3 : j = i := by omega
    subst e3
    exact ⟨y, q, d, hy, rfl, hd, hH.mono fun b hb => List.mem_append_right _ hb⟩
def LentFV (W0 : Base) (E : TypeId) (sz : Nat) (F : Option Addr → Nat → Value) (b m : Nat) (xs : List Value) (K : List (Nat × Obj)) (v : Value) (K' : List (Nat × Obj)) : Prop :=
  ∃ p c Kl, v = F p c ∧ b ≤ c ∧ OwnL W0 E sz (.slice p m c) m xs Kl ∧ (∀ p ∈ K, ∀ q ∈ Kl, q.1 ≠ p.1) ∧ K' = K ++ Kl
theorem LentFV.sub {W0 : Base} {E : TypeId} {sz b m : Nat} {F : Option Addr → Nat → Value} {xs : List Value} {K K' : List (Nat × Obj)} {v : Value} (h : LentFV W0 E sz F b m xs K v K') : ∀ p ∈ K, p ∈ K' := by
  obtain ⟨_, _, _, _, _, _, _, rfl⟩ := h
  exact fun p hp => List.mem_append_left _ hp
theorem calls_lentf {P : Program} {W0 : Base} {K : List (Nat × Obj)} {W : World} {E : TypeId} {sz b m : Nat} {F : Option Addr → Nat → Value} {xs : List Value} {f : FuncId} {args : Array Value} (hW : KS W0 K W) (h : Calls P f args W fun e w' => ∃ q d, e = .returned (F q d) ∧ b ≤ d ∧ OutV W w' E sz (.slice q m d) m xs ∧ Below W.heap.size W w') :
    Calls P f args W fun e w' => ∃ v K', e = .returned v ∧ KS W0 K' w' ∧ LentFV W0 E sz F b m xs K v K' :=
  h.mono fun e w' ⟨q, d, he, hm, hO, hb⟩ => by
    obtain ⟨Kl, h1, h2, h3⟩ := hO.own hW hb
    exact ⟨_, _, he, h3, q, d, Kl, rfl, hm, h1, h2, rfl⟩
def LentOA (W : World) (l X : List Cov) : Prop := ∀ (j : Nat) (x : Cov), X[j]? = some x → ∃ y q d, l[j]? = some y ∧ x = y.re q d ∧ y.rows.length + 12 ≤ d ∧ SLV W q ((y.rows ++ mkL 12).flatMap inC)
def LentCA (W : World) (l X : List Col) : Prop := ∀ (j : Nat) (x : Col), X[j]? = some x → ∃ y q d, l[j]? = some y ∧ x = y.re q d ∧ y.plugs.length + 12 ≤ d ∧ SLV W q ((y.plugs ++ mkL 12).flatMap inC)
theorem LentO.at {W : World} {l X : List Cov} {T : List (Nat × Obj)} (h : LentO l X T) (hT : ∀ b ∈ T, W.heap[b.1]? = some b.2) : LentOA W l X := fun j x hx => by
  obtain ⟨y, q, d, h1, h2, h3, h4⟩ := h j x hx
  exact ⟨y, q, d, h1, h2, h3, h4 W hT⟩
theorem LentC.at {W : World} {l X : List Col} {T : List (Nat × Obj)} (h : LentC l X T) (hT : ∀ b ∈ T, W.heap[b.1]? = some b.2) : LentCA W l X := fun j x hx => by
  obtain ⟨y, q, d, h1, h2, h3, h4⟩ := h j x hx
  exact ⟨y, q, d, h1, h2, h3, h4 W hT⟩
theorem lentOA_at {W : World} {l X : List Cov} {i : Nat} {x y : Cov} (h : LentOA W l X) (hx : (X ++ mkCovL 12)[i]? = some x) (hl : X.length = l.length) (hy : l[i]? = some y) : ∃ q d, x = y.re q d ∧ y.rows.length + 12 ≤ d ∧ SLV W q ((y.rows ++ mkL 12).flatMap inC) := by
  have hi := (List.getElem?_eq_some_iff.1 hy).1
  rw [List.getElem?_append_left (by omega)] at hx
  obtain ⟨z, q, d, h1, h2, h3, h4⟩ := h i x hx
  rw [hy] at h1
  cases h1
  exact ⟨q, d, h2, h3, h4⟩
theorem lentCA_at {W : World} {l X : List Col} {i : Nat} {x y : Col} (h : LentCA W l X) (hx : (X ++ mkColL 12)[i]? = some x) (hl : X.length = l.length) (hy : l[i]? = some y) : ∃ q d, x = y.re q d ∧ y.plugs.length + 12 ≤ d ∧ SLV W q ((y.plugs ++ mkL 12).flatMap inC) := by
  have hi := (List.getElem?_eq_some_iff.1 hy).1
  rw [List.getElem?_append_left (by omega)] at hx
  obtain ⟨z, q, d, h1, h2, h3, h4⟩ := h i x hx
  rw [hy] at h1
  cases h1
  exact ⟨q, d, h2, h3, h4⟩
theorem markOA_at {l X : List Cov} {i : Nat} {x : Cov} (hx : (X ++ mkCovL 12)[i]? = some x) (hl : X.length = l.length) (h : ¬ i < l.length) : x = mkCov (i - l.length) := by
  have h2 := (List.getElem?_eq_some_iff.1 hx).1
  rw [List.length_append, mkCovL_len] at h2
  rw [List.getElem?_append_right (by omega), mkCovL_at (by omega), hl] at hx
  exact (Option.some.inj hx).symm
theorem markCA_at {l X : List Col} {i : Nat} {x : Col} (hx : (X ++ mkColL 12)[i]? = some x) (hl : X.length = l.length) (h : ¬ i < l.length) : x = mkCol (i - l.length) := by
  have h2 := (List.getElem?_eq_some_iff.1 hx).1
  rw [List.length_append, mkColL_len] at h2
  rw [List.getElem?_append_right (by omega), mkColL_at (by omega), hl] at hx
  exact (Option.some.inj hx).symm
theorem lentOA_pre {W : World} {l X : List Cov} {i : Nat} {x y : Cov} (h : LentOA W l X) (hx : X[i]? = some x) (hy : l[i]? = some y) : ∃ q d, x = y.re q d ∧ SLV W q (y.rows.flatMap inC) := by
  obtain ⟨z, q, d, h1, h2, _, h4⟩ := h i x hx
  rw [hy] at h1
  cases h1
  exact ⟨q, d, h2, slv_pre0 h4⟩
theorem lentCA_pre {W : World} {l X : List Col} {i : Nat} {x y : Col} (h : LentCA W l X) (hx : X[i]? = some x) (hy : l[i]? = some y) : ∃ q d, x = y.re q d ∧ SLV W q (y.plugs.flatMap inC) := by
  obtain ⟨z, q, d, h1, h2, _, h4⟩ := h i x hx
  rw [hy] at h1
  cases h1
  exact ⟨q, d, h2, slv_pre0 h4⟩
end Go.Proofs.Ythpooalhibedpaa
namespace Go.Proofs.Ythpooalhibedpaa
open Go Go.RowKit Tw
set_option maxRecDepth 100000 in
set_option maxHeartbeats 4000000 in
theorem LentCovers_any (l : List Cov) (p : Option Addr) (c : Nat) (hl : l.length ≤ 1000000) (lr : ∀ o ∈ l, o.rows.length ≤ 1000000) (w : World) (hp : SLV w p (l.flatMap covC)) (hr : RwR w l) : Calls Try.prog 29 #[.slice p l.length c] w fun e w' => ∃ X q d T, e = .returned (.slice q l.length d) ∧ l.length + 12 ≤ d ∧ X.length = l.length ∧ LentO l X T ∧ HL covC q (X ++ mkCovL 12) T ∧ (∀ b ∈ T, w.heap.size ≤ b.1) ∧ KS (w : Base) T w' := by
  have HP := Lib.hid hp
  clear hp
  have HR := Lib.hid hr
  clear hr
  go_enter Try.func29, Try.ntmps29
  refine wp_seq ?_
  refine wp_region_L (W0 := w) [] (KS.start w) ?_
  refine lm (v := .slice none 0 0) rfl rfl ?_
  refine wpL_done (fun W1 hW1 => ?_)
  refine (show Code.wp _ _ _ _ _ from ?_)
  refine wp_seq ?_
  refine wp_region_L (W0 := w) [] (hW1) ?_
  refine lm (v := .slice p l.length c) rfl rfl ?_
  refine lp (v := .int .i64 ((l.length : Nat) : Int)) rfl rfl (run_lenL (p := p) (cap := c) (n := l.length) rfl Try.underlying23 (by kernel_rfl)) ?_
  refine lp (v := .int .i64 (((l.length + 12) : Nat) : Int)) rfl rfl (run_bin rfl (vx := (.int .i64 ((l.length : Nat) : Int))) (vy := (.int .i64 ((12 : Nat) : Int))) (by kernel_rfl) (by kernel_rfl) fun w => bn_add (z := (l.length + 12)) rfl (wr_i64 (by omega)) w) ?_
  refine wpL_new (fun g => .slice (some ⟨g, 0, none⟩) 0 (l.length + 12)) (obi := .cells (madeCells (Value.cells (.agg #[.int .i64 0, .slice none 0 0])) ((l.length + 12) * 2)) 51 (0, 0)) rfl rfl (run_mk0 (c := (l.length + 12)) (z := (.agg #[.int .i64 0, .slice none 0 0])) (sz := 2) (b := 32) rfl Try.underlying23 (by kernel_rfl) (by decide) (by kernel_rfl) (by kernel_rfl) (by omega)) (fun _ => by simp only [List.setIfInBounds_toArray, List.set_cons_succ, List.set_cons_zero] <;> rfl) fun g1 Bg1 Fg1 => ?_
  refine lm (v := .slice (some ⟨g1, 0, none⟩) 0 (l.length + 12)) rfl rfl ?_
  refine wpL_done (fun W2 hW2 => ?_)
  refine (show Code.wp _ _ _ _ _ from ?_)
  refine wp_seq ?_
  refine wp_seq ?_
  refine wp_region_L (W0 := w) [(g1, .cells (madeCells (Value.cells (.agg #[.int .i64 0, .slice none 0 0])) ((l.length + 12) * 2)) 51 (0, 0))] (hW2) ?_
  refine lm (v := .int .i64 0) rfl rfl ?_
  refine wpL_done (fun W3 hW3 => ?_)
  refine (show Code.wp _ _ _ _ _ from ?_)
  refine wp_block ?_
  have Om := (own_made (cells := covC) (c := (l.length + 12)) (E := 51) (z := (.agg #[.int .i64 0, .slice none 0 0])) Bg1 rfl (by omega))
  go_loopw [4, 3] (fun u4 u3 wr => ∃ (i : Nat) (X : List Cov) (vo : Value) (Ko T : List (Nat × Obj)), (i ≤ l.length) ∧ (X.length = i) ∧ (OwnL w 51 2 vo X.length (X.flatMap covC) Ko) ∧ (LentO l X T) ∧ (∀ b ∈ T, w.heap.size ≤ b.1) ∧ (Dj Ko T) ∧ u4 = .int .i64 ((i : Nat) : Int) ∧ vo = u3 ∧ KS w (Ko ++ T) wr) (fun u4 _ _ => l.length - (intOf u4).toNat)
  case atStart => exact ⟨0, [], .slice (some ⟨g1, 0, none⟩) 0 (l.length + 12), [(g1, .cells (madeCells (Value.cells (.agg #[.int .i64 0, .slice none 0 0])) ((l.length + 12) * 2)) 51 (0, 0))], [], (Nat.zero_le _), rfl, Om, (LentO.nil l), (fun _ h => by cases h), (show Dj [(g1, .cells (madeCells (Value.cells (.agg #[.int .i64 0, .slice none 0 0])) ((l.length + 12) * 2)) 51 (0, 0))] [] from (by (try simp only [dj_app_l, dj_app_r, dj_cons_l, dj_cons_r, dj_nil_l, dj_nil_r, dk_app, dk_cons, dk_nil, and_true, true_and, and_assoc]); repeat' (first | trivial | assumption | exact Dj.symm (by assumption) | exact Ne.symm (by assumption) | apply And.intro))), rfl, rfl, (hW3.sub (fun p hp => by first | exact hp | (simp only [List.mem_cons, List.mem_append, List.nil_append, List.not_mem_nil, or_assoc, or_false, false_or] at hp ⊢ <;> grind)))⟩
  case round =>
    obtain ⟨i, X, vo, Ko, T, hi, hXl, hO, hX, hT, dh2_0, rfl, rfl, hL4⟩ := hrel
    refine wp_seq ?_
    refine wp_seq ?_
    refine wp_region_L (W0 := w) (Ko ++ T) (hL4) ?_
    refine lm (v := .int .i64 ((i : Nat) : Int)) rfl rfl ?_
    refine lm (v := .slice p l.length c) rfl rfl ?_
    refine lp (v := .int .i64 ((l.length : Nat) : Int)) rfl rfl (run_lenL (p := p) (cap := c) (n := l.length) rfl Try.underlying23 (by kernel_rfl)) ?_
    refine lp (v := .bool (decide (i < l.length))) rfl rfl (run_bin rfl (vx := (.int .i64 ((i : Nat) : Int))) (vy := (.int .i64 ((l.length : Nat) : Int))) (by kernel_rfl) (by kernel_rfl) fun w => bn_lss rfl w) ?_
    refine wpL_done (fun W5 hW5 => ?_)
    refine (show Code.wp _ _ _ _ _ from ?_)
    cases hd1 : (decide (i < l.length)) with
    | false =>
      have h1 : ¬ (i < l.length) := of_decide_eq_false hd1
      clear hd1
      refine wp_cond_false rfl ?_
      refine wp_exit ?_
      refine (show Code.wp _ _ _ _ _ from ?_)
      refine wp_seq ?_
      refine wp_seq ?_
      refine wp_region_L (W0 := w) (Ko ++ T) (hW5) ?_
      refine lm (v := .int .i64 0) rfl rfl ?_
      refine wpL_done (fun W6 hW6 => ?_)
      refine (show Code.wp _ _ _ _ _ from ?_)
      refine wp_block ?_
      have hXl2 : X.length = l.length := by have := h1; omega
      go_loopw [6, 3] (fun u6 u3 wr => ∃ (j : Nat) (v2 : Value) (K2 : List (Nat × Obj)), (j ≤ 12) ∧ (OwnL w 51 2 v2 (X ++ mkCovL j).length ((X ++ mkCovL j).flatMap covC) K2) ∧ (Dj T K2) ∧ u6 = .int .i64 ((j : Nat) : Int) ∧ v2 = u3 ∧ KS w (T ++ K2) wr) (fun u6 _ _ => 12 - (intOf u6).toNat)
      case atStart => exact ⟨0, vo, Ko, (Nat.zero_le _), (by rw [show X ++ mkCovL 0 = X from by simp [mkCovL]]; exact hO), (show Dj T Ko from (by (try simp only [dj_app_l, dj_app_r, dj_cons_l, dj_cons_r, dj_nil_l, dj_nil_r, dk_app, dk_cons, dk_nil, and_true, true_and, and_assoc]); repeat' (first | trivial | assumption | exact Dj.symm (by assumption) | exact Ne.symm (by assumption) | apply And.intro))), rfl, rfl, (hW6.sub (fun p hp => by first | exact hp | (simp only [List.mem_cons, List.mem_append, List.nil_append, List.not_mem_nil, or_assoc, or_false, false_or] at hp ⊢ <;> grind)))⟩
      case round =>
        obtain ⟨j, v2, K2, hj, hO2, dh3_0, rfl, rfl, hL7⟩ := hrel
        have hlj : (X ++ mkCovL j).length = X.length + j := by rw [List.length_append, mkCovL_len]
        refine wp_seq ?_
        refine wp_seq ?_
        refine wp_region_L (W0 := w) (T ++ K2) (hL7) ?_
        refine lm (v := .int .i64 ((j : Nat) : Int)) rfl rfl ?_
        refine lp (v := .bool (decide (j < 12))) rfl rfl (run_bin rfl (vx := (.int .i64 ((j : Nat) : Int))) (vy := (.int .i64 ((12 : Nat) : Int))) (by kernel_rfl) (by kernel_rfl) fun w => bn_lss rfl w) ?_
        refine wpL_done (fun W8 hW8 => ?_)
        refine (show Code.wp _ _ _ _ _ from ?_)
        cases hd2 : (decide (j < 12)) with
        | false =>
          have h2 : ¬ (j < 12) := of_decide_eq_false hd2
          clear hd2
          refine wp_cond_false rfl ?_
          refine wp_exit ?_
          refine (show Code.wp _ _ _ _ _ from ?_)
          refine wp_seq ?_
          refine wp_region_L (W0 := w) (T ++ K2) (hW8) ?_
          refine lm (v := v2) rfl rfl ?_
          refine lm (v := .slice p l.length c) rfl rfl ?_
          refine lp (v := .int .i64 ((l.length : Nat) : Int)) rfl rfl (run_lenL (p := p) (cap := c) (n := l.length) rfl Try.underlying23 (by kernel_rfl)) ?_
          have hj12 : j = 12 := by omega
          subst hj12
          obtain ⟨q9, d9, rfl, hd9, R9⟩ := own_rl hO2
          have hlen : (X ++ mkCovL 12).length = l.length + 12 := by rw [List.length_append, mkCovL_len, hXl2]
          refine lp (v := .slice q9 l.length d9) rfl rfl (run_slt (kd := .i64) (j := l.length) (n := (X ++ mkCovL 12).length) (c := d9) (sz := 2) rfl Try.underlying23 (by kernel_rfl) (by kernel_rfl) (by kernel_rfl) (by omega)) ?_
          refine lm (v := .slice q9 l.length d9) rfl rfl ?_
          refine wpL_done (fun W9 hW9 => ?_)
          refine (show Code.wp _ _ _ _ _ from ?_)
          refine wp_ret ?_
          try simp only [inBlock_ret, then_ret]
          refine bodyPost_ret (v := .slice q9 l.length d9) ?_ rfl ?_
          · kernel_rfl
          · exact ⟨X, q9, d9, T ++ K2, rfl, by omega, hXl2, hX.mono (fun p hp => by simp only [List.mem_cons, List.mem_append, List.nil_append, List.not_mem_nil, or_assoc, or_false, false_or, hp, true_or, or_true]), (own_hl hO2).mono (fun p hp => by simp only [List.mem_cons, List.mem_append, List.nil_append, List.not_mem_nil, or_assoc, or_false, false_or, hp, true_or, or_true]), new_app hT (own_new hO2), hW9.sub (fun p hp => by simp only [List.mem_cons, List.mem_append, List.nil_append, List.not_mem_nil, or_assoc, or_false, false_or, hp, true_or, or_true])⟩
        | true =>
          have h2 : j < 12 := of_decide_eq_true hd2
          clear hd2
          refine wp_cond_true rfl ?_
          refine wp_skip ?_
          refine (show Code.wp _ _ _ _ _ from ?_)
          refine wp_seq ?_
          refine wp_block ?_
          refine wp_region_L (W0 := w) (T ++ K2) (hW8) ?_
          refine lm (v := v2) rfl rfl ?_
          refine lm (v := .int .i64 ((j : Nat) : Int)) rfl rfl ?_
          refine lv (v := .agg (covC (mkCov j)).toArray) rfl rfl (yb_call (f := 58) (args := #[.int .i64 1, .int .i64 ((j : Nat) : Int)]) (fun _ => by kernel_rfl) fun W hW => markCover_any j (by omega) W) ?_
          refine wpL_new (fun g => .slice (some ⟨g, 0, none⟩) 1 1) (obi := .cells (covC (mkCov j)).toArray 51 (0, 0)) rfl rfl (fun _ => by kernel_rfl) (fun _ => by simp only [List.setIfInBounds_toArray, List.set_cons_succ, List.set_cons_zero] <;> rfl) fun g4 Bg4 Fg4 => ?_
          obtain ⟨dj5_0, dj5_1⟩ : Dk g4 T ∧ Dk g4 K2 := by simpa only [dj_app_l, dj_app_r, dj_cons_l, dj_cons_r, dj_nil_l, dj_nil_r, dk_app, dk_cons, dk_nil, and_true, true_and, and_assoc] using (show Dk g4 (T ++ K2) from Fg4)
          refine wpL_g (AppO w 51 2 T (((X ++ mkCovL j).length) + 1) (((X ++ mkCovL j).flatMap covC) ++ [.int .i64 ((mkCov j).bay), .slice ((mkCov j).rp) (((mkCov j).rows).length) ((mkCov j).rc)])) rfl rfl (app_own el_cov (m := 1) (c := 1) (news := [.int .i64 ((mkCov j).bay), .slice ((mkCov j).rp) (((mkCov j).rows).length) ((mkCov j).rc)]) rfl (by kernel_rfl) (by kernel_rfl) (.head _) hO2 (fun p hp => by simp only [List.mem_cons, List.mem_append, List.nil_append, List.not_mem_nil, or_assoc, or_false, false_or, hp, or_true, true_or]) (fun p hp => ⟨by simp only [List.mem_cons, List.mem_append, List.nil_append, List.not_mem_nil, or_assoc, or_false, false_or] at hp ⊢ <;> grind, (show Dj T K2 from (by (try simp only [dj_app_l, dj_app_r, dj_cons_l, dj_cons_r, dj_nil_l, dj_nil_r, dk_app, dk_cons, dk_nil, and_true, true_and, and_assoc]); repeat' (first | trivial | assumption | exact Dj.symm (by assumption) | exact Ne.symm (by assumption) | apply And.intro))) p hp⟩) rfl (by simp [strV, Value.oneCell']) (by omega) (by omega) (by omega)) (fun _ => by simp only [List.setIfInBounds_toArray, List.set_cons_succ, List.set_cons_zero] <;> rfl) ?_
          rintro v6 K9 ⟨Kl6, O6, N6, rfl⟩
          obtain dj7_0 : Dj T Kl6 := by simpa only [dj_app_l, dj_app_r, dj_cons_l, dj_cons_r, dj_nil_l, dj_nil_r, dk_app, dk_cons, dk_nil, and_true, true_and, and_assoc] using (show Dj T Kl6 from N6)
          refine lm (v := v6) rfl rfl ?_
          refine wpL_done (fun W10 hW10 => ?_)
          refine (show Code.wp _ _ _ _ _ from ?_)
          refine wp_region_L (W0 := w) (T ++ Kl6) (hW10) ?_
          refine lm (v := .int .i64 ((j : Nat) : Int)) rfl rfl ?_
          refine lp (v := .int .i64 (((j + 1) : Nat) : Int)) rfl rfl (run_bin rfl (vx := (.int .i64 ((j : Nat) : Int))) (vy := (.int .i64 ((1 : Nat) : Int))) (by kernel_rfl) (by kernel_rfl) fun w => bn_add (z := (j + 1)) rfl (wr_i64 (by omega)) w) ?_
          refine lm (v := .int .i64 (((j + 1) : Nat) : Int)) rfl rfl ?_
          refine wpL_done (fun W11 hW11 => ?_)
          go_roundw
          case rel =>
            repeat apply Exists.intro
            exact ⟨⟨j + 1, v6, Kl6, (by omega), (own_app O6 (by rw [mkCovL_s, ← List.append_assoc, List.flatMap_append (ys := [mkCov j])]; rfl) (by rw [mkCovL_s, ← List.append_assoc, List.length_append (bs := [mkCov j])]; rfl)), (show Dj T Kl6 from (by (try simp only [dj_app_l, dj_app_r, dj_cons_l, dj_cons_r, dj_nil_l, dj_nil_r, dk_app, dk_cons, dk_nil, and_true, true_and, and_assoc]); repeat' (first | trivial | assumption | exact Dj.symm (by assumption) | exact Ne.symm (by assumption) | apply And.intro))), rfl, rfl, (hW11.sub (fun p hp => by first | exact hp | (simp only [List.mem_cons, List.mem_append, List.nil_append, List.not_mem_nil, or_assoc, or_false, false_or] at hp ⊢ <;> grind)))⟩, rfl⟩
          case measure => (show 12 - (intOf (.int .i64 (((j + 1) : Nat) : Int))).toNat < 12 - (intOf (.int .i64 ((j : Nat) : Int))).toNat); simp only [intOf]; omega
    | true =>
      have h1 : i < l.length := of_decide_eq_true hd1
      clear hd1
      refine wp_cond_true rfl ?_
      refine wp_skip ?_
      refine (show Code.wp _ _ _ _ _ from ?_)
      refine wp_seq ?_
      refine wp_block ?_
      refine wp_seq ?_
      refine wp_region_L (W0 := w) (Ko ++ T) (hW5) ?_
      refine lm (v := .slice p l.length c) rfl rfl ?_
      refine lm (v := .int .i64 ((i : Nat) : Int)) rfl rfl ?_
      obtain ⟨y8, g8_, f8_, hy8, hp8, hc8⟩ := RL.at (RL.base HP.out) covC_len (by decide) (hW5.sub (fun _ h => by cases h)) (k := i) (by omega)
      refine lp (v := .pointer (some ⟨g8_, f8_ + i * 2, none⟩)) rfl rfl (run_idxQ (p := p) (cap := c) (n := l.length) (j := .i64) (k := i) (sz := 2) rfl Try.underlying23 (by kernel_rfl) (by kernel_rfl) hp8 (by kernel_rfl) (by omega)) ?_
      refine lv (v := .agg (covC y8).toArray) rfl rfl (yb_rs (off := f8_ + i * 2) (cs := covC y8) rfl (by kernel_rfl) (fun W hW => hc8 W (hW.sub (fun _ h => by cases h))) Try.underlying51 rfl (by kernel_rfl)) ?_
      refine wpL_c (f := 57) (args := #[.agg (covC y8).toArray]) (LentFV w 3 1 (fun q d => .agg (covC (y8.re q d)).toArray) (y8.rows.length + 12) (y8.rows ++ mkL 12).length ((y8.rows ++ mkL 12).flatMap inC) (Ko ++ T)) rfl (by kernel_rfl) (fun _ => (by kernel_rfl)) (fun W hW => calls_lentf hW (LentCover_any y8 (lr y8 (List.mem_of_getElem? hy8)) W ((HR.out y8 (List.mem_of_getElem? hy8)).keep hW.1))) (fun _ => by simp only [List.setIfInBounds_toArray, List.set_cons_succ, List.set_cons_zero] <;> rfl) ?_
      rintro _ _ ⟨p9, c9, Kl9, rfl, n9, O9, N9, rfl⟩
      obtain ⟨dj10_0, dj10_1⟩ : Dj Ko Kl9 ∧ Dj T Kl9 := by simpa only [dj_app_l, dj_app_r, dj_cons_l, dj_cons_r, dj_nil_l, dj_nil_r, dk_app, dk_cons, dk_nil, and_true, true_and, and_assoc] using (show Dj (Ko ++ T) Kl9 from N9)
      refine wpL_sub (K2 := (Ko ++ (T ++ Kl9))) (fun p hp => by simp only [List.mem_cons, List.mem_append, or_assoc] at hp ⊢; exact hp) ?_
      refine wpL_new (fun g => .pointer (some ⟨g, 0, none⟩)) (obi := .cells #[.int .i64 0, .slice none 0 0] 51 (0, 0)) rfl rfl (fun _ => by kernel_rfl) (fun _ => by simp only [List.setIfInBounds_toArray, List.set_cons_succ, List.set_cons_zero] <;> rfl) fun g11 Bg11 Fg11 => ?_
      obtain ⟨dj12_0, dj12_1, dj12_2⟩ : Dk g11 Ko ∧ Dk g11 T ∧ Dk g11 Kl9 := by simpa only [dj_app_l, dj_app_r, dj_cons_l, dj_cons_r, dj_nil_l, dj_nil_r, dk_app, dk_cons, dk_nil, and_true, true_and, and_assoc] using (show Dk g11 (Ko ++ (T ++ Kl9)) from Fg11)
      refine wpL_s ((g11, .cells (covC (y8.re p9 c9)).toArray 51 (0, 0)) :: (Ko ++ (T ++ Kl9))) rfl rfl (st_row (off := 0) (v := .agg (covC (y8.re p9 c9)).toArray) rfl (by kernel_rfl) (by kernel_rfl) (.head _) Bg11 (by kernel_rfl) (by first | (simp [Value.cells]; done) | exact Nat.le_of_ble_eq_true rfl) (fun v hv => covC_one (y8.re p9 c9) v hv) (by kernel_rfl) (List.forall_mem_cons.2 ⟨.inl rfl, (fun p hp => .inr ⟨(.tail _ hp), ((show Dk g11 (Ko ++ (T ++ Kl9)) from (by (try simp only [dj_app_l, dj_app_r, dj_cons_l, dj_cons_r, dj_nil_l, dj_nil_r, dk_app, dk_cons, dk_nil, and_true, true_and, and_assoc]); repeat' (first | trivial | assumption | exact Dj.symm (by assumption) | exact Ne.symm (by assumption) | apply And.intro))) _ hp)⟩)⟩)) ?_
      refine wpL_done (fun W12 hW12 => ?_)
      refine (show Code.wp _ _ _ _ _ from ?_)
      refine wp_region_L (W0 := w) ((g11, .cells (covC (y8.re p9 c9)).toArray 51 (0, 0)) :: (Ko ++ (T ++ Kl9))) (hW12) ?_
      refine lm (v := vo) rfl rfl ?_
      refine lv (v := .agg (covC (y8.re p9 c9)).toArray) rfl rfl (yb_load (n := 2) (off := 0) rfl (by kernel_rfl) (.head _) Try.underlying51 rfl (by kernel_rfl) (by first | (simp [Value.cells]; done) | exact Nat.le_of_ble_eq_true rfl) (by kernel_rfl)) ?_
      refine wpL_new (fun g => .slice (some ⟨g, 0, none⟩) 1 1) (obi := .cells (covC (y8.re p9 c9)).toArray 51 (0, 0)) rfl rfl (fun _ => by kernel_rfl) (fun _ => by simp only [List.setIfInBounds_toArray, List.set_cons_succ, List.set_cons_zero] <;> rfl) fun g13 Bg13 Fg13 => ?_
      obtain ⟨dj14_0, dj14_1, dj14_2, dj14_3⟩ : g11 ≠ g13 ∧ Dk g13 Ko ∧ Dk g13 T ∧ Dk g13 Kl9 := by simpa only [dj_app_l, dj_app_r, dj_cons_l, dj_cons_r, dj_nil_l, dj_nil_r, dk_app, dk_cons, dk_nil, and_true, true_and, and_assoc] using (show Dk g13 ((g11, .cells (covC (y8.re p9 c9)).toArray 51 (0, 0)) :: (Ko ++ (T ++ Kl9))) from Fg13)
      refine wpL_g (AppO w 51 2 ((g11, .cells (covC (y8.re p9 c9)).toArray 51 (0, 0)) :: (T ++ Kl9)) (X.length + 1) ((X.flatMap covC) ++ [.int .i64 ((y8.re p9 c9).bay), .slice ((y8.re p9 c9).rp) (((y8.re p9 c9).rows).length) ((y8.re p9 c9).rc)])) rfl rfl (app_own el_cov (m := 1) (c := 1) (news := [.int .i64 ((y8.re p9 c9).bay), .slice ((y8.re p9 c9).rp) (((y8.re p9 c9).rows).length) ((y8.re p9 c9).rc)]) rfl (by kernel_rfl) (by kernel_rfl) (.head _) hO (fun p hp => by simp only [List.mem_cons, List.mem_append, List.nil_append, List.not_mem_nil, or_assoc, or_false, false_or, hp, or_true, true_or]) (fun p hp => ⟨by simp only [List.mem_cons, List.mem_append, List.nil_append, List.not_mem_nil, or_assoc, or_false, false_or] at hp ⊢ <;> grind, (show Dj ((g11, .cells (covC (y8.re p9 c9)).toArray 51 (0, 0)) :: (T ++ Kl9)) Ko from (by (try simp only [dj_app_l, dj_app_r, dj_cons_l, dj_cons_r, dj_nil_l, dj_nil_r, dk_app, dk_cons, dk_nil, and_true, true_and, and_assoc]); repeat' (first | trivial | assumption | exact Dj.symm (by assumption) | exact Ne.symm (by assumption) | apply And.intro))) p hp⟩) rfl (by simp [strV, Value.oneCell']) (by omega) (by omega) (by omega)) (fun _ => by simp only [List.setIfInBounds_toArray, List.set_cons_succ, List.set_cons_zero] <;> rfl) ?_
      rintro v15 K9 ⟨Kl15, O15, N15, rfl⟩
      obtain ⟨dj16_0, dj16_1, dj16_2⟩ : Dk g11 Kl15 ∧ Dj T Kl15 ∧ Dj Kl9 Kl15 := by simpa only [dj_app_l, dj_app_r, dj_cons_l, dj_cons_r, dj_nil_l, dj_nil_r, dk_app, dk_cons, dk_nil, and_true, true_and, and_assoc] using (show Dj ((g11, .cells (covC (y8.re p9 c9)).toArray 51 (0, 0)) :: (T ++ Kl9)) Kl15 from N15)
      refine lm (v := v15) rfl rfl ?_
      refine wpL_done (fun W13 hW13 => ?_)
      refine (show Code.wp _ _ _ _ _ from ?_)
      refine wp_region_L (W0 := w) ((g11, .cells (covC (y8.re p9 c9)).toArray 51 (0, 0)) :: ((T ++ Kl9) ++ Kl15)) (hW13) ?_
      refine lm (v := .int .i64 ((i : Nat) : Int)) rfl rfl ?_
      refine lp (v := .int .i64 (((i + 1) : Nat) : Int)) rfl rfl (run_bin rfl (vx := (.int .i64 ((i : Nat) : Int))) (vy := (.int .i64 ((1 : Nat) : Int))) (by kernel_rfl) (by kernel_rfl) fun w => bn_add (z := (i + 1)) rfl (wr_i64 (by omega)) w) ?_
      refine lm (v := .int .i64 (((i + 1) : Nat) : Int)) rfl rfl ?_
      refine wpL_done (fun W14 hW14 => ?_)
      go_roundw
      case rel =>
        repeat apply Exists.intro
        exact ⟨⟨i + 1, (X ++ [y8.re p9 c9]), v15, Kl15, (T ++ Kl9), (by omega), (by rw [List.length_append, List.length_singleton]; omega), (own_app O15 (by rw [List.flatMap_append]; rfl) (by rw [List.length_append]; rfl)), (LentO.s hX hXl hy8 n9 (own_hl O9)), (new_app hT (own_new O9)), (show Dj Kl15 (T ++ Kl9) from (by (try simp only [dj_app_l, dj_app_r, dj_cons_l, dj_cons_r, dj_nil_l, dj_nil_r, dk_app, dk_cons, dk_nil, and_true, true_and, and_assoc]); repeat' (first | trivial | assumption | exact Dj.symm (by assumption) | exact Ne.symm (by assumption) | apply And.intro))), rfl, rfl, (hW14.sub (fun p hp => by first | exact hp | (simp only [List.mem_cons, List.mem_append, List.nil_append, List.not_mem_nil, or_assoc, or_false, false_or] at hp ⊢ <;> grind)))⟩, rfl⟩
      case measure => (show l.length - (intOf (.int .i64 (((i + 1) : Nat) : Int))).toNat < l.length - (intOf (.int .i64 ((i : Nat) : Int))).toNat); simp only [intOf]; omega
set_option maxRecDepth 100000 in
set_option maxHeartbeats 4000000 in
theorem LentColumns_any (l : List Col) (p : Option Addr) (c : Nat) (hl : l.length ≤ 1000000) (lr : ∀ o ∈ l, o.plugs.length ≤ 1000000) (w : World) (hp : SLV w p (l.flatMap colC)) (hr : PlR w l) : Calls Try.prog 28 #[.slice p l.length c] w fun e w' => ∃ X q d T, e = .returned (.slice q l.length d) ∧ l.length + 12 ≤ d ∧ X.length = l.length ∧ LentC l X T ∧ HL colC q (X ++ mkColL 12) T ∧ (∀ b ∈ T, w.heap.size ≤ b.1) ∧ KS (w : Base) T w' := by
  have HP := Lib.hid hp
  clear hp
  have HR := Lib.hid hr
  clear hr
  go_enter Try.func28, Try.ntmps28
  refine wp_seq ?_
  refine wp_region_L (W0 := w) [] (KS.start w) ?_
  refine lm (v := .slice none 0 0) rfl rfl ?_
  refine wpL_done (fun W1 hW1 => ?_)
  refine (show Code.wp _ _ _ _ _ from ?_)
  refine wp_seq ?_
  refine wp_region_L (W0 := w) [] (hW1) ?_
  refine lm (v := .slice p l.length c) rfl rfl ?_
  refine lp (v := .int .i64 ((l.length : Nat) : Int)) rfl rfl (run_lenL (p := p) (cap := c) (n := l.length) rfl Try.underlying22 (by kernel_rfl)) ?_
  refine lp (v := .int .i64 (((l.length + 12) : Nat) : Int)) rfl rfl (run_bin rfl (vx := (.int .i64 ((l.length : Nat) : Int))) (vy := (.int .i64 ((12 : Nat) : Int))) (by kernel_rfl) (by kernel_rfl) fun w => bn_add (z := (l.length + 12)) rfl (wr_i64 (by omega)) w) ?_
  refine wpL_new (fun g => .slice (some ⟨g, 0, none⟩) 0 (l.length + 12)) (obi := .cells (madeCells (Value.cells (.agg #[.int .i64 0, .int .i64 0, .bool false, .int .i64 0, .int .i64 0, .int .i64 0, .int .i64 0, .int .i64 0, .slice none 0 0, .int .i64 0, .int .i64 0, .int .i64 0])) ((l.length + 12) * 12)) 49 (0, 0)) rfl rfl (run_mk0 (c := (l.length + 12)) (z := (.agg #[.int .i64 0, .int .i64 0, .bool false, .int .i64 0, .int .i64 0, .int .i64 0, .int .i64 0, .int .i64 0, .slice none 0 0, .int .i64 0, .int .i64 0, .int .i64 0])) (sz := 12) (b := 112) rfl Try.underlying22 (by kernel_rfl) (by decide) (by kernel_rfl) (by kernel_rfl) (by omega)) (fun _ => by simp only [List.setIfInBounds_toArray, List.set_cons_succ, List.set_cons_zero] <;> rfl) fun g1 Bg1 Fg1 => ?_
  refine lm (v := .slice (some ⟨g1, 0, none⟩) 0 (l.length + 12)) rfl rfl ?_
  refine wpL_done (fun W2 hW2 => ?_)
  refine (show Code.wp _ _ _ _ _ from ?_)
  refine wp_seq ?_
  refine wp_seq ?_
  refine wp_region_L (W0 := w) [(g1, .cells (madeCells (Value.cells (.agg #[.int .i64 0, .int .i64 0, .bool false, .int .i64 0, .int .i64 0, .int .i64 0, .int .i64 0, .int .i64 0, .slice none 0 0, .int .i64 0, .int .i64 0, .int .i64 0])) ((l.length + 12) * 12)) 49 (0, 0))] (hW2) ?_
  refine lm (v := .int .i64 0) rfl rfl ?_
  refine wpL_done (fun W3 hW3 => ?_)
  refine (show Code.wp _ _ _ _ _ from ?_)
  refine wp_block ?_
  have Om := (own_made (cells := colC) (c := (l.length + 12)) (E := 49) (z := (.agg #[.int .i64 0, .int .i64 0, .bool false, .int .i64 0, .int .i64 0, .int .i64 0, .int .i64 0, .int .i64 0, .slice none 0 0, .int .i64 0, .int .i64 0, .int .i64 0])) Bg1 rfl (by omega))
  go_loopw [4, 3] (fun u4 u3 wr => ∃ (i : Nat) (X : List Col) (vo : Value) (Ko T : List (Nat × Obj)), (i ≤ l.length) ∧ (X.length = i) ∧ (OwnL w 49 12 vo X.length (X.flatMap colC) Ko) ∧ (LentC l X T) ∧ (∀ b ∈ T, w.heap.size ≤ b.1) ∧ (Dj Ko T) ∧ u4 = .int .i64 ((i : Nat) : Int) ∧ vo = u3 ∧ KS w (Ko ++ T) wr) (fun u4 _ _ => l.length - (intOf u4).toNat)
  case atStart => exact ⟨0, [], .slice (some ⟨g1, 0, none⟩) 0 (l.length + 12), [(g1, .cells (madeCells (Value.cells (.agg #[.int .i64 0, .int .i64 0, .bool false, .int .i64 0, .int .i64 0, .int .i64 0, .int .i64 0, .int .i64 0, .slice none 0 0, .int .i64 0, .int .i64 0, .int .i64 0])) ((l.length + 12) * 12)) 49 (0, 0))], [], (Nat.zero_le _), rfl, Om, (LentC.nil l), (fun _ h => by cases h), (show Dj [(g1, .cells (madeCells (Value.cells (.agg #[.int .i64 0, .int .i64 0, .bool false, .int .i64 0, .int .i64 0, .int .i64 0, .int .i64 0, .int .i64 0, .slice none 0 0, .int .i64 0, .int .i64 0, .int .i64 0])) ((l.length + 12) * 12)) 49 (0, 0))] [] from (by (try simp only [dj_app_l, dj_app_r, dj_cons_l, dj_cons_r, dj_nil_l, dj_nil_r, dk_app, dk_cons, dk_nil, and_true, true_and, and_assoc]); repeat' (first | trivial | assumption | exact Dj.symm (by assumption) | exact Ne.symm (by assumption) | apply And.intro))), rfl, rfl, (hW3.sub (fun p hp => by first | exact hp | (simp only [List.mem_cons, List.mem_append, List.nil_append, List.not_mem_nil, or_assoc, or_false, false_or] at hp ⊢ <;> grind)))⟩
  case round =>
    obtain ⟨i, X, vo, Ko, T, hi, hXl, hO, hX, hT, dh2_0, rfl, rfl, hL4⟩ := hrel
    refine wp_seq ?_
    refine wp_seq ?_
    refine wp_region_L (W0 := w) (Ko ++ T) (hL4) ?_
    refine lm (v := .int .i64 ((i : Nat) : Int)) rfl rfl ?_
    refine lm (v := .slice p l.length c) rfl rfl ?_
    refine lp (v := .int .i64 ((l.length : Nat) : Int)) rfl rfl (run_lenL (p := p) (cap := c) (n := l.length) rfl Try.underlying22 (by kernel_rfl)) ?_
    refine lp (v := .bool (decide (i < l.length))) rfl rfl (run_bin rfl (vx := (.int .i64 ((i : Nat) : Int))) (vy := (.int .i64 ((l.length : Nat) : Int))) (by kernel_rfl) (by kernel_rfl) fun w => bn_lss rfl w) ?_
    refine wpL_done (fun W5 hW5 => ?_)
    refine (show Code.wp _ _ _ _ _ from ?_)
    cases hd1 : (decide (i < l.length)) with
    | false =>
      have h1 : ¬ (i < l.length) := of_decide_eq_false hd1
      clear hd1
      refine wp_cond_false rfl ?_
      refine wp_exit ?_
      refine (show Code.wp _ _ _ _ _ from ?_)
      refine wp_seq ?_
      refine wp_seq ?_
      refine wp_region_L (W0 := w) (Ko ++ T) (hW5) ?_
      refine lm (v := .int .i64 0) rfl rfl ?_
      refine wpL_done (fun W6 hW6 => ?_)
      refine (show Code.wp _ _ _ _ _ from ?_)
      refine wp_block ?_
      have hXl2 : X.length = l.length := by have := h1; omega
      go_loopw [6, 3] (fun u6 u3 wr => ∃ (j : Nat) (v2 : Value) (K2 : List (Nat × Obj)), (j ≤ 12) ∧ (OwnL w 49 12 v2 (X ++ mkColL j).length ((X ++ mkColL j).flatMap colC) K2) ∧ (Dj T K2) ∧ u6 = .int .i64 ((j : Nat) : Int) ∧ v2 = u3 ∧ KS w (T ++ K2) wr) (fun u6 _ _ => 12 - (intOf u6).toNat)
      case atStart => exact ⟨0, vo, Ko, (Nat.zero_le _), (by rw [show X ++ mkColL 0 = X from by simp [mkColL]]; exact hO), (show Dj T Ko from (by (try simp only [dj_app_l, dj_app_r, dj_cons_l, dj_cons_r, dj_nil_l, dj_nil_r, dk_app, dk_cons, dk_nil, and_true, true_and, and_assoc]); repeat' (first | trivial | assumption | exact Dj.symm (by assumption) | exact Ne.symm (by assumption) | apply And.intro))), rfl, rfl, (hW6.sub (fun p hp => by first | exact hp | (simp only [List.mem_cons, List.mem_append, List.nil_append, List.not_mem_nil, or_assoc, or_false, false_or] at hp ⊢ <;> grind)))⟩
      case round =>
        obtain ⟨j, v2, K2, hj, hO2, dh3_0, rfl, rfl, hL7⟩ := hrel
        have hlj : (X ++ mkColL j).length = X.length + j := by rw [List.length_append, mkColL_len]
        refine wp_seq ?_
        refine wp_seq ?_
        refine wp_region_L (W0 := w) (T ++ K2) (hL7) ?_
        refine lm (v := .int .i64 ((j : Nat) : Int)) rfl rfl ?_
        refine lp (v := .bool (decide (j < 12))) rfl rfl (run_bin rfl (vx := (.int .i64 ((j : Nat) : Int))) (vy := (.int .i64 ((12 : Nat) : Int))) (by kernel_rfl) (by kernel_rfl) fun w => bn_lss rfl w) ?_
        refine wpL_done (fun W8 hW8 => ?_)
        refine (show Code.wp _ _ _ _ _ from ?_)
        cases hd2 : (decide (j < 12)) with
        | false =>
          have h2 : ¬ (j < 12) := of_decide_eq_false hd2
          clear hd2
          refine wp_cond_false rfl ?_
          refine wp_exit ?_
          refine (show Code.wp _ _ _ _ _ from ?_)
          refine wp_seq ?_
          refine wp_region_L (W0 := w) (T ++ K2) (hW8) ?_
          refine lm (v := v2) rfl rfl ?_
          refine lm (v := .slice p l.length c) rfl rfl ?_
          refine lp (v := .int .i64 ((l.length : Nat) : Int)) rfl rfl (run_lenL (p := p) (cap := c) (n := l.length) rfl Try.underlying22 (by kernel_rfl)) ?_
          have hj12 : j = 12 := by omega
          subst hj12
          obtain ⟨q9, d9, rfl, hd9, R9⟩ := own_rl hO2
          have hlen : (X ++ mkColL 12).length = l.length + 12 := by rw [List.length_append, mkColL_len, hXl2]
          refine lp (v := .slice q9 l.length d9) rfl rfl (run_slt (kd := .i64) (j := l.length) (n := (X ++ mkColL 12).length) (c := d9) (sz := 12) rfl Try.underlying22 (by kernel_rfl) (by kernel_rfl) (by kernel_rfl) (by omega)) ?_
          refine lm (v := .slice q9 l.length d9) rfl rfl ?_
          refine wpL_done (fun W9 hW9 => ?_)
          refine (show Code.wp _ _ _ _ _ from ?_)
          refine wp_ret ?_
          try simp only [inBlock_ret, then_ret]
          refine bodyPost_ret (v := .slice q9 l.length d9) ?_ rfl ?_
          · kernel_rfl
          · exact ⟨X, q9, d9, T ++ K2, rfl, by omega, hXl2, hX.mono (fun p hp => by simp only [List.mem_cons, List.mem_append, List.nil_append, List.not_mem_nil, or_assoc, or_false, false_or, hp, true_or, or_true]), (own_hl hO2).mono (fun p hp => by simp only [List.mem_cons, List.mem_append, List.nil_append, List.not_mem_nil, or_assoc, or_false, false_or, hp, true_or, or_true]), new_app hT (own_new hO2), hW9.sub (fun p hp => by simp only [List.mem_cons, List.mem_append, List.nil_append, List.not_mem_nil, or_assoc, or_false, false_or, hp, true_or, or_true])⟩
        | true =>
          have h2 : j < 12 := of_decide_eq_true hd2
          clear hd2
          refine wp_cond_true rfl ?_
          refine wp_skip ?_
          refine (show Code.wp _ _ _ _ _ from ?_)
          refine wp_seq ?_
          refine wp_block ?_
          refine wp_region_L (W0 := w) (T ++ K2) (hW8) ?_
          refine lm (v := v2) rfl rfl ?_
          refine lm (v := .int .i64 ((j : Nat) : Int)) rfl rfl ?_
          refine lv (v := .agg (colC (mkCol j)).toArray) rfl rfl (yb_call (f := 56) (args := #[.int .i64 1, .int .i64 ((j : Nat) : Int)]) (fun _ => by kernel_rfl) fun W hW => markColumn_any j (by omega) W) ?_
          refine wpL_new (fun g => .slice (some ⟨g, 0, none⟩) 1 1) (obi := .cells (colC (mkCol j)).toArray 49 (0, 0)) rfl rfl (fun _ => by kernel_rfl) (fun _ => by simp only [List.setIfInBounds_toArray, List.set_cons_succ, List.set_cons_zero] <;> rfl) fun g4 Bg4 Fg4 => ?_
          obtain ⟨dj5_0, dj5_1⟩ : Dk g4 T ∧ Dk g4 K2 := by simpa only [dj_app_l, dj_app_r, dj_cons_l, dj_cons_r, dj_nil_l, dj_nil_r, dk_app, dk_cons, dk_nil, and_true, true_and, and_assoc] using (show Dk g4 (T ++ K2) from Fg4)
          refine wpL_g (AppO w 49 12 T (((X ++ mkColL j).length) + 1) (((X ++ mkColL j).flatMap colC) ++ [.int .i64 ((mkCol j).bay), .int .i64 ((mkCol j).row), .bool (mkCol j).deck, .int .i64 ((mkCol j).tiers), .int .i64 ((mkCol j).height), .int .i64 ((mkCol j).k20), .int .i64 ((mkCol j).k40), .int .i64 ((mkCol j).lash), .slice ((mkCol j).pp) (((mkCol j).plugs).length) ((mkCol j).pc), .int .i64 ((mkCol j).x), .int .i64 ((mkCol j).y), .int .i64 ((mkCol j).z)])) rfl rfl (app_own el_col (m := 1) (c := 1) (news := [.int .i64 ((mkCol j).bay), .int .i64 ((mkCol j).row), .bool (mkCol j).deck, .int .i64 ((mkCol j).tiers), .int .i64 ((mkCol j).height), .int .i64 ((mkCol j).k20), .int .i64 ((mkCol j).k40), .int .i64 ((mkCol j).lash), .slice ((mkCol j).pp) (((mkCol j).plugs).length) ((mkCol j).pc), .int .i64 ((mkCol j).x), .int .i64 ((mkCol j).y), .int .i64 ((mkCol j).z)]) rfl (by kernel_rfl) (by kernel_rfl) (.head _) hO2 (fun p hp => by simp only [List.mem_cons, List.mem_append, List.nil_append, List.not_mem_nil, or_assoc, or_false, false_or, hp, or_true, true_or]) (fun p hp => ⟨by simp only [List.mem_cons, List.mem_append, List.nil_append, List.not_mem_nil, or_assoc, or_false, false_or] at hp ⊢ <;> grind, (show Dj T K2 from (by (try simp only [dj_app_l, dj_app_r, dj_cons_l, dj_cons_r, dj_nil_l, dj_nil_r, dk_app, dk_cons, dk_nil, and_true, true_and, and_assoc]); repeat' (first | trivial | assumption | exact Dj.symm (by assumption) | exact Ne.symm (by assumption) | apply And.intro))) p hp⟩) rfl (by simp [strV, Value.oneCell']) (by omega) (by omega) (by omega)) (fun _ => by simp only [List.setIfInBounds_toArray, List.set_cons_succ, List.set_cons_zero] <;> rfl) ?_
          rintro v6 K9 ⟨Kl6, O6, N6, rfl⟩
          obtain dj7_0 : Dj T Kl6 := by simpa only [dj_app_l, dj_app_r, dj_cons_l, dj_cons_r, dj_nil_l, dj_nil_r, dk_app, dk_cons, dk_nil, and_true, true_and, and_assoc] using (show Dj T Kl6 from N6)
          refine lm (v := v6) rfl rfl ?_
          refine wpL_done (fun W10 hW10 => ?_)
          refine (show Code.wp _ _ _ _ _ from ?_)
          refine wp_region_L (W0 := w) (T ++ Kl6) (hW10) ?_
          refine lm (v := .int .i64 ((j : Nat) : Int)) rfl rfl ?_
          refine lp (v := .int .i64 (((j + 1) : Nat) : Int)) rfl rfl (run_bin rfl (vx := (.int .i64 ((j : Nat) : Int))) (vy := (.int .i64 ((1 : Nat) : Int))) (by kernel_rfl) (by kernel_rfl) fun w => bn_add (z := (j + 1)) rfl (wr_i64 (by omega)) w) ?_
          refine lm (v := .int .i64 (((j + 1) : Nat) : Int)) rfl rfl ?_
          refine wpL_done (fun W11 hW11 => ?_)
          go_roundw
          case rel =>
            repeat apply Exists.intro
            exact ⟨⟨j + 1, v6, Kl6, (by omega), (own_app O6 (by rw [mkColL_s, ← List.append_assoc, List.flatMap_append (ys := [mkCol j])]; rfl) (by rw [mkColL_s, ← List.append_assoc, List.length_append (bs := [mkCol j])]; rfl)), (show Dj T Kl6 from (by (try simp only [dj_app_l, dj_app_r, dj_cons_l, dj_cons_r, dj_nil_l, dj_nil_r, dk_app, dk_cons, dk_nil, and_true, true_and, and_assoc]); repeat' (first | trivial | assumption | exact Dj.symm (by assumption) | exact Ne.symm (by assumption) | apply And.intro))), rfl, rfl, (hW11.sub (fun p hp => by first | exact hp | (simp only [List.mem_cons, List.mem_append, List.nil_append, List.not_mem_nil, or_assoc, or_false, false_or] at hp ⊢ <;> grind)))⟩, rfl⟩
          case measure => (show 12 - (intOf (.int .i64 (((j + 1) : Nat) : Int))).toNat < 12 - (intOf (.int .i64 ((j : Nat) : Int))).toNat); simp only [intOf]; omega
    | true =>
      have h1 : i < l.length := of_decide_eq_true hd1
      clear hd1
      refine wp_cond_true rfl ?_
      refine wp_skip ?_
      refine (show Code.wp _ _ _ _ _ from ?_)
      refine wp_seq ?_
      refine wp_block ?_
      refine wp_seq ?_
      refine wp_region_L (W0 := w) (Ko ++ T) (hW5) ?_
      refine lm (v := .slice p l.length c) rfl rfl ?_
      refine lm (v := .int .i64 ((i : Nat) : Int)) rfl rfl ?_
      obtain ⟨y8, g8_, f8_, hy8, hp8, hc8⟩ := RL.at (RL.base HP.out) colC_len (by decide) (hW5.sub (fun _ h => by cases h)) (k := i) (by omega)
      refine lp (v := .pointer (some ⟨g8_, f8_ + i * 12, none⟩)) rfl rfl (run_idxQ (p := p) (cap := c) (n := l.length) (j := .i64) (k := i) (sz := 12) rfl Try.underlying22 (by kernel_rfl) (by kernel_rfl) hp8 (by kernel_rfl) (by omega)) ?_
      refine lv (v := .agg (colC y8).toArray) rfl rfl (yb_rs (off := f8_ + i * 12) (cs := colC y8) rfl (by kernel_rfl) (fun W hW => hc8 W (hW.sub (fun _ h => by cases h))) Try.underlying49 rfl (by kernel_rfl)) ?_
      refine wpL_c (f := 55) (args := #[.agg (colC y8).toArray]) (LentFV w 3 1 (fun q d => .agg (colC (y8.re q d)).toArray) (y8.plugs.length + 12) (y8.plugs ++ mkL 12).length ((y8.plugs ++ mkL 12).flatMap inC) (Ko ++ T)) rfl (by kernel_rfl) (fun _ => (by kernel_rfl)) (fun W hW => calls_lentf hW (LentColumn_any y8 (lr y8 (List.mem_of_getElem? hy8)) W ((HR.out y8 (List.mem_of_getElem? hy8)).keep hW.1))) (fun _ => by simp only [List.setIfInBounds_toArray, List.set_cons_succ, List.set_cons_zero] <;> rfl) ?_
      rintro _ _ ⟨p9, c9, Kl9, rfl, n9, O9, N9, rfl⟩
      obtain ⟨dj10_0, dj10_1⟩ : Dj Ko Kl9 ∧ Dj T Kl9 := by simpa only [dj_app_l, dj_app_r, dj_cons_l, dj_cons_r, dj_nil_l, dj_nil_r, dk_app, dk_cons, dk_nil, and_true, true_and, and_assoc] using (show Dj (Ko ++ T) Kl9 from N9)
      refine wpL_sub (K2 := (Ko ++ (T ++ Kl9))) (fun p hp => by simp only [List.mem_cons, List.mem_append, or_assoc] at hp ⊢; exact hp) ?_
      refine wpL_new (fun g => .pointer (some ⟨g, 0, none⟩)) (obi := .cells #[.int .i64 0, .int .i64 0, .bool false, .int .i64 0, .int .i64 0, .int .i64 0, .int .i64 0, .int .i64 0, .slice none 0 0, .int .i64 0, .int .i64 0, .int .i64 0] 49 (0, 0)) rfl rfl (fun _ => by kernel_rfl) (fun _ => by simp only [List.setIfInBounds_toArray, List.set_cons_succ, List.set_cons_zero] <;> rfl) fun g11 Bg11 Fg11 => ?_
      obtain ⟨dj12_0, dj12_1, dj12_2⟩ : Dk g11 Ko ∧ Dk g11 T ∧ Dk g11 Kl9 := by simpa only [dj_app_l, dj_app_r, dj_cons_l, dj_cons_r, dj_nil_l, dj_nil_r, dk_app, dk_cons, dk_nil, and_true, true_and, and_assoc] using (show Dk g11 (Ko ++ (T ++ Kl9)) from Fg11)
      refine wpL_s ((g11, .cells (colC (y8.re p9 c9)).toArray 49 (0, 0)) :: (Ko ++ (T ++ Kl9))) rfl rfl (st_row (off := 0) (v := .agg (colC (y8.re p9 c9)).toArray) rfl (by kernel_rfl) (by kernel_rfl) (.head _) Bg11 (by kernel_rfl) (by first | (simp [Value.cells]; done) | exact Nat.le_of_ble_eq_true rfl) (fun v hv => colC_one (y8.re p9 c9) v hv) (by kernel_rfl) (List.forall_mem_cons.2 ⟨.inl rfl, (fun p hp => .inr ⟨(.tail _ hp), ((show Dk g11 (Ko ++ (T ++ Kl9)) from (by (try simp only [dj_app_l, dj_app_r, dj_cons_l, dj_cons_r, dj_nil_l, dj_nil_r, dk_app, dk_cons, dk_nil, and_true, true_and, and_assoc]); repeat' (first | trivial | assumption | exact Dj.symm (by assumption) | exact Ne.symm (by assumption) | apply And.intro))) _ hp)⟩)⟩)) ?_
      refine wpL_done (fun W12 hW12 => ?_)
      refine (show Code.wp _ _ _ _ _ from ?_)
      refine wp_region_L (W0 := w) ((g11, .cells (colC (y8.re p9 c9)).toArray 49 (0, 0)) :: (Ko ++ (T ++ Kl9))) (hW12) ?_
      refine lm (v := vo) rfl rfl ?_
      refine lv (v := .agg (colC (y8.re p9 c9)).toArray) rfl rfl (yb_load (n := 12) (off := 0) rfl (by kernel_rfl) (.head _) Try.underlying49 rfl (by kernel_rfl) (by first | (simp [Value.cells]; done) | exact Nat.le_of_ble_eq_true rfl) (by kernel_rfl)) ?_
      refine wpL_new (fun g => .slice (some ⟨g, 0, none⟩) 1 1) (obi := .cells (colC (y8.re p9 c9)).toArray 49 (0, 0)) rfl rfl (fun _ => by kernel_rfl) (fun _ => by simp only [List.setIfInBounds_toArray, List.set_cons_succ, List.set_cons_zero] <;> rfl) fun g13 Bg13 Fg13 => ?_
      obtain ⟨dj14_0, dj14_1, dj14_2, dj14_3⟩ : g11 ≠ g13 ∧ Dk g13 Ko ∧ Dk g13 T ∧ Dk g13 Kl9 := by simpa only [dj_app_l, dj_app_r, dj_cons_l, dj_cons_r, dj_nil_l, dj_nil_r, dk_app, dk_cons, dk_nil, and_true, true_and, and_assoc] using (show Dk g13 ((g11, .cells (colC (y8.re p9 c9)).toArray 49 (0, 0)) :: (Ko ++ (T ++ Kl9))) from Fg13)
      refine wpL_g (AppO w 49 12 ((g11, .cells (colC (y8.re p9 c9)).toArray 49 (0, 0)) :: (T ++ Kl9)) (X.length + 1) ((X.flatMap colC) ++ [.int .i64 ((y8.re p9 c9).bay), .int .i64 ((y8.re p9 c9).row), .bool (y8.re p9 c9).deck, .int .i64 ((y8.re p9 c9).tiers), .int .i64 ((y8.re p9 c9).height), .int .i64 ((y8.re p9 c9).k20), .int .i64 ((y8.re p9 c9).k40), .int .i64 ((y8.re p9 c9).lash), .slice ((y8.re p9 c9).pp) (((y8.re p9 c9).plugs).length) ((y8.re p9 c9).pc), .int .i64 ((y8.re p9 c9).x), .int .i64 ((y8.re p9 c9).y), .int .i64 ((y8.re p9 c9).z)])) rfl rfl (app_own el_col (m := 1) (c := 1) (news := [.int .i64 ((y8.re p9 c9).bay), .int .i64 ((y8.re p9 c9).row), .bool (y8.re p9 c9).deck, .int .i64 ((y8.re p9 c9).tiers), .int .i64 ((y8.re p9 c9).height), .int .i64 ((y8.re p9 c9).k20), .int .i64 ((y8.re p9 c9).k40), .int .i64 ((y8.re p9 c9).lash), .slice ((y8.re p9 c9).pp) (((y8.re p9 c9).plugs).length) ((y8.re p9 c9).pc), .int .i64 ((y8.re p9 c9).x), .int .i64 ((y8.re p9 c9).y), .int .i64 ((y8.re p9 c9).z)]) rfl (by kernel_rfl) (by kernel_rfl) (.head _) hO (fun p hp => by simp only [List.mem_cons, List.mem_append, List.nil_append, List.not_mem_nil, or_assoc, or_false, false_or, hp, or_true, true_or]) (fun p hp => ⟨by simp only [List.mem_cons, List.mem_append, List.nil_append, List.not_mem_nil, or_assoc, or_false, false_or] at hp ⊢ <;> grind, (show Dj ((g11, .cells (colC (y8.re p9 c9)).toArray 49 (0, 0)) :: (T ++ Kl9)) Ko from (by (try simp only [dj_app_l, dj_app_r, dj_cons_l, dj_cons_r, dj_nil_l, dj_nil_r, dk_app, dk_cons, dk_nil, and_true, true_and, and_assoc]); repeat' (first | trivial | assumption | exact Dj.symm (by assumption) | exact Ne.symm (by assumption) | apply And.intro))) p hp⟩) rfl (by simp [strV, Value.oneCell']) (by omega) (by omega) (by omega)) (fun _ => by simp only [List.setIfInBounds_toArray, List.set_cons_succ, List.set_cons_zero] <;> rfl) ?_
      rintro v15 K9 ⟨Kl15, O15, N15, rfl⟩
      obtain ⟨dj16_0, dj16_1, dj16_2⟩ : Dk g11 Kl15 ∧ Dj T Kl15 ∧ Dj Kl9 Kl15 := by simpa only [dj_app_l, dj_app_r, dj_cons_l, dj_cons_r, dj_nil_l, dj_nil_r, dk_app, dk_cons, dk_nil, and_true, true_and, and_assoc] using (show Dj ((g11, .cells (colC (y8.re p9 c9)).toArray 49 (0, 0)) :: (T ++ Kl9)) Kl15 from N15)
      refine lm (v := v15) rfl rfl ?_
      refine wpL_done (fun W13 hW13 => ?_)
      refine (show Code.wp _ _ _ _ _ from ?_)
      refine wp_region_L (W0 := w) ((g11, .cells (colC (y8.re p9 c9)).toArray 49 (0, 0)) :: ((T ++ Kl9) ++ Kl15)) (hW13) ?_
      refine lm (v := .int .i64 ((i : Nat) : Int)) rfl rfl ?_
      refine lp (v := .int .i64 (((i + 1) : Nat) : Int)) rfl rfl (run_bin rfl (vx := (.int .i64 ((i : Nat) : Int))) (vy := (.int .i64 ((1 : Nat) : Int))) (by kernel_rfl) (by kernel_rfl) fun w => bn_add (z := (i + 1)) rfl (wr_i64 (by omega)) w) ?_
      refine lm (v := .int .i64 (((i + 1) : Nat) : Int)) rfl rfl ?_
      refine wpL_done (fun W14 hW14 => ?_)
      go_roundw
      case rel =>
        repeat apply Exists.intro
        exact ⟨⟨i + 1, (X ++ [y8.re p9 c9]), v15, Kl15, (T ++ Kl9), (by omega), (by rw [List.length_append, List.length_singleton]; omega), (own_app O15 (by rw [List.flatMap_append]; rfl) (by rw [List.length_append]; rfl)), (LentC.s hX hXl hy8 n9 (own_hl O9)), (new_app hT (own_new O9)), (show Dj Kl15 (T ++ Kl9) from (by (try simp only [dj_app_l, dj_app_r, dj_cons_l, dj_cons_r, dj_nil_l, dj_nil_r, dk_app, dk_cons, dk_nil, and_true, true_and, and_assoc]); repeat' (first | trivial | assumption | exact Dj.symm (by assumption) | exact Ne.symm (by assumption) | apply And.intro))), rfl, rfl, (hW14.sub (fun p hp => by first | exact hp | (simp only [List.mem_cons, List.mem_append, List.nil_append, List.not_mem_nil, or_assoc, or_false, false_or] at hp ⊢ <;> grind)))⟩, rfl⟩
      case measure => (show l.length - (intOf (.int .i64 (((i + 1) : Nat) : Int))).toNat < l.length - (intOf (.int .i64 ((i : Nat) : Int))).toNat); simp only [intOf]; omega
end Go.Proofs.Ythpooalhibedpaa
namespace Go.Proofs.Ythpooalhibedpaa
open Go Go.RowKit Tw
theorem sw_SameCover (y : Cov) (q : Option Addr) (d : Nat) (hl : y.rows.length ≤ 4000000000) (w : World) (hp : SLV w y.rp (y.rows.flatMap inC)) (hq : SLV w q (y.rows.flatMap inC)) : Calls Try.prog 77 #[.agg (covC (y.re q d)).toArray, .agg (covC y).toArray] w fun e w' => e = .returned (.bool true) ∧ Below w.heap.size w w' := SameCover_any (y.re q d) y.rp y.rc hl w hq hp
theorem sw_SameColumn (y : Col) (q : Option Addr) (d : Nat) (hl : y.plugs.length ≤ 4000000000) (w : World) (hp : SLV w y.pp (y.plugs.flatMap inC)) (hq : SLV w q (y.plugs.flatMap inC)) : Calls Try.prog 75 #[.agg (colC (y.re q d)).toArray, .agg (colC y).toArray] w fun e w' => e = .returned (.bool true) ∧ Below w.heap.size w w' := SameColumn_any (y.re q d) y.pp y.pc hl w hq hp
set_option maxRecDepth 100000 in
set_option maxHeartbeats 4000000 in
theorem SameCovers_any (l X : List Cov) (p q : Option Addr) (c d : Nat) (hl : l.length ≤ 1000000) (lr : ∀ o ∈ l, o.rows.length ≤ 1000000) (hX : X.length = l.length) (w : World) (hp : SLV w p (X.flatMap covC)) (ha : LentOA w l X) (hq : SLV w q (l.flatMap covC)) (hr : RwR w l) : Calls Try.prog 70 #[.slice p X.length c, .slice q l.length d] w fun e w' => e = .returned (.bool true) ∧ Below w.heap.size w w' := by
  have HP := Lib.hid hp
  clear hp
  have HQ := Lib.hid hq
  clear hq
  have HA := Lib.hid ha
  clear ha
  have HR := Lib.hid hr
  clear hr
  go_enter Try.func70, Try.ntmps70
  refine wp_seq ?_
  refine wp_region_L (W0 := w) [] (KS.start w) ?_
  refine lm (v := .bool false) rfl rfl ?_
  refine wpL_done (fun W1 hW1 => ?_)
  refine (show Code.wp _ _ _ _ _ from ?_)
  refine wp_seq ?_
  refine wp_seq ?_
  refine wp_region_L (W0 := w) [] (hW1) ?_
  refine lm (v := .slice p X.length c) rfl rfl ?_
  refine lp (v := .int .i64 ((X.length : Nat) : Int)) rfl rfl (run_lenL (p := p) (cap := c) (n := X.length) rfl Try.underlying23 (by kernel_rfl)) ?_
  refine lm (v := .slice q l.length d) rfl rfl ?_
  refine lp (v := .int .i64 ((l.length : Nat) : Int)) rfl rfl (run_lenL (p := q) (cap := d) (n := l.length) rfl Try.underlying23 (by kernel_rfl)) ?_
  refine lp (v := .bool (!(decide (X.length = l.length)))) rfl rfl (run_bin rfl (vx := (.int .i64 ((X.length : Nat) : Int))) (vy := (.int .i64 ((l.length : Nat) : Int))) (by kernel_rfl) (by kernel_rfl) fun w => bn_neq rfl w) ?_
  refine wpL_done (fun W2 hW2 => ?_)
  refine (show Code.wp _ _ _ _ _ from ?_)
  cases hd1 : (decide (X.length = l.length)) with
  | false =>
    have h1 : ¬ (X.length = l.length) := of_decide_eq_false hd1
    clear hd1
    exact absurd hX h1
  | true =>
    have h1 : X.length = l.length := of_decide_eq_true hd1
    clear hd1
    refine wp_cond_false rfl ?_
    refine wp_skip ?_
    refine (show Code.wp _ _ _ _ _ from ?_)
    refine wp_seq ?_
    refine wp_seq ?_
    refine wp_region_L (W0 := w) [] (hW2) ?_
    refine lm (v := .int .i64 0) rfl rfl ?_
    refine wpL_done (fun W3 hW3 => ?_)
    refine (show Code.wp _ _ _ _ _ from ?_)
    refine wp_block ?_
    go_loopw [5] (fun u5 wr => ∃ (i : Nat), (i ≤ l.length) ∧ u5 = .int .i64 ((i : Nat) : Int) ∧ KS w [] wr) (fun u5 _ => l.length - (intOf u5).toNat)
    case atStart => exact ⟨0, (Nat.zero_le _), rfl, (hW3.sub (fun p hp => by first | exact hp | (simp only [List.mem_cons, List.mem_append, List.nil_append, List.not_mem_nil, or_assoc, or_false, false_or] at hp ⊢ <;> grind)))⟩
    case round =>
      obtain ⟨i, hi, rfl, hL4⟩ := hrel
      refine wp_seq ?_
      refine wp_seq ?_
      refine wp_region_L (W0 := w) [] (hL4) ?_
      refine lm (v := .int .i64 ((i : Nat) : Int)) rfl rfl ?_
      refine lm (v := .slice p X.length c) rfl rfl ?_
      refine lp (v := .int .i64 ((X.length : Nat) : Int)) rfl rfl (run_lenL (p := p) (cap := c) (n := X.length) rfl Try.underlying23 (by kernel_rfl)) ?_
      refine lp (v := .bool (decide (i < X.length))) rfl rfl (run_bin rfl (vx := (.int .i64 ((i : Nat) : Int))) (vy := (.int .i64 ((X.length : Nat) : Int))) (by kernel_rfl) (by kernel_rfl) fun w => bn_lss rfl w) ?_
      refine wpL_done (fun W5 hW5 => ?_)
      refine (show Code.wp _ _ _ _ _ from ?_)
      cases hd2 : (decide (i < X.length)) with
      | false =>
        have h2 : ¬ (i < X.length) := of_decide_eq_false hd2
        clear hd2
        refine wp_cond_false rfl ?_
        refine wp_exit ?_
        refine (show Code.wp _ _ _ _ _ from ?_)
        refine wp_seq ?_
        refine wp_region_L (W0 := w) [] (hW5) ?_
        refine lm (v := .bool true) rfl rfl ?_
        refine wpL_done (fun W6 hW6 => ?_)
        refine (show Code.wp _ _ _ _ _ from ?_)
        refine wp_ret ?_
        try simp only [inBlock_ret, then_ret]
        refine bodyPost_ret (v := .bool true) ?_ rfl ?_
        · kernel_rfl
        · exact ⟨rfl, hW6.1⟩
      | true =>
        have h2 : i < X.length := of_decide_eq_true hd2
        clear hd2
        refine wp_cond_true rfl ?_
        refine wp_skip ?_
        refine (show Code.wp _ _ _ _ _ from ?_)
        refine wp_seq ?_
        refine wp_block ?_
        refine wp_seq ?_
        refine wp_region_V (W0 := w) [] (by kernel_rfl) (hW5) ?_
        refine vm (i := 0) (v := .slice p X.length c) rfl rfl rfl ?_
        refine vm (i := 1) (v := .int .i64 ((i : Nat) : Int)) rfl rfl rfl ?_
        obtain ⟨y1, g1_, f1_, hy1, hp1, hc1⟩ := RL.at (RL.base HP.out) covC_len (by decide) (hW5.sub (fun _ h => by cases h)) (k := i) (by omega)
        refine vp (i := 2) (v := .pointer (some ⟨g1_, f1_ + i * 2, none⟩)) rfl rfl rfl (run_idxQ (p := p) (cap := c) (n := X.length) (j := .i64) (k := i) (sz := 2) rfl Try.underlying23 (by kernel_rfl) (by kernel_rfl) hp1 (by kernel_rfl) (by omega)) ?_
        refine vb (i := 3) (v := .agg (covC y1).toArray) rfl rfl rfl (yb_rs (off := f1_ + i * 2) (cs := covC y1) rfl (by kernel_rfl) (fun W hW => hc1 W (hW.sub (fun _ h => by cases h))) Try.underlying51 rfl (by kernel_rfl)) ?_
        refine vm (i := 4) (v := .slice q l.length d) rfl rfl rfl ?_
        refine vm (i := 5) (v := .int .i64 ((i : Nat) : Int)) rfl rfl rfl ?_
        obtain ⟨y2, g2_, f2_, hy2, hp2, hc2⟩ := RL.at (RL.base HQ.out) covC_len (by decide) (hW5.sub (fun _ h => by cases h)) (k := i) (by omega)
        refine vp (i := 6) (v := .pointer (some ⟨g2_, f2_ + i * 2, none⟩)) rfl rfl rfl (run_idxQ (p := q) (cap := d) (n := l.length) (j := .i64) (k := i) (sz := 2) rfl Try.underlying23 (by kernel_rfl) (by kernel_rfl) hp2 (by kernel_rfl) (by omega)) ?_
        refine vb (i := 7) (v := .agg (covC y2).toArray) rfl rfl rfl (yb_rs (off := f2_ + i * 2) (cs := covC y2) rfl (by kernel_rfl) (fun W hW => hc2 W (hW.sub (fun _ h => by cases h))) Try.underlying51 rfl (by kernel_rfl)) ?_
        refine vv (i := 8) (v := .bool true) rfl rfl rfl (yb_call (f := 77) (args := #[.agg (covC y1).toArray, .agg (covC y2).toArray]) (fun _ => by kernel_rfl) fun W hW => (by obtain ⟨q7, d7, e7, R7⟩ := lentOA_pre HA.out hy1 hy2; rw [e7]; exact sw_SameCover y2 q7 d7 (by have := lr y2 (List.mem_of_getElem? hy2); omega) W ((HR.out y2 (List.mem_of_getElem? hy2)).keep hW.1) (R7.keep hW.1))) ?_
        refine vm (i := 9) (v := .bool false) rfl rfl rfl ?_
        refine wpV_done (by kernel_rfl) (fun W7 hW7 => ?_) _
        refine (show Code.wp _ _ _ _ _ from ?_)
        refine wp_cond_false rfl ?_
        refine wp_skip ?_
        refine (show Code.wp _ _ _ _ _ from ?_)
        refine wp_region_L (W0 := w) [] (hW7) ?_
        refine lm (v := .int .i64 ((i : Nat) : Int)) rfl rfl ?_
        refine lp (v := .int .i64 (((i + 1) : Nat) : Int)) rfl rfl (run_bin rfl (vx := (.int .i64 ((i : Nat) : Int))) (vy := (.int .i64 ((1 : Nat) : Int))) (by kernel_rfl) (by kernel_rfl) fun w => bn_add (z := (i + 1)) rfl (wr_i64 (by omega)) w) ?_
        refine lm (v := .int .i64 (((i + 1) : Nat) : Int)) rfl rfl ?_
        refine wpL_done (fun W8 hW8 => ?_)
        go_roundw
        case rel =>
          repeat apply Exists.intro
          exact ⟨⟨i + 1, (by omega), rfl, (hW8.sub (fun p hp => by first | exact hp | (simp only [List.mem_cons, List.mem_append, List.nil_append, List.not_mem_nil, or_assoc, or_false, false_or] at hp ⊢ <;> grind)))⟩, rfl⟩
        case measure => (show l.length - (intOf (.int .i64 (((i + 1) : Nat) : Int))).toNat < l.length - (intOf (.int .i64 ((i : Nat) : Int))).toNat); simp only [intOf]; omega
set_option maxRecDepth 100000 in
set_option maxHeartbeats 4000000 in
theorem SameColumns_any (l X : List Col) (p q : Option Addr) (c d : Nat) (hl : l.length ≤ 1000000) (lr : ∀ o ∈ l, o.plugs.length ≤ 1000000) (hX : X.length = l.length) (w : World) (hp : SLV w p (X.flatMap colC)) (ha : LentCA w l X) (hq : SLV w q (l.flatMap colC)) (hr : PlR w l) : Calls Try.prog 69 #[.slice p X.length c, .slice q l.length d] w fun e w' => e = .returned (.bool true) ∧ Below w.heap.size w w' := by
  have HP := Lib.hid hp
  clear hp
  have HQ := Lib.hid hq
  clear hq
  have HA := Lib.hid ha
  clear ha
  have HR := Lib.hid hr
  clear hr
  go_enter Try.func69, Try.ntmps69
  refine wp_seq ?_
  refine wp_region_L (W0 := w) [] (KS.start w) ?_
  refine lm (v := .bool false) rfl rfl ?_
  refine wpL_done (fun W1 hW1 => ?_)
  refine (show Code.wp _ _ _ _ _ from ?_)
  refine wp_seq ?_
  refine wp_seq ?_
  refine wp_region_L (W0 := w) [] (hW1) ?_
  refine lm (v := .slice p X.length c) rfl rfl ?_
  refine lp (v := .int .i64 ((X.length : Nat) : Int)) rfl rfl (run_lenL (p := p) (cap := c) (n := X.length) rfl Try.underlying22 (by kernel_rfl)) ?_
  refine lm (v := .slice q l.length d) rfl rfl ?_
  refine lp (v := .int .i64 ((l.length : Nat) : Int)) rfl rfl (run_lenL (p := q) (cap := d) (n := l.length) rfl Try.underlying22 (by kernel_rfl)) ?_
  refine lp (v := .bool (!(decide (X.length = l.length)))) rfl rfl (run_bin rfl (vx := (.int .i64 ((X.length : Nat) : Int))) (vy := (.int .i64 ((l.length : Nat) : Int))) (by kernel_rfl) (by kernel_rfl) fun w => bn_neq rfl w) ?_
  refine wpL_done (fun W2 hW2 => ?_)
  refine (show Code.wp _ _ _ _ _ from ?_)
  cases hd1 : (decide (X.length = l.length)) with
  | false =>
    have h1 : ¬ (X.length = l.length) := of_decide_eq_false hd1
    clear hd1
    exact absurd hX h1
  | true =>
    have h1 : X.length = l.length := of_decide_eq_true hd1
    clear hd1
    refine wp_cond_false rfl ?_
    refine wp_skip ?_
    refine (show Code.wp _ _ _ _ _ from ?_)
    refine wp_seq ?_
    refine wp_seq ?_
    refine wp_region_L (W0 := w) [] (hW2) ?_
    refine lm (v := .int .i64 0) rfl rfl ?_
    refine wpL_done (fun W3 hW3 => ?_)
    refine (show Code.wp _ _ _ _ _ from ?_)
    refine wp_block ?_
    go_loopw [5] (fun u5 wr => ∃ (i : Nat), (i ≤ l.length) ∧ u5 = .int .i64 ((i : Nat) : Int) ∧ KS w [] wr) (fun u5 _ => l.length - (intOf u5).toNat)
    case atStart => exact ⟨0, (Nat.zero_le _), rfl, (hW3.sub (fun p hp => by first | exact hp | (simp only [List.mem_cons, List.mem_append, List.nil_append, List.not_mem_nil, or_assoc, or_false, false_or] at hp ⊢ <;> grind)))⟩
    case round =>
      obtain ⟨i, hi, rfl, hL4⟩ := hrel
      refine wp_seq ?_
      refine wp_seq ?_
      refine wp_region_L (W0 := w) [] (hL4) ?_
      refine lm (v := .int .i64 ((i : Nat) : Int)) rfl rfl ?_
      refine lm (v := .slice p X.length c) rfl rfl ?_
      refine lp (v := .int .i64 ((X.length : Nat) : Int)) rfl rfl (run_lenL (p := p) (cap := c) (n := X.length) rfl Try.underlying22 (by kernel_rfl)) ?_
      refine lp (v := .bool (decide (i < X.length))) rfl rfl (run_bin rfl (vx := (.int .i64 ((i : Nat) : Int))) (vy := (.int .i64 ((X.length : Nat) : Int))) (by kernel_rfl) (by kernel_rfl) fun w => bn_lss rfl w) ?_
      refine wpL_done (fun W5 hW5 => ?_)
      refine (show Code.wp _ _ _ _ _ from ?_)
      cases hd2 : (decide (i < X.length)) with
      | false =>
        have h2 : ¬ (i < X.length) := of_decide_eq_false hd2
        clear hd2
        refine wp_cond_false rfl ?_
        refine wp_exit ?_
        refine (show Code.wp _ _ _ _ _ from ?_)
        refine wp_seq ?_
        refine wp_region_L (W0 := w) [] (hW5) ?_
        refine lm (v := .bool true) rfl rfl ?_
        refine wpL_done (fun W6 hW6 => ?_)
        refine (show Code.wp _ _ _ _ _ from ?_)
        refine wp_ret ?_
        try simp only [inBlock_ret, then_ret]
        refine bodyPost_ret (v := .bool true) ?_ rfl ?_
        · kernel_rfl
        · exact ⟨rfl, hW6.1⟩
      | true =>
        have h2 : i < X.length := of_decide_eq_true hd2
        clear hd2
        refine wp_cond_true rfl ?_
        refine wp_skip ?_
        refine (show Code.wp _ _ _ _ _ from ?_)
        refine wp_seq ?_
        refine wp_block ?_
        refine wp_seq ?_
        refine wp_region_V (W0 := w) [] (by kernel_rfl) (hW5) ?_
        refine vm (i := 0) (v := .slice p X.length c) rfl rfl rfl ?_
        refine vm (i := 1) (v := .int .i64 ((i : Nat) : Int)) rfl rfl rfl ?_
        obtain ⟨y1, g1_, f1_, hy1, hp1, hc1⟩ := RL.at (RL.base HP.out) colC_len (by decide) (hW5.sub (fun _ h => by cases h)) (k := i) (by omega)
        refine vp (i := 2) (v := .pointer (some ⟨g1_, f1_ + i * 12, none⟩)) rfl rfl rfl (run_idxQ (p := p) (cap := c) (n := X.length) (j := .i64) (k := i) (sz := 12) rfl Try.underlying22 (by kernel_rfl) (by kernel_rfl) hp1 (by kernel_rfl) (by omega)) ?_
        refine vb (i := 3) (v := .agg (colC y1).toArray) rfl rfl rfl (yb_rs (off := f1_ + i * 12) (cs := colC y1) rfl (by kernel_rfl) (fun W hW => hc1 W (hW.sub (fun _ h => by cases h))) Try.underlying49 rfl (by kernel_rfl)) ?_
        refine vm (i := 4) (v := .slice q l.length d) rfl rfl rfl ?_
        refine vm (i := 5) (v := .int .i64 ((i : Nat) : Int)) rfl rfl rfl ?_
        obtain ⟨y2, g2_, f2_, hy2, hp2, hc2⟩ := RL.at (RL.base HQ.out) colC_len (by decide) (hW5.sub (fun _ h => by cases h)) (k := i) (by omega)
        refine vp (i := 6) (v := .pointer (some ⟨g2_, f2_ + i * 12, none⟩)) rfl rfl rfl (run_idxQ (p := q) (cap := d) (n := l.length) (j := .i64) (k := i) (sz := 12) rfl Try.underlying22 (by kernel_rfl) (by kernel_rfl) hp2 (by kernel_rfl) (by omega)) ?_
        refine vb (i := 7) (v := .agg (colC y2).toArray) rfl rfl rfl (yb_rs (off := f2_ + i * 12) (cs := colC y2) rfl (by kernel_rfl) (fun W hW => hc2 W (hW.sub (fun _ h => by cases h))) Try.underlying49 rfl (by kernel_rfl)) ?_
        refine vv (i := 8) (v := .bool true) rfl rfl rfl (yb_call (f := 75) (args := #[.agg (colC y1).toArray, .agg (colC y2).toArray]) (fun _ => by kernel_rfl) fun W hW => (by obtain ⟨q7, d7, e7, R7⟩ := lentCA_pre HA.out hy1 hy2; rw [e7]; exact sw_SameColumn y2 q7 d7 (by have := lr y2 (List.mem_of_getElem? hy2); omega) W ((HR.out y2 (List.mem_of_getElem? hy2)).keep hW.1) (R7.keep hW.1))) ?_
        refine vm (i := 9) (v := .bool false) rfl rfl rfl ?_
        refine wpV_done (by kernel_rfl) (fun W7 hW7 => ?_) _
        refine (show Code.wp _ _ _ _ _ from ?_)
        refine wp_cond_false rfl ?_
        refine wp_skip ?_
        refine (show Code.wp _ _ _ _ _ from ?_)
        refine wp_region_L (W0 := w) [] (hW7) ?_
        refine lm (v := .int .i64 ((i : Nat) : Int)) rfl rfl ?_
        refine lp (v := .int .i64 (((i + 1) : Nat) : Int)) rfl rfl (run_bin rfl (vx := (.int .i64 ((i : Nat) : Int))) (vy := (.int .i64 ((1 : Nat) : Int))) (by kernel_rfl) (by kernel_rfl) fun w => bn_add (z := (i + 1)) rfl (wr_i64 (by omega)) w) ?_
        refine lm (v := .int .i64 (((i + 1) : Nat) : Int)) rfl rfl ?_
        refine wpL_done (fun W8 hW8 => ?_)
        go_roundw
        case rel =>
          repeat apply Exists.intro
          exact ⟨⟨i + 1, (by omega), rfl, (hW8.sub (fun p hp => by first | exact hp | (simp only [List.mem_cons, List.mem_append, List.nil_append, List.not_mem_nil, or_assoc, or_false, false_or] at hp ⊢ <;> grind)))⟩, rfl⟩
        case measure => (show l.length - (intOf (.int .i64 (((i + 1) : Nat) : Int))).toNat < l.length - (intOf (.int .i64 ((i : Nat) : Int))).toNat); simp only [intOf]; omega
end Go.Proofs.Ythpooalhibedpaa
namespace Go.Proofs.Ythpooalhibedpaa
open Go Go.RowKit Tw
set_option maxRecDepth 100000 in
set_option maxHeartbeats 4000000 in
theorem KeptCovers_any (l X : List Cov) (p q : Option Addr) (c d : Nat) (hl : l.length ≤ 1000000) (lr : ∀ o ∈ l, o.rows.length ≤ 1000000) (hX : X.length = l.length) (hc : l.length + 12 ≤ c) (w : World) (hp : SLV w p ((X ++ mkCovL 12).flatMap covC)) (ha : LentOA w l X) (hq : SLV w q (l.flatMap covC)) (hr : RwR w l) : Calls Try.prog 47 #[.slice p l.length c, .slice q l.length d] w fun e w' => e = .returned (.bool true) ∧ Below w.heap.size w w' := by
  have HP := Lib.hid hp
  clear hp
  have HQ := Lib.hid hq
  clear hq
  have HA := Lib.hid ha
  clear ha
  have HR := Lib.hid hr
  clear hr
  have hlen : (X ++ mkCovL 12).length = l.length + 12 := by rw [List.length_append, mkCovL_len, hX]
  go_enter Try.func47, Try.ntmps47
  refine wp_seq ?_
  refine wp_region_L (W0 := w) [] (KS.start w) ?_
  refine lm (v := .bool false) rfl rfl ?_
  refine wpL_done (fun W1 hW1 => ?_)
  refine (show Code.wp _ _ _ _ _ from ?_)
  refine wp_seq ?_
  refine wp_seq ?_
  refine wp_region_L (W0 := w) [] (hW1) ?_
  refine lm (v := .slice p l.length c) rfl rfl ?_
  refine lp (v := .int .i64 ((l.length : Nat) : Int)) rfl rfl (run_lenL (p := p) (cap := c) (n := l.length) rfl Try.underlying23 (by kernel_rfl)) ?_
  refine lm (v := .slice q l.length d) rfl rfl ?_
  refine lp (v := .int .i64 ((l.length : Nat) : Int)) rfl rfl (run_lenL (p := q) (cap := d) (n := l.length) rfl Try.underlying23 (by kernel_rfl)) ?_
  refine lp (v := .bool false) rfl rfl (run_bin rfl (vx := (.int .i64 ((l.length : Nat) : Int))) (vy := (.int .i64 ((l.length : Nat) : Int))) (by kernel_rfl) (by kernel_rfl) fun w => bn_neq (decide_eq_true rfl) w) ?_
  refine wpL_done (fun W2 hW2 => ?_)
  refine (show Code.wp _ _ _ _ _ from ?_)
  refine wp_cond_false rfl ?_
  refine wp_skip ?_
  refine (show Code.wp _ _ _ _ _ from ?_)
  refine wp_seq ?_
  refine wp_region_L (W0 := w) [] (hW2) ?_
  refine lm (v := .slice p l.length c) rfl rfl ?_
  refine lm (v := .slice q l.length d) rfl rfl ?_
  refine lp (v := .int .i64 ((l.length : Nat) : Int)) rfl rfl (run_lenL (p := q) (cap := d) (n := l.length) rfl Try.underlying23 (by kernel_rfl)) ?_
  refine lp (v := .int .i64 (((l.length + 12) : Nat) : Int)) rfl rfl (run_bin rfl (vx := (.int .i64 ((l.length : Nat) : Int))) (vy := (.int .i64 ((12 : Nat) : Int))) (by kernel_rfl) (by kernel_rfl) fun w => bn_add (z := (l.length + 12)) rfl (wr_i64 (by omega)) w) ?_
  refine lp (v := .slice p (l.length + 12) c) rfl rfl (run_slt (kd := .i64) (j := (l.length + 12)) (n := l.length) (c := c) (sz := 2) rfl Try.underlying23 (by kernel_rfl) (by kernel_rfl) (by kernel_rfl) (by omega)) ?_
  refine lm (v := .slice p (l.length + 12) c) rfl rfl ?_
  refine wpL_done (fun W3 hW3 => ?_)
  refine (show Code.wp _ _ _ _ _ from ?_)
  refine wp_seq ?_
  refine wp_seq ?_
  refine wp_region_L (W0 := w) [] (hW3) ?_
  refine lm (v := .int .i64 0) rfl rfl ?_
  refine wpL_done (fun W4 hW4 => ?_)
  refine (show Code.wp _ _ _ _ _ from ?_)
  refine wp_block ?_
  go_loopw [6] (fun u6 wr => ∃ (i : Nat), (i ≤ l.length + 12) ∧ u6 = .int .i64 ((i : Nat) : Int) ∧ KS w [] wr) (fun u6 _ => l.length + 12 - (intOf u6).toNat)
  case atStart => exact ⟨0, (Nat.zero_le _), rfl, (hW4.sub (fun p hp => by first | exact hp | (simp only [List.mem_cons, List.mem_append, List.nil_append, List.not_mem_nil, or_assoc, or_false, false_or] at hp ⊢ <;> grind)))⟩
  case round =>
    obtain ⟨i, hi, rfl, hL5⟩ := hrel
    refine wp_seq ?_
    refine wp_seq ?_
    refine wp_region_L (W0 := w) [] (hL5) ?_
    refine lm (v := .int .i64 ((i : Nat) : Int)) rfl rfl ?_
    refine lm (v := .slice p (l.length + 12) c) rfl rfl ?_
    refine lp (v := .int .i64 (((l.length + 12) : Nat) : Int)) rfl rfl (run_lenL (p := p) (cap := c) (n := (l.length + 12)) rfl Try.underlying23 (by kernel_rfl)) ?_
    refine lp (v := .bool (decide (i < (l.length + 12)))) rfl rfl (run_bin rfl (vx := (.int .i64 ((i : Nat) : Int))) (vy := (.int .i64 (((l.length + 12) : Nat) : Int))) (by kernel_rfl) (by kernel_rfl) fun w => bn_lss rfl w) ?_
    refine wpL_done (fun W6 hW6 => ?_)
    refine (show Code.wp _ _ _ _ _ from ?_)
    cases hd1 : (decide (i < (l.length + 12))) with
    | false =>
      have h1 : ¬ (i < (l.length + 12)) := of_decide_eq_false hd1
      clear hd1
      refine wp_cond_false rfl ?_
      refine wp_exit ?_
      refine (show Code.wp _ _ _ _ _ from ?_)
      refine wp_seq ?_
      refine wp_region_L (W0 := w) [] (hW6) ?_
      refine lm (v := .bool true) rfl rfl ?_
      refine wpL_done (fun W7 hW7 => ?_)
      refine (show Code.wp _ _ _ _ _ from ?_)
      refine wp_ret ?_
      try simp only [inBlock_ret, then_ret]
      refine bodyPost_ret (v := .bool true) ?_ rfl ?_
      · kernel_rfl
      · exact ⟨rfl, hW7.1⟩
    | true =>
      have h1 : i < (l.length + 12) := of_decide_eq_true hd1
      clear hd1
      refine wp_cond_true rfl ?_
      refine wp_skip ?_
      refine (show Code.wp _ _ _ _ _ from ?_)
      refine wp_seq ?_
      refine wp_block ?_
      refine wp_seq ?_
      refine wp_region_V (W0 := w) [] (by kernel_rfl) (hW6) ?_
      refine vm (i := 0) (v := .int .i64 ((i : Nat) : Int)) rfl rfl rfl ?_
      refine vm (i := 1) (v := .slice q l.length d) rfl rfl rfl ?_
      refine vp (i := 2) (v := .int .i64 ((l.length : Nat) : Int)) rfl rfl rfl (run_lenL (p := q) (cap := d) (n := l.length) rfl Try.underlying23 (by kernel_rfl)) ?_
      refine vp (i := 3) (v := .bool (decide (i < l.length))) rfl rfl rfl (run_bin rfl (vx := (.int .i64 ((i : Nat) : Int))) (vy := (.int .i64 ((l.length : Nat) : Int))) (by kernel_rfl) (by kernel_rfl) fun w => bn_lss rfl w) ?_
      refine vm (i := 4) (v := .bool (decide (i < l.length))) rfl rfl rfl ?_
      cases hd2 : (decide (i < l.length)) with
      | false =>
        have h2 : ¬ (i < l.length) := of_decide_eq_false hd2
        clear hd2
        refine vn (i := 5) rfl rfl ?_
        refine vn (i := 6) rfl rfl ?_
        refine vn (i := 7) rfl rfl ?_
        refine vn (i := 8) rfl rfl ?_
        refine vn (i := 9) rfl rfl ?_
        refine vn (i := 10) rfl rfl ?_
        refine vn (i := 11) rfl rfl ?_
        refine vn (i := 12) rfl rfl ?_
        refine vn (i := 13) rfl rfl ?_
        refine vn (i := 14) rfl rfl ?_
        refine vm (i := 15) (v := .bool false) rfl rfl rfl ?_
        refine vm (i := 16) (v := .bool false) rfl rfl rfl ?_
        refine vm (i := 17) (v := .int .i64 ((i : Nat) : Int)) rfl rfl rfl ?_
        refine vm (i := 18) (v := .slice q l.length d) rfl rfl rfl ?_
        refine vp (i := 19) (v := .int .i64 ((l.length : Nat) : Int)) rfl rfl rfl (run_lenL (p := q) (cap := d) (n := l.length) rfl Try.underlying23 (by kernel_rfl)) ?_
        refine vp (i := 20) (v := .bool true) rfl rfl rfl (run_bin rfl (vx := (.int .i64 ((i : Nat) : Int))) (vy := (.int .i64 ((l.length : Nat) : Int))) (by kernel_rfl) (by kernel_rfl) fun w => bn_geq (decide_eq_false (by assumption)) w) ?_
        refine vm (i := 21) (v := .bool true) rfl rfl rfl ?_
        refine vm (i := 22) (v := .slice p (l.length + 12) c) rfl rfl rfl ?_
        refine vm (i := 23) (v := .int .i64 ((i : Nat) : Int)) rfl rfl rfl ?_
        obtain ⟨y1, g1_, f1_, hy1, hp1, hc1⟩ := RL.at (RL.base HP.out) covC_len (by decide) (hW6.sub (fun _ h => by cases h)) (k := i) (by omega)
        refine vp (i := 24) (v := .pointer (some ⟨g1_, f1_ + i * 2, none⟩)) rfl rfl rfl (run_idxQ (p := p) (cap := c) (n := (l.length + 12)) (j := .i64) (k := i) (sz := 2) rfl Try.underlying23 (by kernel_rfl) (by kernel_rfl) hp1 (by kernel_rfl) (by omega)) ?_
        refine vb (i := 25) (v := .agg (covC y1).toArray) rfl rfl rfl (yb_rs (off := f1_ + i * 2) (cs := covC y1) rfl (by kernel_rfl) (fun W hW => hc1 W (hW.sub (fun _ h => by cases h))) Try.underlying51 rfl (by kernel_rfl)) ?_
        refine vm (i := 26) (v := .int .i64 ((i : Nat) : Int)) rfl rfl rfl ?_
        refine vm (i := 27) (v := .slice q l.length d) rfl rfl rfl ?_
        refine vp (i := 28) (v := .int .i64 ((l.length : Nat) : Int)) rfl rfl rfl (run_lenL (p := q) (cap := d) (n := l.length) rfl Try.underlying23 (by kernel_rfl)) ?_
        refine vp (i := 29) (v := .int .i64 (((i - l.length) : Nat) : Int)) rfl rfl rfl (run_bin rfl (vx := (.int .i64 ((i : Nat) : Int))) (vy := (.int .i64 ((l.length : Nat) : Int))) (by kernel_rfl) (by kernel_rfl) fun w => bn_sub (z := (i - l.length)) rfl (by omega) (wr_i64 (by omega)) w) ?_
        refine vv (i := 30) (v := .agg (covC (mkCov (i - l.length))).toArray) rfl rfl rfl (yb_call (f := 58) (args := #[.int .i64 1, .int .i64 (((i - l.length) : Nat) : Int)]) (fun _ => by kernel_rfl) fun W hW => markCover_any (i - l.length) (by omega) W) ?_
        refine vv (i := 31) (v := .bool true) rfl rfl rfl (yb_call (f := 77) (args := #[.agg (covC y1).toArray, .agg (covC (mkCov (i - l.length))).toArray]) (fun _ => by kernel_rfl) fun W hW => (by rw [markOA_at hy1 hX h2]; exact SameCover_any (mkCov (i - l.length)) none 0 (Nat.zero_le _) W (.inl rfl) (.inl rfl))) ?_
        refine vm (i := 32) (v := .bool false) rfl rfl rfl ?_
        refine vm (i := 33) (v := .bool false) rfl rfl rfl ?_
        refine vm (i := 34) (v := .bool false) rfl rfl rfl ?_
        refine wpV_done (by kernel_rfl) (fun W8 hW8 => ?_) _
        refine (show Code.wp _ _ _ _ _ from ?_)
        refine wp_cond_false rfl ?_
        refine wp_skip ?_
        refine (show Code.wp _ _ _ _ _ from ?_)
        refine wp_region_L (W0 := w) [] (hW8) ?_
        refine lm (v := .int .i64 ((i : Nat) : Int)) rfl rfl ?_
        refine lp (v := .int .i64 (((i + 1) : Nat) : Int)) rfl rfl (run_bin rfl (vx := (.int .i64 ((i : Nat) : Int))) (vy := (.int .i64 ((1 : Nat) : Int))) (by kernel_rfl) (by kernel_rfl) fun w => bn_add (z := (i + 1)) rfl (wr_i64 (by omega)) w) ?_
        refine lm (v := .int .i64 (((i + 1) : Nat) : Int)) rfl rfl ?_
        refine wpL_done (fun W9 hW9 => ?_)
        go_roundw
        case rel =>
          repeat apply Exists.intro
          exact ⟨⟨i + 1, (by omega), rfl, (hW9.sub (fun p hp => by first | exact hp | (simp only [List.mem_cons, List.mem_append, List.nil_append, List.not_mem_nil, or_assoc, or_false, false_or] at hp ⊢ <;> grind)))⟩, rfl⟩
        case measure => (show l.length + 12 - (intOf (.int .i64 (((i + 1) : Nat) : Int))).toNat < l.length + 12 - (intOf (.int .i64 ((i : Nat) : Int))).toNat); simp only [intOf]; omega
      | true =>
        have h2 : i < l.length := of_decide_eq_true hd2
        clear hd2
        refine vm (i := 5) (v := .slice p (l.length + 12) c) rfl rfl rfl ?_
        refine vm (i := 6) (v := .int .i64 ((i : Nat) : Int)) rfl rfl rfl ?_
        obtain ⟨y2, g2_, f2_, hy2, hp2, hc2⟩ := RL.at (RL.base HP.out) covC_len (by decide) (hW6.sub (fun _ h => by cases h)) (k := i) (by omega)
        refine vp (i := 7) (v := .pointer (some ⟨g2_, f2_ + i * 2, none⟩)) rfl rfl rfl (run_idxQ (p := p) (cap := c) (n := (l.length + 12)) (j := .i64) (k := i) (sz := 2) rfl Try.underlying23 (by kernel_rfl) (by kernel_rfl) hp2 (by kernel_rfl) (by omega)) ?_
        refine vb (i := 8) (v := .agg (covC y2).toArray) rfl rfl rfl (yb_rs (off := f2_ + i * 2) (cs := covC y2) rfl (by kernel_rfl) (fun W hW => hc2 W (hW.sub (fun _ h => by cases h))) Try.underlying51 rfl (by kernel_rfl)) ?_
        refine vm (i := 9) (v := .slice q l.length d) rfl rfl rfl ?_
        refine vm (i := 10) (v := .int .i64 ((i : Nat) : Int)) rfl rfl rfl ?_
        obtain ⟨y3, g3_, f3_, hy3, hp3, hc3⟩ := RL.at (RL.base HQ.out) covC_len (by decide) (hW6.sub (fun _ h => by cases h)) (k := i) (by omega)
        refine vp (i := 11) (v := .pointer (some ⟨g3_, f3_ + i * 2, none⟩)) rfl rfl rfl (run_idxQ (p := q) (cap := d) (n := l.length) (j := .i64) (k := i) (sz := 2) rfl Try.underlying23 (by kernel_rfl) (by kernel_rfl) hp3 (by kernel_rfl) (by omega)) ?_
        refine vb (i := 12) (v := .agg (covC y3).toArray) rfl rfl rfl (yb_rs (off := f3_ + i * 2) (cs := covC y3) rfl (by kernel_rfl) (fun W hW => hc3 W (hW.sub (fun _ h => by cases h))) Try.underlying51 rfl (by kernel_rfl)) ?_
        refine vv (i := 13) (v := .bool true) rfl rfl rfl (yb_call (f := 76) (args := #[.agg (covC y2).toArray, .agg (covC y3).toArray]) (fun _ => by kernel_rfl) fun W hW => (by obtain ⟨q7, d7, e7, n7, R7⟩ := lentOA_at HA.out hy2 hX hy3; rw [e7]; exact KeptCover_any y3 q7 d7 (lr y3 (List.mem_of_getElem? hy3)) n7 W ((HR.out y3 (List.mem_of_getElem? hy3)).keep hW.1) (R7.keep hW.1))) ?_
        refine vm (i := 14) (v := .bool false) rfl rfl rfl ?_
        refine vm (i := 15) (v := .bool false) rfl rfl rfl ?_
        refine vm (i := 16) (v := .bool false) rfl rfl rfl ?_
        refine vm (i := 17) (v := .int .i64 ((i : Nat) : Int)) rfl rfl rfl ?_
        refine vm (i := 18) (v := .slice q l.length d) rfl rfl rfl ?_
        refine vp (i := 19) (v := .int .i64 ((l.length : Nat) : Int)) rfl rfl rfl (run_lenL (p := q) (cap := d) (n := l.length) rfl Try.underlying23 (by kernel_rfl)) ?_
        refine vp (i := 20) (v := .bool false) rfl rfl rfl (run_bin rfl (vx := (.int .i64 ((i : Nat) : Int))) (vy := (.int .i64 ((l.length : Nat) : Int))) (by kernel_rfl) (by kernel_rfl) fun w => bn_geq (decide_eq_true (by assumption)) w) ?_
        refine vm (i := 21) (v := .bool false) rfl rfl rfl ?_
        refine vn (i := 22) rfl rfl ?_
        refine vn (i := 23) rfl rfl ?_
        refine vn (i := 24) rfl rfl ?_
        refine vn (i := 25) rfl rfl ?_
        refine vn (i := 26) rfl rfl ?_
        refine vn (i := 27) rfl rfl ?_
        refine vn (i := 28) rfl rfl ?_
        refine vn (i := 29) rfl rfl ?_
        refine vn (i := 30) rfl rfl ?_
        refine vn (i := 31) rfl rfl ?_
        refine vn (i := 32) rfl rfl ?_
        refine vm (i := 33) (v := .bool false) rfl rfl rfl ?_
        refine vm (i := 34) (v := .bool false) rfl rfl rfl ?_
        refine wpV_done (by kernel_rfl) (fun W10 hW10 => ?_) _
        refine (show Code.wp _ _ _ _ _ from ?_)
        refine wp_cond_false rfl ?_
        refine wp_skip ?_
        refine (show Code.wp _ _ _ _ _ from ?_)
        refine wp_region_L (W0 := w) [] (hW10) ?_
        refine lm (v := .int .i64 ((i : Nat) : Int)) rfl rfl ?_
        refine lp (v := .int .i64 (((i + 1) : Nat) : Int)) rfl rfl (run_bin rfl (vx := (.int .i64 ((i : Nat) : Int))) (vy := (.int .i64 ((1 : Nat) : Int))) (by kernel_rfl) (by kernel_rfl) fun w => bn_add (z := (i + 1)) rfl (wr_i64 (by omega)) w) ?_
        refine lm (v := .int .i64 (((i + 1) : Nat) : Int)) rfl rfl ?_
        refine wpL_done (fun W11 hW11 => ?_)
        go_roundw
        case rel =>
          repeat apply Exists.intro
          exact ⟨⟨i + 1, (by omega), rfl, (hW11.sub (fun p hp => by first | exact hp | (simp only [List.mem_cons, List.mem_append, List.nil_append, List.not_mem_nil, or_assoc, or_false, false_or] at hp ⊢ <;> grind)))⟩, rfl⟩
        case measure => (show l.length + 12 - (intOf (.int .i64 (((i + 1) : Nat) : Int))).toNat < l.length + 12 - (intOf (.int .i64 ((i : Nat) : Int))).toNat); simp only [intOf]; omega
set_option maxRecDepth 100000 in
set_option maxHeartbeats 4000000 in
theorem KeptColumns_any (l X : List Col) (p q : Option Addr) (c d : Nat) (hl : l.length ≤ 1000000) (lr : ∀ o ∈ l, o.plugs.length ≤ 1000000) (hX : X.length = l.length) (hc : l.length + 12 ≤ c) (w : World) (hp : SLV w p ((X ++ mkColL 12).flatMap colC)) (ha : LentCA w l X) (hq : SLV w q (l.flatMap colC)) (hr : PlR w l) : Calls Try.prog 46 #[.slice p l.length c, .slice q l.length d] w fun e w' => e = .returned (.bool true) ∧ Below w.heap.size w w' := by
  have HP := Lib.hid hp
  clear hp
  have HQ := Lib.hid hq
  clear hq
  have HA := Lib.hid ha
  clear ha
  have HR := Lib.hid hr
  clear hr
  have hlen : (X ++ mkColL 12).length = l.length + 12 := by rw [List.length_append, mkColL_len, hX]
  go_enter Try.func46, Try.ntmps46
  refine wp_seq ?_
  refine wp_region_L (W0 := w) [] (KS.start w) ?_
  refine lm (v := .bool false) rfl rfl ?_
  refine wpL_done (fun W1 hW1 => ?_)
  refine (show Code.wp _ _ _ _ _ from ?_)
  refine wp_seq ?_
  refine wp_seq ?_
  refine wp_region_L (W0 := w) [] (hW1) ?_
  refine lm (v := .slice p l.length c) rfl rfl ?_
  refine lp (v := .int .i64 ((l.length : Nat) : Int)) rfl rfl (run_lenL (p := p) (cap := c) (n := l.length) rfl Try.underlying22 (by kernel_rfl)) ?_
  refine lm (v := .slice q l.length d) rfl rfl ?_
  refine lp (v := .int .i64 ((l.length : Nat) : Int)) rfl rfl (run_lenL (p := q) (cap := d) (n := l.length) rfl Try.underlying22 (by kernel_rfl)) ?_
  refine lp (v := .bool false) rfl rfl (run_bin rfl (vx := (.int .i64 ((l.length : Nat) : Int))) (vy := (.int .i64 ((l.length : Nat) : Int))) (by kernel_rfl) (by kernel_rfl) fun w => bn_neq (decide_eq_true rfl) w) ?_
  refine wpL_done (fun W2 hW2 => ?_)
  refine (show Code.wp _ _ _ _ _ from ?_)
  refine wp_cond_false rfl ?_
  refine wp_skip ?_
  refine (show Code.wp _ _ _ _ _ from ?_)
  refine wp_seq ?_
  refine wp_region_L (W0 := w) [] (hW2) ?_
  refine lm (v := .slice p l.length c) rfl rfl ?_
  refine lm (v := .slice q l.length d) rfl rfl ?_
  refine lp (v := .int .i64 ((l.length : Nat) : Int)) rfl rfl (run_lenL (p := q) (cap := d) (n := l.length) rfl Try.underlying22 (by kernel_rfl)) ?_
  refine lp (v := .int .i64 (((l.length + 12) : Nat) : Int)) rfl rfl (run_bin rfl (vx := (.int .i64 ((l.length : Nat) : Int))) (vy := (.int .i64 ((12 : Nat) : Int))) (by kernel_rfl) (by kernel_rfl) fun w => bn_add (z := (l.length + 12)) rfl (wr_i64 (by omega)) w) ?_
  refine lp (v := .slice p (l.length + 12) c) rfl rfl (run_slt (kd := .i64) (j := (l.length + 12)) (n := l.length) (c := c) (sz := 12) rfl Try.underlying22 (by kernel_rfl) (by kernel_rfl) (by kernel_rfl) (by omega)) ?_
  refine lm (v := .slice p (l.length + 12) c) rfl rfl ?_
  refine wpL_done (fun W3 hW3 => ?_)
  refine (show Code.wp _ _ _ _ _ from ?_)
  refine wp_seq ?_
  refine wp_seq ?_
  refine wp_region_L (W0 := w) [] (hW3) ?_
  refine lm (v := .int .i64 0) rfl rfl ?_
  refine wpL_done (fun W4 hW4 => ?_)
  refine (show Code.wp _ _ _ _ _ from ?_)
  refine wp_block ?_
  go_loopw [6] (fun u6 wr => ∃ (i : Nat), (i ≤ l.length + 12) ∧ u6 = .int .i64 ((i : Nat) : Int) ∧ KS w [] wr) (fun u6 _ => l.length + 12 - (intOf u6).toNat)
  case atStart => exact ⟨0, (Nat.zero_le _), rfl, (hW4.sub (fun p hp => by first | exact hp | (simp only [List.mem_cons, List.mem_append, List.nil_append, List.not_mem_nil, or_assoc, or_false, false_or] at hp ⊢ <;> grind)))⟩
  case round =>
    obtain ⟨i, hi, rfl, hL5⟩ := hrel
    refine wp_seq ?_
    refine wp_seq ?_
    refine wp_region_L (W0 := w) [] (hL5) ?_
    refine lm (v := .int .i64 ((i : Nat) : Int)) rfl rfl ?_
    refine lm (v := .slice p (l.length + 12) c) rfl rfl ?_
    refine lp (v := .int .i64 (((l.length + 12) : Nat) : Int)) rfl rfl (run_lenL (p := p) (cap := c) (n := (l.length + 12)) rfl Try.underlying22 (by kernel_rfl)) ?_
    refine lp (v := .bool (decide (i < (l.length + 12)))) rfl rfl (run_bin rfl (vx := (.int .i64 ((i : Nat) : Int))) (vy := (.int .i64 (((l.length + 12) : Nat) : Int))) (by kernel_rfl) (by kernel_rfl) fun w => bn_lss rfl w) ?_
    refine wpL_done (fun W6 hW6 => ?_)
    refine (show Code.wp _ _ _ _ _ from ?_)
    cases hd1 : (decide (i < (l.length + 12))) with
    | false =>
      have h1 : ¬ (i < (l.length + 12)) := of_decide_eq_false hd1
      clear hd1
      refine wp_cond_false rfl ?_
      refine wp_exit ?_
      refine (show Code.wp _ _ _ _ _ from ?_)
      refine wp_seq ?_
      refine wp_region_L (W0 := w) [] (hW6) ?_
      refine lm (v := .bool true) rfl rfl ?_
      refine wpL_done (fun W7 hW7 => ?_)
      refine (show Code.wp _ _ _ _ _ from ?_)
      refine wp_ret ?_
      try simp only [inBlock_ret, then_ret]
      refine bodyPost_ret (v := .bool true) ?_ rfl ?_
      · kernel_rfl
      · exact ⟨rfl, hW7.1⟩
    | true =>
      have h1 : i < (l.length + 12) := of_decide_eq_true hd1
      clear hd1
      refine wp_cond_true rfl ?_
      refine wp_skip ?_
      refine (show Code.wp _ _ _ _ _ from ?_)
      refine wp_seq ?_
      refine wp_block ?_
      refine wp_seq ?_
      refine wp_region_V (W0 := w) [] (by kernel_rfl) (hW6) ?_
      refine vm (i := 0) (v := .int .i64 ((i : Nat) : Int)) rfl rfl rfl ?_
      refine vm (i := 1) (v := .slice q l.length d) rfl rfl rfl ?_
      refine vp (i := 2) (v := .int .i64 ((l.length : Nat) : Int)) rfl rfl rfl (run_lenL (p := q) (cap := d) (n := l.length) rfl Try.underlying22 (by kernel_rfl)) ?_
      refine vp (i := 3) (v := .bool (decide (i < l.length))) rfl rfl rfl (run_bin rfl (vx := (.int .i64 ((i : Nat) : Int))) (vy := (.int .i64 ((l.length : Nat) : Int))) (by kernel_rfl) (by kernel_rfl) fun w => bn_lss rfl w) ?_
      refine vm (i := 4) (v := .bool (decide (i < l.length))) rfl rfl rfl ?_
      cases hd2 : (decide (i < l.length)) with
      | false =>
        have h2 : ¬ (i < l.length) := of_decide_eq_false hd2
        clear hd2
        refine vn (i := 5) rfl rfl ?_
        refine vn (i := 6) rfl rfl ?_
        refine vn (i := 7) rfl rfl ?_
        refine vn (i := 8) rfl rfl ?_
        refine vn (i := 9) rfl rfl ?_
        refine vn (i := 10) rfl rfl ?_
        refine vn (i := 11) rfl rfl ?_
        refine vn (i := 12) rfl rfl ?_
        refine vn (i := 13) rfl rfl ?_
        refine vn (i := 14) rfl rfl ?_
        refine vm (i := 15) (v := .bool false) rfl rfl rfl ?_
        refine vm (i := 16) (v := .bool false) rfl rfl rfl ?_
        refine vm (i := 17) (v := .int .i64 ((i : Nat) : Int)) rfl rfl rfl ?_
        refine vm (i := 18) (v := .slice q l.length d) rfl rfl rfl ?_
        refine vp (i := 19) (v := .int .i64 ((l.length : Nat) : Int)) rfl rfl rfl (run_lenL (p := q) (cap := d) (n := l.length) rfl Try.underlying22 (by kernel_rfl)) ?_
        refine vp (i := 20) (v := .bool true) rfl rfl rfl (run_bin rfl (vx := (.int .i64 ((i : Nat) : Int))) (vy := (.int .i64 ((l.length : Nat) : Int))) (by kernel_rfl) (by kernel_rfl) fun w => bn_geq (decide_eq_false (by assumption)) w) ?_
        refine vm (i := 21) (v := .bool true) rfl rfl rfl ?_
        refine vm (i := 22) (v := .slice p (l.length + 12) c) rfl rfl rfl ?_
        refine vm (i := 23) (v := .int .i64 ((i : Nat) : Int)) rfl rfl rfl ?_
        obtain ⟨y1, g1_, f1_, hy1, hp1, hc1⟩ := RL.at (RL.base HP.out) colC_len (by decide) (hW6.sub (fun _ h => by cases h)) (k := i) (by omega)
        refine vp (i := 24) (v := .pointer (some ⟨g1_, f1_ + i * 12, none⟩)) rfl rfl rfl (run_idxQ (p := p) (cap := c) (n := (l.length + 12)) (j := .i64) (k := i) (sz := 12) rfl Try.underlying22 (by kernel_rfl) (by kernel_rfl) hp1 (by kernel_rfl) (by omega)) ?_
        refine vb (i := 25) (v := .agg (colC y1).toArray) rfl rfl rfl (yb_rs (off := f1_ + i * 12) (cs := colC y1) rfl (by kernel_rfl) (fun W hW => hc1 W (hW.sub (fun _ h => by cases h))) Try.underlying49 rfl (by kernel_rfl)) ?_
        refine vm (i := 26) (v := .int .i64 ((i : Nat) : Int)) rfl rfl rfl ?_
        refine vm (i := 27) (v := .slice q l.length d) rfl rfl rfl ?_
        refine vp (i := 28) (v := .int .i64 ((l.length : Nat) : Int)) rfl rfl rfl (run_lenL (p := q) (cap := d) (n := l.length) rfl Try.underlying22 (by kernel_rfl)) ?_
        refine vp (i := 29) (v := .int .i64 (((i - l.length) : Nat) : Int)) rfl rfl rfl (run_bin rfl (vx := (.int .i64 ((i : Nat) : Int))) (vy := (.int .i64 ((l.length : Nat) : Int))) (by kernel_rfl) (by kernel_rfl) fun w => bn_sub (z := (i - l.length)) rfl (by omega) (wr_i64 (by omega)) w) ?_
        refine vv (i := 30) (v := .agg (colC (mkCol (i - l.length))).toArray) rfl rfl rfl (yb_call (f := 56) (args := #[.int .i64 1, .int .i64 (((i - l.length) : Nat) : Int)]) (fun _ => by kernel_rfl) fun W hW => markColumn_any (i - l.length) (by omega) W) ?_
        refine vv (i := 31) (v := .bool true) rfl rfl rfl (yb_call (f := 75) (args := #[.agg (colC y1).toArray, .agg (colC (mkCol (i - l.length))).toArray]) (fun _ => by kernel_rfl) fun W hW => (by rw [markCA_at hy1 hX h2]; exact SameColumn_any (mkCol (i - l.length)) none 0 (Nat.zero_le _) W (.inl rfl) (.inl rfl))) ?_
        refine vm (i := 32) (v := .bool false) rfl rfl rfl ?_
        refine vm (i := 33) (v := .bool false) rfl rfl rfl ?_
        refine vm (i := 34) (v := .bool false) rfl rfl rfl ?_
        refine wpV_done (by kernel_rfl) (fun W8 hW8 => ?_) _
        refine (show Code.wp _ _ _ _ _ from ?_)
        refine wp_cond_false rfl ?_
        refine wp_skip ?_
        refine (show Code.wp _ _ _ _ _ from ?_)
        refine wp_region_L (W0 := w) [] (hW8) ?_
        refine lm (v := .int .i64 ((i : Nat) : Int)) rfl rfl ?_
        refine lp (v := .int .i64 (((i + 1) : Nat) : Int)) rfl rfl (run_bin rfl (vx := (.int .i64 ((i : Nat) : Int))) (vy := (.int .i64 ((1 : Nat) : Int))) (by kernel_rfl) (by kernel_rfl) fun w => bn_add (z := (i + 1)) rfl (wr_i64 (by omega)) w) ?_
        refine lm (v := .int .i64 (((i + 1) : Nat) : Int)) rfl rfl ?_
        refine wpL_done (fun W9 hW9 => ?_)
        go_roundw
        case rel =>
          repeat apply Exists.intro
          exact ⟨⟨i + 1, (by omega), rfl, (hW9.sub (fun p hp => by first | exact hp | (simp only [List.mem_cons, List.mem_append, List.nil_append, List.not_mem_nil, or_assoc, or_false, false_or] at hp ⊢ <;> grind)))⟩, rfl⟩
        case measure => (show l.length + 12 - (intOf (.int .i64 (((i + 1) : Nat) : Int))).toNat < l.length + 12 - (intOf (.int .i64 ((i : Nat) : Int))).toNat); simp only [intOf]; omega
      | true =>
        have h2 : i < l.length := of_decide_eq_true hd2
        clear hd2
        refine vm (i := 5) (v := .slice p (l.length + 12) c) rfl rfl rfl ?_
        refine vm (i := 6) (v := .int .i64 ((i : Nat) : Int)) rfl rfl rfl ?_
        obtain ⟨y2, g2_, f2_, hy2, hp2, hc2⟩ := RL.at (RL.base HP.out) colC_len (by decide) (hW6.sub (fun _ h => by cases h)) (k := i) (by omega)
        refine vp (i := 7) (v := .pointer (some ⟨g2_, f2_ + i * 12, none⟩)) rfl rfl rfl (run_idxQ (p := p) (cap := c) (n := (l.length + 12)) (j := .i64) (k := i) (sz := 12) rfl Try.underlying22 (by kernel_rfl) (by kernel_rfl) hp2 (by kernel_rfl) (by omega)) ?_
        refine vb (i := 8) (v := .agg (colC y2).toArray) rfl rfl rfl (yb_rs (off := f2_ + i * 12) (cs := colC y2) rfl (by kernel_rfl) (fun W hW => hc2 W (hW.sub (fun _ h => by cases h))) Try.underlying49 rfl (by kernel_rfl)) ?_
        refine vm (i := 9) (v := .slice q l.length d) rfl rfl rfl ?_
        refine vm (i := 10) (v := .int .i64 ((i : Nat) : Int)) rfl rfl rfl ?_
        obtain ⟨y3, g3_, f3_, hy3, hp3, hc3⟩ := RL.at (RL.base HQ.out) colC_len (by decide) (hW6.sub (fun _ h => by cases h)) (k := i) (by omega)
        refine vp (i := 11) (v := .pointer (some ⟨g3_, f3_ + i * 12, none⟩)) rfl rfl rfl (run_idxQ (p := q) (cap := d) (n := l.length) (j := .i64) (k := i) (sz := 12) rfl Try.underlying22 (by kernel_rfl) (by kernel_rfl) hp3 (by kernel_rfl) (by omega)) ?_
        refine vb (i := 12) (v := .agg (colC y3).toArray) rfl rfl rfl (yb_rs (off := f3_ + i * 12) (cs := colC y3) rfl (by kernel_rfl) (fun W hW => hc3 W (hW.sub (fun _ h => by cases h))) Try.underlying49 rfl (by kernel_rfl)) ?_
        refine vv (i := 13) (v := .bool true) rfl rfl rfl (yb_call (f := 74) (args := #[.agg (colC y2).toArray, .agg (colC y3).toArray]) (fun _ => by kernel_rfl) fun W hW => (by obtain ⟨q7, d7, e7, n7, R7⟩ := lentCA_at HA.out hy2 hX hy3; rw [e7]; exact KeptColumn_any y3 q7 d7 (lr y3 (List.mem_of_getElem? hy3)) n7 W ((HR.out y3 (List.mem_of_getElem? hy3)).keep hW.1) (R7.keep hW.1))) ?_
        refine vm (i := 14) (v := .bool false) rfl rfl rfl ?_
        refine vm (i := 15) (v := .bool false) rfl rfl rfl ?_
        refine vm (i := 16) (v := .bool false) rfl rfl rfl ?_
        refine vm (i := 17) (v := .int .i64 ((i : Nat) : Int)) rfl rfl rfl ?_
        refine vm (i := 18) (v := .slice q l.length d) rfl rfl rfl ?_
        refine vp (i := 19) (v := .int .i64 ((l.length : Nat) : Int)) rfl rfl rfl (run_lenL (p := q) (cap := d) (n := l.length) rfl Try.underlying22 (by kernel_rfl)) ?_
        refine vp (i := 20) (v := .bool false) rfl rfl rfl (run_bin rfl (vx := (.int .i64 ((i : Nat) : Int))) (vy := (.int .i64 ((l.length : Nat) : Int))) (by kernel_rfl) (by kernel_rfl) fun w => bn_geq (decide_eq_true (by assumption)) w) ?_
        refine vm (i := 21) (v := .bool false) rfl rfl rfl ?_
        refine vn (i := 22) rfl rfl ?_
        refine vn (i := 23) rfl rfl ?_
        refine vn (i := 24) rfl rfl ?_
        refine vn (i := 25) rfl rfl ?_
        refine vn (i := 26) rfl rfl ?_
        refine vn (i := 27) rfl rfl ?_
        refine vn (i := 28) rfl rfl ?_
        refine vn (i := 29) rfl rfl ?_
        refine vn (i := 30) rfl rfl ?_
        refine vn (i := 31) rfl rfl ?_
        refine vn (i := 32) rfl rfl ?_
        refine vm (i := 33) (v := .bool false) rfl rfl rfl ?_
        refine vm (i := 34) (v := .bool false) rfl rfl rfl ?_
        refine wpV_done (by kernel_rfl) (fun W10 hW10 => ?_) _
        refine (show Code.wp _ _ _ _ _ from ?_)
        refine wp_cond_false rfl ?_
        refine wp_skip ?_
        refine (show Code.wp _ _ _ _ _ from ?_)
        refine wp_region_L (W0 := w) [] (hW10) ?_
        refine lm (v := .int .i64 ((i : Nat) : Int)) rfl rfl ?_
        refine lp (v := .int .i64 (((i + 1) : Nat) : Int)) rfl rfl (run_bin rfl (vx := (.int .i64 ((i : Nat) : Int))) (vy := (.int .i64 ((1 : Nat) : Int))) (by kernel_rfl) (by kernel_rfl) fun w => bn_add (z := (i + 1)) rfl (wr_i64 (by omega)) w) ?_
        refine lm (v := .int .i64 (((i + 1) : Nat) : Int)) rfl rfl ?_
        refine wpL_done (fun W11 hW11 => ?_)
        go_roundw
        case rel =>
          repeat apply Exists.intro
          exact ⟨⟨i + 1, (by omega), rfl, (hW11.sub (fun p hp => by first | exact hp | (simp only [List.mem_cons, List.mem_append, List.nil_append, List.not_mem_nil, or_assoc, or_false, false_or] at hp ⊢ <;> grind)))⟩, rfl⟩
        case measure => (show l.length + 12 - (intOf (.int .i64 (((i + 1) : Nat) : Int))).toNat < l.length + 12 - (intOf (.int .i64 ((i : Nat) : Int))).toNat); simp only [intOf]; omega
end Go.Proofs.Ythpooalhibedpaa
