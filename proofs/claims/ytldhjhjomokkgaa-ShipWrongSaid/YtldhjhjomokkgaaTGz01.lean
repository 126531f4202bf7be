import Derived.Test.YtldhjhjomokkgaaTGz00
import Derived.Test.YtldhjhjomokkgaaG03
/- Part of the proof: TG. -/
set_option linter.unusedVariables false
set_option linter.unusedSimpArgs false
set_option linter.unusedSectionVars false
namespace Go.Proofs.Ytldhjhjomokkgaa
open Go Go.RowKit Tw
set_option maxRecDepth 100000 in
set_option maxHeartbeats 40000000 in
theorem ShipWrong_law (l : List Pl) (p : Option Addr) (c : Nat) (n : Nat) (hl : l.length ≤ 9223372036854775807) (hcap : l.length ≤ c) (hok : ∀ y ∈ l, plOk y) (hn : n ≤ 4294967295) (a b : Nat) (v : Int) (ha : a ≤ 255) (hb : b ≤ 255) (hv : -9223372036854775808 ≤ v ∧ v ≤ 9223372036854775807) (w : World) (hp : SLV w p (l.flatMap plC)) : Calls Try.prog 8 #[.slice p l.length c, .int .u32 ((n : Nat) : Int), .int .u8 ((a : Nat) : Int), .int .u8 ((b : Nat) : Int), .int .i64 v] w fun e w' => e = .returned (.bool true) ∧ Below w.heap.size w w' := by
  have HP := Lib.hid hp
  clear hp
  obtain ⟨cs, hcs⟩ : ∃ cs, builtC l = cs := ⟨_, rfl⟩
  have hg : Good cs := hcs ▸ built_good l
  obtain ⟨h0, h12⟩ : 0 < cs.length ∧ cs.length ≤ 12 := hcs ▸ built_len l
  obtain ⟨k, hk⟩ : ∃ k, a % cs.length = k := ⟨_, rfl⟩
  have hkl : k < cs.length := by rw [← hk]; exact Nat.mod_lt _ h0
  obtain ⟨ck, hck, hxk⟩ := good_at hg hkl
  have hzk := colx_in hxk
  obtain ⟨wy, hwy⟩ : ∃ wy, b % 14 = wy := ⟨_, rfl⟩
  have hw14 : wy < 14 := by rw [← hwy]; exact Nat.mod_lt _ (by omega)
  have hlo : min v (-1) < 0 := by omega
  go_enter Try.func8, Try.ntmps8
  refine wp_seq ?_
  refine wp_region_L (W0 := w) [] (KS.start w) ?_
  refine lm (v := .bool false) rfl rfl ?_
  refine wpL_done (fun W1 hW1 => ?_)
  refine (show Code.wp _ _ _ _ _ from ?_)
  refine wp_seq ?_
  refine wp_region_L (W0 := w) [] (hW1) ?_
  refine lm (v := .slice p l.length c) rfl rfl ?_
  refine lm (v := .int .u32 ((n : Nat) : Int)) rfl rfl ?_
  refine wpL_c (f := 31) (args := #[.slice p l.length c, .int .u32 ((n : Nat) : Int)]) (ShipT w cs (builtO n)) rfl (by kernel_rfl) (fun _ => (by kernel_rfl)) (fun W hW => (by have h9 := Built_any l p c n hl hcap hok hn (RL.base HP.out) W hW; rw [hcs] at h9; exact h9)) (fun _ => by simp only [List.setIfInBounds_toArray, List.set_cons_succ, List.set_cons_zero] <;> rfl) ?_
  rintro _ TS ⟨pcS, ccS, osS, poS, coS, rfl, hccS, hcoS, hCS, hOS, hRS, hMS⟩
  refine wpL_rebase fun WB hWB => ?_
  have HCS := Lib.hid (hCS WB hWB)
  have HOS := Lib.hid (hOS WB hWB)
  have HRS := Lib.hid (hRS WB hWB)
  clear hCS hOS hRS
  have hoS : GoodO (osS.map fun o => (o.bay, o.rows)) := by rw [hMS]; exact builtO_sub n
  have lrS := goodO_rows hoS
  have HPS := Lib.hid ((good_plugs hg).1 WB)
  have lpS := (good_plugs hg).2
  have loS : osS.length ≤ 10 := by have h8 := congrArg List.length hMS; rw [List.length_map] at h8; have h9 := builtO_len n; omega
  refine wpL_new (fun g => .pointer (some ⟨g, 0, none⟩)) (obi := .cells (shC (.slice none 0 0) (.slice none 0 0) tl0).toArray 32 (0, 0)) rfl rfl (fun _ => by kernel_rfl) (fun _ => by simp only [List.setIfInBounds_toArray, List.set_cons_succ, List.set_cons_zero] <;> rfl) fun g1 Bg1 Fg1 => ?_
  refine wpL_s [(g1, .cells (shC (.slice pcS cs.length ccS) (.slice poS osS.length coS) tl0).toArray 32 (0, 0))] rfl rfl (st_row (off := 0) (v := .agg (shC (.slice pcS cs.length ccS) (.slice poS osS.length coS) tl0).toArray) rfl (by kernel_rfl) (by kernel_rfl) (.head _) Bg1 (by kernel_rfl) (by first | (simp [Value.cells]; done) | exact Nat.le_of_ble_eq_true rfl) (fun v hv => shC_one v hv) (by kernel_rfl) (List.forall_mem_cons.2 ⟨.inl rfl, (List.forall_mem_nil _)⟩)) ?_
  refine wpL_done (fun W2 hW2 => ?_)
  refine (show Code.wp _ _ _ _ _ from ?_)
  refine wp_seq ?_
  refine wp_region_L (W0 := WB) [(g1, .cells (shC (.slice pcS cs.length ccS) (.slice poS osS.length coS) tl0).toArray 32 (0, 0))] (hW2) ?_
  refine lm (v := .int .u8 ((a : Nat) : Int)) rfl rfl ?_
  refine lp (v := .int .i64 ((a : Nat) : Int)) rfl rfl (run_conv rfl (vx := (.int .u8 ((a : Nat) : Int))) (by kernel_rfl) fun w => cv_int Try.underlying5 Try.underlying3 (wr_i64 (by omega)) w) ?_
  refine lm (v := .pointer (some ⟨g1, 0, none⟩)) rfl rfl ?_
  refine lv (v := .slice pcS cs.length ccS) rfl rfl (yb_cell (off := 0) rfl (by kernel_rfl) (.head _) Try.underlying22 rfl (by kernel_rfl)) ?_
  refine lp (v := .int .i64 ((cs.length : Nat) : Int)) rfl rfl (run_lenL (p := pcS) (cap := ccS) (n := cs.length) rfl Try.underlying22 (by kernel_rfl)) ?_
  refine lp (v := .int .i64 ((k : Nat) : Int)) rfl rfl (run_bin rfl (vx := (.int .i64 ((a : Nat) : Int))) (vy := (.int .i64 ((cs.length : Nat) : Int))) (by kernel_rfl) (by kernel_rfl) fun w => bn_rem (z := k) hk (by omega) w) ?_
  refine lm (v := .int .i64 ((k : Nat) : Int)) rfl rfl ?_
  refine wpL_done (fun W3 hW3 => ?_)
  refine (show Code.wp _ _ _ _ _ from ?_)
  refine wp_seq ?_
  refine wp_region_L (W0 := WB) [(g1, .cells (shC (.slice pcS cs.length ccS) (.slice poS osS.length coS) tl0).toArray 32 (0, 0))] (hW3) ?_
  refine wpL_new (fun g => .slice (some ⟨g, 0, none⟩) 0 0) (obi := .cells #[] 53 (0, 0)) rfl rfl (fun _ => by kernel_rfl) (fun _ => by simp only [List.setIfInBounds_toArray, List.set_cons_succ, List.set_cons_zero] <;> rfl) fun g2 Bg2 Fg2 => ?_
  obtain dj3_0 : g1 ≠ g2 := by simpa only [dj_app_l, dj_app_r, dj_cons_l, dj_cons_r, dj_nil_l, dj_nil_r, dk_app, dk_cons, dk_nil, and_true, true_and, and_assoc] using (show Dk g2 [(g1, .cells (shC (.slice pcS cs.length ccS) (.slice poS osS.length coS) tl0).toArray 32 (0, 0))] from Fg2)
  refine lm (v := .pointer (some ⟨g1, 0, none⟩)) rfl rfl ?_
  refine lv (v := .slice pcS cs.length ccS) rfl rfl (yb_cell (off := 0) rfl (by kernel_rfl) (.tail _ (.head _)) Try.underlying22 rfl (by kernel_rfl)) ?_
  refine wpL_g (AppO WB 53 12 [(g1, .cells (shC (.slice pcS cs.length ccS) (.slice poS osS.length coS) tl0).toArray 32 (0, 0))] (0 + cs.length) ((([] : List Col).flatMap colC) ++ (cs.flatMap colC))) rfl rfl (app_any el_col (m := cs.length) (news := (cs.flatMap colC)) (y := .slice pcS cs.length ccS) rfl (by kernel_rfl) (by kernel_rfl) (src_rl (c := ccS) Try.underlying22 colC_len colC_one (by decide) ((RL.base HCS.out).mono (fun _ h => by cases h)) rfl) (own_rnone (cells := colC) Bg2) (fun p hp => by cases List.mem_singleton.1 hp; exact (.head _)) (fun p hp => ⟨by simp only [List.mem_cons, List.mem_append, List.nil_append, List.not_mem_nil, or_assoc, or_false, false_or] at hp ⊢ <;> grind, (show Dj [(g1, .cells (shC (.slice pcS cs.length ccS) (.slice poS osS.length coS) tl0).toArray 32 (0, 0))] [(g2, .cells #[] 53 (0, 0))] from (by (try simp only [dj_app_l, dj_app_r, dj_cons_l, dj_cons_r, dj_nil_l, dj_nil_r, dk_app, dk_cons, dk_nil, and_true, true_and, and_assoc]); repeat' (first | trivial | assumption | exact Dj.symm (by assumption) | exact Ne.symm (by assumption) | apply And.intro))) p hp⟩) (by omega) (by omega)) (fun _ => by simp only [List.setIfInBounds_toArray, List.set_cons_succ, List.set_cons_zero] <;> rfl) ?_
  rintro v4 K9 ⟨Kl4, O4, N4, rfl⟩
  obtain dj5_0 : Dk g1 Kl4 := by simpa only [dj_app_l, dj_app_r, dj_cons_l, dj_cons_r, dj_nil_l, dj_nil_r, dk_app, dk_cons, dk_nil, and_true, true_and, and_assoc] using (show Dj [(g1, .cells (shC (.slice pcS cs.length ccS) (.slice poS osS.length coS) tl0).toArray 32 (0, 0))] Kl4 from N4)
  refine lm (v := v4) rfl rfl ?_
  refine wpL_done (fun W4 hW4 => ?_)
  refine (show Code.wp _ _ _ _ _ from ?_)
  refine wp_seq ?_
  refine wp_region_L (W0 := WB) ((g1, .cells (shC (.slice pcS cs.length ccS) (.slice poS osS.length coS) tl0).toArray 32 (0, 0)) :: Kl4) (hW4) ?_
  refine lm (v := v4) rfl rfl ?_
  refine lm (v := .pointer (some ⟨g1, 0, none⟩)) rfl rfl ?_
  have Ox := own_app (cells := colC) (l' := cs) O4 (by simp only [List.flatMap_nil, List.nil_append]) (by omega)
  obtain ⟨g6, cap6, cur6, rfl, hcap6, hBg6, hr6, hsz6, rfl⟩ := own_open Ox h0
  have gn6g1 : g6 ≠ g1 := by simpa only [dk_cons, dk_nil, and_true] using (show Dk g1 [(g6, .cells cur6 53 (0, 0))] from by assumption)
  refine wpL_s [(g1, .cells (shC (.slice (some ⟨g6, 0, none⟩) cs.length cap6) (.slice poS osS.length coS) tl0).toArray 32 (0, 0)), (g6, .cells cur6 53 (0, 0))] rfl rfl (st_row (off := 0) (v := .slice (some ⟨g6, 0, none⟩) cs.length cap6) rfl (by kernel_rfl) (by kernel_rfl) (.head _) Bg1 (by kernel_rfl) (by first | (simp [Value.cells]; done) | exact Nat.le_of_ble_eq_true rfl) (by intro v hv; simp [Value.cells] at hv; first | (subst hv; rfl) | (rcases hv with rfl <;> rfl)) (by kernel_rfl) (List.forall_mem_cons.2 ⟨.inl rfl, (List.forall_mem_cons.2 ⟨.inr ⟨(.tail _ (.head _)), (by first | assumption | exact Ne.symm (by assumption))⟩, (List.forall_mem_nil _)⟩)⟩)) ?_
  refine wpL_done (fun W5 hW5 => ?_)
  refine (show Code.wp _ _ _ _ _ from ?_)
  refine wp_seq ?_
  refine wp_region_L (W0 := WB) [(g1, .cells (shC (.slice (some ⟨g6, 0, none⟩) cs.length cap6) (.slice poS osS.length coS) tl0).toArray 32 (0, 0)), (g6, .cells cur6 53 (0, 0))] (hW5) ?_
  refine lm (v := .slice (some ⟨g6, 0, none⟩) cs.length cap6) rfl rfl ?_
  refine lm (v := .int .i64 ((k : Nat) : Int)) rfl rfl ?_
  refine lp (v := .pointer (some ⟨g6, 0 + k * 12, none⟩)) rfl rfl (run_idxL (j := .i64) (n := cs.length) (cap := cap6) (b := g6) (off := 0) (k := k) (sz := 12) rfl Try.underlying22 (by kernel_rfl) (by kernel_rfl) (by kernel_rfl) (by omega)) ?_
  refine lm (v := .pointer (some ⟨g6, 0 + k * 12, none⟩)) rfl rfl ?_
  refine wpL_done (fun W6 hW6 => ?_)
  refine (show Code.wp _ _ _ _ _ from ?_)
  refine wp_seq ?_
  refine wp_region_L (W0 := WB) [(g1, .cells (shC (.slice (some ⟨g6, 0, none⟩) cs.length cap6) (.slice poS osS.length coS) tl0).toArray 32 (0, 0)), (g6, .cells cur6 53 (0, 0))] (hW6) ?_
  refine lm (v := .int .i64 v) rfl rfl ?_
  refine lp (v := .int .i64 (max v 0)) rfl rfl (run_max2 (x := v) (y := 0) (z := (max v 0)) rfl (by kernel_rfl) (by kernel_rfl) rfl) ?_
  refine lm (v := .int .i64 v) rfl rfl ?_
  refine lp (v := .int .i64 (min v (-1))) rfl rfl (run_min2 (x := v) (y := (-1)) (z := (min v (-1))) rfl (by kernel_rfl) (by kernel_rfl) rfl) ?_
  refine lm (v := .int .i64 (max v 0)) rfl rfl ?_
  refine lm (v := .int .i64 (min v (-1))) rfl rfl ?_
  refine wpL_done (fun W7 hW7 => ?_)
  refine (show Code.wp _ _ _ _ _ from ?_)
  refine wp_seq ?_
  refine wp_seq ?_
  refine wp_region_L (W0 := WB) [(g1, .cells (shC (.slice (some ⟨g6, 0, none⟩) cs.length cap6) (.slice poS osS.length coS) tl0).toArray 32 (0, 0)), (g6, .cells cur6 53 (0, 0))] (hW7) ?_
  refine lm (v := .int .u8 ((b : Nat) : Int)) rfl rfl ?_
  refine lp (v := .int .u8 ((wy : Nat) : Int)) rfl rfl (run_bin rfl (vx := (.int .u8 ((b : Nat) : Int))) (vy := (.int .u8 ((14 : Nat) : Int))) (by kernel_rfl) (by kernel_rfl) fun w => bn_rem (z := wy) hwy (by omega) w) ?_
  refine wpL_done (fun W8 hW8 => ?_)
  refine (show Code.wp _ _ _ _ _ from ?_)
  refine wp_block ?_
  refine wp_seq ?_
  refine wp_region_L (W0 := WB) [(g1, .cells (shC (.slice (some ⟨g6, 0, none⟩) cs.length cap6) (.slice poS osS.length coS) tl0).toArray 32 (0, 0)), (g6, .cells cur6 53 (0, 0))] (hW8) ?_
  refine lp (v := .bool (decide (wy = 0))) rfl rfl (run_bin rfl (vx := (.int .u8 ((wy : Nat) : Int))) (vy := (.int .u8 ((0 : Nat) : Int))) (by kernel_rfl) (by kernel_rfl) fun w => bn_eql rfl w) ?_
  refine lm (v := .bool (decide (wy = 0))) rfl rfl ?_
  refine wpL_done (fun W9 hW9 => ?_)
  refine (show Code.wp _ _ _ _ _ from ?_)
  cases hd1 : (decide (wy = 0)) with
  | false =>
    have h1 : ¬ (wy = 0) := of_decide_eq_false hd1
    clear hd1
    refine wp_cond_false rfl ?_
    refine wp_seq ?_
    refine wp_region_L (W0 := WB) [(g1, .cells (shC (.slice (some ⟨g6, 0, none⟩) cs.length cap6) (.slice poS osS.length coS) tl0).toArray 32 (0, 0)), (g6, .cells cur6 53 (0, 0))] (hW9) ?_
    refine lp (v := .bool (decide (wy = 1))) rfl rfl (run_bin rfl (vx := (.int .u8 ((wy : Nat) : Int))) (vy := (.int .u8 ((1 : Nat) : Int))) (by kernel_rfl) (by kernel_rfl) fun w => bn_eql rfl w) ?_
    refine lm (v := .bool (decide (wy = 1))) rfl rfl ?_
    refine wpL_done (fun W10 hW10 => ?_)
    refine (show Code.wp _ _ _ _ _ from ?_)
    cases hd2 : (decide (wy = 1)) with
    | false =>
      have h2 : ¬ (wy = 1) := of_decide_eq_false hd2
      clear hd2
      refine wp_cond_false rfl ?_
      refine wp_seq ?_
      refine wp_region_L (W0 := WB) [(g1, .cells (shC (.slice (some ⟨g6, 0, none⟩) cs.length cap6) (.slice poS osS.length coS) tl0).toArray 32 (0, 0)), (g6, .cells cur6 53 (0, 0))] (hW10) ?_
      refine lp (v := .bool (decide (wy = 2))) rfl rfl (run_bin rfl (vx := (.int .u8 ((wy : Nat) : Int))) (vy := (.int .u8 ((2 : Nat) : Int))) (by kernel_rfl) (by kernel_rfl) fun w => bn_eql rfl w) ?_
      refine lm (v := .bool (decide (wy = 2))) rfl rfl ?_
      refine wpL_done (fun W11 hW11 => ?_)
      refine (show Code.wp _ _ _ _ _ from ?_)
      cases hd3 : (decide (wy = 2)) with
      | false =>
        have h3 : ¬ (wy = 2) := of_decide_eq_false hd3
        clear hd3
        refine wp_cond_false rfl ?_
        refine wp_seq ?_
        refine wp_region_L (W0 := WB) [(g1, .cells (shC (.slice (some ⟨g6, 0, none⟩) cs.length cap6) (.slice poS osS.length coS) tl0).toArray 32 (0, 0)), (g6, .cells cur6 53 (0, 0))] (hW11) ?_
        refine lp (v := .bool (decide (wy = 3))) rfl rfl (run_bin rfl (vx := (.int .u8 ((wy : Nat) : Int))) (vy := (.int .u8 ((3 : Nat) : Int))) (by kernel_rfl) (by kernel_rfl) fun w => bn_eql rfl w) ?_
        refine lm (v := .bool (decide (wy = 3))) rfl rfl ?_
        refine wpL_done (fun W12 hW12 => ?_)
        refine (show Code.wp _ _ _ _ _ from ?_)
        cases hd4 : (decide (wy = 3)) with
        | false =>
          have h4 : ¬ (wy = 3) := of_decide_eq_false hd4
          clear hd4
          refine wp_cond_false rfl ?_
          refine wp_seq ?_
          refine wp_region_L (W0 := WB) [(g1, .cells (shC (.slice (some ⟨g6, 0, none⟩) cs.length cap6) (.slice poS osS.length coS) tl0).toArray 32 (0, 0)), (g6, .cells cur6 53 (0, 0))] (hW12) ?_
          refine lp (v := .bool (decide (wy = 4))) rfl rfl (run_bin rfl (vx := (.int .u8 ((wy : Nat) : Int))) (vy := (.int .u8 ((4 : Nat) : Int))) (by kernel_rfl) (by kernel_rfl) fun w => bn_eql rfl w) ?_
          refine lm (v := .bool (decide (wy = 4))) rfl rfl ?_
          refine wpL_done (fun W13 hW13 => ?_)
          refine (show Code.wp _ _ _ _ _ from ?_)
          cases hd5 : (decide (wy = 4)) with
          | false =>
            have h5 : ¬ (wy = 4) := of_decide_eq_false hd5
            clear hd5
            refine wp_cond_false rfl ?_
            refine wp_seq ?_
            refine wp_region_L (W0 := WB) [(g1, .cells (shC (.slice (some ⟨g6, 0, none⟩) cs.length cap6) (.slice poS osS.length coS) tl0).toArray 32 (0, 0)), (g6, .cells cur6 53 (0, 0))] (hW13) ?_
            refine lp (v := .bool (decide (wy = 5))) rfl rfl (run_bin rfl (vx := (.int .u8 ((wy : Nat) : Int))) (vy := (.int .u8 ((5 : Nat) : Int))) (by kernel_rfl) (by kernel_rfl) fun w => bn_eql rfl w) ?_
            refine lm (v := .bool (decide (wy = 5))) rfl rfl ?_
            refine wpL_done (fun W14 hW14 => ?_)
            refine (show Code.wp _ _ _ _ _ from ?_)
            cases hd6 : (decide (wy = 5)) with
            | false =>
              have h6 : ¬ (wy = 5) := of_decide_eq_false hd6
              clear hd6
              refine wp_cond_false rfl ?_
              refine wp_seq ?_
              refine wp_region_L (W0 := WB) [(g1, .cells (shC (.slice (some ⟨g6, 0, none⟩) cs.length cap6) (.slice poS osS.length coS) tl0).toArray 32 (0, 0)), (g6, .cells cur6 53 (0, 0))] (hW14) ?_
              refine lp (v := .bool (decide (wy = 6))) rfl rfl (run_bin rfl (vx := (.int .u8 ((wy : Nat) : Int))) (vy := (.int .u8 ((6 : Nat) : Int))) (by kernel_rfl) (by kernel_rfl) fun w => bn_eql rfl w) ?_
              refine lm (v := .bool (decide (wy = 6))) rfl rfl ?_
              refine wpL_done (fun W15 hW15 => ?_)
              refine (show Code.wp _ _ _ _ _ from ?_)
              cases hd7 : (decide (wy = 6)) with
              | false =>
                have h7 : ¬ (wy = 6) := of_decide_eq_false hd7
                clear hd7
                refine wp_cond_false rfl ?_
                refine wp_seq ?_
                refine wp_region_L (W0 := WB) [(g1, .cells (shC (.slice (some ⟨g6, 0, none⟩) cs.length cap6) (.slice poS osS.length coS) tl0).toArray 32 (0, 0)), (g6, .cells cur6 53 (0, 0))] (hW15) ?_
                refine lp (v := .bool (decide (wy = 7))) rfl rfl (run_bin rfl (vx := (.int .u8 ((wy : Nat) : Int))) (vy := (.int .u8 ((7 : Nat) : Int))) (by kernel_rfl) (by kernel_rfl) fun w => bn_eql rfl w) ?_
                refine lm (v := .bool (decide (wy = 7))) rfl rfl ?_
                refine wpL_done (fun W16 hW16 => ?_)
                refine (show Code.wp _ _ _ _ _ from ?_)
                cases hd8 : (decide (wy = 7)) with
                | false =>
                  have h8 : ¬ (wy = 7) := of_decide_eq_false hd8
                  clear hd8
                  refine wp_cond_false rfl ?_
                  refine wp_seq ?_
                  refine wp_region_L (W0 := WB) [(g1, .cells (shC (.slice (some ⟨g6, 0, none⟩) cs.length cap6) (.slice poS osS.length coS) tl0).toArray 32 (0, 0)), (g6, .cells cur6 53 (0, 0))] (hW16) ?_
                  refine lp (v := .bool (decide (wy = 8))) rfl rfl (run_bin rfl (vx := (.int .u8 ((wy : Nat) : Int))) (vy := (.int .u8 ((8 : Nat) : Int))) (by kernel_rfl) (by kernel_rfl) fun w => bn_eql rfl w) ?_
                  refine lm (v := .bool (decide (wy = 8))) rfl rfl ?_
                  refine wpL_done (fun W17 hW17 => ?_)
                  refine (show Code.wp _ _ _ _ _ from ?_)
                  cases hd9 : (decide (wy = 8)) with
                  | false =>
                    have h9 : ¬ (wy = 8) := of_decide_eq_false hd9
                    clear hd9
                    refine wp_cond_false rfl ?_
                    refine wp_seq ?_
                    refine wp_region_L (W0 := WB) [(g1, .cells (shC (.slice (some ⟨g6, 0, none⟩) cs.length cap6) (.slice poS osS.length coS) tl0).toArray 32 (0, 0)), (g6, .cells cur6 53 (0, 0))] (hW17) ?_
                    refine lp (v := .bool (decide (wy = 9))) rfl rfl (run_bin rfl (vx := (.int .u8 ((wy : Nat) : Int))) (vy := (.int .u8 ((9 : Nat) : Int))) (by kernel_rfl) (by kernel_rfl) fun w => bn_eql rfl w) ?_
                    refine lm (v := .bool (decide (wy = 9))) rfl rfl ?_
                    refine wpL_done (fun W18 hW18 => ?_)
                    refine (show Code.wp _ _ _ _ _ from ?_)
                    cases hd10 : (decide (wy = 9)) with
                    | false =>
                      have h10 : ¬ (wy = 9) := of_decide_eq_false hd10
                      clear hd10
                      refine wp_cond_false rfl ?_
                      refine wp_seq ?_
                      refine wp_region_L (W0 := WB) [(g1, .cells (shC (.slice (some ⟨g6, 0, none⟩) cs.length cap6) (.slice poS osS.length coS) tl0).toArray 32 (0, 0)), (g6, .cells cur6 53 (0, 0))] (hW18) ?_
                      refine lp (v := .bool (decide (wy = 10))) rfl rfl (run_bin rfl (vx := (.int .u8 ((wy : Nat) : Int))) (vy := (.int .u8 ((10 : Nat) : Int))) (by kernel_rfl) (by kernel_rfl) fun w => bn_eql rfl w) ?_
                      refine lm (v := .bool (decide (wy = 10))) rfl rfl ?_
                      refine wpL_done (fun W19 hW19 => ?_)
                      refine (show Code.wp _ _ _ _ _ from ?_)
                      cases hd11 : (decide (wy = 10)) with
                      | false =>
                        have h11 : ¬ (wy = 10) := of_decide_eq_false hd11
                        clear hd11
                        refine wp_cond_false rfl ?_
                        refine wp_seq ?_
                        refine wp_region_L (W0 := WB) [(g1, .cells (shC (.slice (some ⟨g6, 0, none⟩) cs.length cap6) (.slice poS osS.length coS) tl0).toArray 32 (0, 0)), (g6, .cells cur6 53 (0, 0))] (hW19) ?_
                        refine lp (v := .bool (decide (wy = 11))) rfl rfl (run_bin rfl (vx := (.int .u8 ((wy : Nat) : Int))) (vy := (.int .u8 ((11 : Nat) : Int))) (by kernel_rfl) (by kernel_rfl) fun w => bn_eql rfl w) ?_
                        refine lm (v := .bool (decide (wy = 11))) rfl rfl ?_
                        refine wpL_done (fun W20 hW20 => ?_)
                        refine (show Code.wp _ _ _ _ _ from ?_)
                        cases hd12 : (decide (wy = 11)) with
                        | false =>
                          have h12 : ¬ (wy = 11) := of_decide_eq_false hd12
                          clear hd12
                          refine wp_cond_false rfl ?_
                          refine wp_seq ?_
                          refine wp_region_L (W0 := WB) [(g1, .cells (shC (.slice (some ⟨g6, 0, none⟩) cs.length cap6) (.slice poS osS.length coS) tl0).toArray 32 (0, 0)), (g6, .cells cur6 53 (0, 0))] (hW20) ?_
                          refine lp (v := .bool (decide (wy = 12))) rfl rfl (run_bin rfl (vx := (.int .u8 ((wy : Nat) : Int))) (vy := (.int .u8 ((12 : Nat) : Int))) (by kernel_rfl) (by kernel_rfl) fun w => bn_eql rfl w) ?_
                          refine lm (v := .bool (decide (wy = 12))) rfl rfl ?_
                          refine wpL_done (fun W21 hW21 => ?_)
                          refine (show Code.wp _ _ _ _ _ from ?_)
                          cases hd13 : (decide (wy = 12)) with
                          | false =>
                            have h13 : ¬ (wy = 12) := of_decide_eq_false hd13
                            clear hd13
                            refine wp_cond_false rfl ?_
                            refine wp_seq ?_
                            refine wp_region_L (W0 := WB) [(g1, .cells (shC (.slice (some ⟨g6, 0, none⟩) cs.length cap6) (.slice poS osS.length coS) tl0).toArray 32 (0, 0)), (g6, .cells cur6 53 (0, 0))] (hW21) ?_
                            refine lp (v := .bool (decide (wy = 13))) rfl rfl (run_bin rfl (vx := (.int .u8 ((wy : Nat) : Int))) (vy := (.int .u8 ((13 : Nat) : Int))) (by kernel_rfl) (by kernel_rfl) fun w => bn_eql rfl w) ?_
                            refine lm (v := .bool (decide (wy = 13))) rfl rfl ?_
                            refine wpL_done (fun W22 hW22 => ?_)
                            refine (show Code.wp _ _ _ _ _ from ?_)
                            cases hd14 : (decide (wy = 13)) with
                            | false =>
                              have h14 : ¬ (wy = 13) := of_decide_eq_false hd14
                              clear hd14
                              exfalso; omega
                            | true =>
                              have h14 : wy = 13 := of_decide_eq_true hd14
                              clear hd14
                              refine wp_cond_true rfl ?_
                              refine wp_region_L (W0 := WB) [(g1, .cells (shC (.slice (some ⟨g6, 0, none⟩) cs.length cap6) (.slice poS osS.length coS) tl0).toArray 32 (0, 0)), (g6, .cells cur6 53 (0, 0))] (hW22) ?_
                              refine lm (v := .pointer (some ⟨g1, 0, none⟩)) rfl rfl ?_
                              refine wpL_s [(g1, .cells (shC (.slice none 0 0) (.slice poS osS.length coS) tl0).toArray 32 (0, 0)), (g6, .cells cur6 53 (0, 0))] rfl rfl (st_row (off := 0) (v := .slice none 0 0) rfl (by kernel_rfl) (by kernel_rfl) (.head _) Bg1 (by kernel_rfl) (by first | (simp [Value.cells]; done) | exact Nat.le_of_ble_eq_true rfl) (by intro v hv; simp [Value.cells] at hv; first | (subst hv; rfl) | (rcases hv with rfl <;> rfl)) (by kernel_rfl) (List.forall_mem_cons.2 ⟨.inl rfl, (List.forall_mem_cons.2 ⟨.inr ⟨(.tail _ (.head _)), (by first | assumption | exact Ne.symm (by assumption))⟩, (List.forall_mem_nil _)⟩)⟩)) ?_
                              refine wpL_done (fun W23 hW23 => ?_)
                              refine (show Code.wp _ _ _ _ _ from ?_)
                              refine wp_seq ?_
                              have hbZ := hWB.1.trans (hW23.1.mono hWB.1.size)
                              have HCZ := Lib.hid (show SLV W23 none (([] : List Col).flatMap colC) from (.inl rfl))
                              have HOZ := Lib.hid (show SLV W23 poS (osS.flatMap covC) from ((RL.base HOS.out) _ (hW23.sub (fun _ h => by cases h))))
                              have HRZ := Lib.hid (show RwR W23 osS from (HRS.out.keep hW23.1))
                              have HPZ := Lib.hid (show PlR W23 ([] : List Col) from (fun _ h => by cases h))
                              have hlp : ∀ c ∈ ([] : List Col), c.plugs.length ≤ 4000000000 := (fun _ h => by cases h)
                              have hlr : ∀ o ∈ osS, o.rows.length ≤ 4000000000 := lrS
                              have hbad : rightX ([] : List Col) osS = false := rfl
                              have HGZ := Lib.hid (CapR.of (cs := (shC (.slice none 0 0) (.slice poS osS.length coS) tl0)) hW23 (.head _))
                              refine wp_region_V (W0 := W23) [] (by kernel_rfl) ((KS.start W23)) ?_
                              refine vb (i := 0) (v := .agg (shC (.slice none 0 0) (.slice poS osS.length coS) tl0).toArray) rfl rfl rfl (yb_rs (off := 0) (cs := _) rfl (by kernel_rfl) (fun W hW => ((HGZ.out).keep hW.1).2) Try.underlying32 rfl (by kernel_rfl)) ?_
                              refine vv (i := 1) (v := .bool (rightX ([] : List Col) osS)) rfl rfl rfl (yb_call (f := 14) (args := #[.agg (shC (.slice none 0 0) (.slice poS osS.length coS) tl0).toArray]) (fun _ => by kernel_rfl) fun W hW => Right_any ([] : List Col) none 0 (Nat.zero_le _) osS poS coS (by have h9 := loS; omega) tl0 W ((RL.base HCZ.out) _ (hW.sub (fun _ h => by cases h))) ((RL.base HOZ.out) _ (hW.sub (fun _ h => by cases h))) (HRZ.out.keep hW.1) hlr (HPZ.out.keep hW.1) hlp) ?_
                              refine vp (i := 2) (v := .bool (!(rightX ([] : List Col) osS))) rfl rfl rfl (run_un rfl (by kernel_rfl) fun w => un_not w) ?_
                              refine vm (i := 3) (v := .bool (!(rightX ([] : List Col) osS))) rfl rfl rfl ?_
                              cases h15 : (rightX ([] : List Col) osS) with
                              | false =>
                                refine vb (i := 4) (v := .agg (shC (.slice none 0 0) (.slice poS osS.length coS) tl0).toArray) rfl rfl rfl (yb_rs (off := 0) (cs := _) rfl (by kernel_rfl) (fun W hW => ((HGZ.out).keep hW.1).2) Try.underlying32 rfl (by kernel_rfl)) ?_
                                refine vm (i := 5) (v := .int .i64 (min v (-1))) rfl rfl rfl ?_
                                refine vv (i := 6) (v := .int .i64 (fiN (covOf ([] : List Col) osS (min v (-1))))) rfl rfl rfl (yb_call (f := 16) (args := #[.agg (shC (.slice none 0 0) (.slice poS osS.length coS) tl0).toArray, .int .i64 (min v (-1))]) (fun _ => by kernel_rfl) fun W hW => CoverOf_any ([] : List Col) none 0 (Nat.zero_le _) osS poS coS (by have h9 := loS; omega) tl0 (min v (-1)) W ((RL.base HCZ.out) _ (hW.sub (fun _ h => by cases h))) ((RL.base HOZ.out) _ (hW.sub (fun _ h => by cases h))) (HRZ.out.keep hW.1) hlr) ?_
                                refine vp (i := 7) (v := .bool true) rfl rfl rfl (run_bin rfl (vx := (.int .i64 (fiN (covOf ([] : List Col) osS (min v (-1)))))) (vy := (.int .i64 (-1))) (by kernel_rfl) (by kernel_rfl) fun w => bi_eql (decide_eq_true (cov_low hlo)) w) ?_
                                refine vm (i := 8) (v := .bool true) rfl rfl rfl ?_
                                refine vm (i := 9) (v := .bool true) rfl rfl rfl ?_
                                refine vb (i := 10) (v := .agg (shC (.slice none 0 0) (.slice poS osS.length coS) tl0).toArray) rfl rfl rfl (yb_rs (off := 0) (cs := _) rfl (by kernel_rfl) (fun W hW => ((HGZ.out).keep hW.1).2) Try.underlying32 rfl (by kernel_rfl)) ?_
                                refine vm (i := 11) (v := .int .i64 (min v (-1))) rfl rfl rfl ?_
                                refine vb (i := 14) (v := .agg (shC (.slice none 0 0) (.slice poS osS.length coS) tl0).toArray) rfl rfl rfl (yb_rs (off := 0) (cs := _) rfl (by kernel_rfl) (fun W hW => ((HGZ.out).keep hW.1).2) Try.underlying32 rfl (by kernel_rfl)) ?_
                                refine vm (i := 15) (v := .int .i64 (max v 0)) rfl rfl rfl ?_
                                refine vp (i := 16) (v := .int .i64 (max (max v 0) 100)) rfl rfl rfl (run_max2 (x := (max v 0)) (y := 100) (z := (max (max v 0) 100)) rfl (by kernel_rfl) (by kernel_rfl) rfl) ?_
                                refine vb (i := 20) (v := .agg (shC (.slice none 0 0) (.slice poS osS.length coS) tl0).toArray) rfl rfl rfl (yb_rs (off := 0) (cs := _) rfl (by kernel_rfl) (fun W hW => ((HGZ.out).keep hW.1).2) Try.underlying32 rfl (by kernel_rfl)) ?_
                                refine vm (i := 21) (v := .int .i64 (min v (-1))) rfl rfl rfl ?_
                                refine wpV_c (i := 12) (OutRL inC W23 [] (alongX ([] : List Col) osS (min v (-1)) false)) rfl rfl (by kernel_rfl) (by kernel_rfl) (fun _ => (by kernel_rfl)) (fun W hW => calls_r hW (Under_any ([] : List Col) none 0 (Nat.zero_le _) osS poS coS (by have h9 := loS; omega) tl0 (min v (-1)) W ((RL.base HCZ.out) _ (hW.sub (fun _ h => by cases h))) ((RL.base HOZ.out) _ (hW.sub (fun _ h => by cases h))) (HRZ.out.keep hW.1) hlr)) (fun v K9 hG => hG.sub) (fun _ => by simp only [List.setIfInBounds_toArray, List.set_cons_succ, List.set_cons_zero] <;> rfl) ?_
                                rintro _ Kl7 ⟨p7, c7, _, rfl, n7, R7, N7, rfl⟩
                                have hl7 : (alongX ([] : List Col) osS (min v (-1)) false).length = 0 := by rw [al_low hlo]; rfl
                                refine vp (i := 13) (v := .int .i64 ((((alongX ([] : List Col) osS (min v (-1)) false).length) : Nat) : Int)) rfl rfl rfl (run_lenL (p := p7) (cap := c7) (n := (alongX ([] : List Col) osS (min v (-1)) false).length) rfl Try.underlying39 (by kernel_rfl)) ?_
                                refine wpV_c (i := 17) (OutRL inC W23 Kl7 (alongX ([] : List Col) osS (max (max v 0) 100) true)) rfl rfl (by kernel_rfl) (by kernel_rfl) (fun _ => (by kernel_rfl)) (fun W hW => calls_r hW (Upon_any ([] : List Col) none 0 (Nat.zero_le _) osS poS coS (by have h9 := loS; omega) tl0 (max (max v 0) 100) W ((RL.base HCZ.out) _ (hW.sub (fun _ h => by cases h))) ((RL.base HOZ.out) _ (hW.sub (fun _ h => by cases h))) (HRZ.out.keep hW.1) hlr)) (fun v K9 hG => hG.sub) (fun _ => by simp only [List.setIfInBounds_toArray, List.set_cons_succ, List.set_cons_zero] <;> rfl) ?_
                                rintro _ _ ⟨p8, c8, Kl8, rfl, n8, R8, N8, rfl⟩
                                obtain dj9_0 : Dj Kl7 Kl8 := by simpa only [dj_app_l, dj_app_r, dj_cons_l, dj_cons_r, dj_nil_l, dj_nil_r, dk_app, dk_cons, dk_nil, and_true, true_and, and_assoc] using (show Dj Kl7 Kl8 from N8)
                                have hl8 : (alongX ([] : List Col) osS (max (max v 0) 100) true).length = 0 := by rw [al_high (by omega) (by have h9 := loS; omega)]; rfl
                                refine vp (i := 18) (v := .int .i64 ((((alongX ([] : List Col) osS (max (max v 0) 100) true).length) : Nat) : Int)) rfl rfl rfl (run_lenL (p := p8) (cap := c8) (n := (alongX ([] : List Col) osS (max (max v 0) 100) true).length) rfl Try.underlying39 (by kernel_rfl)) ?_
                                refine vp (i := 19) (v := .int .i64 (((((alongX ([] : List Col) osS (min v (-1)) false).length) + ((alongX ([] : List Col) osS (max (max v 0) 100) true).length)) : Nat) : Int)) rfl rfl rfl (run_bin rfl (vx := (.int .i64 ((((alongX ([] : List Col) osS (min v (-1)) false).length) : Nat) : Int))) (vy := (.int .i64 ((((alongX ([] : List Col) osS (max (max v 0) 100) true).length) : Nat) : Int))) (by kernel_rfl) (by kernel_rfl) fun w => bn_add (z := (((alongX ([] : List Col) osS (min v (-1)) false).length) + ((alongX ([] : List Col) osS (max (max v 0) 100) true).length))) rfl (wr_i64 (by omega)) w) ?_
                                refine wpV_c (i := 22) (OutRL inC W23 (Kl7 ++ Kl8) (besideX ([] : List Col) (min v (-1)))) rfl rfl (by kernel_rfl) (by kernel_rfl) (fun _ => (by kernel_rfl)) (fun W hW => calls_r hW (Beside_any ([] : List Col) none 0 (Nat.zero_le _) osS poS coS (by have h9 := loS; omega) tl0 (min v (-1)) W ((RL.base HCZ.out) _ (hW.sub (fun _ h => by cases h))) ((RL.base HOZ.out) _ (hW.sub (fun _ h => by cases h))))) (fun v K9 hG => hG.sub) (fun _ => by simp only [List.setIfInBounds_toArray, List.set_cons_succ, List.set_cons_zero] <;> rfl) ?_
                                rintro _ _ ⟨p10, c10, Kl10, rfl, n10, R10, N10, rfl⟩
                                obtain ⟨dj11_0, dj11_1⟩ : Dj Kl7 Kl10 ∧ Dj Kl8 Kl10 := by simpa only [dj_app_l, dj_app_r, dj_cons_l, dj_cons_r, dj_nil_l, dj_nil_r, dk_app, dk_cons, dk_nil, and_true, true_and, and_assoc] using (show Dj (Kl7 ++ Kl8) Kl10 from N10)
                                have hl10 : (besideX ([] : List Col) (min v (-1))).length = 0 := by rw [bes_low hlo]; rfl
                                refine vp (i := 23) (v := .int .i64 ((((besideX ([] : List Col) (min v (-1))).length) : Nat) : Int)) rfl rfl rfl (run_lenL (p := p10) (cap := c10) (n := (besideX ([] : List Col) (min v (-1))).length) rfl Try.underlying39 (by kernel_rfl)) ?_
                                refine vp (i := 24) (v := .int .i64 ((((((alongX ([] : List Col) osS (min v (-1)) false).length) + ((alongX ([] : List Col) osS (max (max v 0) 100) true).length)) + ((besideX ([] : List Col) (min v (-1))).length)) : Nat) : Int)) rfl rfl rfl (run_bin rfl (vx := (.int .i64 (((((alongX ([] : List Col) osS (min v (-1)) false).length) + ((alongX ([] : List Col) osS (max (max v 0) 100) true).length)) : Nat) : Int))) (vy := (.int .i64 ((((besideX ([] : List Col) (min v (-1))).length) : Nat) : Int))) (by kernel_rfl) (by kernel_rfl) fun w => bn_add (z := ((((alongX ([] : List Col) osS (min v (-1)) false).length) + ((alongX ([] : List Col) osS (max (max v 0) 100) true).length)) + ((besideX ([] : List Col) (min v (-1))).length))) rfl (wr_i64 (by omega)) w) ?_
                                refine vp (i := 25) (v := .bool true) rfl rfl rfl (run_bin rfl (vx := (.int .i64 ((((((alongX ([] : List Col) osS (min v (-1)) false).length) + ((alongX ([] : List Col) osS (max (max v 0) 100) true).length)) + ((besideX ([] : List Col) (min v (-1))).length)) : Nat) : Int))) (vy := (.int .i64 ((0 : Nat) : Int))) (by kernel_rfl) (by kernel_rfl) fun w => bn_eql (decide_eq_true (by omega)) w) ?_
                                refine vm (i := 26) (v := .bool true) rfl rfl rfl ?_
                                refine vm (i := 27) (v := .bool true) rfl rfl rfl ?_
                                refine vv (i := 28) (v := .bool true) rfl rfl rfl (yb_call (f := 20) (args := #[.slice none 0 0, .slice none 0 0]) (fun _ => by kernel_rfl) fun W hW => SameInts_any [] [] none none 0 0 (Nat.zero_le _) W (.inl rfl) (.inl rfl)) ?_
                                refine vm (i := 29) (v := .bool true) rfl rfl rfl ?_
                                refine vm (i := 30) (v := .bool true) rfl rfl rfl ?_
                                refine vv (i := 31) (v := .bool true) rfl rfl rfl (yb_call (f := 10) (args := #[]) (fun _ => by kernel_rfl) fun W hW => awake_any W) ?_
                                refine vm (i := 32) (v := .bool true) rfl rfl rfl ?_
                                refine vm (i := 33) (v := .bool true) rfl rfl rfl ?_
                                refine wpV_done (by kernel_rfl) (fun W24 hW24 => ?_) _
                                refine (show Code.wp _ _ _ _ _ from ?_)
                                refine wp_ret ?_
                                try simp only [inBlock_ret, then_ret]
                                refine bodyPost_ret (v := .bool true) ?_ rfl ?_
                                · kernel_rfl
                                · exact ⟨rfl, (hbZ.trans (hW24.1.mono hbZ.size))⟩
                              | true =>
                                exact absurd h15 (by rw [hbad]; decide)
                          | true =>
                            have h13 : wy = 12 := of_decide_eq_true hd13
                            clear hd13
                            refine wp_cond_true rfl ?_
                            refine wp_region_L (W0 := WB) [(g1, .cells (shC (.slice (some ⟨g6, 0, none⟩) cs.length cap6) (.slice poS osS.length coS) tl0).toArray 32 (0, 0)), (g6, .cells cur6 53 (0, 0))] (hW21) ?_
                            refine wpL_new (fun g => .slice (some ⟨g, 0, none⟩) 0 0) (obi := .cells #[] 55 (0, 0)) rfl rfl (fun _ => by kernel_rfl) (fun _ => by simp only [List.setIfInBounds_toArray, List.set_cons_succ, List.set_cons_zero] <;> rfl) fun g12 Bg12 Fg12 => ?_
                            obtain ⟨dj13_0, dj13_1⟩ : g1 ≠ g12 ∧ g6 ≠ g12 := by simpa only [dj_app_l, dj_app_r, dj_cons_l, dj_cons_r, dj_nil_l, dj_nil_r, dk_app, dk_cons, dk_nil, and_true, true_and, and_assoc] using (show Dk g12 [(g1, .cells (shC (.slice (some ⟨g6, 0, none⟩) cs.length cap6) (.slice poS osS.length coS) tl0).toArray 32 (0, 0)), (g6, .cells cur6 53 (0, 0))] from Fg12)
                            refine lm (v := .pointer (some ⟨g1, 1, none⟩)) rfl rfl ?_
                            refine lv (v := .slice poS osS.length coS) rfl rfl (yb_cell (off := 1) rfl (by kernel_rfl) (.tail _ (.head _)) Try.underlying23 rfl (by kernel_rfl)) ?_
                            refine wpL_g (AppO WB 55 2 [(g1, .cells (shC (.slice (some ⟨g6, 0, none⟩) cs.length cap6) (.slice poS osS.length coS) tl0).toArray 32 (0, 0)), (g6, .cells cur6 53 (0, 0))] (0 + osS.length) ((([] : List Cov).flatMap covC) ++ (osS.flatMap covC))) rfl rfl (app_any el_cov (m := osS.length) (news := (osS.flatMap covC)) (y := .slice poS osS.length coS) rfl (by kernel_rfl) (by kernel_rfl) (src_rl (c := coS) Try.underlying23 covC_len covC_one (by decide) ((RL.base HOS.out).mono (fun _ h => by cases h)) rfl) (own_rnone (cells := covC) Bg12) (fun p hp => by cases List.mem_singleton.1 hp; exact (.head _)) (fun p hp => ⟨by simp only [List.mem_cons, List.mem_append, List.nil_append, List.not_mem_nil, or_assoc, or_false, false_or] at hp ⊢ <;> grind, (show Dj [(g1, .cells (shC (.slice (some ⟨g6, 0, none⟩) cs.length cap6) (.slice poS osS.length coS) tl0).toArray 32 (0, 0)), (g6, .cells cur6 53 (0, 0))] [(g12, .cells #[] 55 (0, 0))] from (by (try simp only [dj_app_l, dj_app_r, dj_cons_l, dj_cons_r, dj_nil_l, dj_nil_r, dk_app, dk_cons, dk_nil, and_true, true_and, and_assoc]); repeat' (first | trivial | assumption | exact Dj.symm (by assumption) | exact Ne.symm (by assumption) | apply And.intro))) p hp⟩) (by omega) (by omega)) (fun _ => by simp only [List.setIfInBounds_toArray, List.set_cons_succ, List.set_cons_zero] <;> rfl) ?_
                            rintro v14 K9 ⟨Kl14, O14, N14, rfl⟩
                            obtain ⟨dj15_0, dj15_1⟩ : Dk g1 Kl14 ∧ Dk g6 Kl14 := by simpa only [dj_app_l, dj_app_r, dj_cons_l, dj_cons_r, dj_nil_l, dj_nil_r, dk_app, dk_cons, dk_nil, and_true, true_and, and_assoc] using (show Dj [(g1, .cells (shC (.slice (some ⟨g6, 0, none⟩) cs.length cap6) (.slice poS osS.length coS) tl0).toArray 32 (0, 0)), (g6, .cells cur6 53 (0, 0))] Kl14 from N14)
                            refine lm (v := .agg #[.int .i64 4, .slice none 0 0]) rfl rfl ?_
                            refine wpL_new (fun g => .slice (some ⟨g, 0, none⟩) 1 1) (obi := .cells #[.int .i64 4, .slice none 0 0] 55 (0, 0)) rfl rfl (fun _ => by kernel_rfl) (fun _ => by simp only [List.setIfInBounds_toArray, List.set_cons_succ, List.set_cons_zero] <;> rfl) fun g16 Bg16 Fg16 => ?_
                            obtain ⟨dj17_0, dj17_1, dj17_2⟩ : g1 ≠ g16 ∧ g6 ≠ g16 ∧ Dk g16 Kl14 := by simpa only [dj_app_l, dj_app_r, dj_cons_l, dj_cons_r, dj_nil_l, dj_nil_r, dk_app, dk_cons, dk_nil, and_true, true_and, and_assoc] using (show Dk g16 ((g1, .cells (shC (.slice (some ⟨g6, 0, none⟩) cs.length cap6) (.slice poS osS.length coS) tl0).toArray 32 (0, 0)) :: (g6, .cells cur6 53 (0, 0)) :: Kl14) from Fg16)
                            refine wpL_g (AppO WB 55 2 [(g1, .cells (shC (.slice (some ⟨g6, 0, none⟩) cs.length cap6) (.slice poS osS.length coS) tl0).toArray 32 (0, 0)), (g6, .cells cur6 53 (0, 0))] ((0 + osS.length) + 1) (((([] : List Cov).flatMap covC) ++ (osS.flatMap covC)) ++ [.int .i64 4, .slice none 0 0])) rfl rfl (app_own el_cov (m := 1) (c := 1) (news := [.int .i64 4, .slice none 0 0]) rfl (by kernel_rfl) (by kernel_rfl) (.head _) O14 (fun p hp => by simp only [List.mem_cons, List.mem_append, List.nil_append, List.not_mem_nil, or_assoc, or_false, false_or, hp, or_true, true_or]) (fun p hp => ⟨by simp only [List.mem_cons, List.mem_append, List.nil_append, List.not_mem_nil, or_assoc, or_false, false_or] at hp ⊢ <;> grind, (show Dj [(g1, .cells (shC (.slice (some ⟨g6, 0, none⟩) cs.length cap6) (.slice poS osS.length coS) tl0).toArray 32 (0, 0)), (g6, .cells cur6 53 (0, 0))] Kl14 from (by (try simp only [dj_app_l, dj_app_r, dj_cons_l, dj_cons_r, dj_nil_l, dj_nil_r, dk_app, dk_cons, dk_nil, and_true, true_and, and_assoc]); repeat' (first | trivial | assumption | exact Dj.symm (by assumption) | exact Ne.symm (by assumption) | apply And.intro))) p hp⟩) rfl (by simp [strV, Value.oneCell']) (by omega) (by omega) (by omega)) (fun _ => by simp only [List.setIfInBounds_toArray, List.set_cons_succ, List.set_cons_zero] <;> rfl) ?_
                            rintro v18 K9 ⟨Kl18, O18, N18, rfl⟩
                            obtain ⟨dj19_0, dj19_1⟩ : Dk g1 Kl18 ∧ Dk g6 Kl18 := by simpa only [dj_app_l, dj_app_r, dj_cons_l, dj_cons_r, dj_nil_l, dj_nil_r, dk_app, dk_cons, dk_nil, and_true, true_and, and_assoc] using (show Dj [(g1, .cells (shC (.slice (some ⟨g6, 0, none⟩) cs.length cap6) (.slice poS osS.length coS) tl0).toArray 32 (0, 0)), (g6, .cells cur6 53 (0, 0))] Kl18 from N18)
                            refine lm (v := .pointer (some ⟨g1, 1, none⟩)) rfl rfl ?_
                            replace O18 := own_app (cells := covC) (l' := (osS ++ [(⟨4, [], none, 0⟩ : Cov)])) O18 (by simp only [List.flatMap_append, List.flatMap_nil, List.nil_append, List.append_assoc, List.flatMap_cons, List.append_nil] <;> rfl) (by simp only [List.length_append, List.length_take, List.length_drop, List.length_nil, List.length_cons] <;> omega)
                            obtain ⟨p20, c20, rfl, n20, R20⟩ := own_rl O18
                            refine wpL_s ((g1, .cells (shC (.slice (some ⟨g6, 0, none⟩) cs.length cap6) (.slice p20 ((osS ++ [(⟨4, [], none, 0⟩ : Cov)]).length) c20) tl0).toArray 32 (0, 0)) :: (g6, .cells cur6 53 (0, 0)) :: Kl18) rfl rfl (st_row (off := 1) (v := .slice p20 ((osS ++ [(⟨4, [], none, 0⟩ : Cov)]).length) c20) rfl (by kernel_rfl) (by kernel_rfl) (.head _) Bg1 (by kernel_rfl) (by first | (simp [Value.cells]; done) | exact Nat.le_of_ble_eq_true rfl) (by intro v hv; simp [Value.cells] at hv; first | (subst hv; rfl) | (rcases hv with rfl <;> rfl)) (by kernel_rfl) (List.forall_mem_cons.2 ⟨.inl rfl, (List.forall_mem_cons.2 ⟨.inr ⟨(.tail _ (.head _)), (by first | assumption | exact Ne.symm (by assumption))⟩, (fun p hp => .inr ⟨(.tail _ (.tail _ hp)), ((show Dk g1 Kl18 from (by (try simp only [dj_app_l, dj_app_r, dj_cons_l, dj_cons_r, dj_nil_l, dj_nil_r, dk_app, dk_cons, dk_nil, and_true, true_and, and_assoc]); repeat' (first | trivial | assumption | exact Dj.symm (by assumption) | exact Ne.symm (by assumption) | apply And.intro))) _ hp)⟩)⟩)⟩)) ?_
                            refine wpL_done (fun W25 hW25 => ?_)
                            refine (show Code.wp _ _ _ _ _ from ?_)
                            refine wp_seq ?_
                            have hbZ := hWB.1.trans (hW25.1.mono hWB.1.size)
                            have HCZ := Lib.hid (show SLV W25 (some ⟨g6, 0, none⟩) (cs.flatMap colC) from (rowr_slv hW25 (.tail _ (.head _)) hr6))
                            have HOZ := Lib.hid (show SLV W25 p20 ((osS ++ [(⟨4, [], none, 0⟩ : Cov)]).flatMap covC) from (R20 _ (hW25.sub (fun p hp => by simp only [List.mem_cons, List.mem_append, List.nil_append, List.not_mem_nil, or_assoc, or_false, false_or, hp, true_or, or_true]))))
                            have HRZ := Lib.hid (show RwR W25 (osS ++ [(⟨4, [], none, 0⟩ : Cov)]) from (rw_app (HRS.out.keep hW25.1) (rw_cons (o := (⟨4, [], none, 0⟩ : Cov)) (.inl rfl) (fun _ h => by cases h))))
                            have HPZ := Lib.hid (show PlR W25 cs from (HPS.out.keep hW25.1))
                            have hlp : ∀ c ∈ cs, c.plugs.length ≤ 4000000000 := lpS
                            have hlr : ∀ o ∈ (osS ++ [(⟨4, [], none, 0⟩ : Cov)]), o.rows.length ≤ 4000000000 := (rl_app lrS (fun o ho => by simp only [List.mem_cons, List.not_mem_nil, or_false] at ho; rcases ho with rfl <;> exact Nat.le_of_ble_eq_true rfl))
                            have hbad : rightX cs (osS ++ [(⟨4, [], none, 0⟩ : Cov)]) = false := ov_bad (List.mem_append_right _ (.head _)) rfl
                            have HGZ := Lib.hid (CapR.of (cs := (shC (.slice (some ⟨g6, 0, none⟩) cs.length cap6) (.slice p20 ((osS ++ [(⟨4, [], none, 0⟩ : Cov)]).length) c20) tl0)) hW25 (.head _))
                            refine wp_region_V (W0 := W25) [] (by kernel_rfl) ((KS.start W25)) ?_
                            refine vb (i := 0) (v := .agg (shC (.slice (some ⟨g6, 0, none⟩) cs.length cap6) (.slice p20 ((osS ++ [(⟨4, [], none, 0⟩ : Cov)]).length) c20) tl0).toArray) rfl rfl rfl (yb_rs (off := 0) (cs := _) rfl (by kernel_rfl) (fun W hW => ((HGZ.out).keep hW.1).2) Try.underlying32 rfl (by kernel_rfl)) ?_
                            refine vv (i := 1) (v := .bool (rightX cs (osS ++ [(⟨4, [], none, 0⟩ : Cov)]))) rfl rfl rfl (yb_call (f := 14) (args := #[.agg (shC (.slice (some ⟨g6, 0, none⟩) cs.length cap6) (.slice p20 ((osS ++ [(⟨4, [], none, 0⟩ : Cov)]).length) c20) tl0).toArray]) (fun _ => by kernel_rfl) fun W hW => Right_any cs (some ⟨g6, 0, none⟩) cap6 (by omega) (osS ++ [(⟨4, [], none, 0⟩ : Cov)]) p20 c20 (by have h9 := loS; simp only [List.length_append, List.length_cons, List.length_nil]; omega) tl0 W ((RL.base HCZ.out) _ (hW.sub (fun _ h => by cases h))) ((RL.base HOZ.out) _ (hW.sub (fun _ h => by cases h))) (HRZ.out.keep hW.1) hlr (HPZ.out.keep hW.1) hlp) ?_
                            refine vp (i := 2) (v := .bool (!(rightX cs (osS ++ [(⟨4, [], none, 0⟩ : Cov)])))) rfl rfl rfl (run_un rfl (by kernel_rfl) fun w => un_not w) ?_
                            refine vm (i := 3) (v := .bool (!(rightX cs (osS ++ [(⟨4, [], none, 0⟩ : Cov)])))) rfl rfl rfl ?_
                            cases h16 : (rightX cs (osS ++ [(⟨4, [], none, 0⟩ : Cov)])) with
                            | false =>
                              refine vb (i := 4) (v := .agg (shC (.slice (some ⟨g6, 0, none⟩) cs.length cap6) (.slice p20 ((osS ++ [(⟨4, [], none, 0⟩ : Cov)]).length) c20) tl0).toArray) rfl rfl rfl (yb_rs (off := 0) (cs := _) rfl (by kernel_rfl) (fun W hW => ((HGZ.out).keep hW.1).2) Try.underlying32 rfl (by kernel_rfl)) ?_
                              refine vm (i := 5) (v := .int .i64 (min v (-1))) rfl rfl rfl ?_
                              refine vv (i := 6) (v := .int .i64 (fiN (covOf cs (osS ++ [(⟨4, [], none, 0⟩ : Cov)]) (min v (-1))))) rfl rfl rfl (yb_call (f := 16) (args := #[.agg (shC (.slice (some ⟨g6, 0, none⟩) cs.length cap6) (.slice p20 ((osS ++ [(⟨4, [], none, 0⟩ : Cov)]).length) c20) tl0).toArray, .int .i64 (min v (-1))]) (fun _ => by kernel_rfl) fun W hW => CoverOf_any cs (some ⟨g6, 0, none⟩) cap6 (by omega) (osS ++ [(⟨4, [], none, 0⟩ : Cov)]) p20 c20 (by have h9 := loS; simp only [List.length_append, List.length_cons, List.length_nil]; omega) tl0 (min v (-1)) W ((RL.base HCZ.out) _ (hW.sub (fun _ h => by cases h))) ((RL.base HOZ.out) _ (hW.sub (fun _ h => by cases h))) (HRZ.out.keep hW.1) hlr) ?_
                              refine vp (i := 7) (v := .bool true) rfl rfl rfl (run_bin rfl (vx := (.int .i64 (fiN (covOf cs (osS ++ [(⟨4, [], none, 0⟩ : Cov)]) (min v (-1)))))) (vy := (.int .i64 (-1))) (by kernel_rfl) (by kernel_rfl) fun w => bi_eql (decide_eq_true (cov_low hlo)) w) ?_
                              refine vm (i := 8) (v := .bool true) rfl rfl rfl ?_
                              refine vm (i := 9) (v := .bool true) rfl rfl rfl ?_
                              refine vb (i := 10) (v := .agg (shC (.slice (some ⟨g6, 0, none⟩) cs.length cap6) (.slice p20 ((osS ++ [(⟨4, [], none, 0⟩ : Cov)]).length) c20) tl0).toArray) rfl rfl rfl (yb_rs (off := 0) (cs := _) rfl (by kernel_rfl) (fun W hW => ((HGZ.out).keep hW.1).2) Try.underlying32 rfl (by kernel_rfl)) ?_
                              refine vm (i := 11) (v := .int .i64 (min v (-1))) rfl rfl rfl ?_
                              refine vb (i := 14) (v := .agg (shC (.slice (some ⟨g6, 0, none⟩) cs.length cap6) (.slice p20 ((osS ++ [(⟨4, [], none, 0⟩ : Cov)]).length) c20) tl0).toArray) rfl rfl rfl (yb_rs (off := 0) (cs := _) rfl (by kernel_rfl) (fun W hW => ((HGZ.out).keep hW.1).2) Try.underlying32 rfl (by kernel_rfl)) ?_
                              refine vm (i := 15) (v := .int .i64 (max v 0)) rfl rfl rfl ?_
                              refine vp (i := 16) (v := .int .i64 (max (max v 0) 100)) rfl rfl rfl (run_max2 (x := (max v 0)) (y := 100) (z := (max (max v 0) 100)) rfl (by kernel_rfl) (by kernel_rfl) rfl) ?_
                              refine vb (i := 20) (v := .agg (shC (.slice (some ⟨g6, 0, none⟩) cs.length cap6) (.slice p20 ((osS ++ [(⟨4, [], none, 0⟩ : Cov)]).length) c20) tl0).toArray) rfl rfl rfl (yb_rs (off := 0) (cs := _) rfl (by kernel_rfl) (fun W hW => ((HGZ.out).keep hW.1).2) Try.underlying32 rfl (by kernel_rfl)) ?_
                              refine vm (i := 21) (v := .int .i64 (min v (-1))) rfl rfl rfl ?_
                              refine wpV_c (i := 12) (OutRL inC W25 [] (alongX cs (osS ++ [(⟨4, [], none, 0⟩ : Cov)]) (min v (-1)) false)) rfl rfl (by kernel_rfl) (by kernel_rfl) (fun _ => (by kernel_rfl)) (fun W hW => calls_r hW (Under_any cs (some ⟨g6, 0, none⟩) cap6 (by omega) (osS ++ [(⟨4, [], none, 0⟩ : Cov)]) p20 c20 (by have h9 := loS; simp only [List.length_append, List.length_cons, List.length_nil]; omega) tl0 (min v (-1)) W ((RL.base HCZ.out) _ (hW.sub (fun _ h => by cases h))) ((RL.base HOZ.out) _ (hW.sub (fun _ h => by cases h))) (HRZ.out.keep hW.1) hlr)) (fun v K9 hG => hG.sub) (fun _ => by simp only [List.setIfInBounds_toArray, List.set_cons_succ, List.set_cons_zero] <;> rfl) ?_
                              rintro _ Kl21 ⟨p21, c21, _, rfl, n21, R21, N21, rfl⟩
                              have hl21 : (alongX cs (osS ++ [(⟨4, [], none, 0⟩ : Cov)]) (min v (-1)) false).length = 0 := by rw [al_low hlo]; rfl
                              refine vp (i := 13) (v := .int .i64 ((((alongX cs (osS ++ [(⟨4, [], none, 0⟩ : Cov)]) (min v (-1)) false).length) : Nat) : Int)) rfl rfl rfl (run_lenL (p := p21) (cap := c21) (n := (alongX cs (osS ++ [(⟨4, [], none, 0⟩ : Cov)]) (min v (-1)) false).length) rfl Try.underlying39 (by kernel_rfl)) ?_
                              refine wpV_c (i := 17) (OutRL inC W25 Kl21 (alongX cs (osS ++ [(⟨4, [], none, 0⟩ : Cov)]) (max (max v 0) 100) true)) rfl rfl (by kernel_rfl) (by kernel_rfl) (fun _ => (by kernel_rfl)) (fun W hW => calls_r hW (Upon_any cs (some ⟨g6, 0, none⟩) cap6 (by omega) (osS ++ [(⟨4, [], none, 0⟩ : Cov)]) p20 c20 (by have h9 := loS; simp only [List.length_append, List.length_cons, List.length_nil]; omega) tl0 (max (max v 0) 100) W ((RL.base HCZ.out) _ (hW.sub (fun _ h => by cases h))) ((RL.base HOZ.out) _ (hW.sub (fun _ h => by cases h))) (HRZ.out.keep hW.1) hlr)) (fun v K9 hG => hG.sub) (fun _ => by simp only [List.setIfInBounds_toArray, List.set_cons_succ, List.set_cons_zero] <;> rfl) ?_
                              rintro _ _ ⟨p22, c22, Kl22, rfl, n22, R22, N22, rfl⟩
                              obtain dj23_0 : Dj Kl21 Kl22 := by simpa only [dj_app_l, dj_app_r, dj_cons_l, dj_cons_r, dj_nil_l, dj_nil_r, dk_app, dk_cons, dk_nil, and_true, true_and, and_assoc] using (show Dj Kl21 Kl22 from N22)
                              have hl22 : (alongX cs (osS ++ [(⟨4, [], none, 0⟩ : Cov)]) (max (max v 0) 100) true).length = 0 := by rw [al_high (by omega) (by have h9 := loS; simp only [List.length_append, List.length_cons, List.length_nil]; omega)]; rfl
                              refine vp (i := 18) (v := .int .i64 ((((alongX cs (osS ++ [(⟨4, [], none, 0⟩ : Cov)]) (max (max v 0) 100) true).length) : Nat) : Int)) rfl rfl rfl (run_lenL (p := p22) (cap := c22) (n := (alongX cs (osS ++ [(⟨4, [], none, 0⟩ : Cov)]) (max (max v 0) 100) true).length) rfl Try.underlying39 (by kernel_rfl)) ?_
                              refine vp (i := 19) (v := .int .i64 (((((alongX cs (osS ++ [(⟨4, [], none, 0⟩ : Cov)]) (min v (-1)) false).length) + ((alongX cs (osS ++ [(⟨4, [], none, 0⟩ : Cov)]) (max (max v 0) 100) true).length)) : Nat) : Int)) rfl rfl rfl (run_bin rfl (vx := (.int .i64 ((((alongX cs (osS ++ [(⟨4, [], none, 0⟩ : Cov)]) (min v (-1)) false).length) : Nat) : Int))) (vy := (.int .i64 ((((alongX cs (osS ++ [(⟨4, [], none, 0⟩ : Cov)]) (max (max v 0) 100) true).length) : Nat) : Int))) (by kernel_rfl) (by kernel_rfl) fun w => bn_add (z := (((alongX cs (osS ++ [(⟨4, [], none, 0⟩ : Cov)]) (min v (-1)) false).length) + ((alongX cs (osS ++ [(⟨4, [], none, 0⟩ : Cov)]) (max (max v 0) 100) true).length))) rfl (wr_i64 (by omega)) w) ?_
                              refine wpV_c (i := 22) (OutRL inC W25 (Kl21 ++ Kl22) (besideX cs (min v (-1)))) rfl rfl (by kernel_rfl) (by kernel_rfl) (fun _ => (by kernel_rfl)) (fun W hW => calls_r hW (Beside_any cs (some ⟨g6, 0, none⟩) cap6 (by omega) (osS ++ [(⟨4, [], none, 0⟩ : Cov)]) p20 c20 (by have h9 := loS; simp only [List.length_append, List.length_cons, List.length_nil]; omega) tl0 (min v (-1)) W ((RL.base HCZ.out) _ (hW.sub (fun _ h => by cases h))) ((RL.base HOZ.out) _ (hW.sub (fun _ h => by cases h))))) (fun v K9 hG => hG.sub) (fun _ => by simp only [List.setIfInBounds_toArray, List.set_cons_succ, List.set_cons_zero] <;> rfl) ?_
                              rintro _ _ ⟨p24, c24, Kl24, rfl, n24, R24, N24, rfl⟩
                              obtain ⟨dj25_0, dj25_1⟩ : Dj Kl21 Kl24 ∧ Dj Kl22 Kl24 := by simpa only [dj_app_l, dj_app_r, dj_cons_l, dj_cons_r, dj_nil_l, dj_nil_r, dk_app, dk_cons, dk_nil, and_true, true_and, and_assoc] using (show Dj (Kl21 ++ Kl22) Kl24 from N24)
                              have hl24 : (besideX cs (min v (-1))).length = 0 := by rw [bes_low hlo]; rfl
                              refine vp (i := 23) (v := .int .i64 ((((besideX cs (min v (-1))).length) : Nat) : Int)) rfl rfl rfl (run_lenL (p := p24) (cap := c24) (n := (besideX cs (min v (-1))).length) rfl Try.underlying39 (by kernel_rfl)) ?_
                              refine vp (i := 24) (v := .int .i64 ((((((alongX cs (osS ++ [(⟨4, [], none, 0⟩ : Cov)]) (min v (-1)) false).length) + ((alongX cs (osS ++ [(⟨4, [], none, 0⟩ : Cov)]) (max (max v 0) 100) true).length)) + ((besideX cs (min v (-1))).length)) : Nat) : Int)) rfl rfl rfl (run_bin rfl (vx := (.int .i64 (((((alongX cs (osS ++ [(⟨4, [], none, 0⟩ : Cov)]) (min v (-1)) false).length) + ((alongX cs (osS ++ [(⟨4, [], none, 0⟩ : Cov)]) (max (max v 0) 100) true).length)) : Nat) : Int))) (vy := (.int .i64 ((((besideX cs (min v (-1))).length) : Nat) : Int))) (by kernel_rfl) (by kernel_rfl) fun w => bn_add (z := ((((alongX cs (osS ++ [(⟨4, [], none, 0⟩ : Cov)]) (min v (-1)) false).length) + ((alongX cs (osS ++ [(⟨4, [], none, 0⟩ : Cov)]) (max (max v 0) 100) true).length)) + ((besideX cs (min v (-1))).length))) rfl (wr_i64 (by omega)) w) ?_
                              refine vp (i := 25) (v := .bool true) rfl rfl rfl (run_bin rfl (vx := (.int .i64 ((((((alongX cs (osS ++ [(⟨4, [], none, 0⟩ : Cov)]) (min v (-1)) false).length) + ((alongX cs (osS ++ [(⟨4, [], none, 0⟩ : Cov)]) (max (max v 0) 100) true).length)) + ((besideX cs (min v (-1))).length)) : Nat) : Int))) (vy := (.int .i64 ((0 : Nat) : Int))) (by kernel_rfl) (by kernel_rfl) fun w => bn_eql (decide_eq_true (by omega)) w) ?_
                              refine vm (i := 26) (v := .bool true) rfl rfl rfl ?_
                              refine vm (i := 27) (v := .bool true) rfl rfl rfl ?_
                              refine vv (i := 28) (v := .bool true) rfl rfl rfl (yb_call (f := 20) (args := #[.slice none 0 0, .slice none 0 0]) (fun _ => by kernel_rfl) fun W hW => SameInts_any [] [] none none 0 0 (Nat.zero_le _) W (.inl rfl) (.inl rfl)) ?_
                              refine vm (i := 29) (v := .bool true) rfl rfl rfl ?_
                              refine vm (i := 30) (v := .bool true) rfl rfl rfl ?_
                              refine vv (i := 31) (v := .bool true) rfl rfl rfl (yb_call (f := 10) (args := #[]) (fun _ => by kernel_rfl) fun W hW => awake_any W) ?_
                              refine vm (i := 32) (v := .bool true) rfl rfl rfl ?_
                              refine vm (i := 33) (v := .bool true) rfl rfl rfl ?_
                              refine wpV_done (by kernel_rfl) (fun W26 hW26 => ?_) _
                              refine (show Code.wp _ _ _ _ _ from ?_)
                              refine wp_ret ?_
                              try simp only [inBlock_ret, then_ret]
                              refine bodyPost_ret (v := .bool true) ?_ rfl ?_
                              · kernel_rfl
                              · exact ⟨rfl, (hbZ.trans (hW26.1.mono hbZ.size))⟩
                            | true =>
                              exact absurd h16 (by rw [hbad]; decide)
                        | true =>
                          have h12 : wy = 11 := of_decide_eq_true hd12
                          clear hd12
                          refine wp_cond_true rfl ?_
                          refine wp_region_L (W0 := WB) [(g1, .cells (shC (.slice (some ⟨g6, 0, none⟩) cs.length cap6) (.slice poS osS.length coS) tl0).toArray 32 (0, 0)), (g6, .cells cur6 53 (0, 0))] (hW20) ?_
                          refine wpL_new (fun g => .slice (some ⟨g, 0, none⟩) 0 0) (obi := .cells #[] 55 (0, 0)) rfl rfl (fun _ => by kernel_rfl) (fun _ => by simp only [List.setIfInBounds_toArray, List.set_cons_succ, List.set_cons_zero] <;> rfl) fun g26 Bg26 Fg26 => ?_
                          obtain ⟨dj27_0, dj27_1⟩ : g1 ≠ g26 ∧ g6 ≠ g26 := by simpa only [dj_app_l, dj_app_r, dj_cons_l, dj_cons_r, dj_nil_l, dj_nil_r, dk_app, dk_cons, dk_nil, and_true, true_and, and_assoc] using (show Dk g26 [(g1, .cells (shC (.slice (some ⟨g6, 0, none⟩) cs.length cap6) (.slice poS osS.length coS) tl0).toArray 32 (0, 0)), (g6, .cells cur6 53 (0, 0))] from Fg26)
                          refine lm (v := .pointer (some ⟨g1, 1, none⟩)) rfl rfl ?_
                          refine lv (v := .slice poS osS.length coS) rfl rfl (yb_cell (off := 1) rfl (by kernel_rfl) (.tail _ (.head _)) Try.underlying23 rfl (by kernel_rfl)) ?_
                          refine wpL_g (AppO WB 55 2 [(g1, .cells (shC (.slice (some ⟨g6, 0, none⟩) cs.length cap6) (.slice poS osS.length coS) tl0).toArray 32 (0, 0)), (g6, .cells cur6 53 (0, 0))] (0 + osS.length) ((([] : List Cov).flatMap covC) ++ (osS.flatMap covC))) rfl rfl (app_any el_cov (m := osS.length) (news := (osS.flatMap covC)) (y := .slice poS osS.length coS) rfl (by kernel_rfl) (by kernel_rfl) (src_rl (c := coS) Try.underlying23 covC_len covC_one (by decide) ((RL.base HOS.out).mono (fun _ h => by cases h)) rfl) (own_rnone (cells := covC) Bg26) (fun p hp => by cases List.mem_singleton.1 hp; exact (.head _)) (fun p hp => ⟨by simp only [List.mem_cons, List.mem_append, List.nil_append, List.not_mem_nil, or_assoc, or_false, false_or] at hp ⊢ <;> grind, (show Dj [(g1, .cells (shC (.slice (some ⟨g6, 0, none⟩) cs.length cap6) (.slice poS osS.length coS) tl0).toArray 32 (0, 0)), (g6, .cells cur6 53 (0, 0))] [(g26, .cells #[] 55 (0, 0))] from (by (try simp only [dj_app_l, dj_app_r, dj_cons_l, dj_cons_r, dj_nil_l, dj_nil_r, dk_app, dk_cons, dk_nil, and_true, true_and, and_assoc]); repeat' (first | trivial | assumption | exact Dj.symm (by assumption) | exact Ne.symm (by assumption) | apply And.intro))) p hp⟩) (by omega) (by omega)) (fun _ => by simp only [List.setIfInBounds_toArray, List.set_cons_succ, List.set_cons_zero] <;> rfl) ?_
                          rintro v28 K9 ⟨Kl28, O28, N28, rfl⟩
                          obtain ⟨dj29_0, dj29_1⟩ : Dk g1 Kl28 ∧ Dk g6 Kl28 := by simpa only [dj_app_l, dj_app_r, dj_cons_l, dj_cons_r, dj_nil_l, dj_nil_r, dk_app, dk_cons, dk_nil, and_true, true_and, and_assoc] using (show Dj [(g1, .cells (shC (.slice (some ⟨g6, 0, none⟩) cs.length cap6) (.slice poS osS.length coS) tl0).toArray 32 (0, 0)), (g6, .cells cur6 53 (0, 0))] Kl28 from N28)
                          refine wpL_new (fun g => .slice (some ⟨g, 0, none⟩) 1 1) (obi := .cells #[.int .i64 5] 3 (0, 0)) rfl rfl (fun _ => by kernel_rfl) (fun _ => by simp only [List.setIfInBounds_toArray, List.set_cons_succ, List.set_cons_zero] <;> rfl) fun g30 Bg30 Fg30 => ?_
                          obtain ⟨dj31_0, dj31_1, dj31_2⟩ : g1 ≠ g30 ∧ g6 ≠ g30 ∧ Dk g30 Kl28 := by simpa only [dj_app_l, dj_app_r, dj_cons_l, dj_cons_r, dj_nil_l, dj_nil_r, dk_app, dk_cons, dk_nil, and_true, true_and, and_assoc] using (show Dk g30 ((g1, .cells (shC (.slice (some ⟨g6, 0, none⟩) cs.length cap6) (.slice poS osS.length coS) tl0).toArray 32 (0, 0)) :: (g6, .cells cur6 53 (0, 0)) :: Kl28) from Fg30)
                          refine lm (v := .agg #[.int .i64 3, .slice (some ⟨g30, 0, none⟩) 1 1]) rfl rfl ?_
                          refine wpL_new (fun g => .slice (some ⟨g, 0, none⟩) 2 2) (obi := .cells #[.int .i64 4, .int .i64 5] 3 (0, 0)) rfl rfl (fun _ => by kernel_rfl) (fun _ => by simp only [List.setIfInBounds_toArray, List.set_cons_succ, List.set_cons_zero] <;> rfl) fun g32 Bg32 Fg32 => ?_
                          obtain ⟨dj33_0, dj33_1, dj33_2, dj33_3⟩ : g30 ≠ g32 ∧ g1 ≠ g32 ∧ g6 ≠ g32 ∧ Dk g32 Kl28 := by simpa only [dj_app_l, dj_app_r, dj_cons_l, dj_cons_r, dj_nil_l, dj_nil_r, dk_app, dk_cons, dk_nil, and_true, true_and, and_assoc] using (show Dk g32 ((g30, .cells #[.int .i64 5] 3 (0, 0)) :: (g1, .cells (shC (.slice (some ⟨g6, 0, none⟩) cs.length cap6) (.slice poS osS.length coS) tl0).toArray 32 (0, 0)) :: (g6, .cells cur6 53 (0, 0)) :: Kl28) from Fg32)
                          refine lm (v := .agg #[.int .i64 3, .slice (some ⟨g32, 0, none⟩) 2 2]) rfl rfl ?_
                          refine wpL_new (fun g => .slice (some ⟨g, 0, none⟩) 2 2) (obi := .cells #[.int .i64 3, .slice (some ⟨g30, 0, none⟩) 1 1, .int .i64 3, .slice (some ⟨g32, 0, none⟩) 2 2] 55 (0, 0)) rfl rfl (fun _ => by kernel_rfl) (fun _ => by simp only [List.setIfInBounds_toArray, List.set_cons_succ, List.set_cons_zero] <;> rfl) fun g34 Bg34 Fg34 => ?_
                          obtain ⟨dj35_0, dj35_1, dj35_2, dj35_3, dj35_4⟩ : g32 ≠ g34 ∧ g30 ≠ g34 ∧ g1 ≠ g34 ∧ g6 ≠ g34 ∧ Dk g34 Kl28 := by simpa only [dj_app_l, dj_app_r, dj_cons_l, dj_cons_r, dj_nil_l, dj_nil_r, dk_app, dk_cons, dk_nil, and_true, true_and, and_assoc] using (show Dk g34 ((g32, .cells #[.int .i64 4, .int .i64 5] 3 (0, 0)) :: (g30, .cells #[.int .i64 5] 3 (0, 0)) :: (g1, .cells (shC (.slice (some ⟨g6, 0, none⟩) cs.length cap6) (.slice poS osS.length coS) tl0).toArray 32 (0, 0)) :: (g6, .cells cur6 53 (0, 0)) :: Kl28) from Fg34)
                          refine wpL_g (AppO WB 55 2 [(g32, .cells #[.int .i64 4, .int .i64 5] 3 (0, 0)), (g30, .cells #[.int .i64 5] 3 (0, 0)), (g1, .cells (shC (.slice (some ⟨g6, 0, none⟩) cs.length cap6) (.slice poS osS.length coS) tl0).toArray 32 (0, 0)), (g6, .cells cur6 53 (0, 0))] ((0 + osS.length) + 2) (((([] : List Cov).flatMap covC) ++ (osS.flatMap covC)) ++ [.int .i64 3, .slice (some ⟨g30, 0, none⟩) 1 1, .int .i64 3, .slice (some ⟨g32, 0, none⟩) 2 2])) rfl rfl (app_own el_cov (m := 2) (c := 2) (news := [.int .i64 3, .slice (some ⟨g30, 0, none⟩) 1 1, .int .i64 3, .slice (some ⟨g32, 0, none⟩) 2 2]) rfl (by kernel_rfl) (by kernel_rfl) (.head _) O28 (fun p hp => by simp only [List.mem_cons, List.mem_append, List.nil_append, List.not_mem_nil, or_assoc, or_false, false_or, hp, or_true, true_or]) (fun p hp => ⟨by simp only [List.mem_cons, List.mem_append, List.nil_append, List.not_mem_nil, or_assoc, or_false, false_or] at hp ⊢ <;> grind, (show Dj [(g32, .cells #[.int .i64 4, .int .i64 5] 3 (0, 0)), (g30, .cells #[.int .i64 5] 3 (0, 0)), (g1, .cells (shC (.slice (some ⟨g6, 0, none⟩) cs.length cap6) (.slice poS osS.length coS) tl0).toArray 32 (0, 0)), (g6, .cells cur6 53 (0, 0))] Kl28 from (by (try simp only [dj_app_l, dj_app_r, dj_cons_l, dj_cons_r, dj_nil_l, dj_nil_r, dk_app, dk_cons, dk_nil, and_true, true_and, and_assoc]); repeat' (first | trivial | assumption | exact Dj.symm (by assumption) | exact Ne.symm (by assumption) | apply And.intro))) p hp⟩) rfl (by simp [strV, Value.oneCell']) (by omega) (by omega) (by omega)) (fun _ => by simp only [List.setIfInBounds_toArray, List.set_cons_succ, List.set_cons_zero] <;> rfl) ?_
                          rintro v36 K9 ⟨Kl36, O36, N36, rfl⟩
                          obtain ⟨dj37_0, dj37_1, dj37_2, dj37_3⟩ : Dk g32 Kl36 ∧ Dk g30 Kl36 ∧ Dk g1 Kl36 ∧ Dk g6 Kl36 := by simpa only [dj_app_l, dj_app_r, dj_cons_l, dj_cons_r, dj_nil_l, dj_nil_r, dk_app, dk_cons, dk_nil, and_true, true_and, and_assoc] using (show Dj [(g32, .cells #[.int .i64 4, .int .i64 5] 3 (0, 0)), (g30, .cells #[.int .i64 5] 3 (0, 0)), (g1, .cells (shC (.slice (some ⟨g6, 0, none⟩) cs.length cap6) (.slice poS osS.length coS) tl0).toArray 32 (0, 0)), (g6, .cells cur6 53 (0, 0))] Kl36 from N36)
                          refine lm (v := .pointer (some ⟨g1, 1, none⟩)) rfl rfl ?_
                          replace O36 := own_app (cells := covC) (l' := (osS ++ [(⟨3, [5], some ⟨g30, 0, none⟩, 1⟩ : Cov), (⟨3, [4, 5], some ⟨g32, 0, none⟩, 2⟩ : Cov)])) O36 (by simp only [List.flatMap_append, List.flatMap_nil, List.nil_append, List.append_assoc, List.flatMap_cons, List.append_nil] <;> rfl) (by simp only [List.length_append, List.length_take, List.length_drop, List.length_nil, List.length_cons] <;> omega)
                          obtain ⟨p38, c38, rfl, n38, R38⟩ := own_rl O36
                          refine wpL_s ((g32, .cells #[.int .i64 4, .int .i64 5] 3 (0, 0)) :: (g30, .cells #[.int .i64 5] 3 (0, 0)) :: (g1, .cells (shC (.slice (some ⟨g6, 0, none⟩) cs.length cap6) (.slice p38 ((osS ++ [(⟨3, [5], some ⟨g30, 0, none⟩, 1⟩ : Cov), (⟨3, [4, 5], some ⟨g32, 0, none⟩, 2⟩ : Cov)]).length) c38) tl0).toArray 32 (0, 0)) :: (g6, .cells cur6 53 (0, 0)) :: Kl36) rfl rfl (st_row (off := 1) (v := .slice p38 ((osS ++ [(⟨3, [5], some ⟨g30, 0, none⟩, 1⟩ : Cov), (⟨3, [4, 5], some ⟨g32, 0, none⟩, 2⟩ : Cov)]).length) c38) rfl (by kernel_rfl) (by kernel_rfl) (.tail _ (.tail _ (.head _))) Bg1 (by kernel_rfl) (by first | (simp [Value.cells]; done) | exact Nat.le_of_ble_eq_true rfl) (by intro v hv; simp [Value.cells] at hv; first | (subst hv; rfl) | (rcases hv with rfl <;> rfl)) (by kernel_rfl) (List.forall_mem_cons.2 ⟨.inr ⟨(.head _), (by first | assumption | exact Ne.symm (by assumption))⟩, (List.forall_mem_cons.2 ⟨.inr ⟨(.tail _ (.head _)), (by first | assumption | exact Ne.symm (by assumption))⟩, (List.forall_mem_cons.2 ⟨.inl rfl, (List.forall_mem_cons.2 ⟨.inr ⟨(.tail _ (.tail _ (.tail _ (.head _)))), (by first | assumption | exact Ne.symm (by assumption))⟩, (fun p hp => .inr ⟨(.tail _ (.tail _ (.tail _ (.tail _ hp)))), ((show Dk g1 Kl36 from (by (try simp only [dj_app_l, dj_app_r, dj_cons_l, dj_cons_r, dj_nil_l, dj_nil_r, dk_app, dk_cons, dk_nil, and_true, true_and, and_assoc]); repeat' (first | trivial | assumption | exact Dj.symm (by assumption) | exact Ne.symm (by assumption) | apply And.intro))) _ hp)⟩)⟩)⟩)⟩)⟩)) ?_
                          refine wpL_done (fun W27 hW27 => ?_)
                          refine (show Code.wp _ _ _ _ _ from ?_)
                          refine wp_seq ?_
                          have hbZ := hWB.1.trans (hW27.1.mono hWB.1.size)
                          have HCZ := Lib.hid (show SLV W27 (some ⟨g6, 0, none⟩) (cs.flatMap colC) from (rowr_slv hW27 (.tail _ (.tail _ (.tail _ (.head _)))) hr6))
                          have HOZ := Lib.hid (show SLV W27 p38 ((osS ++ [(⟨3, [5], some ⟨g30, 0, none⟩, 1⟩ : Cov), (⟨3, [4, 5], some ⟨g32, 0, none⟩, 2⟩ : Cov)]).flatMap covC) from (R38 _ (hW27.sub (fun p hp => by simp only [List.mem_cons, List.mem_append, List.nil_append, List.not_mem_nil, or_assoc, or_false, false_or, hp, true_or, or_true]))))
                          have HRZ := Lib.hid (show RwR W27 (osS ++ [(⟨3, [5], some ⟨g30, 0, none⟩, 1⟩ : Cov), (⟨3, [4, 5], some ⟨g32, 0, none⟩, 2⟩ : Cov)]) from (rw_app (HRS.out.keep hW27.1) (rw_cons (o := (⟨3, [5], some ⟨g30, 0, none⟩, 1⟩ : Cov)) (blk_slv hW27 (.tail _ (.head _))) (rw_cons (o := (⟨3, [4, 5], some ⟨g32, 0, none⟩, 2⟩ : Cov)) (blk_slv hW27 (.head _)) (fun _ h => by cases h)))))
                          have HPZ := Lib.hid (show PlR W27 cs from (HPS.out.keep hW27.1))
                          have hlp : ∀ c ∈ cs, c.plugs.length ≤ 4000000000 := lpS
                          have hlr : ∀ o ∈ (osS ++ [(⟨3, [5], some ⟨g30, 0, none⟩, 1⟩ : Cov), (⟨3, [4, 5], some ⟨g32, 0, none⟩, 2⟩ : Cov)]), o.rows.length ≤ 4000000000 := (rl_app lrS (fun o ho => by simp only [List.mem_cons, List.not_mem_nil, or_false] at ho; rcases ho with rfl | rfl <;> exact Nat.le_of_ble_eq_true rfl))
                          have hbad : rightX cs (osS ++ [(⟨3, [5], some ⟨g30, 0, none⟩, 1⟩ : Cov), (⟨3, [4, 5], some ⟨g32, 0, none⟩, 2⟩ : Cov)]) = false := ov_dup (r := 5) rfl (.head _) (.tail _ (.head _))
                          have HGZ := Lib.hid (CapR.of (cs := (shC (.slice (some ⟨g6, 0, none⟩) cs.length cap6) (.slice p38 ((osS ++ [(⟨3, [5], some ⟨g30, 0, none⟩, 1⟩ : Cov), (⟨3, [4, 5], some ⟨g32, 0, none⟩, 2⟩ : Cov)]).length) c38) tl0)) hW27 (.tail _ (.tail _ (.head _))))
                          refine wp_region_V (W0 := W27) [] (by kernel_rfl) ((KS.start W27)) ?_
                          refine vb (i := 0) (v := .agg (shC (.slice (some ⟨g6, 0, none⟩) cs.length cap6) (.slice p38 ((osS ++ [(⟨3, [5], some ⟨g30, 0, none⟩, 1⟩ : Cov), (⟨3, [4, 5], some ⟨g32, 0, none⟩, 2⟩ : Cov)]).length) c38) tl0).toArray) rfl rfl rfl (yb_rs (off := 0) (cs := _) rfl (by kernel_rfl) (fun W hW => ((HGZ.out).keep hW.1).2) Try.underlying32 rfl (by kernel_rfl)) ?_
                          refine vv (i := 1) (v := .bool (rightX cs (osS ++ [(⟨3, [5], some ⟨g30, 0, none⟩, 1⟩ : Cov), (⟨3, [4, 5], some ⟨g32, 0, none⟩, 2⟩ : Cov)]))) rfl rfl rfl (yb_call (f := 14) (args := #[.agg (shC (.slice (some ⟨g6, 0, none⟩) cs.length cap6) (.slice p38 ((osS ++ [(⟨3, [5], some ⟨g30, 0, none⟩, 1⟩ : Cov), (⟨3, [4, 5], some ⟨g32, 0, none⟩, 2⟩ : Cov)]).length) c38) tl0).toArray]) (fun _ => by kernel_rfl) fun W hW => Right_any cs (some ⟨g6, 0, none⟩) cap6 (by omega) (osS ++ [(⟨3, [5], some ⟨g30, 0, none⟩, 1⟩ : Cov), (⟨3, [4, 5], some ⟨g32, 0, none⟩, 2⟩ : Cov)]) p38 c38 (by have h9 := loS; simp only [List.length_append, List.length_cons, List.length_nil]; omega) tl0 W ((RL.base HCZ.out) _ (hW.sub (fun _ h => by cases h))) ((RL.base HOZ.out) _ (hW.sub (fun _ h => by cases h))) (HRZ.out.keep hW.1) hlr (HPZ.out.keep hW.1) hlp) ?_
                          refine vp (i := 2) (v := .bool (!(rightX cs (osS ++ [(⟨3, [5], some ⟨g30, 0, none⟩, 1⟩ : Cov), (⟨3, [4, 5], some ⟨g32, 0, none⟩, 2⟩ : Cov)])))) rfl rfl rfl (run_un rfl (by kernel_rfl) fun w => un_not w) ?_
                          refine vm (i := 3) (v := .bool (!(rightX cs (osS ++ [(⟨3, [5], some ⟨g30, 0, none⟩, 1⟩ : Cov), (⟨3, [4, 5], some ⟨g32, 0, none⟩, 2⟩ : Cov)])))) rfl rfl rfl ?_
                          cases h17 : (rightX cs (osS ++ [(⟨3, [5], some ⟨g30, 0, none⟩, 1⟩ : Cov), (⟨3, [4, 5], some ⟨g32, 0, none⟩, 2⟩ : Cov)])) with
                          | false =>
                            refine vb (i := 4) (v := .agg (shC (.slice (some ⟨g6, 0, none⟩) cs.length cap6) (.slice p38 ((osS ++ [(⟨3, [5], some ⟨g30, 0, none⟩, 1⟩ : Cov), (⟨3, [4, 5], some ⟨g32, 0, none⟩, 2⟩ : Cov)]).length) c38) tl0).toArray) rfl rfl rfl (yb_rs (off := 0) (cs := _) rfl (by kernel_rfl) (fun W hW => ((HGZ.out).keep hW.1).2) Try.underlying32 rfl (by kernel_rfl)) ?_
                            refine vm (i := 5) (v := .int .i64 (min v (-1))) rfl rfl rfl ?_
                            refine vv (i := 6) (v := .int .i64 (fiN (covOf cs (osS ++ [(⟨3, [5], some ⟨g30, 0, none⟩, 1⟩ : Cov), (⟨3, [4, 5], some ⟨g32, 0, none⟩, 2⟩ : Cov)]) (min v (-1))))) rfl rfl rfl (yb_call (f := 16) (args := #[.agg (shC (.slice (some ⟨g6, 0, none⟩) cs.length cap6) (.slice p38 ((osS ++ [(⟨3, [5], some ⟨g30, 0, none⟩, 1⟩ : Cov), (⟨3, [4, 5], some ⟨g32, 0, none⟩, 2⟩ : Cov)]).length) c38) tl0).toArray, .int .i64 (min v (-1))]) (fun _ => by kernel_rfl) fun W hW => CoverOf_any cs (some ⟨g6, 0, none⟩) cap6 (by omega) (osS ++ [(⟨3, [5], some ⟨g30, 0, none⟩, 1⟩ : Cov), (⟨3, [4, 5], some ⟨g32, 0, none⟩, 2⟩ : Cov)]) p38 c38 (by have h9 := loS; simp only [List.length_append, List.length_cons, List.length_nil]; omega) tl0 (min v (-1)) W ((RL.base HCZ.out) _ (hW.sub (fun _ h => by cases h))) ((RL.base HOZ.out) _ (hW.sub (fun _ h => by cases h))) (HRZ.out.keep hW.1) hlr) ?_
                            refine vp (i := 7) (v := .bool true) rfl rfl rfl (run_bin rfl (vx := (.int .i64 (fiN (covOf cs (osS ++ [(⟨3, [5], some ⟨g30, 0, none⟩, 1⟩ : Cov), (⟨3, [4, 5], some ⟨g32, 0, none⟩, 2⟩ : Cov)]) (min v (-1)))))) (vy := (.int .i64 (-1))) (by kernel_rfl) (by kernel_rfl) fun w => bi_eql (decide_eq_true (cov_low hlo)) w) ?_
                            refine vm (i := 8) (v := .bool true) rfl rfl rfl ?_
                            refine vm (i := 9) (v := .bool true) rfl rfl rfl ?_
                            refine vb (i := 10) (v := .agg (shC (.slice (some ⟨g6, 0, none⟩) cs.length cap6) (.slice p38 ((osS ++ [(⟨3, [5], some ⟨g30, 0, none⟩, 1⟩ : Cov), (⟨3, [4, 5], some ⟨g32, 0, none⟩, 2⟩ : Cov)]).length) c38) tl0).toArray) rfl rfl rfl (yb_rs (off := 0) (cs := _) rfl (by kernel_rfl) (fun W hW => ((HGZ.out).keep hW.1).2) Try.underlying32 rfl (by kernel_rfl)) ?_
                            refine vm (i := 11) (v := .int .i64 (min v (-1))) rfl rfl rfl ?_
                            refine vb (i := 14) (v := .agg (shC (.slice (some ⟨g6, 0, none⟩) cs.length cap6) (.slice p38 ((osS ++ [(⟨3, [5], some ⟨g30, 0, none⟩, 1⟩ : Cov), (⟨3, [4, 5], some ⟨g32, 0, none⟩, 2⟩ : Cov)]).length) c38) tl0).toArray) rfl rfl rfl (yb_rs (off := 0) (cs := _) rfl (by kernel_rfl) (fun W hW => ((HGZ.out).keep hW.1).2) Try.underlying32 rfl (by kernel_rfl)) ?_
                            refine vm (i := 15) (v := .int .i64 (max v 0)) rfl rfl rfl ?_
                            refine vp (i := 16) (v := .int .i64 (max (max v 0) 100)) rfl rfl rfl (run_max2 (x := (max v 0)) (y := 100) (z := (max (max v 0) 100)) rfl (by kernel_rfl) (by kernel_rfl) rfl) ?_
                            refine vb (i := 20) (v := .agg (shC (.slice (some ⟨g6, 0, none⟩) cs.length cap6) (.slice p38 ((osS ++ [(⟨3, [5], some ⟨g30, 0, none⟩, 1⟩ : Cov), (⟨3, [4, 5], some ⟨g32, 0, none⟩, 2⟩ : Cov)]).length) c38) tl0).toArray) rfl rfl rfl (yb_rs (off := 0) (cs := _) rfl (by kernel_rfl) (fun W hW => ((HGZ.out).keep hW.1).2) Try.underlying32 rfl (by kernel_rfl)) ?_
                            refine vm (i := 21) (v := .int .i64 (min v (-1))) rfl rfl rfl ?_
                            refine wpV_c (i := 12) (OutRL inC W27 [] (alongX cs (osS ++ [(⟨3, [5], some ⟨g30, 0, none⟩, 1⟩ : Cov), (⟨3, [4, 5], some ⟨g32, 0, none⟩, 2⟩ : Cov)]) (min v (-1)) false)) rfl rfl (by kernel_rfl) (by kernel_rfl) (fun _ => (by kernel_rfl)) (fun W hW => calls_r hW (Under_any cs (some ⟨g6, 0, none⟩) cap6 (by omega) (osS ++ [(⟨3, [5], some ⟨g30, 0, none⟩, 1⟩ : Cov), (⟨3, [4, 5], some ⟨g32, 0, none⟩, 2⟩ : Cov)]) p38 c38 (by have h9 := loS; simp only [List.length_append, List.length_cons, List.length_nil]; omega) tl0 (min v (-1)) W ((RL.base HCZ.out) _ (hW.sub (fun _ h => by cases h))) ((RL.base HOZ.out) _ (hW.sub (fun _ h => by cases h))) (HRZ.out.keep hW.1) hlr)) (fun v K9 hG => hG.sub) (fun _ => by simp only [List.setIfInBounds_toArray, List.set_cons_succ, List.set_cons_zero] <;> rfl) ?_
                            rintro _ Kl39 ⟨p39, c39, _, rfl, n39, R39, N39, rfl⟩
                            have hl39 : (alongX cs (osS ++ [(⟨3, [5], some ⟨g30, 0, none⟩, 1⟩ : Cov), (⟨3, [4, 5], some ⟨g32, 0, none⟩, 2⟩ : Cov)]) (min v (-1)) false).length = 0 := by rw [al_low hlo]; rfl
                            refine vp (i := 13) (v := .int .i64 ((((alongX cs (osS ++ [(⟨3, [5], some ⟨g30, 0, none⟩, 1⟩ : Cov), (⟨3, [4, 5], some ⟨g32, 0, none⟩, 2⟩ : Cov)]) (min v (-1)) false).length) : Nat) : Int)) rfl rfl rfl (run_lenL (p := p39) (cap := c39) (n := (alongX cs (osS ++ [(⟨3, [5], some ⟨g30, 0, none⟩, 1⟩ : Cov), (⟨3, [4, 5], some ⟨g32, 0, none⟩, 2⟩ : Cov)]) (min v (-1)) false).length) rfl Try.underlying39 (by kernel_rfl)) ?_
                            refine wpV_c (i := 17) (OutRL inC W27 Kl39 (alongX cs (osS ++ [(⟨3, [5], some ⟨g30, 0, none⟩, 1⟩ : Cov), (⟨3, [4, 5], some ⟨g32, 0, none⟩, 2⟩ : Cov)]) (max (max v 0) 100) true)) rfl rfl (by kernel_rfl) (by kernel_rfl) (fun _ => (by kernel_rfl)) (fun W hW => calls_r hW (Upon_any cs (some ⟨g6, 0, none⟩) cap6 (by omega) (osS ++ [(⟨3, [5], some ⟨g30, 0, none⟩, 1⟩ : Cov), (⟨3, [4, 5], some ⟨g32, 0, none⟩, 2⟩ : Cov)]) p38 c38 (by have h9 := loS; simp only [List.length_append, List.length_cons, List.length_nil]; omega) tl0 (max (max v 0) 100) W ((RL.base HCZ.out) _ (hW.sub (fun _ h => by cases h))) ((RL.base HOZ.out) _ (hW.sub (fun _ h => by cases h))) (HRZ.out.keep hW.1) hlr)) (fun v K9 hG => hG.sub) (fun _ => by simp only [List.setIfInBounds_toArray, List.set_cons_succ, List.set_cons_zero] <;> rfl) ?_
                            rintro _ _ ⟨p40, c40, Kl40, rfl, n40, R40, N40, rfl⟩
                            obtain dj41_0 : Dj Kl39 Kl40 := by simpa only [dj_app_l, dj_app_r, dj_cons_l, dj_cons_r, dj_nil_l, dj_nil_r, dk_app, dk_cons, dk_nil, and_true, true_and, and_assoc] using (show Dj Kl39 Kl40 from N40)
                            have hl40 : (alongX cs (osS ++ [(⟨3, [5], some ⟨g30, 0, none⟩, 1⟩ : Cov), (⟨3, [4, 5], some ⟨g32, 0, none⟩, 2⟩ : Cov)]) (max (max v 0) 100) true).length = 0 := by rw [al_high (by omega) (by have h9 := loS; simp only [List.length_append, List.length_cons, List.length_nil]; omega)]; rfl
                            refine vp (i := 18) (v := .int .i64 ((((alongX cs (osS ++ [(⟨3, [5], some ⟨g30, 0, none⟩, 1⟩ : Cov), (⟨3, [4, 5], some ⟨g32, 0, none⟩, 2⟩ : Cov)]) (max (max v 0) 100) true).length) : Nat) : Int)) rfl rfl rfl (run_lenL (p := p40) (cap := c40) (n := (alongX cs (osS ++ [(⟨3, [5], some ⟨g30, 0, none⟩, 1⟩ : Cov), (⟨3, [4, 5], some ⟨g32, 0, none⟩, 2⟩ : Cov)]) (max (max v 0) 100) true).length) rfl Try.underlying39 (by kernel_rfl)) ?_
                            refine vp (i := 19) (v := .int .i64 (((((alongX cs (osS ++ [(⟨3, [5], some ⟨g30, 0, none⟩, 1⟩ : Cov), (⟨3, [4, 5], some ⟨g32, 0, none⟩, 2⟩ : Cov)]) (min v (-1)) false).length) + ((alongX cs (osS ++ [(⟨3, [5], some ⟨g30, 0, none⟩, 1⟩ : Cov), (⟨3, [4, 5], some ⟨g32, 0, none⟩, 2⟩ : Cov)]) (max (max v 0) 100) true).length)) : Nat) : Int)) rfl rfl rfl (run_bin rfl (vx := (.int .i64 ((((alongX cs (osS ++ [(⟨3, [5], some ⟨g30, 0, none⟩, 1⟩ : Cov), (⟨3, [4, 5], some ⟨g32, 0, none⟩, 2⟩ : Cov)]) (min v (-1)) false).length) : Nat) : Int))) (vy := (.int .i64 ((((alongX cs (osS ++ [(⟨3, [5], some ⟨g30, 0, none⟩, 1⟩ : Cov), (⟨3, [4, 5], some ⟨g32, 0, none⟩, 2⟩ : Cov)]) (max (max v 0) 100) true).length) : Nat) : Int))) (by kernel_rfl) (by kernel_rfl) fun w => bn_add (z := (((alongX cs (osS ++ [(⟨3, [5], some ⟨g30, 0, none⟩, 1⟩ : Cov), (⟨3, [4, 5], some ⟨g32, 0, none⟩, 2⟩ : Cov)]) (min v (-1)) false).length) + ((alongX cs (osS ++ [(⟨3, [5], some ⟨g30, 0, none⟩, 1⟩ : Cov), (⟨3, [4, 5], some ⟨g32, 0, none⟩, 2⟩ : Cov)]) (max (max v 0) 100) true).length))) rfl (wr_i64 (by omega)) w) ?_
                            refine wpV_c (i := 22) (OutRL inC W27 (Kl39 ++ Kl40) (besideX cs (min v (-1)))) rfl rfl (by kernel_rfl) (by kernel_rfl) (fun _ => (by kernel_rfl)) (fun W hW => calls_r hW (Beside_any cs (some ⟨g6, 0, none⟩) cap6 (by omega) (osS ++ [(⟨3, [5], some ⟨g30, 0, none⟩, 1⟩ : Cov), (⟨3, [4, 5], some ⟨g32, 0, none⟩, 2⟩ : Cov)]) p38 c38 (by have h9 := loS; simp only [List.length_append, List.length_cons, List.length_nil]; omega) tl0 (min v (-1)) W ((RL.base HCZ.out) _ (hW.sub (fun _ h => by cases h))) ((RL.base HOZ.out) _ (hW.sub (fun _ h => by cases h))))) (fun v K9 hG => hG.sub) (fun _ => by simp only [List.setIfInBounds_toArray, List.set_cons_succ, List.set_cons_zero] <;> rfl) ?_
                            rintro _ _ ⟨p42, c42, Kl42, rfl, n42, R42, N42, rfl⟩
                            obtain ⟨dj43_0, dj43_1⟩ : Dj Kl39 Kl42 ∧ Dj Kl40 Kl42 := by simpa only [dj_app_l, dj_app_r, dj_cons_l, dj_cons_r, dj_nil_l, dj_nil_r, dk_app, dk_cons, dk_nil, and_true, true_and, and_assoc] using (show Dj (Kl39 ++ Kl40) Kl42 from N42)
                            have hl42 : (besideX cs (min v (-1))).length = 0 := by rw [bes_low hlo]; rfl
                            refine vp (i := 23) (v := .int .i64 ((((besideX cs (min v (-1))).length) : Nat) : Int)) rfl rfl rfl (run_lenL (p := p42) (cap := c42) (n := (besideX cs (min v (-1))).length) rfl Try.underlying39 (by kernel_rfl)) ?_
                            refine vp (i := 24) (v := .int .i64 ((((((alongX cs (osS ++ [(⟨3, [5], some ⟨g30, 0, none⟩, 1⟩ : Cov), (⟨3, [4, 5], some ⟨g32, 0, none⟩, 2⟩ : Cov)]) (min v (-1)) false).length) + ((alongX cs (osS ++ [(⟨3, [5], some ⟨g30, 0, none⟩, 1⟩ : Cov), (⟨3, [4, 5], some ⟨g32, 0, none⟩, 2⟩ : Cov)]) (max (max v 0) 100) true).length)) + ((besideX cs (min v (-1))).length)) : Nat) : Int)) rfl rfl rfl (run_bin rfl (vx := (.int .i64 (((((alongX cs (osS ++ [(⟨3, [5], some ⟨g30, 0, none⟩, 1⟩ : Cov), (⟨3, [4, 5], some ⟨g32, 0, none⟩, 2⟩ : Cov)]) (min v (-1)) false).length) + ((alongX cs (osS ++ [(⟨3, [5], some ⟨g30, 0, none⟩, 1⟩ : Cov), (⟨3, [4, 5], some ⟨g32, 0, none⟩, 2⟩ : Cov)]) (max (max v 0) 100) true).length)) : Nat) : Int))) (vy := (.int .i64 ((((besideX cs (min v (-1))).length) : Nat) : Int))) (by kernel_rfl) (by kernel_rfl) fun w => bn_add (z := ((((alongX cs (osS ++ [(⟨3, [5], some ⟨g30, 0, none⟩, 1⟩ : Cov), (⟨3, [4, 5], some ⟨g32, 0, none⟩, 2⟩ : Cov)]) (min v (-1)) false).length) + ((alongX cs (osS ++ [(⟨3, [5], some ⟨g30, 0, none⟩, 1⟩ : Cov), (⟨3, [4, 5], some ⟨g32, 0, none⟩, 2⟩ : Cov)]) (max (max v 0) 100) true).length)) + ((besideX cs (min v (-1))).length))) rfl (wr_i64 (by omega)) w) ?_
                            refine vp (i := 25) (v := .bool true) rfl rfl rfl (run_bin rfl (vx := (.int .i64 ((((((alongX cs (osS ++ [(⟨3, [5], some ⟨g30, 0, none⟩, 1⟩ : Cov), (⟨3, [4, 5], some ⟨g32, 0, none⟩, 2⟩ : Cov)]) (min v (-1)) false).length) + ((alongX cs (osS ++ [(⟨3, [5], some ⟨g30, 0, none⟩, 1⟩ : Cov), (⟨3, [4, 5], some ⟨g32, 0, none⟩, 2⟩ : Cov)]) (max (max v 0) 100) true).length)) + ((besideX cs (min v (-1))).length)) : Nat) : Int))) (vy := (.int .i64 ((0 : Nat) : Int))) (by kernel_rfl) (by kernel_rfl) fun w => bn_eql (decide_eq_true (by omega)) w) ?_
                            refine vm (i := 26) (v := .bool true) rfl rfl rfl ?_
                            refine vm (i := 27) (v := .bool true) rfl rfl rfl ?_
                            refine vv (i := 28) (v := .bool true) rfl rfl rfl (yb_call (f := 20) (args := #[.slice none 0 0, .slice none 0 0]) (fun _ => by kernel_rfl) fun W hW => SameInts_any [] [] none none 0 0 (Nat.zero_le _) W (.inl rfl) (.inl rfl)) ?_
                            refine vm (i := 29) (v := .bool true) rfl rfl rfl ?_
                            refine vm (i := 30) (v := .bool true) rfl rfl rfl ?_
                            refine vv (i := 31) (v := .bool true) rfl rfl rfl (yb_call (f := 10) (args := #[]) (fun _ => by kernel_rfl) fun W hW => awake_any W) ?_
                            refine vm (i := 32) (v := .bool true) rfl rfl rfl ?_
                            refine vm (i := 33) (v := .bool true) rfl rfl rfl ?_
                            refine wpV_done (by kernel_rfl) (fun W28 hW28 => ?_) _
                            refine (show Code.wp _ _ _ _ _ from ?_)
                            refine wp_ret ?_
                            try simp only [inBlock_ret, then_ret]
                            refine bodyPost_ret (v := .bool true) ?_ rfl ?_
                            · kernel_rfl
                            · exact ⟨rfl, (hbZ.trans (hW28.1.mono hbZ.size))⟩
                          | true =>
                            exact absurd h17 (by rw [hbad]; decide)
                      | true =>
                        have h11 : wy = 10 := of_decide_eq_true hd11
                        clear hd11
                        refine wp_cond_true rfl ?_
                        refine wp_region_L (W0 := WB) [(g1, .cells (shC (.slice (some ⟨g6, 0, none⟩) cs.length cap6) (.slice poS osS.length coS) tl0).toArray 32 (0, 0)), (g6, .cells cur6 53 (0, 0))] (hW19) ?_
                        refine lm (v := .slice (some ⟨g6, 0, none⟩) cs.length cap6) rfl rfl ?_
                        refine lm (v := .pointer (some ⟨g6, 0 + k * 12, none⟩)) rfl rfl ?_
                        refine lm (v := .pointer (some ⟨g6, 0 + k * 12, none⟩)) rfl rfl ?_
                        refine lv (v := .agg (colC ck).toArray) rfl rfl (yb_cells (off := 0 + k * 12) (cur := cur6) (cs := colC ck) rfl (by kernel_rfl) (.tail _ (.head _)) (RowR.get hr6 colC_len hck) Try.underlying53 rfl (by kernel_rfl)) ?_
                        refine wpL_new (fun g => .slice (some ⟨g, 0, none⟩) 1 1) (obi := .cells (colC ck).toArray 53 (0, 0)) rfl rfl (fun _ => by kernel_rfl) (fun _ => by simp only [List.setIfInBounds_toArray, List.set_cons_succ, List.set_cons_zero] <;> rfl) fun g44 Bg44 Fg44 => ?_
                        obtain ⟨dj45_0, dj45_1⟩ : g1 ≠ g44 ∧ g6 ≠ g44 := by simpa only [dj_app_l, dj_app_r, dj_cons_l, dj_cons_r, dj_nil_l, dj_nil_r, dk_app, dk_cons, dk_nil, and_true, true_and, and_assoc] using (show Dk g44 [(g1, .cells (shC (.slice (some ⟨g6, 0, none⟩) cs.length cap6) (.slice poS osS.length coS) tl0).toArray 32 (0, 0)), (g6, .cells cur6 53 (0, 0))] from Fg44)
                        refine wpL_g (AppO WB 53 12 [(g1, .cells (shC (.slice (some ⟨g6, 0, none⟩) cs.length cap6) (.slice poS osS.length coS) tl0).toArray 32 (0, 0))] (cs.length + 1) ((cs.flatMap colC) ++ [.int .i64 ck.bay, .int .i64 ck.row, .bool ck.deck, .int .i64 ck.tiers, .int .i64 ck.height, .int .i64 ck.k20, .int .i64 ck.k40, .int .i64 ck.lash, .slice ck.pp ck.plugs.length ck.pc, .int .i64 ck.x, .int .i64 ck.y, .int .i64 ck.z])) rfl rfl (app_own el_col (m := 1) (c := 1) (news := [.int .i64 ck.bay, .int .i64 ck.row, .bool ck.deck, .int .i64 ck.tiers, .int .i64 ck.height, .int .i64 ck.k20, .int .i64 ck.k40, .int .i64 ck.lash, .slice ck.pp ck.plugs.length ck.pc, .int .i64 ck.x, .int .i64 ck.y, .int .i64 ck.z]) rfl (by kernel_rfl) (by kernel_rfl) (.head _) Ox (fun p hp => by cases List.mem_singleton.1 hp; exact (.tail _ (.tail _ (.head _)))) (fun p hp => ⟨by simp only [List.mem_cons, List.mem_append, List.nil_append, List.not_mem_nil, or_assoc, or_false, false_or] at hp ⊢ <;> grind, (show Dj [(g1, .cells (shC (.slice (some ⟨g6, 0, none⟩) cs.length cap6) (.slice poS osS.length coS) tl0).toArray 32 (0, 0))] [(g6, .cells cur6 53 (0, 0))] from (by (try simp only [dj_app_l, dj_app_r, dj_cons_l, dj_cons_r, dj_nil_l, dj_nil_r, dk_app, dk_cons, dk_nil, and_true, true_and, and_assoc]); repeat' (first | trivial | assumption | exact Dj.symm (by assumption) | exact Ne.symm (by assumption) | apply And.intro))) p hp⟩) rfl (by simp [Value.oneCell']) (by omega) (by omega) (by omega)) (fun _ => by simp only [List.setIfInBounds_toArray, List.set_cons_succ, List.set_cons_zero] <;> rfl) ?_
                        rintro v46 K9 ⟨Kl46, O46, N46, rfl⟩
                        obtain dj47_0 : Dk g1 Kl46 := by simpa only [dj_app_l, dj_app_r, dj_cons_l, dj_cons_r, dj_nil_l, dj_nil_r, dk_app, dk_cons, dk_nil, and_true, true_and, and_assoc] using (show Dj [(g1, .cells (shC (.slice (some ⟨g6, 0, none⟩) cs.length cap6) (.slice poS osS.length coS) tl0).toArray 32 (0, 0))] Kl46 from N46)
                        refine lm (v := .pointer (some ⟨g1, 0, none⟩)) rfl rfl ?_
                        replace O46 := own_app (cells := colC) (l' := (cs ++ [ck])) O46 (by simp only [List.flatMap_append, List.flatMap_nil, List.nil_append, List.append_assoc, List.flatMap_cons, List.append_nil] <;> rfl) (by simp only [List.length_append, List.length_take, List.length_drop, List.length_nil, List.length_cons] <;> omega)
                        obtain ⟨p48, c48, rfl, n48, R48⟩ := own_rl O46
                        refine wpL_s ((g1, .cells (shC (.slice p48 ((cs ++ [ck]).length) c48) (.slice poS osS.length coS) tl0).toArray 32 (0, 0)) :: Kl46) rfl rfl (st_row (off := 0) (v := .slice p48 ((cs ++ [ck]).length) c48) rfl (by kernel_rfl) (by kernel_rfl) (.head _) Bg1 (by kernel_rfl) (by first | (simp [Value.cells]; done) | exact Nat.le_of_ble_eq_true rfl) (by intro v hv; simp [Value.cells] at hv; first | (subst hv; rfl) | (rcases hv with rfl <;> rfl)) (by kernel_rfl) (List.forall_mem_cons.2 ⟨.inl rfl, (fun p hp => .inr ⟨(.tail _ hp), ((show Dk g1 Kl46 from (by (try simp only [dj_app_l, dj_app_r, dj_cons_l, dj_cons_r, dj_nil_l, dj_nil_r, dk_app, dk_cons, dk_nil, and_true, true_and, and_assoc]); repeat' (first | trivial | assumption | exact Dj.symm (by assumption) | exact Ne.symm (by assumption) | apply And.intro))) _ hp)⟩)⟩)) ?_
                        refine wpL_done (fun W29 hW29 => ?_)
                        refine (show Code.wp _ _ _ _ _ from ?_)
                        refine wp_seq ?_
                        have hbZ := hWB.1.trans (hW29.1.mono hWB.1.size)
                        have HCZ := Lib.hid (show SLV W29 p48 ((cs ++ [ck]).flatMap colC) from (R48 _ (hW29.sub (fun p hp => by simp only [List.mem_cons, List.mem_append, List.nil_append, List.not_mem_nil, or_assoc, or_false, false_or, hp, true_or, or_true]))))
                        have HOZ := Lib.hid (show SLV W29 poS (osS.flatMap covC) from ((RL.base HOS.out) _ (hW29.sub (fun _ h => by cases h))))
                        have HRZ := Lib.hid (show RwR W29 osS from (HRS.out.keep hW29.1))
                        have HPZ := Lib.hid (show PlR W29 (cs ++ [ck]) from (plr_nil (good_snoc hg (List.mem_of_getElem? hck))))
                        have hlp : ∀ c ∈ (cs ++ [ck]), c.plugs.length ≤ 4000000000 := (fun c hc => by rw [good_snoc hg (List.mem_of_getElem? hck) c hc]; exact Nat.zero_le _)
                        have hlr : ∀ o ∈ osS, o.rows.length ≤ 4000000000 := lrS
                        have hbad : rightX (cs ++ [ck]) osS = false := dup_bad (List.mem_of_getElem? hck)
                        have HGZ := Lib.hid (CapR.of (cs := (shC (.slice p48 ((cs ++ [ck]).length) c48) (.slice poS osS.length coS) tl0)) hW29 (.head _))
                        refine wp_region_V (W0 := W29) [] (by kernel_rfl) ((KS.start W29)) ?_
                        refine vb (i := 0) (v := .agg (shC (.slice p48 ((cs ++ [ck]).length) c48) (.slice poS osS.length coS) tl0).toArray) rfl rfl rfl (yb_rs (off := 0) (cs := _) rfl (by kernel_rfl) (fun W hW => ((HGZ.out).keep hW.1).2) Try.underlying32 rfl (by kernel_rfl)) ?_
                        refine vv (i := 1) (v := .bool (rightX (cs ++ [ck]) osS)) rfl rfl rfl (yb_call (f := 14) (args := #[.agg (shC (.slice p48 ((cs ++ [ck]).length) c48) (.slice poS osS.length coS) tl0).toArray]) (fun _ => by kernel_rfl) fun W hW => Right_any (cs ++ [ck]) p48 c48 (by simp only [List.length_append, List.length_cons, List.length_nil]; omega) osS poS coS (by have h9 := loS; omega) tl0 W ((RL.base HCZ.out) _ (hW.sub (fun _ h => by cases h))) ((RL.base HOZ.out) _ (hW.sub (fun _ h => by cases h))) (HRZ.out.keep hW.1) hlr (HPZ.out.keep hW.1) hlp) ?_
                        refine vp (i := 2) (v := .bool (!(rightX (cs ++ [ck]) osS))) rfl rfl rfl (run_un rfl (by kernel_rfl) fun w => un_not w) ?_
                        refine vm (i := 3) (v := .bool (!(rightX (cs ++ [ck]) osS))) rfl rfl rfl ?_
                        cases h18 : (rightX (cs ++ [ck]) osS) with
                        | false =>
                          refine vb (i := 4) (v := .agg (shC (.slice p48 ((cs ++ [ck]).length) c48) (.slice poS osS.length coS) tl0).toArray) rfl rfl rfl (yb_rs (off := 0) (cs := _) rfl (by kernel_rfl) (fun W hW => ((HGZ.out).keep hW.1).2) Try.underlying32 rfl (by kernel_rfl)) ?_
                          refine vm (i := 5) (v := .int .i64 (min v (-1))) rfl rfl rfl ?_
                          refine vv (i := 6) (v := .int .i64 (fiN (covOf (cs ++ [ck]) osS (min v (-1))))) rfl rfl rfl (yb_call (f := 16) (args := #[.agg (shC (.slice p48 ((cs ++ [ck]).length) c48) (.slice poS osS.length coS) tl0).toArray, .int .i64 (min v (-1))]) (fun _ => by kernel_rfl) fun W hW => CoverOf_any (cs ++ [ck]) p48 c48 (by simp only [List.length_append, List.length_cons, List.length_nil]; omega) osS poS coS (by have h9 := loS; omega) tl0 (min v (-1)) W ((RL.base HCZ.out) _ (hW.sub (fun _ h => by cases h))) ((RL.base HOZ.out) _ (hW.sub (fun _ h => by cases h))) (HRZ.out.keep hW.1) hlr) ?_
                          refine vp (i := 7) (v := .bool true) rfl rfl rfl (run_bin rfl (vx := (.int .i64 (fiN (covOf (cs ++ [ck]) osS (min v (-1)))))) (vy := (.int .i64 (-1))) (by kernel_rfl) (by kernel_rfl) fun w => bi_eql (decide_eq_true (cov_low hlo)) w) ?_
                          refine vm (i := 8) (v := .bool true) rfl rfl rfl ?_
                          refine vm (i := 9) (v := .bool true) rfl rfl rfl ?_
                          refine vb (i := 10) (v := .agg (shC (.slice p48 ((cs ++ [ck]).length) c48) (.slice poS osS.length coS) tl0).toArray) rfl rfl rfl (yb_rs (off := 0) (cs := _) rfl (by kernel_rfl) (fun W hW => ((HGZ.out).keep hW.1).2) Try.underlying32 rfl (by kernel_rfl)) ?_
                          refine vm (i := 11) (v := .int .i64 (min v (-1))) rfl rfl rfl ?_
                          refine vb (i := 14) (v := .agg (shC (.slice p48 ((cs ++ [ck]).length) c48) (.slice poS osS.length coS) tl0).toArray) rfl rfl rfl (yb_rs (off := 0) (cs := _) rfl (by kernel_rfl) (fun W hW => ((HGZ.out).keep hW.1).2) Try.underlying32 rfl (by kernel_rfl)) ?_
                          refine vm (i := 15) (v := .int .i64 (max v 0)) rfl rfl rfl ?_
                          refine vp (i := 16) (v := .int .i64 (max (max v 0) 100)) rfl rfl rfl (run_max2 (x := (max v 0)) (y := 100) (z := (max (max v 0) 100)) rfl (by kernel_rfl) (by kernel_rfl) rfl) ?_
                          refine vb (i := 20) (v := .agg (shC (.slice p48 ((cs ++ [ck]).length) c48) (.slice poS osS.length coS) tl0).toArray) rfl rfl rfl (yb_rs (off := 0) (cs := _) rfl (by kernel_rfl) (fun W hW => ((HGZ.out).keep hW.1).2) Try.underlying32 rfl (by kernel_rfl)) ?_
                          refine vm (i := 21) (v := .int .i64 (min v (-1))) rfl rfl rfl ?_
                          refine wpV_c (i := 12) (OutRL inC W29 [] (alongX (cs ++ [ck]) osS (min v (-1)) false)) rfl rfl (by kernel_rfl) (by kernel_rfl) (fun _ => (by kernel_rfl)) (fun W hW => calls_r hW (Under_any (cs ++ [ck]) p48 c48 (by simp only [List.length_append, List.length_cons, List.length_nil]; omega) osS poS coS (by have h9 := loS; omega) tl0 (min v (-1)) W ((RL.base HCZ.out) _ (hW.sub (fun _ h => by cases h))) ((RL.base HOZ.out) _ (hW.sub (fun _ h => by cases h))) (HRZ.out.keep hW.1) hlr)) (fun v K9 hG => hG.sub) (fun _ => by simp only [List.setIfInBounds_toArray, List.set_cons_succ, List.set_cons_zero] <;> rfl) ?_
                          rintro _ Kl49 ⟨p49, c49, _, rfl, n49, R49, N49, rfl⟩
                          have hl49 : (alongX (cs ++ [ck]) osS (min v (-1)) false).length = 0 := by rw [al_low hlo]; rfl
                          refine vp (i := 13) (v := .int .i64 ((((alongX (cs ++ [ck]) osS (min v (-1)) false).length) : Nat) : Int)) rfl rfl rfl (run_lenL (p := p49) (cap := c49) (n := (alongX (cs ++ [ck]) osS (min v (-1)) false).length) rfl Try.underlying39 (by kernel_rfl)) ?_
                          refine wpV_c (i := 17) (OutRL inC W29 Kl49 (alongX (cs ++ [ck]) osS (max (max v 0) 100) true)) rfl rfl (by kernel_rfl) (by kernel_rfl) (fun _ => (by kernel_rfl)) (fun W hW => calls_r hW (Upon_any (cs ++ [ck]) p48 c48 (by simp only [List.length_append, List.length_cons, List.length_nil]; omega) osS poS coS (by have h9 := loS; omega) tl0 (max (max v 0) 100) W ((RL.base HCZ.out) _ (hW.sub (fun _ h => by cases h))) ((RL.base HOZ.out) _ (hW.sub (fun _ h => by cases h))) (HRZ.out.keep hW.1) hlr)) (fun v K9 hG => hG.sub) (fun _ => by simp only [List.setIfInBounds_toArray, List.set_cons_succ, List.set_cons_zero] <;> rfl) ?_
                          rintro _ _ ⟨p50, c50, Kl50, rfl, n50, R50, N50, rfl⟩
                          obtain dj51_0 : Dj Kl49 Kl50 := by simpa only [dj_app_l, dj_app_r, dj_cons_l, dj_cons_r, dj_nil_l, dj_nil_r, dk_app, dk_cons, dk_nil, and_true, true_and, and_assoc] using (show Dj Kl49 Kl50 from N50)
                          have hl50 : (alongX (cs ++ [ck]) osS (max (max v 0) 100) true).length = 0 := by rw [al_high (by omega) (by have h9 := loS; omega)]; rfl
                          refine vp (i := 18) (v := .int .i64 ((((alongX (cs ++ [ck]) osS (max (max v 0) 100) true).length) : Nat) : Int)) rfl rfl rfl (run_lenL (p := p50) (cap := c50) (n := (alongX (cs ++ [ck]) osS (max (max v 0) 100) true).length) rfl Try.underlying39 (by kernel_rfl)) ?_
                          refine vp (i := 19) (v := .int .i64 (((((alongX (cs ++ [ck]) osS (min v (-1)) false).length) + ((alongX (cs ++ [ck]) osS (max (max v 0) 100) true).length)) : Nat) : Int)) rfl rfl rfl (run_bin rfl (vx := (.int .i64 ((((alongX (cs ++ [ck]) osS (min v (-1)) false).length) : Nat) : Int))) (vy := (.int .i64 ((((alongX (cs ++ [ck]) osS (max (max v 0) 100) true).length) : Nat) : Int))) (by kernel_rfl) (by kernel_rfl) fun w => bn_add (z := (((alongX (cs ++ [ck]) osS (min v (-1)) false).length) + ((alongX (cs ++ [ck]) osS (max (max v 0) 100) true).length))) rfl (wr_i64 (by omega)) w) ?_
                          refine wpV_c (i := 22) (OutRL inC W29 (Kl49 ++ Kl50) (besideX (cs ++ [ck]) (min v (-1)))) rfl rfl (by kernel_rfl) (by kernel_rfl) (fun _ => (by kernel_rfl)) (fun W hW => calls_r hW (Beside_any (cs ++ [ck]) p48 c48 (by simp only [List.length_append, List.length_cons, List.length_nil]; omega) osS poS coS (by have h9 := loS; omega) tl0 (min v (-1)) W ((RL.base HCZ.out) _ (hW.sub (fun _ h => by cases h))) ((RL.base HOZ.out) _ (hW.sub (fun _ h => by cases h))))) (fun v K9 hG => hG.sub) (fun _ => by simp only [List.setIfInBounds_toArray, List.set_cons_succ, List.set_cons_zero] <;> rfl) ?_
                          rintro _ _ ⟨p52, c52, Kl52, rfl, n52, R52, N52, rfl⟩
                          obtain ⟨dj53_0, dj53_1⟩ : Dj Kl49 Kl52 ∧ Dj Kl50 Kl52 := by simpa only [dj_app_l, dj_app_r, dj_cons_l, dj_cons_r, dj_nil_l, dj_nil_r, dk_app, dk_cons, dk_nil, and_true, true_and, and_assoc] using (show Dj (Kl49 ++ Kl50) Kl52 from N52)
                          have hl52 : (besideX (cs ++ [ck]) (min v (-1))).length = 0 := by rw [bes_low hlo]; rfl
                          refine vp (i := 23) (v := .int .i64 ((((besideX (cs ++ [ck]) (min v (-1))).length) : Nat) : Int)) rfl rfl rfl (run_lenL (p := p52) (cap := c52) (n := (besideX (cs ++ [ck]) (min v (-1))).length) rfl Try.underlying39 (by kernel_rfl)) ?_
                          refine vp (i := 24) (v := .int .i64 ((((((alongX (cs ++ [ck]) osS (min v (-1)) false).length) + ((alongX (cs ++ [ck]) osS (max (max v 0) 100) true).length)) + ((besideX (cs ++ [ck]) (min v (-1))).length)) : Nat) : Int)) rfl rfl rfl (run_bin rfl (vx := (.int .i64 (((((alongX (cs ++ [ck]) osS (min v (-1)) false).length) + ((alongX (cs ++ [ck]) osS (max (max v 0) 100) true).length)) : Nat) : Int))) (vy := (.int .i64 ((((besideX (cs ++ [ck]) (min v (-1))).length) : Nat) : Int))) (by kernel_rfl) (by kernel_rfl) fun w => bn_add (z := ((((alongX (cs ++ [ck]) osS (min v (-1)) false).length) + ((alongX (cs ++ [ck]) osS (max (max v 0) 100) true).length)) + ((besideX (cs ++ [ck]) (min v (-1))).length))) rfl (wr_i64 (by omega)) w) ?_
                          refine vp (i := 25) (v := .bool true) rfl rfl rfl (run_bin rfl (vx := (.int .i64 ((((((alongX (cs ++ [ck]) osS (min v (-1)) false).length) + ((alongX (cs ++ [ck]) osS (max (max v 0) 100) true).length)) + ((besideX (cs ++ [ck]) (min v (-1))).length)) : Nat) : Int))) (vy := (.int .i64 ((0 : Nat) : Int))) (by kernel_rfl) (by kernel_rfl) fun w => bn_eql (decide_eq_true (by omega)) w) ?_
                          refine vm (i := 26) (v := .bool true) rfl rfl rfl ?_
                          refine vm (i := 27) (v := .bool true) rfl rfl rfl ?_
                          refine vv (i := 28) (v := .bool true) rfl rfl rfl (yb_call (f := 20) (args := #[.slice none 0 0, .slice none 0 0]) (fun _ => by kernel_rfl) fun W hW => SameInts_any [] [] none none 0 0 (Nat.zero_le _) W (.inl rfl) (.inl rfl)) ?_
                          refine vm (i := 29) (v := .bool true) rfl rfl rfl ?_
                          refine vm (i := 30) (v := .bool true) rfl rfl rfl ?_
                          refine vv (i := 31) (v := .bool true) rfl rfl rfl (yb_call (f := 10) (args := #[]) (fun _ => by kernel_rfl) fun W hW => awake_any W) ?_
                          refine vm (i := 32) (v := .bool true) rfl rfl rfl ?_
                          refine vm (i := 33) (v := .bool true) rfl rfl rfl ?_
                          refine wpV_done (by kernel_rfl) (fun W30 hW30 => ?_) _
                          refine (show Code.wp _ _ _ _ _ from ?_)
                          refine wp_ret ?_
                          try simp only [inBlock_ret, then_ret]
                          refine bodyPost_ret (v := .bool true) ?_ rfl ?_
                          · kernel_rfl
                          · exact ⟨rfl, (hbZ.trans (hW30.1.mono hbZ.size))⟩
                        | true =>
                          exact absurd h18 (by rw [hbad]; decide)
                    | true =>
                      have h10 : wy = 9 := of_decide_eq_true hd10
                      clear hd10
                      refine wp_cond_true rfl ?_
                      refine wp_region_L (W0 := WB) [(g1, .cells (shC (.slice (some ⟨g6, 0, none⟩) cs.length cap6) (.slice poS osS.length coS) tl0).toArray 32 (0, 0)), (g6, .cells cur6 53 (0, 0))] (hW18) ?_
                      refine lm (v := .pointer (some ⟨g6, 0 + k * 12, none⟩)) rfl rfl ?_
                      refine lm (v := .int .i64 (min v (-1))) rfl rfl ?_
                      refine lp (v := .int .i64 (min (min v (-1)) (-500001))) rfl rfl (run_min2 (x := (min v (-1))) (y := (-500001)) (z := (min (min v (-1)) (-500001))) rfl (by kernel_rfl) (by kernel_rfl) rfl) ?_
                      refine lm (v := .pointer (some ⟨g6, 0 + k * 12, none⟩)) rfl rfl ?_
                      refine lm (v := .pointer (some ⟨g6, 0 + k * 12 + 9, none⟩)) rfl rfl ?_
                      have hr54 : RowR colC (cur6.setIfInBounds (0 + k * 12 + 9) (.int .i64 (min (min v (-1)) (-500001)))) (cs.set k { ck with x := (min (min v (-1)) (-500001)) }) := RowR.set hr6 colC_len hck (by decide) rfl
                      refine wpL_s [(g1, .cells (shC (.slice (some ⟨g6, 0, none⟩) cs.length cap6) (.slice poS osS.length coS) tl0).toArray 32 (0, 0)), (g6, .cells (cur6.setIfInBounds (0 + k * 12 + 9) (.int .i64 (min (min v (-1)) (-500001)))) 53 (0, 0))] rfl rfl (st_at (off := 0 + k * 12 + 9) (v := .int .i64 (min (min v (-1)) (-500001))) rfl (by kernel_rfl) (by kernel_rfl) (.tail _ (.head _)) hBg6 (by kernel_rfl) rfl rfl (by rw [hsz6]; omega) (.inr rfl) (List.forall_mem_cons.2 ⟨.inr ⟨(.head _), (by first | assumption | exact Ne.symm (by assumption))⟩, (List.forall_mem_cons.2 ⟨.inl rfl, (List.forall_mem_nil _)⟩)⟩)) ?_
                      refine wpL_done (fun W31 hW31 => ?_)
                      refine (show Code.wp _ _ _ _ _ from ?_)
                      refine wp_seq ?_
                      have hbZ := hWB.1.trans (hW31.1.mono hWB.1.size)
                      have HCZ := Lib.hid (show SLV W31 (some ⟨g6, 0, none⟩) ((cs.set k { ck with x := (min (min v (-1)) (-500001)) }).flatMap colC) from (rowr_slv hW31 (.tail _ (.head _)) hr54))
                      have HOZ := Lib.hid (show SLV W31 poS (osS.flatMap covC) from ((RL.base HOS.out) _ (hW31.sub (fun _ h => by cases h))))
                      have HRZ := Lib.hid (show RwR W31 osS from (HRS.out.keep hW31.1))
                      have HPZ := Lib.hid (show PlR W31 (cs.set k { ck with x := (min (min v (-1)) (-500001)) }) from (pl_set (c' := { ck with x := (min (min v (-1)) (-500001)) }) (HPS.out.keep hW31.1) ((HPS.out.keep hW31.1) ck (List.mem_of_getElem? hck))))
                      have hlp : ∀ c ∈ (cs.set k { ck with x := (min (min v (-1)) (-500001)) }), c.plugs.length ≤ 4000000000 := (pll_set (c' := { ck with x := (min (min v (-1)) (-500001)) }) lpS (lpS ck (List.mem_of_getElem? hck)))
                      have hlr : ∀ o ∈ osS, o.rows.length ≤ 4000000000 := lrS
                      have hbad : rightX (cs.set k { ck with x := (min (min v (-1)) (-500001)) }) osS = false := set_bad hck (col_rg (c := { ck with x := (min (min v (-1)) (-500001)) }) (r := ((min (min v (-1)) (-500001)), (-500000), 500000)) (.tail _ (.tail _ (.tail _ (.tail _ (.tail _ (.tail _ (.tail _ (.head _)))))))) (by show (min (min v (-1)) (-500001)) < (-500000) ∨ 500000 < (min (min v (-1)) (-500001)); omega))
                      have HGZ := Lib.hid (CapR.of (cs := (shC (.slice (some ⟨g6, 0, none⟩) cs.length cap6) (.slice poS osS.length coS) tl0)) hW31 (.head _))
                      refine wp_region_V (W0 := W31) [] (by kernel_rfl) ((KS.start W31)) ?_
                      refine vb (i := 0) (v := .agg (shC (.slice (some ⟨g6, 0, none⟩) cs.length cap6) (.slice poS osS.length coS) tl0).toArray) rfl rfl rfl (yb_rs (off := 0) (cs := _) rfl (by kernel_rfl) (fun W hW => ((HGZ.out).keep hW.1).2) Try.underlying32 rfl (by kernel_rfl)) ?_
                      refine vv (i := 1) (v := .bool (rightX (cs.set k { ck with x := (min (min v (-1)) (-500001)) }) osS)) rfl rfl rfl (yb_call (f := 14) (args := #[.agg (shC (.slice (some ⟨g6, 0, none⟩) cs.length cap6) (.slice poS osS.length coS) tl0).toArray]) (fun _ => by kernel_rfl) fun W hW => (by have h9 := Right_any (cs.set k { ck with x := (min (min v (-1)) (-500001)) }) (some ⟨g6, 0, none⟩) cap6 (by rw [List.length_set]; omega) osS poS coS (by have h9 := loS; omega) tl0 W ((RL.base HCZ.out) _ (hW.sub (fun _ h => by cases h))) ((RL.base HOZ.out) _ (hW.sub (fun _ h => by cases h))) (HRZ.out.keep hW.1) hlr (HPZ.out.keep hW.1) hlp; rw [List.length_set] at h9; exact h9)) ?_
                      refine vp (i := 2) (v := .bool (!(rightX (cs.set k { ck with x := (min (min v (-1)) (-500001)) }) osS))) rfl rfl rfl (run_un rfl (by kernel_rfl) fun w => un_not w) ?_
                      refine vm (i := 3) (v := .bool (!(rightX (cs.set k { ck with x := (min (min v (-1)) (-500001)) }) osS))) rfl rfl rfl ?_
                      cases h19 : (rightX (cs.set k { ck with x := (min (min v (-1)) (-500001)) }) osS) with
                      | false =>
                        refine vb (i := 4) (v := .agg (shC (.slice (some ⟨g6, 0, none⟩) cs.length cap6) (.slice poS osS.length coS) tl0).toArray) rfl rfl rfl (yb_rs (off := 0) (cs := _) rfl (by kernel_rfl) (fun W hW => ((HGZ.out).keep hW.1).2) Try.underlying32 rfl (by kernel_rfl)) ?_
                        refine vm (i := 5) (v := .int .i64 (min v (-1))) rfl rfl rfl ?_
                        refine vv (i := 6) (v := .int .i64 (fiN (covOf (cs.set k { ck with x := (min (min v (-1)) (-500001)) }) osS (min v (-1))))) rfl rfl rfl (yb_call (f := 16) (args := #[.agg (shC (.slice (some ⟨g6, 0, none⟩) cs.length cap6) (.slice poS osS.length coS) tl0).toArray, .int .i64 (min v (-1))]) (fun _ => by kernel_rfl) fun W hW => (by have h9 := CoverOf_any (cs.set k { ck with x := (min (min v (-1)) (-500001)) }) (some ⟨g6, 0, none⟩) cap6 (by rw [List.length_set]; omega) osS poS coS (by have h9 := loS; omega) tl0 (min v (-1)) W ((RL.base HCZ.out) _ (hW.sub (fun _ h => by cases h))) ((RL.base HOZ.out) _ (hW.sub (fun _ h => by cases h))) (HRZ.out.keep hW.1) hlr; rw [List.length_set] at h9; exact h9)) ?_
                        refine vp (i := 7) (v := .bool true) rfl rfl rfl (run_bin rfl (vx := (.int .i64 (fiN (covOf (cs.set k { ck with x := (min (min v (-1)) (-500001)) }) osS (min v (-1)))))) (vy := (.int .i64 (-1))) (by kernel_rfl) (by kernel_rfl) fun w => bi_eql (decide_eq_true (cov_low hlo)) w) ?_
                        refine vm (i := 8) (v := .bool true) rfl rfl rfl ?_
                        refine vm (i := 9) (v := .bool true) rfl rfl rfl ?_
                        refine vb (i := 10) (v := .agg (shC (.slice (some ⟨g6, 0, none⟩) cs.length cap6) (.slice poS osS.length coS) tl0).toArray) rfl rfl rfl (yb_rs (off := 0) (cs := _) rfl (by kernel_rfl) (fun W hW => ((HGZ.out).keep hW.1).2) Try.underlying32 rfl (by kernel_rfl)) ?_
                        refine vm (i := 11) (v := .int .i64 (min v (-1))) rfl rfl rfl ?_
                        refine vb (i := 14) (v := .agg (shC (.slice (some ⟨g6, 0, none⟩) cs.length cap6) (.slice poS osS.length coS) tl0).toArray) rfl rfl rfl (yb_rs (off := 0) (cs := _) rfl (by kernel_rfl) (fun W hW => ((HGZ.out).keep hW.1).2) Try.underlying32 rfl (by kernel_rfl)) ?_
                        refine vm (i := 15) (v := .int .i64 (max v 0)) rfl rfl rfl ?_
                        refine vp (i := 16) (v := .int .i64 (max (max v 0) 100)) rfl rfl rfl (run_max2 (x := (max v 0)) (y := 100) (z := (max (max v 0) 100)) rfl (by kernel_rfl) (by kernel_rfl) rfl) ?_
                        refine vb (i := 20) (v := .agg (shC (.slice (some ⟨g6, 0, none⟩) cs.length cap6) (.slice poS osS.length coS) tl0).toArray) rfl rfl rfl (yb_rs (off := 0) (cs := _) rfl (by kernel_rfl) (fun W hW => ((HGZ.out).keep hW.1).2) Try.underlying32 rfl (by kernel_rfl)) ?_
                        refine vm (i := 21) (v := .int .i64 (min v (-1))) rfl rfl rfl ?_
                        refine wpV_c (i := 12) (OutRL inC W31 [] (alongX (cs.set k { ck with x := (min (min v (-1)) (-500001)) }) osS (min v (-1)) false)) rfl rfl (by kernel_rfl) (by kernel_rfl) (fun _ => (by kernel_rfl)) (fun W hW => calls_r hW ((by have h9 := Under_any (cs.set k { ck with x := (min (min v (-1)) (-500001)) }) (some ⟨g6, 0, none⟩) cap6 (by rw [List.length_set]; omega) osS poS coS (by have h9 := loS; omega) tl0 (min v (-1)) W ((RL.base HCZ.out) _ (hW.sub (fun _ h => by cases h))) ((RL.base HOZ.out) _ (hW.sub (fun _ h => by cases h))) (HRZ.out.keep hW.1) hlr; rw [List.length_set] at h9; exact h9))) (fun v K9 hG => hG.sub) (fun _ => by simp only [List.setIfInBounds_toArray, List.set_cons_succ, List.set_cons_zero] <;> rfl) ?_
                        rintro _ Kl55 ⟨p55, c55, _, rfl, n55, R55, N55, rfl⟩
                        have hl55 : (alongX (cs.set k { ck with x := (min (min v (-1)) (-500001)) }) osS (min v (-1)) false).length = 0 := by rw [al_low hlo]; rfl
                        refine vp (i := 13) (v := .int .i64 ((((alongX (cs.set k { ck with x := (min (min v (-1)) (-500001)) }) osS (min v (-1)) false).length) : Nat) : Int)) rfl rfl rfl (run_lenL (p := p55) (cap := c55) (n := (alongX (cs.set k { ck with x := (min (min v (-1)) (-500001)) }) osS (min v (-1)) false).length) rfl Try.underlying39 (by kernel_rfl)) ?_
                        refine wpV_c (i := 17) (OutRL inC W31 Kl55 (alongX (cs.set k { ck with x := (min (min v (-1)) (-500001)) }) osS (max (max v 0) 100) true)) rfl rfl (by kernel_rfl) (by kernel_rfl) (fun _ => (by kernel_rfl)) (fun W hW => calls_r hW ((by have h9 := Upon_any (cs.set k { ck with x := (min (min v (-1)) (-500001)) }) (some ⟨g6, 0, none⟩) cap6 (by rw [List.length_set]; omega) osS poS coS (by have h9 := loS; omega) tl0 (max (max v 0) 100) W ((RL.base HCZ.out) _ (hW.sub (fun _ h => by cases h))) ((RL.base HOZ.out) _ (hW.sub (fun _ h => by cases h))) (HRZ.out.keep hW.1) hlr; rw [List.length_set] at h9; exact h9))) (fun v K9 hG => hG.sub) (fun _ => by simp only [List.setIfInBounds_toArray, List.set_cons_succ, List.set_cons_zero] <;> rfl) ?_
                        rintro _ _ ⟨p56, c56, Kl56, rfl, n56, R56, N56, rfl⟩
                        obtain dj57_0 : Dj Kl55 Kl56 := by simpa only [dj_app_l, dj_app_r, dj_cons_l, dj_cons_r, dj_nil_l, dj_nil_r, dk_app, dk_cons, dk_nil, and_true, true_and, and_assoc] using (show Dj Kl55 Kl56 from N56)
                        have hl56 : (alongX (cs.set k { ck with x := (min (min v (-1)) (-500001)) }) osS (max (max v 0) 100) true).length = 0 := by rw [al_high (by omega) (by have h9 := loS; omega)]; rfl
                        refine vp (i := 18) (v := .int .i64 ((((alongX (cs.set k { ck with x := (min (min v (-1)) (-500001)) }) osS (max (max v 0) 100) true).length) : Nat) : Int)) rfl rfl rfl (run_lenL (p := p56) (cap := c56) (n := (alongX (cs.set k { ck with x := (min (min v (-1)) (-500001)) }) osS (max (max v 0) 100) true).length) rfl Try.underlying39 (by kernel_rfl)) ?_
                        refine vp (i := 19) (v := .int .i64 (((((alongX (cs.set k { ck with x := (min (min v (-1)) (-500001)) }) osS (min v (-1)) false).length) + ((alongX (cs.set k { ck with x := (min (min v (-1)) (-500001)) }) osS (max (max v 0) 100) true).length)) : Nat) : Int)) rfl rfl rfl (run_bin rfl (vx := (.int .i64 ((((alongX (cs.set k { ck with x := (min (min v (-1)) (-500001)) }) osS (min v (-1)) false).length) : Nat) : Int))) (vy := (.int .i64 ((((alongX (cs.set k { ck with x := (min (min v (-1)) (-500001)) }) osS (max (max v 0) 100) true).length) : Nat) : Int))) (by kernel_rfl) (by kernel_rfl) fun w => bn_add (z := (((alongX (cs.set k { ck with x := (min (min v (-1)) (-500001)) }) osS (min v (-1)) false).length) + ((alongX (cs.set k { ck with x := (min (min v (-1)) (-500001)) }) osS (max (max v 0) 100) true).length))) rfl (wr_i64 (by omega)) w) ?_
                        refine wpV_c (i := 22) (OutRL inC W31 (Kl55 ++ Kl56) (besideX (cs.set k { ck with x := (min (min v (-1)) (-500001)) }) (min v (-1)))) rfl rfl (by kernel_rfl) (by kernel_rfl) (fun _ => (by kernel_rfl)) (fun W hW => calls_r hW ((by have h9 := Beside_any (cs.set k { ck with x := (min (min v (-1)) (-500001)) }) (some ⟨g6, 0, none⟩) cap6 (by rw [List.length_set]; omega) osS poS coS (by have h9 := loS; omega) tl0 (min v (-1)) W ((RL.base HCZ.out) _ (hW.sub (fun _ h => by cases h))) ((RL.base HOZ.out) _ (hW.sub (fun _ h => by cases h))); rw [List.length_set] at h9; exact h9))) (fun v K9 hG => hG.sub) (fun _ => by simp only [List.setIfInBounds_toArray, List.set_cons_succ, List.set_cons_zero] <;> rfl) ?_
                        rintro _ _ ⟨p58, c58, Kl58, rfl, n58, R58, N58, rfl⟩
                        obtain ⟨dj59_0, dj59_1⟩ : Dj Kl55 Kl58 ∧ Dj Kl56 Kl58 := by simpa only [dj_app_l, dj_app_r, dj_cons_l, dj_cons_r, dj_nil_l, dj_nil_r, dk_app, dk_cons, dk_nil, and_true, true_and, and_assoc] using (show Dj (Kl55 ++ Kl56) Kl58 from N58)
                        have hl58 : (besideX (cs.set k { ck with x := (min (min v (-1)) (-500001)) }) (min v (-1))).length = 0 := by rw [bes_low hlo]; rfl
                        refine vp (i := 23) (v := .int .i64 ((((besideX (cs.set k { ck with x := (min (min v (-1)) (-500001)) }) (min v (-1))).length) : Nat) : Int)) rfl rfl rfl (run_lenL (p := p58) (cap := c58) (n := (besideX (cs.set k { ck with x := (min (min v (-1)) (-500001)) }) (min v (-1))).length) rfl Try.underlying39 (by kernel_rfl)) ?_
                        refine vp (i := 24) (v := .int .i64 ((((((alongX (cs.set k { ck with x := (min (min v (-1)) (-500001)) }) osS (min v (-1)) false).length) + ((alongX (cs.set k { ck with x := (min (min v (-1)) (-500001)) }) osS (max (max v 0) 100) true).length)) + ((besideX (cs.set k { ck with x := (min (min v (-1)) (-500001)) }) (min v (-1))).length)) : Nat) : Int)) rfl rfl rfl (run_bin rfl (vx := (.int .i64 (((((alongX (cs.set k { ck with x := (min (min v (-1)) (-500001)) }) osS (min v (-1)) false).length) + ((alongX (cs.set k { ck with x := (min (min v (-1)) (-500001)) }) osS (max (max v 0) 100) true).length)) : Nat) : Int))) (vy := (.int .i64 ((((besideX (cs.set k { ck with x := (min (min v (-1)) (-500001)) }) (min v (-1))).length) : Nat) : Int))) (by kernel_rfl) (by kernel_rfl) fun w => bn_add (z := ((((alongX (cs.set k { ck with x := (min (min v (-1)) (-500001)) }) osS (min v (-1)) false).length) + ((alongX (cs.set k { ck with x := (min (min v (-1)) (-500001)) }) osS (max (max v 0) 100) true).length)) + ((besideX (cs.set k { ck with x := (min (min v (-1)) (-500001)) }) (min v (-1))).length))) rfl (wr_i64 (by omega)) w) ?_
                        refine vp (i := 25) (v := .bool true) rfl rfl rfl (run_bin rfl (vx := (.int .i64 ((((((alongX (cs.set k { ck with x := (min (min v (-1)) (-500001)) }) osS (min v (-1)) false).length) + ((alongX (cs.set k { ck with x := (min (min v (-1)) (-500001)) }) osS (max (max v 0) 100) true).length)) + ((besideX (cs.set k { ck with x := (min (min v (-1)) (-500001)) }) (min v (-1))).length)) : Nat) : Int))) (vy := (.int .i64 ((0 : Nat) : Int))) (by kernel_rfl) (by kernel_rfl) fun w => bn_eql (decide_eq_true (by omega)) w) ?_
                        refine vm (i := 26) (v := .bool true) rfl rfl rfl ?_
                        refine vm (i := 27) (v := .bool true) rfl rfl rfl ?_
                        refine vv (i := 28) (v := .bool true) rfl rfl rfl (yb_call (f := 20) (args := #[.slice none 0 0, .slice none 0 0]) (fun _ => by kernel_rfl) fun W hW => SameInts_any [] [] none none 0 0 (Nat.zero_le _) W (.inl rfl) (.inl rfl)) ?_
                        refine vm (i := 29) (v := .bool true) rfl rfl rfl ?_
                        refine vm (i := 30) (v := .bool true) rfl rfl rfl ?_
                        refine vv (i := 31) (v := .bool true) rfl rfl rfl (yb_call (f := 10) (args := #[]) (fun _ => by kernel_rfl) fun W hW => awake_any W) ?_
                        refine vm (i := 32) (v := .bool true) rfl rfl rfl ?_
                        refine vm (i := 33) (v := .bool true) rfl rfl rfl ?_
                        refine wpV_done (by kernel_rfl) (fun W32 hW32 => ?_) _
                        refine (show Code.wp _ _ _ _ _ from ?_)
                        refine wp_ret ?_
                        try simp only [inBlock_ret, then_ret]
                        refine bodyPost_ret (v := .bool true) ?_ rfl ?_
                        · kernel_rfl
                        · exact ⟨rfl, (hbZ.trans (hW32.1.mono hbZ.size))⟩
                      | true =>
                        exact absurd h19 (by rw [hbad]; decide)
                  | true =>
                    have h9 : wy = 8 := of_decide_eq_true hd9
                    clear hd9
                    refine wp_cond_true rfl ?_
                    refine wp_region_L (W0 := WB) [(g1, .cells (shC (.slice (some ⟨g6, 0, none⟩) cs.length cap6) (.slice poS osS.length coS) tl0).toArray 32 (0, 0)), (g6, .cells cur6 53 (0, 0))] (hW17) ?_
                    refine lm (v := .pointer (some ⟨g6, 0 + k * 12, none⟩)) rfl rfl ?_
                    refine wpL_new (fun g => .slice (some ⟨g, 0, none⟩) 2 2) (obi := .cells #[.int .i64 1, .int .i64 1] 3 (0, 0)) rfl rfl (fun _ => by kernel_rfl) (fun _ => by simp only [List.setIfInBounds_toArray, List.set_cons_succ, List.set_cons_zero] <;> rfl) fun g60 Bg60 Fg60 => ?_
                    obtain ⟨dj61_0, dj61_1⟩ : g1 ≠ g60 ∧ g6 ≠ g60 := by simpa only [dj_app_l, dj_app_r, dj_cons_l, dj_cons_r, dj_nil_l, dj_nil_r, dk_app, dk_cons, dk_nil, and_true, true_and, and_assoc] using (show Dk g60 [(g1, .cells (shC (.slice (some ⟨g6, 0, none⟩) cs.length cap6) (.slice poS osS.length coS) tl0).toArray 32 (0, 0)), (g6, .cells cur6 53 (0, 0))] from Fg60)
                    refine lm (v := .pointer (some ⟨g6, 0 + k * 12, none⟩)) rfl rfl ?_
                    refine lm (v := .pointer (some ⟨g6, 0 + k * 12 + 8, none⟩)) rfl rfl ?_
                    have hr62 : RowR colC (cur6.setIfInBounds (0 + k * 12 + 8) (.slice (some ⟨g60, 0, none⟩) 2 2)) (cs.set k { ck with plugs := [1, 1], pp := some ⟨g60, 0, none⟩, pc := 2 }) := RowR.set hr6 colC_len hck (by decide) rfl
                    refine wpL_s [(g60, .cells #[.int .i64 1, .int .i64 1] 3 (0, 0)), (g1, .cells (shC (.slice (some ⟨g6, 0, none⟩) cs.length cap6) (.slice poS osS.length coS) tl0).toArray 32 (0, 0)), (g6, .cells (cur6.setIfInBounds (0 + k * 12 + 8) (.slice (some ⟨g60, 0, none⟩) 2 2)) 53 (0, 0))] rfl rfl (st_at (off := 0 + k * 12 + 8) (v := .slice (some ⟨g60, 0, none⟩) 2 2) rfl (by kernel_rfl) (by kernel_rfl) (.tail _ (.tail _ (.head _))) hBg6 (by kernel_rfl) rfl rfl (by rw [hsz6]; omega) (.inr rfl) (List.forall_mem_cons.2 ⟨.inr ⟨(.head _), (by first | assumption | exact Ne.symm (by assumption))⟩, (List.forall_mem_cons.2 ⟨.inr ⟨(.tail _ (.head _)), (by first | assumption | exact Ne.symm (by assumption))⟩, (List.forall_mem_cons.2 ⟨.inl rfl, (List.forall_mem_nil _)⟩)⟩)⟩)) ?_
                    refine wpL_done (fun W33 hW33 => ?_)
                    refine (show Code.wp _ _ _ _ _ from ?_)
                    refine wp_seq ?_
                    have hbZ := hWB.1.trans (hW33.1.mono hWB.1.size)
                    have HCZ := Lib.hid (show SLV W33 (some ⟨g6, 0, none⟩) ((cs.set k { ck with plugs := [1, 1], pp := some ⟨g60, 0, none⟩, pc := 2 }).flatMap colC) from (rowr_slv hW33 (.tail _ (.tail _ (.head _))) hr62))
                    have HOZ := Lib.hid (show SLV W33 poS (osS.flatMap covC) from ((RL.base HOS.out) _ (hW33.sub (fun _ h => by cases h))))
                    have HRZ := Lib.hid (show RwR W33 osS from (HRS.out.keep hW33.1))
                    have HPZ := Lib.hid (show PlR W33 (cs.set k { ck with plugs := [1, 1], pp := some ⟨g60, 0, none⟩, pc := 2 }) from (pl_set (c' := { ck with plugs := [1, 1], pp := some ⟨g60, 0, none⟩, pc := 2 }) (HPS.out.keep hW33.1) (blk_slv hW33 (.head _))))
                    have hlp : ∀ c ∈ (cs.set k { ck with plugs := [1, 1], pp := some ⟨g60, 0, none⟩, pc := 2 }), c.plugs.length ≤ 4000000000 := (pll_set (c' := { ck with plugs := [1, 1], pp := some ⟨g60, 0, none⟩, pc := 2 }) lpS (Nat.le_of_ble_eq_true rfl))
                    have hlr : ∀ o ∈ osS, o.rows.length ≤ 4000000000 := lrS
                    have hbad : rightX (cs.set k { ck with plugs := [1, 1], pp := some ⟨g60, 0, none⟩, pc := 2 }) osS = false := set_bad hck (col_inc (c := { ck with plugs := [1, 1], pp := some ⟨g60, 0, none⟩, pc := 2 }) (by show incX [1, 1] (IntKind.i64.wrap (ck.tiers - 1)) = false; simp [incX, incF]))
                    have HGZ := Lib.hid (CapR.of (cs := (shC (.slice (some ⟨g6, 0, none⟩) cs.length cap6) (.slice poS osS.length coS) tl0)) hW33 (.tail _ (.head _)))
                    refine wp_region_V (W0 := W33) [] (by kernel_rfl) ((KS.start W33)) ?_
                    refine vb (i := 0) (v := .agg (shC (.slice (some ⟨g6, 0, none⟩) cs.length cap6) (.slice poS osS.length coS) tl0).toArray) rfl rfl rfl (yb_rs (off := 0) (cs := _) rfl (by kernel_rfl) (fun W hW => ((HGZ.out).keep hW.1).2) Try.underlying32 rfl (by kernel_rfl)) ?_
                    refine vv (i := 1) (v := .bool (rightX (cs.set k { ck with plugs := [1, 1], pp := some ⟨g60, 0, none⟩, pc := 2 }) osS)) rfl rfl rfl (yb_call (f := 14) (args := #[.agg (shC (.slice (some ⟨g6, 0, none⟩) cs.length cap6) (.slice poS osS.length coS) tl0).toArray]) (fun _ => by kernel_rfl) fun W hW => (by have h9 := Right_any (cs.set k { ck with plugs := [1, 1], pp := some ⟨g60, 0, none⟩, pc := 2 }) (some ⟨g6, 0, none⟩) cap6 (by rw [List.length_set]; omega) osS poS coS (by have h9 := loS; omega) tl0 W ((RL.base HCZ.out) _ (hW.sub (fun _ h => by cases h))) ((RL.base HOZ.out) _ (hW.sub (fun _ h => by cases h))) (HRZ.out.keep hW.1) hlr (HPZ.out.keep hW.1) hlp; rw [List.length_set] at h9; exact h9)) ?_
                    refine vp (i := 2) (v := .bool (!(rightX (cs.set k { ck with plugs := [1, 1], pp := some ⟨g60, 0, none⟩, pc := 2 }) osS))) rfl rfl rfl (run_un rfl (by kernel_rfl) fun w => un_not w) ?_
                    refine vm (i := 3) (v := .bool (!(rightX (cs.set k { ck with plugs := [1, 1], pp := some ⟨g60, 0, none⟩, pc := 2 }) osS))) rfl rfl rfl ?_
                    cases h20 : (rightX (cs.set k { ck with plugs := [1, 1], pp := some ⟨g60, 0, none⟩, pc := 2 }) osS) with
                    | false =>
                      refine vb (i := 4) (v := .agg (shC (.slice (some ⟨g6, 0, none⟩) cs.length cap6) (.slice poS osS.length coS) tl0).toArray) rfl rfl rfl (yb_rs (off := 0) (cs := _) rfl (by kernel_rfl) (fun W hW => ((HGZ.out).keep hW.1).2) Try.underlying32 rfl (by kernel_rfl)) ?_
                      refine vm (i := 5) (v := .int .i64 (min v (-1))) rfl rfl rfl ?_
                      refine vv (i := 6) (v := .int .i64 (fiN (covOf (cs.set k { ck with plugs := [1, 1], pp := some ⟨g60, 0, none⟩, pc := 2 }) osS (min v (-1))))) rfl rfl rfl (yb_call (f := 16) (args := #[.agg (shC (.slice (some ⟨g6, 0, none⟩) cs.length cap6) (.slice poS osS.length coS) tl0).toArray, .int .i64 (min v (-1))]) (fun _ => by kernel_rfl) fun W hW => (by have h9 := CoverOf_any (cs.set k { ck with plugs := [1, 1], pp := some ⟨g60, 0, none⟩, pc := 2 }) (some ⟨g6, 0, none⟩) cap6 (by rw [List.length_set]; omega) osS poS coS (by have h9 := loS; omega) tl0 (min v (-1)) W ((RL.base HCZ.out) _ (hW.sub (fun _ h => by cases h))) ((RL.base HOZ.out) _ (hW.sub (fun _ h => by cases h))) (HRZ.out.keep hW.1) hlr; rw [List.length_set] at h9; exact h9)) ?_
                      refine vp (i := 7) (v := .bool true) rfl rfl rfl (run_bin rfl (vx := (.int .i64 (fiN (covOf (cs.set k { ck with plugs := [1, 1], pp := some ⟨g60, 0, none⟩, pc := 2 }) osS (min v (-1)))))) (vy := (.int .i64 (-1))) (by kernel_rfl) (by kernel_rfl) fun w => bi_eql (decide_eq_true (cov_low hlo)) w) ?_
                      refine vm (i := 8) (v := .bool true) rfl rfl rfl ?_
                      refine vm (i := 9) (v := .bool true) rfl rfl rfl ?_
                      refine vb (i := 10) (v := .agg (shC (.slice (some ⟨g6, 0, none⟩) cs.length cap6) (.slice poS osS.length coS) tl0).toArray) rfl rfl rfl (yb_rs (off := 0) (cs := _) rfl (by kernel_rfl) (fun W hW => ((HGZ.out).keep hW.1).2) Try.underlying32 rfl (by kernel_rfl)) ?_
                      refine vm (i := 11) (v := .int .i64 (min v (-1))) rfl rfl rfl ?_
                      refine vb (i := 14) (v := .agg (shC (.slice (some ⟨g6, 0, none⟩) cs.length cap6) (.slice poS osS.length coS) tl0).toArray) rfl rfl rfl (yb_rs (off := 0) (cs := _) rfl (by kernel_rfl) (fun W hW => ((HGZ.out).keep hW.1).2) Try.underlying32 rfl (by kernel_rfl)) ?_
                      refine vm (i := 15) (v := .int .i64 (max v 0)) rfl rfl rfl ?_
                      refine vp (i := 16) (v := .int .i64 (max (max v 0) 100)) rfl rfl rfl (run_max2 (x := (max v 0)) (y := 100) (z := (max (max v 0) 100)) rfl (by kernel_rfl) (by kernel_rfl) rfl) ?_
                      refine vb (i := 20) (v := .agg (shC (.slice (some ⟨g6, 0, none⟩) cs.length cap6) (.slice poS osS.length coS) tl0).toArray) rfl rfl rfl (yb_rs (off := 0) (cs := _) rfl (by kernel_rfl) (fun W hW => ((HGZ.out).keep hW.1).2) Try.underlying32 rfl (by kernel_rfl)) ?_
                      refine vm (i := 21) (v := .int .i64 (min v (-1))) rfl rfl rfl ?_
                      refine wpV_c (i := 12) (OutRL inC W33 [] (alongX (cs.set k { ck with plugs := [1, 1], pp := some ⟨g60, 0, none⟩, pc := 2 }) osS (min v (-1)) false)) rfl rfl (by kernel_rfl) (by kernel_rfl) (fun _ => (by kernel_rfl)) (fun W hW => calls_r hW ((by have h9 := Under_any (cs.set k { ck with plugs := [1, 1], pp := some ⟨g60, 0, none⟩, pc := 2 }) (some ⟨g6, 0, none⟩) cap6 (by rw [List.length_set]; omega) osS poS coS (by have h9 := loS; omega) tl0 (min v (-1)) W ((RL.base HCZ.out) _ (hW.sub (fun _ h => by cases h))) ((RL.base HOZ.out) _ (hW.sub (fun _ h => by cases h))) (HRZ.out.keep hW.1) hlr; rw [List.length_set] at h9; exact h9))) (fun v K9 hG => hG.sub) (fun _ => by simp only [List.setIfInBounds_toArray, List.set_cons_succ, List.set_cons_zero] <;> rfl) ?_
                      rintro _ Kl63 ⟨p63, c63, _, rfl, n63, R63, N63, rfl⟩
                      have hl63 : (alongX (cs.set k { ck with plugs := [1, 1], pp := some ⟨g60, 0, none⟩, pc := 2 }) osS (min v (-1)) false).length = 0 := by rw [al_low hlo]; rfl
                      refine vp (i := 13) (v := .int .i64 ((((alongX (cs.set k { ck with plugs := [1, 1], pp := some ⟨g60, 0, none⟩, pc := 2 }) osS (min v (-1)) false).length) : Nat) : Int)) rfl rfl rfl (run_lenL (p := p63) (cap := c63) (n := (alongX (cs.set k { ck with plugs := [1, 1], pp := some ⟨g60, 0, none⟩, pc := 2 }) osS (min v (-1)) false).length) rfl Try.underlying39 (by kernel_rfl)) ?_
                      refine wpV_c (i := 17) (OutRL inC W33 Kl63 (alongX (cs.set k { ck with plugs := [1, 1], pp := some ⟨g60, 0, none⟩, pc := 2 }) osS (max (max v 0) 100) true)) rfl rfl (by kernel_rfl) (by kernel_rfl) (fun _ => (by kernel_rfl)) (fun W hW => calls_r hW ((by have h9 := Upon_any (cs.set k { ck with plugs := [1, 1], pp := some ⟨g60, 0, none⟩, pc := 2 }) (some ⟨g6, 0, none⟩) cap6 (by rw [List.length_set]; omega) osS poS coS (by have h9 := loS; omega) tl0 (max (max v 0) 100) W ((RL.base HCZ.out) _ (hW.sub (fun _ h => by cases h))) ((RL.base HOZ.out) _ (hW.sub (fun _ h => by cases h))) (HRZ.out.keep hW.1) hlr; rw [List.length_set] at h9; exact h9))) (fun v K9 hG => hG.sub) (fun _ => by simp only [List.setIfInBounds_toArray, List.set_cons_succ, List.set_cons_zero] <;> rfl) ?_
                      rintro _ _ ⟨p64, c64, Kl64, rfl, n64, R64, N64, rfl⟩
                      obtain dj65_0 : Dj Kl63 Kl64 := by simpa only [dj_app_l, dj_app_r, dj_cons_l, dj_cons_r, dj_nil_l, dj_nil_r, dk_app, dk_cons, dk_nil, and_true, true_and, and_assoc] using (show Dj Kl63 Kl64 from N64)
                      have hl64 : (alongX (cs.set k { ck with plugs := [1, 1], pp := some ⟨g60, 0, none⟩, pc := 2 }) osS (max (max v 0) 100) true).length = 0 := by rw [al_high (by omega) (by have h9 := loS; omega)]; rfl
                      refine vp (i := 18) (v := .int .i64 ((((alongX (cs.set k { ck with plugs := [1, 1], pp := some ⟨g60, 0, none⟩, pc := 2 }) osS (max (max v 0) 100) true).length) : Nat) : Int)) rfl rfl rfl (run_lenL (p := p64) (cap := c64) (n := (alongX (cs.set k { ck with plugs := [1, 1], pp := some ⟨g60, 0, none⟩, pc := 2 }) osS (max (max v 0) 100) true).length) rfl Try.underlying39 (by kernel_rfl)) ?_
                      refine vp (i := 19) (v := .int .i64 (((((alongX (cs.set k { ck with plugs := [1, 1], pp := some ⟨g60, 0, none⟩, pc := 2 }) osS (min v (-1)) false).length) + ((alongX (cs.set k { ck with plugs := [1, 1], pp := some ⟨g60, 0, none⟩, pc := 2 }) osS (max (max v 0) 100) true).length)) : Nat) : Int)) rfl rfl rfl (run_bin rfl (vx := (.int .i64 ((((alongX (cs.set k { ck with plugs := [1, 1], pp := some ⟨g60, 0, none⟩, pc := 2 }) osS (min v (-1)) false).length) : Nat) : Int))) (vy := (.int .i64 ((((alongX (cs.set k { ck with plugs := [1, 1], pp := some ⟨g60, 0, none⟩, pc := 2 }) osS (max (max v 0) 100) true).length) : Nat) : Int))) (by kernel_rfl) (by kernel_rfl) fun w => bn_add (z := (((alongX (cs.set k { ck with plugs := [1, 1], pp := some ⟨g60, 0, none⟩, pc := 2 }) osS (min v (-1)) false).length) + ((alongX (cs.set k { ck with plugs := [1, 1], pp := some ⟨g60, 0, none⟩, pc := 2 }) osS (max (max v 0) 100) true).length))) rfl (wr_i64 (by omega)) w) ?_
                      refine wpV_c (i := 22) (OutRL inC W33 (Kl63 ++ Kl64) (besideX (cs.set k { ck with plugs := [1, 1], pp := some ⟨g60, 0, none⟩, pc := 2 }) (min v (-1)))) rfl rfl (by kernel_rfl) (by kernel_rfl) (fun _ => (by kernel_rfl)) (fun W hW => calls_r hW ((by have h9 := Beside_any (cs.set k { ck with plugs := [1, 1], pp := some ⟨g60, 0, none⟩, pc := 2 }) (some ⟨g6, 0, none⟩) cap6 (by rw [List.length_set]; omega) osS poS coS (by have h9 := loS; omega) tl0 (min v (-1)) W ((RL.base HCZ.out) _ (hW.sub (fun _ h => by cases h))) ((RL.base HOZ.out) _ (hW.sub (fun _ h => by cases h))); rw [List.length_set] at h9; exact h9))) (fun v K9 hG => hG.sub) (fun _ => by simp only [List.setIfInBounds_toArray, List.set_cons_succ, List.set_cons_zero] <;> rfl) ?_
                      rintro _ _ ⟨p66, c66, Kl66, rfl, n66, R66, N66, rfl⟩
                      obtain ⟨dj67_0, dj67_1⟩ : Dj Kl63 Kl66 ∧ Dj Kl64 Kl66 := by simpa only [dj_app_l, dj_app_r, dj_cons_l, dj_cons_r, dj_nil_l, dj_nil_r, dk_app, dk_cons, dk_nil, and_true, true_and, and_assoc] using (show Dj (Kl63 ++ Kl64) Kl66 from N66)
                      have hl66 : (besideX (cs.set k { ck with plugs := [1, 1], pp := some ⟨g60, 0, none⟩, pc := 2 }) (min v (-1))).length = 0 := by rw [bes_low hlo]; rfl
                      refine vp (i := 23) (v := .int .i64 ((((besideX (cs.set k { ck with plugs := [1, 1], pp := some ⟨g60, 0, none⟩, pc := 2 }) (min v (-1))).length) : Nat) : Int)) rfl rfl rfl (run_lenL (p := p66) (cap := c66) (n := (besideX (cs.set k { ck with plugs := [1, 1], pp := some ⟨g60, 0, none⟩, pc := 2 }) (min v (-1))).length) rfl Try.underlying39 (by kernel_rfl)) ?_
                      refine vp (i := 24) (v := .int .i64 ((((((alongX (cs.set k { ck with plugs := [1, 1], pp := some ⟨g60, 0, none⟩, pc := 2 }) osS (min v (-1)) false).length) + ((alongX (cs.set k { ck with plugs := [1, 1], pp := some ⟨g60, 0, none⟩, pc := 2 }) osS (max (max v 0) 100) true).length)) + ((besideX (cs.set k { ck with plugs := [1, 1], pp := some ⟨g60, 0, none⟩, pc := 2 }) (min v (-1))).length)) : Nat) : Int)) rfl rfl rfl (run_bin rfl (vx := (.int .i64 (((((alongX (cs.set k { ck with plugs := [1, 1], pp := some ⟨g60, 0, none⟩, pc := 2 }) osS (min v (-1)) false).length) + ((alongX (cs.set k { ck with plugs := [1, 1], pp := some ⟨g60, 0, none⟩, pc := 2 }) osS (max (max v 0) 100) true).length)) : Nat) : Int))) (vy := (.int .i64 ((((besideX (cs.set k { ck with plugs := [1, 1], pp := some ⟨g60, 0, none⟩, pc := 2 }) (min v (-1))).length) : Nat) : Int))) (by kernel_rfl) (by kernel_rfl) fun w => bn_add (z := ((((alongX (cs.set k { ck with plugs := [1, 1], pp := some ⟨g60, 0, none⟩, pc := 2 }) osS (min v (-1)) false).length) + ((alongX (cs.set k { ck with plugs := [1, 1], pp := some ⟨g60, 0, none⟩, pc := 2 }) osS (max (max v 0) 100) true).length)) + ((besideX (cs.set k { ck with plugs := [1, 1], pp := some ⟨g60, 0, none⟩, pc := 2 }) (min v (-1))).length))) rfl (wr_i64 (by omega)) w) ?_
                      refine vp (i := 25) (v := .bool true) rfl rfl rfl (run_bin rfl (vx := (.int .i64 ((((((alongX (cs.set k { ck with plugs := [1, 1], pp := some ⟨g60, 0, none⟩, pc := 2 }) osS (min v (-1)) false).length) + ((alongX (cs.set k { ck with plugs := [1, 1], pp := some ⟨g60, 0, none⟩, pc := 2 }) osS (max (max v 0) 100) true).length)) + ((besideX (cs.set k { ck with plugs := [1, 1], pp := some ⟨g60, 0, none⟩, pc := 2 }) (min v (-1))).length)) : Nat) : Int))) (vy := (.int .i64 ((0 : Nat) : Int))) (by kernel_rfl) (by kernel_rfl) fun w => bn_eql (decide_eq_true (by omega)) w) ?_
                      refine vm (i := 26) (v := .bool true) rfl rfl rfl ?_
                      refine vm (i := 27) (v := .bool true) rfl rfl rfl ?_
                      refine vv (i := 28) (v := .bool true) rfl rfl rfl (yb_call (f := 20) (args := #[.slice none 0 0, .slice none 0 0]) (fun _ => by kernel_rfl) fun W hW => SameInts_any [] [] none none 0 0 (Nat.zero_le _) W (.inl rfl) (.inl rfl)) ?_
                      refine vm (i := 29) (v := .bool true) rfl rfl rfl ?_
                      refine vm (i := 30) (v := .bool true) rfl rfl rfl ?_
                      refine vv (i := 31) (v := .bool true) rfl rfl rfl (yb_call (f := 10) (args := #[]) (fun _ => by kernel_rfl) fun W hW => awake_any W) ?_
                      refine vm (i := 32) (v := .bool true) rfl rfl rfl ?_
                      refine vm (i := 33) (v := .bool true) rfl rfl rfl ?_
                      refine wpV_done (by kernel_rfl) (fun W34 hW34 => ?_) _
                      refine (show Code.wp _ _ _ _ _ from ?_)
                      refine wp_ret ?_
                      try simp only [inBlock_ret, then_ret]
                      refine bodyPost_ret (v := .bool true) ?_ rfl ?_
                      · kernel_rfl
                      · exact ⟨rfl, (hbZ.trans (hW34.1.mono hbZ.size))⟩
                    | true =>
                      exact absurd h20 (by rw [hbad]; decide)
                | true =>
                  have h8 : wy = 7 := of_decide_eq_true hd8
                  clear hd8
                  refine wp_cond_true rfl ?_
                  refine wp_region_L (W0 := WB) [(g1, .cells (shC (.slice (some ⟨g6, 0, none⟩) cs.length cap6) (.slice poS osS.length coS) tl0).toArray 32 (0, 0)), (g6, .cells cur6 53 (0, 0))] (hW16) ?_
                  refine lm (v := .pointer (some ⟨g6, 0 + k * 12, none⟩)) rfl rfl ?_
                  refine lm (v := .pointer (some ⟨g6, 0 + k * 12, none⟩)) rfl rfl ?_
                  refine lm (v := .pointer (some ⟨g6, 0 + k * 12, none⟩)) rfl rfl ?_
                  refine lm (v := .pointer (some ⟨g6, 0 + k * 12 + 3, none⟩)) rfl rfl ?_
                  refine lv (v := .int .i64 ck.tiers) rfl rfl (yb_cell (off := 0 + k * 12 + 3) (v := .int .i64 ck.tiers) rfl (by kernel_rfl) (.tail _ (.head _)) Try.underlying3 rfl (RowR.get hr6 colC_len hck 3 _ rfl)) ?_
                  refine wpL_new (fun g => .slice (some ⟨g, 0, none⟩) 2 2) (obi := .cells #[.int .i64 0, .int .i64 ck.tiers] 3 (0, 0)) rfl rfl (fun _ => by kernel_rfl) (fun _ => by simp only [List.setIfInBounds_toArray, List.set_cons_succ, List.set_cons_zero] <;> rfl) fun g68 Bg68 Fg68 => ?_
                  obtain ⟨dj69_0, dj69_1⟩ : g1 ≠ g68 ∧ g6 ≠ g68 := by simpa only [dj_app_l, dj_app_r, dj_cons_l, dj_cons_r, dj_nil_l, dj_nil_r, dk_app, dk_cons, dk_nil, and_true, true_and, and_assoc] using (show Dk g68 [(g1, .cells (shC (.slice (some ⟨g6, 0, none⟩) cs.length cap6) (.slice poS osS.length coS) tl0).toArray 32 (0, 0)), (g6, .cells cur6 53 (0, 0))] from Fg68)
                  refine lm (v := .pointer (some ⟨g6, 0 + k * 12, none⟩)) rfl rfl ?_
                  refine lm (v := .pointer (some ⟨g6, 0 + k * 12 + 8, none⟩)) rfl rfl ?_
                  have hr70 : RowR colC (cur6.setIfInBounds (0 + k * 12 + 8) (.slice (some ⟨g68, 0, none⟩) 2 2)) (cs.set k { ck with plugs := [0, ck.tiers], pp := some ⟨g68, 0, none⟩, pc := 2 }) := RowR.set hr6 colC_len hck (by decide) rfl
                  refine wpL_s [(g68, .cells #[.int .i64 0, .int .i64 ck.tiers] 3 (0, 0)), (g1, .cells (shC (.slice (some ⟨g6, 0, none⟩) cs.length cap6) (.slice poS osS.length coS) tl0).toArray 32 (0, 0)), (g6, .cells (cur6.setIfInBounds (0 + k * 12 + 8) (.slice (some ⟨g68, 0, none⟩) 2 2)) 53 (0, 0))] rfl rfl (st_at (off := 0 + k * 12 + 8) (v := .slice (some ⟨g68, 0, none⟩) 2 2) rfl (by kernel_rfl) (by kernel_rfl) (.tail _ (.tail _ (.head _))) hBg6 (by kernel_rfl) rfl rfl (by rw [hsz6]; omega) (.inr rfl) (List.forall_mem_cons.2 ⟨.inr ⟨(.head _), (by first | assumption | exact Ne.symm (by assumption))⟩, (List.forall_mem_cons.2 ⟨.inr ⟨(.tail _ (.head _)), (by first | assumption | exact Ne.symm (by assumption))⟩, (List.forall_mem_cons.2 ⟨.inl rfl, (List.forall_mem_nil _)⟩)⟩)⟩)) ?_
                  refine wpL_done (fun W35 hW35 => ?_)
                  refine (show Code.wp _ _ _ _ _ from ?_)
                  refine wp_seq ?_
                  have hbZ := hWB.1.trans (hW35.1.mono hWB.1.size)
                  have HCZ := Lib.hid (show SLV W35 (some ⟨g6, 0, none⟩) ((cs.set k { ck with plugs := [0, ck.tiers], pp := some ⟨g68, 0, none⟩, pc := 2 }).flatMap colC) from (rowr_slv hW35 (.tail _ (.tail _ (.head _))) hr70))
                  have HOZ := Lib.hid (show SLV W35 poS (osS.flatMap covC) from ((RL.base HOS.out) _ (hW35.sub (fun _ h => by cases h))))
                  have HRZ := Lib.hid (show RwR W35 osS from (HRS.out.keep hW35.1))
                  have HPZ := Lib.hid (show PlR W35 (cs.set k { ck with plugs := [0, ck.tiers], pp := some ⟨g68, 0, none⟩, pc := 2 }) from (pl_set (c' := { ck with plugs := [0, ck.tiers], pp := some ⟨g68, 0, none⟩, pc := 2 }) (HPS.out.keep hW35.1) (blk_slv hW35 (.head _))))
                  have hlp : ∀ c ∈ (cs.set k { ck with plugs := [0, ck.tiers], pp := some ⟨g68, 0, none⟩, pc := 2 }), c.plugs.length ≤ 4000000000 := (pll_set (c' := { ck with plugs := [0, ck.tiers], pp := some ⟨g68, 0, none⟩, pc := 2 }) lpS (Nat.le_of_ble_eq_true rfl))
                  have hlr : ∀ o ∈ osS, o.rows.length ≤ 4000000000 := lrS
                  have hbad : rightX (cs.set k { ck with plugs := [0, ck.tiers], pp := some ⟨g68, 0, none⟩, pc := 2 }) osS = false := set_bad hck (col_inc (c := { ck with plugs := [0, ck.tiers], pp := some ⟨g68, 0, none⟩, pc := 2 }) (by show incX [0, ck.tiers] (IntKind.i64.wrap (ck.tiers - 1)) = false; rw [wi_i64 (by omega)]; simp [incX, incF]; omega))
                  have HGZ := Lib.hid (CapR.of (cs := (shC (.slice (some ⟨g6, 0, none⟩) cs.length cap6) (.slice poS osS.length coS) tl0)) hW35 (.tail _ (.head _)))
                  refine wp_region_V (W0 := W35) [] (by kernel_rfl) ((KS.start W35)) ?_
                  refine vb (i := 0) (v := .agg (shC (.slice (some ⟨g6, 0, none⟩) cs.length cap6) (.slice poS osS.length coS) tl0).toArray) rfl rfl rfl (yb_rs (off := 0) (cs := _) rfl (by kernel_rfl) (fun W hW => ((HGZ.out).keep hW.1).2) Try.underlying32 rfl (by kernel_rfl)) ?_
                  refine vv (i := 1) (v := .bool (rightX (cs.set k { ck with plugs := [0, ck.tiers], pp := some ⟨g68, 0, none⟩, pc := 2 }) osS)) rfl rfl rfl (yb_call (f := 14) (args := #[.agg (shC (.slice (some ⟨g6, 0, none⟩) cs.length cap6) (.slice poS osS.length coS) tl0).toArray]) (fun _ => by kernel_rfl) fun W hW => (by have h9 := Right_any (cs.set k { ck with plugs := [0, ck.tiers], pp := some ⟨g68, 0, none⟩, pc := 2 }) (some ⟨g6, 0, none⟩) cap6 (by rw [List.length_set]; omega) osS poS coS (by have h9 := loS; omega) tl0 W ((RL.base HCZ.out) _ (hW.sub (fun _ h => by cases h))) ((RL.base HOZ.out) _ (hW.sub (fun _ h => by cases h))) (HRZ.out.keep hW.1) hlr (HPZ.out.keep hW.1) hlp; rw [List.length_set] at h9; exact h9)) ?_
                  refine vp (i := 2) (v := .bool (!(rightX (cs.set k { ck with plugs := [0, ck.tiers], pp := some ⟨g68, 0, none⟩, pc := 2 }) osS))) rfl rfl rfl (run_un rfl (by kernel_rfl) fun w => un_not w) ?_
                  refine vm (i := 3) (v := .bool (!(rightX (cs.set k { ck with plugs := [0, ck.tiers], pp := some ⟨g68, 0, none⟩, pc := 2 }) osS))) rfl rfl rfl ?_
                  cases h21 : (rightX (cs.set k { ck with plugs := [0, ck.tiers], pp := some ⟨g68, 0, none⟩, pc := 2 }) osS) with
                  | false =>
                    refine vb (i := 4) (v := .agg (shC (.slice (some ⟨g6, 0, none⟩) cs.length cap6) (.slice poS osS.length coS) tl0).toArray) rfl rfl rfl (yb_rs (off := 0) (cs := _) rfl (by kernel_rfl) (fun W hW => ((HGZ.out).keep hW.1).2) Try.underlying32 rfl (by kernel_rfl)) ?_
                    refine vm (i := 5) (v := .int .i64 (min v (-1))) rfl rfl rfl ?_
                    refine vv (i := 6) (v := .int .i64 (fiN (covOf (cs.set k { ck with plugs := [0, ck.tiers], pp := some ⟨g68, 0, none⟩, pc := 2 }) osS (min v (-1))))) rfl rfl rfl (yb_call (f := 16) (args := #[.agg (shC (.slice (some ⟨g6, 0, none⟩) cs.length cap6) (.slice poS osS.length coS) tl0).toArray, .int .i64 (min v (-1))]) (fun _ => by kernel_rfl) fun W hW => (by have h9 := CoverOf_any (cs.set k { ck with plugs := [0, ck.tiers], pp := some ⟨g68, 0, none⟩, pc := 2 }) (some ⟨g6, 0, none⟩) cap6 (by rw [List.length_set]; omega) osS poS coS (by have h9 := loS; omega) tl0 (min v (-1)) W ((RL.base HCZ.out) _ (hW.sub (fun _ h => by cases h))) ((RL.base HOZ.out) _ (hW.sub (fun _ h => by cases h))) (HRZ.out.keep hW.1) hlr; rw [List.length_set] at h9; exact h9)) ?_
                    refine vp (i := 7) (v := .bool true) rfl rfl rfl (run_bin rfl (vx := (.int .i64 (fiN (covOf (cs.set k { ck with plugs := [0, ck.tiers], pp := some ⟨g68, 0, none⟩, pc := 2 }) osS (min v (-1)))))) (vy := (.int .i64 (-1))) (by kernel_rfl) (by kernel_rfl) fun w => bi_eql (decide_eq_true (cov_low hlo)) w) ?_
                    refine vm (i := 8) (v := .bool true) rfl rfl rfl ?_
                    refine vm (i := 9) (v := .bool true) rfl rfl rfl ?_
                    refine vb (i := 10) (v := .agg (shC (.slice (some ⟨g6, 0, none⟩) cs.length cap6) (.slice poS osS.length coS) tl0).toArray) rfl rfl rfl (yb_rs (off := 0) (cs := _) rfl (by kernel_rfl) (fun W hW => ((HGZ.out).keep hW.1).2) Try.underlying32 rfl (by kernel_rfl)) ?_
                    refine vm (i := 11) (v := .int .i64 (min v (-1))) rfl rfl rfl ?_
                    refine vb (i := 14) (v := .agg (shC (.slice (some ⟨g6, 0, none⟩) cs.length cap6) (.slice poS osS.length coS) tl0).toArray) rfl rfl rfl (yb_rs (off := 0) (cs := _) rfl (by kernel_rfl) (fun W hW => ((HGZ.out).keep hW.1).2) Try.underlying32 rfl (by kernel_rfl)) ?_
                    refine vm (i := 15) (v := .int .i64 (max v 0)) rfl rfl rfl ?_
                    refine vp (i := 16) (v := .int .i64 (max (max v 0) 100)) rfl rfl rfl (run_max2 (x := (max v 0)) (y := 100) (z := (max (max v 0) 100)) rfl (by kernel_rfl) (by kernel_rfl) rfl) ?_
                    refine vb (i := 20) (v := .agg (shC (.slice (some ⟨g6, 0, none⟩) cs.length cap6) (.slice poS osS.length coS) tl0).toArray) rfl rfl rfl (yb_rs (off := 0) (cs := _) rfl (by kernel_rfl) (fun W hW => ((HGZ.out).keep hW.1).2) Try.underlying32 rfl (by kernel_rfl)) ?_
                    refine vm (i := 21) (v := .int .i64 (min v (-1))) rfl rfl rfl ?_
                    refine wpV_c (i := 12) (OutRL inC W35 [] (alongX (cs.set k { ck with plugs := [0, ck.tiers], pp := some ⟨g68, 0, none⟩, pc := 2 }) osS (min v (-1)) false)) rfl rfl (by kernel_rfl) (by kernel_rfl) (fun _ => (by kernel_rfl)) (fun W hW => calls_r hW ((by have h9 := Under_any (cs.set k { ck with plugs := [0, ck.tiers], pp := some ⟨g68, 0, none⟩, pc := 2 }) (some ⟨g6, 0, none⟩) cap6 (by rw [List.length_set]; omega) osS poS coS (by have h9 := loS; omega) tl0 (min v (-1)) W ((RL.base HCZ.out) _ (hW.sub (fun _ h => by cases h))) ((RL.base HOZ.out) _ (hW.sub (fun _ h => by cases h))) (HRZ.out.keep hW.1) hlr; rw [List.length_set] at h9; exact h9))) (fun v K9 hG => hG.sub) (fun _ => by simp only [List.setIfInBounds_toArray, List.set_cons_succ, List.set_cons_zero] <;> rfl) ?_
                    rintro _ Kl71 ⟨p71, c71, _, rfl, n71, R71, N71, rfl⟩
                    have hl71 : (alongX (cs.set k { ck with plugs := [0, ck.tiers], pp := some ⟨g68, 0, none⟩, pc := 2 }) osS (min v (-1)) false).length = 0 := by rw [al_low hlo]; rfl
                    refine vp (i := 13) (v := .int .i64 ((((alongX (cs.set k { ck with plugs := [0, ck.tiers], pp := some ⟨g68, 0, none⟩, pc := 2 }) osS (min v (-1)) false).length) : Nat) : Int)) rfl rfl rfl (run_lenL (p := p71) (cap := c71) (n := (alongX (cs.set k { ck with plugs := [0, ck.tiers], pp := some ⟨g68, 0, none⟩, pc := 2 }) osS (min v (-1)) false).length) rfl Try.underlying39 (by kernel_rfl)) ?_
                    refine wpV_c (i := 17) (OutRL inC W35 Kl71 (alongX (cs.set k { ck with plugs := [0, ck.tiers], pp := some ⟨g68, 0, none⟩, pc := 2 }) osS (max (max v 0) 100) true)) rfl rfl (by kernel_rfl) (by kernel_rfl) (fun _ => (by kernel_rfl)) (fun W hW => calls_r hW ((by have h9 := Upon_any (cs.set k { ck with plugs := [0, ck.tiers], pp := some ⟨g68, 0, none⟩, pc := 2 }) (some ⟨g6, 0, none⟩) cap6 (by rw [List.length_set]; omega) osS poS coS (by have h9 := loS; omega) tl0 (max (max v 0) 100) W ((RL.base HCZ.out) _ (hW.sub (fun _ h => by cases h))) ((RL.base HOZ.out) _ (hW.sub (fun _ h => by cases h))) (HRZ.out.keep hW.1) hlr; rw [List.length_set] at h9; exact h9))) (fun v K9 hG => hG.sub) (fun _ => by simp only [List.setIfInBounds_toArray, List.set_cons_succ, List.set_cons_zero] <;> rfl) ?_
                    rintro _ _ ⟨p72, c72, Kl72, rfl, n72, R72, N72, rfl⟩
                    obtain dj73_0 : Dj Kl71 Kl72 := by simpa only [dj_app_l, dj_app_r, dj_cons_l, dj_cons_r, dj_nil_l, dj_nil_r, dk_app, dk_cons, dk_nil, and_true, true_and, and_assoc] using (show Dj Kl71 Kl72 from N72)
                    have hl72 : (alongX (cs.set k { ck with plugs := [0, ck.tiers], pp := some ⟨g68, 0, none⟩, pc := 2 }) osS (max (max v 0) 100) true).length = 0 := by rw [al_high (by omega) (by have h9 := loS; omega)]; rfl
                    refine vp (i := 18) (v := .int .i64 ((((alongX (cs.set k { ck with plugs := [0, ck.tiers], pp := some ⟨g68, 0, none⟩, pc := 2 }) osS (max (max v 0) 100) true).length) : Nat) : Int)) rfl rfl rfl (run_lenL (p := p72) (cap := c72) (n := (alongX (cs.set k { ck with plugs := [0, ck.tiers], pp := some ⟨g68, 0, none⟩, pc := 2 }) osS (max (max v 0) 100) true).length) rfl Try.underlying39 (by kernel_rfl)) ?_
                    refine vp (i := 19) (v := .int .i64 (((((alongX (cs.set k { ck with plugs := [0, ck.tiers], pp := some ⟨g68, 0, none⟩, pc := 2 }) osS (min v (-1)) false).length) + ((alongX (cs.set k { ck with plugs := [0, ck.tiers], pp := some ⟨g68, 0, none⟩, pc := 2 }) osS (max (max v 0) 100) true).length)) : Nat) : Int)) rfl rfl rfl (run_bin rfl (vx := (.int .i64 ((((alongX (cs.set k { ck with plugs := [0, ck.tiers], pp := some ⟨g68, 0, none⟩, pc := 2 }) osS (min v (-1)) false).length) : Nat) : Int))) (vy := (.int .i64 ((((alongX (cs.set k { ck with plugs := [0, ck.tiers], pp := some ⟨g68, 0, none⟩, pc := 2 }) osS (max (max v 0) 100) true).length) : Nat) : Int))) (by kernel_rfl) (by kernel_rfl) fun w => bn_add (z := (((alongX (cs.set k { ck with plugs := [0, ck.tiers], pp := some ⟨g68, 0, none⟩, pc := 2 }) osS (min v (-1)) false).length) + ((alongX (cs.set k { ck with plugs := [0, ck.tiers], pp := some ⟨g68, 0, none⟩, pc := 2 }) osS (max (max v 0) 100) true).length))) rfl (wr_i64 (by omega)) w) ?_
                    refine wpV_c (i := 22) (OutRL inC W35 (Kl71 ++ Kl72) (besideX (cs.set k { ck with plugs := [0, ck.tiers], pp := some ⟨g68, 0, none⟩, pc := 2 }) (min v (-1)))) rfl rfl (by kernel_rfl) (by kernel_rfl) (fun _ => (by kernel_rfl)) (fun W hW => calls_r hW ((by have h9 := Beside_any (cs.set k { ck with plugs := [0, ck.tiers], pp := some ⟨g68, 0, none⟩, pc := 2 }) (some ⟨g6, 0, none⟩) cap6 (by rw [List.length_set]; omega) osS poS coS (by have h9 := loS; omega) tl0 (min v (-1)) W ((RL.base HCZ.out) _ (hW.sub (fun _ h => by cases h))) ((RL.base HOZ.out) _ (hW.sub (fun _ h => by cases h))); rw [List.length_set] at h9; exact h9))) (fun v K9 hG => hG.sub) (fun _ => by simp only [List.setIfInBounds_toArray, List.set_cons_succ, List.set_cons_zero] <;> rfl) ?_
                    rintro _ _ ⟨p74, c74, Kl74, rfl, n74, R74, N74, rfl⟩
                    obtain ⟨dj75_0, dj75_1⟩ : Dj Kl71 Kl74 ∧ Dj Kl72 Kl74 := by simpa only [dj_app_l, dj_app_r, dj_cons_l, dj_cons_r, dj_nil_l, dj_nil_r, dk_app, dk_cons, dk_nil, and_true, true_and, and_assoc] using (show Dj (Kl71 ++ Kl72) Kl74 from N74)
                    have hl74 : (besideX (cs.set k { ck with plugs := [0, ck.tiers], pp := some ⟨g68, 0, none⟩, pc := 2 }) (min v (-1))).length = 0 := by rw [bes_low hlo]; rfl
                    refine vp (i := 23) (v := .int .i64 ((((besideX (cs.set k { ck with plugs := [0, ck.tiers], pp := some ⟨g68, 0, none⟩, pc := 2 }) (min v (-1))).length) : Nat) : Int)) rfl rfl rfl (run_lenL (p := p74) (cap := c74) (n := (besideX (cs.set k { ck with plugs := [0, ck.tiers], pp := some ⟨g68, 0, none⟩, pc := 2 }) (min v (-1))).length) rfl Try.underlying39 (by kernel_rfl)) ?_
                    refine vp (i := 24) (v := .int .i64 ((((((alongX (cs.set k { ck with plugs := [0, ck.tiers], pp := some ⟨g68, 0, none⟩, pc := 2 }) osS (min v (-1)) false).length) + ((alongX (cs.set k { ck with plugs := [0, ck.tiers], pp := some ⟨g68, 0, none⟩, pc := 2 }) osS (max (max v 0) 100) true).length)) + ((besideX (cs.set k { ck with plugs := [0, ck.tiers], pp := some ⟨g68, 0, none⟩, pc := 2 }) (min v (-1))).length)) : Nat) : Int)) rfl rfl rfl (run_bin rfl (vx := (.int .i64 (((((alongX (cs.set k { ck with plugs := [0, ck.tiers], pp := some ⟨g68, 0, none⟩, pc := 2 }) osS (min v (-1)) false).length) + ((alongX (cs.set k { ck with plugs := [0, ck.tiers], pp := some ⟨g68, 0, none⟩, pc := 2 }) osS (max (max v 0) 100) true).length)) : Nat) : Int))) (vy := (.int .i64 ((((besideX (cs.set k { ck with plugs := [0, ck.tiers], pp := some ⟨g68, 0, none⟩, pc := 2 }) (min v (-1))).length) : Nat) : Int))) (by kernel_rfl) (by kernel_rfl) fun w => bn_add (z := ((((alongX (cs.set k { ck with plugs := [0, ck.tiers], pp := some ⟨g68, 0, none⟩, pc := 2 }) osS (min v (-1)) false).length) + ((alongX (cs.set k { ck with plugs := [0, ck.tiers], pp := some ⟨g68, 0, none⟩, pc := 2 }) osS (max (max v 0) 100) true).length)) + ((besideX (cs.set k { ck with plugs := [0, ck.tiers], pp := some ⟨g68, 0, none⟩, pc := 2 }) (min v (-1))).length))) rfl (wr_i64 (by omega)) w) ?_
                    refine vp (i := 25) (v := .bool true) rfl rfl rfl (run_bin rfl (vx := (.int .i64 ((((((alongX (cs.set k { ck with plugs := [0, ck.tiers], pp := some ⟨g68, 0, none⟩, pc := 2 }) osS (min v (-1)) false).length) + ((alongX (cs.set k { ck with plugs := [0, ck.tiers], pp := some ⟨g68, 0, none⟩, pc := 2 }) osS (max (max v 0) 100) true).length)) + ((besideX (cs.set k { ck with plugs := [0, ck.tiers], pp := some ⟨g68, 0, none⟩, pc := 2 }) (min v (-1))).length)) : Nat) : Int))) (vy := (.int .i64 ((0 : Nat) : Int))) (by kernel_rfl) (by kernel_rfl) fun w => bn_eql (decide_eq_true (by omega)) w) ?_
                    refine vm (i := 26) (v := .bool true) rfl rfl rfl ?_
                    refine vm (i := 27) (v := .bool true) rfl rfl rfl ?_
                    refine vv (i := 28) (v := .bool true) rfl rfl rfl (yb_call (f := 20) (args := #[.slice none 0 0, .slice none 0 0]) (fun _ => by kernel_rfl) fun W hW => SameInts_any [] [] none none 0 0 (Nat.zero_le _) W (.inl rfl) (.inl rfl)) ?_
                    refine vm (i := 29) (v := .bool true) rfl rfl rfl ?_
                    refine vm (i := 30) (v := .bool true) rfl rfl rfl ?_
                    refine vv (i := 31) (v := .bool true) rfl rfl rfl (yb_call (f := 10) (args := #[]) (fun _ => by kernel_rfl) fun W hW => awake_any W) ?_
                    refine vm (i := 32) (v := .bool true) rfl rfl rfl ?_
                    refine vm (i := 33) (v := .bool true) rfl rfl rfl ?_
                    refine wpV_done (by kernel_rfl) (fun W36 hW36 => ?_) _
                    refine (show Code.wp _ _ _ _ _ from ?_)
                    refine wp_ret ?_
                    try simp only [inBlock_ret, then_ret]
                    refine bodyPost_ret (v := .bool true) ?_ rfl ?_
                    · kernel_rfl
                    · exact ⟨rfl, (hbZ.trans (hW36.1.mono hbZ.size))⟩
                  | true =>
                    exact absurd h21 (by rw [hbad]; decide)
              | true =>
                have h7 : wy = 6 := of_decide_eq_true hd7
                clear hd7
                refine wp_cond_true rfl ?_
                refine wp_region_L (W0 := WB) [(g1, .cells (shC (.slice (some ⟨g6, 0, none⟩) cs.length cap6) (.slice poS osS.length coS) tl0).toArray 32 (0, 0)), (g6, .cells cur6 53 (0, 0))] (hW15) ?_
                refine lm (v := .pointer (some ⟨g6, 0 + k * 12, none⟩)) rfl rfl ?_
                refine lm (v := .int .i64 (max v 0)) rfl rfl ?_
                refine lp (v := .int .i64 (max (max v 0) 1000000000001)) rfl rfl (run_max2 (x := (max v 0)) (y := 1000000000001) (z := (max (max v 0) 1000000000001)) rfl (by kernel_rfl) (by kernel_rfl) rfl) ?_
                refine lm (v := .pointer (some ⟨g6, 0 + k * 12, none⟩)) rfl rfl ?_
                refine lm (v := .pointer (some ⟨g6, 0 + k * 12 + 7, none⟩)) rfl rfl ?_
                have hr76 : RowR colC (cur6.setIfInBounds (0 + k * 12 + 7) (.int .i64 (max (max v 0) 1000000000001))) (cs.set k { ck with lash := (max (max v 0) 1000000000001) }) := RowR.set hr6 colC_len hck (by decide) rfl
                refine wpL_s [(g1, .cells (shC (.slice (some ⟨g6, 0, none⟩) cs.length cap6) (.slice poS osS.length coS) tl0).toArray 32 (0, 0)), (g6, .cells (cur6.setIfInBounds (0 + k * 12 + 7) (.int .i64 (max (max v 0) 1000000000001))) 53 (0, 0))] rfl rfl (st_at (off := 0 + k * 12 + 7) (v := .int .i64 (max (max v 0) 1000000000001)) rfl (by kernel_rfl) (by kernel_rfl) (.tail _ (.head _)) hBg6 (by kernel_rfl) rfl rfl (by rw [hsz6]; omega) (.inr rfl) (List.forall_mem_cons.2 ⟨.inr ⟨(.head _), (by first | assumption | exact Ne.symm (by assumption))⟩, (List.forall_mem_cons.2 ⟨.inl rfl, (List.forall_mem_nil _)⟩)⟩)) ?_
                refine wpL_done (fun W37 hW37 => ?_)
                refine (show Code.wp _ _ _ _ _ from ?_)
                refine wp_seq ?_
                have hbZ := hWB.1.trans (hW37.1.mono hWB.1.size)
                have HCZ := Lib.hid (show SLV W37 (some ⟨g6, 0, none⟩) ((cs.set k { ck with lash := (max (max v 0) 1000000000001) }).flatMap colC) from (rowr_slv hW37 (.tail _ (.head _)) hr76))
                have HOZ := Lib.hid (show SLV W37 poS (osS.flatMap covC) from ((RL.base HOS.out) _ (hW37.sub (fun _ h => by cases h))))
                have HRZ := Lib.hid (show RwR W37 osS from (HRS.out.keep hW37.1))
                have HPZ := Lib.hid (show PlR W37 (cs.set k { ck with lash := (max (max v 0) 1000000000001) }) from (pl_set (c' := { ck with lash := (max (max v 0) 1000000000001) }) (HPS.out.keep hW37.1) ((HPS.out.keep hW37.1) ck (List.mem_of_getElem? hck))))
                have hlp : ∀ c ∈ (cs.set k { ck with lash := (max (max v 0) 1000000000001) }), c.plugs.length ≤ 4000000000 := (pll_set (c' := { ck with lash := (max (max v 0) 1000000000001) }) lpS (lpS ck (List.mem_of_getElem? hck)))
                have hlr : ∀ o ∈ osS, o.rows.length ≤ 4000000000 := lrS
                have hbad : rightX (cs.set k { ck with lash := (max (max v 0) 1000000000001) }) osS = false := set_bad hck (col_rg (c := { ck with lash := (max (max v 0) 1000000000001) }) (r := ((max (max v 0) 1000000000001), 0, 1000000000000)) (.tail _ (.tail _ (.tail _ (.tail _ (.tail _ (.tail _ (.head _))))))) (by show (max (max v 0) 1000000000001) < 0 ∨ 1000000000000 < (max (max v 0) 1000000000001); omega))
                have HGZ := Lib.hid (CapR.of (cs := (shC (.slice (some ⟨g6, 0, none⟩) cs.length cap6) (.slice poS osS.length coS) tl0)) hW37 (.head _))
                refine wp_region_V (W0 := W37) [] (by kernel_rfl) ((KS.start W37)) ?_
                refine vb (i := 0) (v := .agg (shC (.slice (some ⟨g6, 0, none⟩) cs.length cap6) (.slice poS osS.length coS) tl0).toArray) rfl rfl rfl (yb_rs (off := 0) (cs := _) rfl (by kernel_rfl) (fun W hW => ((HGZ.out).keep hW.1).2) Try.underlying32 rfl (by kernel_rfl)) ?_
                refine vv (i := 1) (v := .bool (rightX (cs.set k { ck with lash := (max (max v 0) 1000000000001) }) osS)) rfl rfl rfl (yb_call (f := 14) (args := #[.agg (shC (.slice (some ⟨g6, 0, none⟩) cs.length cap6) (.slice poS osS.length coS) tl0).toArray]) (fun _ => by kernel_rfl) fun W hW => (by have h9 := Right_any (cs.set k { ck with lash := (max (max v 0) 1000000000001) }) (some ⟨g6, 0, none⟩) cap6 (by rw [List.length_set]; omega) osS poS coS (by have h9 := loS; omega) tl0 W ((RL.base HCZ.out) _ (hW.sub (fun _ h => by cases h))) ((RL.base HOZ.out) _ (hW.sub (fun _ h => by cases h))) (HRZ.out.keep hW.1) hlr (HPZ.out.keep hW.1) hlp; rw [List.length_set] at h9; exact h9)) ?_
                refine vp (i := 2) (v := .bool (!(rightX (cs.set k { ck with lash := (max (max v 0) 1000000000001) }) osS))) rfl rfl rfl (run_un rfl (by kernel_rfl) fun w => un_not w) ?_
                refine vm (i := 3) (v := .bool (!(rightX (cs.set k { ck with lash := (max (max v 0) 1000000000001) }) osS))) rfl rfl rfl ?_
                cases h22 : (rightX (cs.set k { ck with lash := (max (max v 0) 1000000000001) }) osS) with
                | false =>
                  refine vb (i := 4) (v := .agg (shC (.slice (some ⟨g6, 0, none⟩) cs.length cap6) (.slice poS osS.length coS) tl0).toArray) rfl rfl rfl (yb_rs (off := 0) (cs := _) rfl (by kernel_rfl) (fun W hW => ((HGZ.out).keep hW.1).2) Try.underlying32 rfl (by kernel_rfl)) ?_
                  refine vm (i := 5) (v := .int .i64 (min v (-1))) rfl rfl rfl ?_
                  refine vv (i := 6) (v := .int .i64 (fiN (covOf (cs.set k { ck with lash := (max (max v 0) 1000000000001) }) osS (min v (-1))))) rfl rfl rfl (yb_call (f := 16) (args := #[.agg (shC (.slice (some ⟨g6, 0, none⟩) cs.length cap6) (.slice poS osS.length coS) tl0).toArray, .int .i64 (min v (-1))]) (fun _ => by kernel_rfl) fun W hW => (by have h9 := CoverOf_any (cs.set k { ck with lash := (max (max v 0) 1000000000001) }) (some ⟨g6, 0, none⟩) cap6 (by rw [List.length_set]; omega) osS poS coS (by have h9 := loS; omega) tl0 (min v (-1)) W ((RL.base HCZ.out) _ (hW.sub (fun _ h => by cases h))) ((RL.base HOZ.out) _ (hW.sub (fun _ h => by cases h))) (HRZ.out.keep hW.1) hlr; rw [List.length_set] at h9; exact h9)) ?_
                  refine vp (i := 7) (v := .bool true) rfl rfl rfl (run_bin rfl (vx := (.int .i64 (fiN (covOf (cs.set k { ck with lash := (max (max v 0) 1000000000001) }) osS (min v (-1)))))) (vy := (.int .i64 (-1))) (by kernel_rfl) (by kernel_rfl) fun w => bi_eql (decide_eq_true (cov_low hlo)) w) ?_
                  refine vm (i := 8) (v := .bool true) rfl rfl rfl ?_
                  refine vm (i := 9) (v := .bool true) rfl rfl rfl ?_
                  refine vb (i := 10) (v := .agg (shC (.slice (some ⟨g6, 0, none⟩) cs.length cap6) (.slice poS osS.length coS) tl0).toArray) rfl rfl rfl (yb_rs (off := 0) (cs := _) rfl (by kernel_rfl) (fun W hW => ((HGZ.out).keep hW.1).2) Try.underlying32 rfl (by kernel_rfl)) ?_
                  refine vm (i := 11) (v := .int .i64 (min v (-1))) rfl rfl rfl ?_
                  refine vb (i := 14) (v := .agg (shC (.slice (some ⟨g6, 0, none⟩) cs.length cap6) (.slice poS osS.length coS) tl0).toArray) rfl rfl rfl (yb_rs (off := 0) (cs := _) rfl (by kernel_rfl) (fun W hW => ((HGZ.out).keep hW.1).2) Try.underlying32 rfl (by kernel_rfl)) ?_
                  refine vm (i := 15) (v := .int .i64 (max v 0)) rfl rfl rfl ?_
                  refine vp (i := 16) (v := .int .i64 (max (max v 0) 100)) rfl rfl rfl (run_max2 (x := (max v 0)) (y := 100) (z := (max (max v 0) 100)) rfl (by kernel_rfl) (by kernel_rfl) rfl) ?_
                  refine vb (i := 20) (v := .agg (shC (.slice (some ⟨g6, 0, none⟩) cs.length cap6) (.slice poS osS.length coS) tl0).toArray) rfl rfl rfl (yb_rs (off := 0) (cs := _) rfl (by kernel_rfl) (fun W hW => ((HGZ.out).keep hW.1).2) Try.underlying32 rfl (by kernel_rfl)) ?_
                  refine vm (i := 21) (v := .int .i64 (min v (-1))) rfl rfl rfl ?_
                  refine wpV_c (i := 12) (OutRL inC W37 [] (alongX (cs.set k { ck with lash := (max (max v 0) 1000000000001) }) osS (min v (-1)) false)) rfl rfl (by kernel_rfl) (by kernel_rfl) (fun _ => (by kernel_rfl)) (fun W hW => calls_r hW ((by have h9 := Under_any (cs.set k { ck with lash := (max (max v 0) 1000000000001) }) (some ⟨g6, 0, none⟩) cap6 (by rw [List.length_set]; omega) osS poS coS (by have h9 := loS; omega) tl0 (min v (-1)) W ((RL.base HCZ.out) _ (hW.sub (fun _ h => by cases h))) ((RL.base HOZ.out) _ (hW.sub (fun _ h => by cases h))) (HRZ.out.keep hW.1) hlr; rw [List.length_set] at h9; exact h9))) (fun v K9 hG => hG.sub) (fun _ => by simp only [List.setIfInBounds_toArray, List.set_cons_succ, List.set_cons_zero] <;> rfl) ?_
                  rintro _ Kl77 ⟨p77, c77, _, rfl, n77, R77, N77, rfl⟩
                  have hl77 : (alongX (cs.set k { ck with lash := (max (max v 0) 1000000000001) }) osS (min v (-1)) false).length = 0 := by rw [al_low hlo]; rfl
                  refine vp (i := 13) (v := .int .i64 ((((alongX (cs.set k { ck with lash := (max (max v 0) 1000000000001) }) osS (min v (-1)) false).length) : Nat) : Int)) rfl rfl rfl (run_lenL (p := p77) (cap := c77) (n := (alongX (cs.set k { ck with lash := (max (max v 0) 1000000000001) }) osS (min v (-1)) false).length) rfl Try.underlying39 (by kernel_rfl)) ?_
                  refine wpV_c (i := 17) (OutRL inC W37 Kl77 (alongX (cs.set k { ck with lash := (max (max v 0) 1000000000001) }) osS (max (max v 0) 100) true)) rfl rfl (by kernel_rfl) (by kernel_rfl) (fun _ => (by kernel_rfl)) (fun W hW => calls_r hW ((by have h9 := Upon_any (cs.set k { ck with lash := (max (max v 0) 1000000000001) }) (some ⟨g6, 0, none⟩) cap6 (by rw [List.length_set]; omega) osS poS coS (by have h9 := loS; omega) tl0 (max (max v 0) 100) W ((RL.base HCZ.out) _ (hW.sub (fun _ h => by cases h))) ((RL.base HOZ.out) _ (hW.sub (fun _ h => by cases h))) (HRZ.out.keep hW.1) hlr; rw [List.length_set] at h9; exact h9))) (fun v K9 hG => hG.sub) (fun _ => by simp only [List.setIfInBounds_toArray, List.set_cons_succ, List.set_cons_zero] <;> rfl) ?_
                  rintro _ _ ⟨p78, c78, Kl78, rfl, n78, R78, N78, rfl⟩
                  obtain dj79_0 : Dj Kl77 Kl78 := by simpa only [dj_app_l, dj_app_r, dj_cons_l, dj_cons_r, dj_nil_l, dj_nil_r, dk_app, dk_cons, dk_nil, and_true, true_and, and_assoc] using (show Dj Kl77 Kl78 from N78)
                  have hl78 : (alongX (cs.set k { ck with lash := (max (max v 0) 1000000000001) }) osS (max (max v 0) 100) true).length = 0 := by rw [al_high (by omega) (by have h9 := loS; omega)]; rfl
                  refine vp (i := 18) (v := .int .i64 ((((alongX (cs.set k { ck with lash := (max (max v 0) 1000000000001) }) osS (max (max v 0) 100) true).length) : Nat) : Int)) rfl rfl rfl (run_lenL (p := p78) (cap := c78) (n := (alongX (cs.set k { ck with lash := (max (max v 0) 1000000000001) }) osS (max (max v 0) 100) true).length) rfl Try.underlying39 (by kernel_rfl)) ?_
                  refine vp (i := 19) (v := .int .i64 (((((alongX (cs.set k { ck with lash := (max (max v 0) 1000000000001) }) osS (min v (-1)) false).length) + ((alongX (cs.set k { ck with lash := (max (max v 0) 1000000000001) }) osS (max (max v 0) 100) true).length)) : Nat) : Int)) rfl rfl rfl (run_bin rfl (vx := (.int .i64 ((((alongX (cs.set k { ck with lash := (max (max v 0) 1000000000001) }) osS (min v (-1)) false).length) : Nat) : Int))) (vy := (.int .i64 ((((alongX (cs.set k { ck with lash := (max (max v 0) 1000000000001) }) osS (max (max v 0) 100) true).length) : Nat) : Int))) (by kernel_rfl) (by kernel_rfl) fun w => bn_add (z := (((alongX (cs.set k { ck with lash := (max (max v 0) 1000000000001) }) osS (min v (-1)) false).length) + ((alongX (cs.set k { ck with lash := (max (max v 0) 1000000000001) }) osS (max (max v 0) 100) true).length))) rfl (wr_i64 (by omega)) w) ?_
                  refine wpV_c (i := 22) (OutRL inC W37 (Kl77 ++ Kl78) (besideX (cs.set k { ck with lash := (max (max v 0) 1000000000001) }) (min v (-1)))) rfl rfl (by kernel_rfl) (by kernel_rfl) (fun _ => (by kernel_rfl)) (fun W hW => calls_r hW ((by have h9 := Beside_any (cs.set k { ck with lash := (max (max v 0) 1000000000001) }) (some ⟨g6, 0, none⟩) cap6 (by rw [List.length_set]; omega) osS poS coS (by have h9 := loS; omega) tl0 (min v (-1)) W ((RL.base HCZ.out) _ (hW.sub (fun _ h => by cases h))) ((RL.base HOZ.out) _ (hW.sub (fun _ h => by cases h))); rw [List.length_set] at h9; exact h9))) (fun v K9 hG => hG.sub) (fun _ => by simp only [List.setIfInBounds_toArray, List.set_cons_succ, List.set_cons_zero] <;> rfl) ?_
                  rintro _ _ ⟨p80, c80, Kl80, rfl, n80, R80, N80, rfl⟩
                  obtain ⟨dj81_0, dj81_1⟩ : Dj Kl77 Kl80 ∧ Dj Kl78 Kl80 := by simpa only [dj_app_l, dj_app_r, dj_cons_l, dj_cons_r, dj_nil_l, dj_nil_r, dk_app, dk_cons, dk_nil, and_true, true_and, and_assoc] using (show Dj (Kl77 ++ Kl78) Kl80 from N80)
                  have hl80 : (besideX (cs.set k { ck with lash := (max (max v 0) 1000000000001) }) (min v (-1))).length = 0 := by rw [bes_low hlo]; rfl
                  refine vp (i := 23) (v := .int .i64 ((((besideX (cs.set k { ck with lash := (max (max v 0) 1000000000001) }) (min v (-1))).length) : Nat) : Int)) rfl rfl rfl (run_lenL (p := p80) (cap := c80) (n := (besideX (cs.set k { ck with lash := (max (max v 0) 1000000000001) }) (min v (-1))).length) rfl Try.underlying39 (by kernel_rfl)) ?_
                  refine vp (i := 24) (v := .int .i64 ((((((alongX (cs.set k { ck with lash := (max (max v 0) 1000000000001) }) osS (min v (-1)) false).length) + ((alongX (cs.set k { ck with lash := (max (max v 0) 1000000000001) }) osS (max (max v 0) 100) true).length)) + ((besideX (cs.set k { ck with lash := (max (max v 0) 1000000000001) }) (min v (-1))).length)) : Nat) : Int)) rfl rfl rfl (run_bin rfl (vx := (.int .i64 (((((alongX (cs.set k { ck with lash := (max (max v 0) 1000000000001) }) osS (min v (-1)) false).length) + ((alongX (cs.set k { ck with lash := (max (max v 0) 1000000000001) }) osS (max (max v 0) 100) true).length)) : Nat) : Int))) (vy := (.int .i64 ((((besideX (cs.set k { ck with lash := (max (max v 0) 1000000000001) }) (min v (-1))).length) : Nat) : Int))) (by kernel_rfl) (by kernel_rfl) fun w => bn_add (z := ((((alongX (cs.set k { ck with lash := (max (max v 0) 1000000000001) }) osS (min v (-1)) false).length) + ((alongX (cs.set k { ck with lash := (max (max v 0) 1000000000001) }) osS (max (max v 0) 100) true).length)) + ((besideX (cs.set k { ck with lash := (max (max v 0) 1000000000001) }) (min v (-1))).length))) rfl (wr_i64 (by omega)) w) ?_
                  refine vp (i := 25) (v := .bool true) rfl rfl rfl (run_bin rfl (vx := (.int .i64 ((((((alongX (cs.set k { ck with lash := (max (max v 0) 1000000000001) }) osS (min v (-1)) false).length) + ((alongX (cs.set k { ck with lash := (max (max v 0) 1000000000001) }) osS (max (max v 0) 100) true).length)) + ((besideX (cs.set k { ck with lash := (max (max v 0) 1000000000001) }) (min v (-1))).length)) : Nat) : Int))) (vy := (.int .i64 ((0 : Nat) : Int))) (by kernel_rfl) (by kernel_rfl) fun w => bn_eql (decide_eq_true (by omega)) w) ?_
                  refine vm (i := 26) (v := .bool true) rfl rfl rfl ?_
                  refine vm (i := 27) (v := .bool true) rfl rfl rfl ?_
                  refine vv (i := 28) (v := .bool true) rfl rfl rfl (yb_call (f := 20) (args := #[.slice none 0 0, .slice none 0 0]) (fun _ => by kernel_rfl) fun W hW => SameInts_any [] [] none none 0 0 (Nat.zero_le _) W (.inl rfl) (.inl rfl)) ?_
                  refine vm (i := 29) (v := .bool true) rfl rfl rfl ?_
                  refine vm (i := 30) (v := .bool true) rfl rfl rfl ?_
                  refine vv (i := 31) (v := .bool true) rfl rfl rfl (yb_call (f := 10) (args := #[]) (fun _ => by kernel_rfl) fun W hW => awake_any W) ?_
                  refine vm (i := 32) (v := .bool true) rfl rfl rfl ?_
                  refine vm (i := 33) (v := .bool true) rfl rfl rfl ?_
                  refine wpV_done (by kernel_rfl) (fun W38 hW38 => ?_) _
                  refine (show Code.wp _ _ _ _ _ from ?_)
                  refine wp_ret ?_
                  try simp only [inBlock_ret, then_ret]
                  refine bodyPost_ret (v := .bool true) ?_ rfl ?_
                  · kernel_rfl
                  · exact ⟨rfl, (hbZ.trans (hW38.1.mono hbZ.size))⟩
                | true =>
                  exact absurd h22 (by rw [hbad]; decide)
            | true =>
              have h6 : wy = 5 := of_decide_eq_true hd6
              clear hd6
              refine wp_cond_true rfl ?_
              refine wp_region_L (W0 := WB) [(g1, .cells (shC (.slice (some ⟨g6, 0, none⟩) cs.length cap6) (.slice poS osS.length coS) tl0).toArray 32 (0, 0)), (g6, .cells cur6 53 (0, 0))] (hW14) ?_
              refine lm (v := .pointer (some ⟨g6, 0 + k * 12, none⟩)) rfl rfl ?_
              refine lm (v := .int .i64 (max v 0)) rfl rfl ?_
              refine lp (v := .int .i64 (max (max v 0) 500000001)) rfl rfl (run_max2 (x := (max v 0)) (y := 500000001) (z := (max (max v 0) 500000001)) rfl (by kernel_rfl) (by kernel_rfl) rfl) ?_
              refine lm (v := .pointer (some ⟨g6, 0 + k * 12, none⟩)) rfl rfl ?_
              refine lm (v := .pointer (some ⟨g6, 0 + k * 12 + 6, none⟩)) rfl rfl ?_
              have hr82 : RowR colC (cur6.setIfInBounds (0 + k * 12 + 6) (.int .i64 (max (max v 0) 500000001))) (cs.set k { ck with k40 := (max (max v 0) 500000001) }) := RowR.set hr6 colC_len hck (by decide) rfl
              refine wpL_s [(g1, .cells (shC (.slice (some ⟨g6, 0, none⟩) cs.length cap6) (.slice poS osS.length coS) tl0).toArray 32 (0, 0)), (g6, .cells (cur6.setIfInBounds (0 + k * 12 + 6) (.int .i64 (max (max v 0) 500000001))) 53 (0, 0))] rfl rfl (st_at (off := 0 + k * 12 + 6) (v := .int .i64 (max (max v 0) 500000001)) rfl (by kernel_rfl) (by kernel_rfl) (.tail _ (.head _)) hBg6 (by kernel_rfl) rfl rfl (by rw [hsz6]; omega) (.inr rfl) (List.forall_mem_cons.2 ⟨.inr ⟨(.head _), (by first | assumption | exact Ne.symm (by assumption))⟩, (List.forall_mem_cons.2 ⟨.inl rfl, (List.forall_mem_nil _)⟩)⟩)) ?_
              refine wpL_done (fun W39 hW39 => ?_)
              refine (show Code.wp _ _ _ _ _ from ?_)
              refine wp_seq ?_
              have hbZ := hWB.1.trans (hW39.1.mono hWB.1.size)
              have HCZ := Lib.hid (show SLV W39 (some ⟨g6, 0, none⟩) ((cs.set k { ck with k40 := (max (max v 0) 500000001) }).flatMap colC) from (rowr_slv hW39 (.tail _ (.head _)) hr82))
              have HOZ := Lib.hid (show SLV W39 poS (osS.flatMap covC) from ((RL.base HOS.out) _ (hW39.sub (fun _ h => by cases h))))
              have HRZ := Lib.hid (show RwR W39 osS from (HRS.out.keep hW39.1))
              have HPZ := Lib.hid (show PlR W39 (cs.set k { ck with k40 := (max (max v 0) 500000001) }) from (pl_set (c' := { ck with k40 := (max (max v 0) 500000001) }) (HPS.out.keep hW39.1) ((HPS.out.keep hW39.1) ck (List.mem_of_getElem? hck))))
              have hlp : ∀ c ∈ (cs.set k { ck with k40 := (max (max v 0) 500000001) }), c.plugs.length ≤ 4000000000 := (pll_set (c' := { ck with k40 := (max (max v 0) 500000001) }) lpS (lpS ck (List.mem_of_getElem? hck)))
              have hlr : ∀ o ∈ osS, o.rows.length ≤ 4000000000 := lrS
              have hbad : rightX (cs.set k { ck with k40 := (max (max v 0) 500000001) }) osS = false := set_bad hck (col_rg (c := { ck with k40 := (max (max v 0) 500000001) }) (r := ((max (max v 0) 500000001), 0, 500000000)) (.tail _ (.tail _ (.tail _ (.tail _ (.tail _ (.head _)))))) (by show (max (max v 0) 500000001) < 0 ∨ 500000000 < (max (max v 0) 500000001); omega))
              have HGZ := Lib.hid (CapR.of (cs := (shC (.slice (some ⟨g6, 0, none⟩) cs.length cap6) (.slice poS osS.length coS) tl0)) hW39 (.head _))
              refine wp_region_V (W0 := W39) [] (by kernel_rfl) ((KS.start W39)) ?_
              refine vb (i := 0) (v := .agg (shC (.slice (some ⟨g6, 0, none⟩) cs.length cap6) (.slice poS osS.length coS) tl0).toArray) rfl rfl rfl (yb_rs (off := 0) (cs := _) rfl (by kernel_rfl) (fun W hW => ((HGZ.out).keep hW.1).2) Try.underlying32 rfl (by kernel_rfl)) ?_
              refine vv (i := 1) (v := .bool (rightX (cs.set k { ck with k40 := (max (max v 0) 500000001) }) osS)) rfl rfl rfl (yb_call (f := 14) (args := #[.agg (shC (.slice (some ⟨g6, 0, none⟩) cs.length cap6) (.slice poS osS.length coS) tl0).toArray]) (fun _ => by kernel_rfl) fun W hW => (by have h9 := Right_any (cs.set k { ck with k40 := (max (max v 0) 500000001) }) (some ⟨g6, 0, none⟩) cap6 (by rw [List.length_set]; omega) osS poS coS (by have h9 := loS; omega) tl0 W ((RL.base HCZ.out) _ (hW.sub (fun _ h => by cases h))) ((RL.base HOZ.out) _ (hW.sub (fun _ h => by cases h))) (HRZ.out.keep hW.1) hlr (HPZ.out.keep hW.1) hlp; rw [List.length_set] at h9; exact h9)) ?_
              refine vp (i := 2) (v := .bool (!(rightX (cs.set k { ck with k40 := (max (max v 0) 500000001) }) osS))) rfl rfl rfl (run_un rfl (by kernel_rfl) fun w => un_not w) ?_
              refine vm (i := 3) (v := .bool (!(rightX (cs.set k { ck with k40 := (max (max v 0) 500000001) }) osS))) rfl rfl rfl ?_
              cases h23 : (rightX (cs.set k { ck with k40 := (max (max v 0) 500000001) }) osS) with
              | false =>
                refine vb (i := 4) (v := .agg (shC (.slice (some ⟨g6, 0, none⟩) cs.length cap6) (.slice poS osS.length coS) tl0).toArray) rfl rfl rfl (yb_rs (off := 0) (cs := _) rfl (by kernel_rfl) (fun W hW => ((HGZ.out).keep hW.1).2) Try.underlying32 rfl (by kernel_rfl)) ?_
                refine vm (i := 5) (v := .int .i64 (min v (-1))) rfl rfl rfl ?_
                refine vv (i := 6) (v := .int .i64 (fiN (covOf (cs.set k { ck with k40 := (max (max v 0) 500000001) }) osS (min v (-1))))) rfl rfl rfl (yb_call (f := 16) (args := #[.agg (shC (.slice (some ⟨g6, 0, none⟩) cs.length cap6) (.slice poS osS.length coS) tl0).toArray, .int .i64 (min v (-1))]) (fun _ => by kernel_rfl) fun W hW => (by have h9 := CoverOf_any (cs.set k { ck with k40 := (max (max v 0) 500000001) }) (some ⟨g6, 0, none⟩) cap6 (by rw [List.length_set]; omega) osS poS coS (by have h9 := loS; omega) tl0 (min v (-1)) W ((RL.base HCZ.out) _ (hW.sub (fun _ h => by cases h))) ((RL.base HOZ.out) _ (hW.sub (fun _ h => by cases h))) (HRZ.out.keep hW.1) hlr; rw [List.length_set] at h9; exact h9)) ?_
                refine vp (i := 7) (v := .bool true) rfl rfl rfl (run_bin rfl (vx := (.int .i64 (fiN (covOf (cs.set k { ck with k40 := (max (max v 0) 500000001) }) osS (min v (-1)))))) (vy := (.int .i64 (-1))) (by kernel_rfl) (by kernel_rfl) fun w => bi_eql (decide_eq_true (cov_low hlo)) w) ?_
                refine vm (i := 8) (v := .bool true) rfl rfl rfl ?_
                refine vm (i := 9) (v := .bool true) rfl rfl rfl ?_
                refine vb (i := 10) (v := .agg (shC (.slice (some ⟨g6, 0, none⟩) cs.length cap6) (.slice poS osS.length coS) tl0).toArray) rfl rfl rfl (yb_rs (off := 0) (cs := _) rfl (by kernel_rfl) (fun W hW => ((HGZ.out).keep hW.1).2) Try.underlying32 rfl (by kernel_rfl)) ?_
                refine vm (i := 11) (v := .int .i64 (min v (-1))) rfl rfl rfl ?_
                refine vb (i := 14) (v := .agg (shC (.slice (some ⟨g6, 0, none⟩) cs.length cap6) (.slice poS osS.length coS) tl0).toArray) rfl rfl rfl (yb_rs (off := 0) (cs := _) rfl (by kernel_rfl) (fun W hW => ((HGZ.out).keep hW.1).2) Try.underlying32 rfl (by kernel_rfl)) ?_
                refine vm (i := 15) (v := .int .i64 (max v 0)) rfl rfl rfl ?_
                refine vp (i := 16) (v := .int .i64 (max (max v 0) 100)) rfl rfl rfl (run_max2 (x := (max v 0)) (y := 100) (z := (max (max v 0) 100)) rfl (by kernel_rfl) (by kernel_rfl) rfl) ?_
                refine vb (i := 20) (v := .agg (shC (.slice (some ⟨g6, 0, none⟩) cs.length cap6) (.slice poS osS.length coS) tl0).toArray) rfl rfl rfl (yb_rs (off := 0) (cs := _) rfl (by kernel_rfl) (fun W hW => ((HGZ.out).keep hW.1).2) Try.underlying32 rfl (by kernel_rfl)) ?_
                refine vm (i := 21) (v := .int .i64 (min v (-1))) rfl rfl rfl ?_
                refine wpV_c (i := 12) (OutRL inC W39 [] (alongX (cs.set k { ck with k40 := (max (max v 0) 500000001) }) osS (min v (-1)) false)) rfl rfl (by kernel_rfl) (by kernel_rfl) (fun _ => (by kernel_rfl)) (fun W hW => calls_r hW ((by have h9 := Under_any (cs.set k { ck with k40 := (max (max v 0) 500000001) }) (some ⟨g6, 0, none⟩) cap6 (by rw [List.length_set]; omega) osS poS coS (by have h9 := loS; omega) tl0 (min v (-1)) W ((RL.base HCZ.out) _ (hW.sub (fun _ h => by cases h))) ((RL.base HOZ.out) _ (hW.sub (fun _ h => by cases h))) (HRZ.out.keep hW.1) hlr; rw [List.length_set] at h9; exact h9))) (fun v K9 hG => hG.sub) (fun _ => by simp only [List.setIfInBounds_toArray, List.set_cons_succ, List.set_cons_zero] <;> rfl) ?_
                rintro _ Kl83 ⟨p83, c83, _, rfl, n83, R83, N83, rfl⟩
                have hl83 : (alongX (cs.set k { ck with k40 := (max (max v 0) 500000001) }) osS (min v (-1)) false).length = 0 := by rw [al_low hlo]; rfl
                refine vp (i := 13) (v := .int .i64 ((((alongX (cs.set k { ck with k40 := (max (max v 0) 500000001) }) osS (min v (-1)) false).length) : Nat) : Int)) rfl rfl rfl (run_lenL (p := p83) (cap := c83) (n := (alongX (cs.set k { ck with k40 := (max (max v 0) 500000001) }) osS (min v (-1)) false).length) rfl Try.underlying39 (by kernel_rfl)) ?_
                refine wpV_c (i := 17) (OutRL inC W39 Kl83 (alongX (cs.set k { ck with k40 := (max (max v 0) 500000001) }) osS (max (max v 0) 100) true)) rfl rfl (by kernel_rfl) (by kernel_rfl) (fun _ => (by kernel_rfl)) (fun W hW => calls_r hW ((by have h9 := Upon_any (cs.set k { ck with k40 := (max (max v 0) 500000001) }) (some ⟨g6, 0, none⟩) cap6 (by rw [List.length_set]; omega) osS poS coS (by have h9 := loS; omega) tl0 (max (max v 0) 100) W ((RL.base HCZ.out) _ (hW.sub (fun _ h => by cases h))) ((RL.base HOZ.out) _ (hW.sub (fun _ h => by cases h))) (HRZ.out.keep hW.1) hlr; rw [List.length_set] at h9; exact h9))) (fun v K9 hG => hG.sub) (fun _ => by simp only [List.setIfInBounds_toArray, List.set_cons_succ, List.set_cons_zero] <;> rfl) ?_
                rintro _ _ ⟨p84, c84, Kl84, rfl, n84, R84, N84, rfl⟩
                obtain dj85_0 : Dj Kl83 Kl84 := by simpa only [dj_app_l, dj_app_r, dj_cons_l, dj_cons_r, dj_nil_l, dj_nil_r, dk_app, dk_cons, dk_nil, and_true, true_and, and_assoc] using (show Dj Kl83 Kl84 from N84)
                have hl84 : (alongX (cs.set k { ck with k40 := (max (max v 0) 500000001) }) osS (max (max v 0) 100) true).length = 0 := by rw [al_high (by omega) (by have h9 := loS; omega)]; rfl
                refine vp (i := 18) (v := .int .i64 ((((alongX (cs.set k { ck with k40 := (max (max v 0) 500000001) }) osS (max (max v 0) 100) true).length) : Nat) : Int)) rfl rfl rfl (run_lenL (p := p84) (cap := c84) (n := (alongX (cs.set k { ck with k40 := (max (max v 0) 500000001) }) osS (max (max v 0) 100) true).length) rfl Try.underlying39 (by kernel_rfl)) ?_
                refine vp (i := 19) (v := .int .i64 (((((alongX (cs.set k { ck with k40 := (max (max v 0) 500000001) }) osS (min v (-1)) false).length) + ((alongX (cs.set k { ck with k40 := (max (max v 0) 500000001) }) osS (max (max v 0) 100) true).length)) : Nat) : Int)) rfl rfl rfl (run_bin rfl (vx := (.int .i64 ((((alongX (cs.set k { ck with k40 := (max (max v 0) 500000001) }) osS (min v (-1)) false).length) : Nat) : Int))) (vy := (.int .i64 ((((alongX (cs.set k { ck with k40 := (max (max v 0) 500000001) }) osS (max (max v 0) 100) true).length) : Nat) : Int))) (by kernel_rfl) (by kernel_rfl) fun w => bn_add (z := (((alongX (cs.set k { ck with k40 := (max (max v 0) 500000001) }) osS (min v (-1)) false).length) + ((alongX (cs.set k { ck with k40 := (max (max v 0) 500000001) }) osS (max (max v 0) 100) true).length))) rfl (wr_i64 (by omega)) w) ?_
                refine wpV_c (i := 22) (OutRL inC W39 (Kl83 ++ Kl84) (besideX (cs.set k { ck with k40 := (max (max v 0) 500000001) }) (min v (-1)))) rfl rfl (by kernel_rfl) (by kernel_rfl) (fun _ => (by kernel_rfl)) (fun W hW => calls_r hW ((by have h9 := Beside_any (cs.set k { ck with k40 := (max (max v 0) 500000001) }) (some ⟨g6, 0, none⟩) cap6 (by rw [List.length_set]; omega) osS poS coS (by have h9 := loS; omega) tl0 (min v (-1)) W ((RL.base HCZ.out) _ (hW.sub (fun _ h => by cases h))) ((RL.base HOZ.out) _ (hW.sub (fun _ h => by cases h))); rw [List.length_set] at h9; exact h9))) (fun v K9 hG => hG.sub) (fun _ => by simp only [List.setIfInBounds_toArray, List.set_cons_succ, List.set_cons_zero] <;> rfl) ?_
                rintro _ _ ⟨p86, c86, Kl86, rfl, n86, R86, N86, rfl⟩
                obtain ⟨dj87_0, dj87_1⟩ : Dj Kl83 Kl86 ∧ Dj Kl84 Kl86 := by simpa only [dj_app_l, dj_app_r, dj_cons_l, dj_cons_r, dj_nil_l, dj_nil_r, dk_app, dk_cons, dk_nil, and_true, true_and, and_assoc] using (show Dj (Kl83 ++ Kl84) Kl86 from N86)
                have hl86 : (besideX (cs.set k { ck with k40 := (max (max v 0) 500000001) }) (min v (-1))).length = 0 := by rw [bes_low hlo]; rfl
                refine vp (i := 23) (v := .int .i64 ((((besideX (cs.set k { ck with k40 := (max (max v 0) 500000001) }) (min v (-1))).length) : Nat) : Int)) rfl rfl rfl (run_lenL (p := p86) (cap := c86) (n := (besideX (cs.set k { ck with k40 := (max (max v 0) 500000001) }) (min v (-1))).length) rfl Try.underlying39 (by kernel_rfl)) ?_
                refine vp (i := 24) (v := .int .i64 ((((((alongX (cs.set k { ck with k40 := (max (max v 0) 500000001) }) osS (min v (-1)) false).length) + ((alongX (cs.set k { ck with k40 := (max (max v 0) 500000001) }) osS (max (max v 0) 100) true).length)) + ((besideX (cs.set k { ck with k40 := (max (max v 0) 500000001) }) (min v (-1))).length)) : Nat) : Int)) rfl rfl rfl (run_bin rfl (vx := (.int .i64 (((((alongX (cs.set k { ck with k40 := (max (max v 0) 500000001) }) osS (min v (-1)) false).length) + ((alongX (cs.set k { ck with k40 := (max (max v 0) 500000001) }) osS (max (max v 0) 100) true).length)) : Nat) : Int))) (vy := (.int .i64 ((((besideX (cs.set k { ck with k40 := (max (max v 0) 500000001) }) (min v (-1))).length) : Nat) : Int))) (by kernel_rfl) (by kernel_rfl) fun w => bn_add (z := ((((alongX (cs.set k { ck with k40 := (max (max v 0) 500000001) }) osS (min v (-1)) false).length) + ((alongX (cs.set k { ck with k40 := (max (max v 0) 500000001) }) osS (max (max v 0) 100) true).length)) + ((besideX (cs.set k { ck with k40 := (max (max v 0) 500000001) }) (min v (-1))).length))) rfl (wr_i64 (by omega)) w) ?_
                refine vp (i := 25) (v := .bool true) rfl rfl rfl (run_bin rfl (vx := (.int .i64 ((((((alongX (cs.set k { ck with k40 := (max (max v 0) 500000001) }) osS (min v (-1)) false).length) + ((alongX (cs.set k { ck with k40 := (max (max v 0) 500000001) }) osS (max (max v 0) 100) true).length)) + ((besideX (cs.set k { ck with k40 := (max (max v 0) 500000001) }) (min v (-1))).length)) : Nat) : Int))) (vy := (.int .i64 ((0 : Nat) : Int))) (by kernel_rfl) (by kernel_rfl) fun w => bn_eql (decide_eq_true (by omega)) w) ?_
                refine vm (i := 26) (v := .bool true) rfl rfl rfl ?_
                refine vm (i := 27) (v := .bool true) rfl rfl rfl ?_
                refine vv (i := 28) (v := .bool true) rfl rfl rfl (yb_call (f := 20) (args := #[.slice none 0 0, .slice none 0 0]) (fun _ => by kernel_rfl) fun W hW => SameInts_any [] [] none none 0 0 (Nat.zero_le _) W (.inl rfl) (.inl rfl)) ?_
                refine vm (i := 29) (v := .bool true) rfl rfl rfl ?_
                refine vm (i := 30) (v := .bool true) rfl rfl rfl ?_
                refine vv (i := 31) (v := .bool true) rfl rfl rfl (yb_call (f := 10) (args := #[]) (fun _ => by kernel_rfl) fun W hW => awake_any W) ?_
                refine vm (i := 32) (v := .bool true) rfl rfl rfl ?_
                refine vm (i := 33) (v := .bool true) rfl rfl rfl ?_
                refine wpV_done (by kernel_rfl) (fun W40 hW40 => ?_) _
                refine (show Code.wp _ _ _ _ _ from ?_)
                refine wp_ret ?_
                try simp only [inBlock_ret, then_ret]
                refine bodyPost_ret (v := .bool true) ?_ rfl ?_
                · kernel_rfl
                · exact ⟨rfl, (hbZ.trans (hW40.1.mono hbZ.size))⟩
              | true =>
                exact absurd h23 (by rw [hbad]; decide)
          | true =>
            have h5 : wy = 4 := of_decide_eq_true hd5
            clear hd5
            refine wp_cond_true rfl ?_
            refine wp_region_L (W0 := WB) [(g1, .cells (shC (.slice (some ⟨g6, 0, none⟩) cs.length cap6) (.slice poS osS.length coS) tl0).toArray 32 (0, 0)), (g6, .cells cur6 53 (0, 0))] (hW13) ?_
            refine lm (v := .pointer (some ⟨g6, 0 + k * 12, none⟩)) rfl rfl ?_
            refine lm (v := .int .i64 (min v (-1))) rfl rfl ?_
            refine lm (v := .pointer (some ⟨g6, 0 + k * 12, none⟩)) rfl rfl ?_
            refine lm (v := .pointer (some ⟨g6, 0 + k * 12 + 5, none⟩)) rfl rfl ?_
            have hr88 : RowR colC (cur6.setIfInBounds (0 + k * 12 + 5) (.int .i64 (min v (-1)))) (cs.set k { ck with k20 := (min v (-1)) }) := RowR.set hr6 colC_len hck (by decide) rfl
            refine wpL_s [(g1, .cells (shC (.slice (some ⟨g6, 0, none⟩) cs.length cap6) (.slice poS osS.length coS) tl0).toArray 32 (0, 0)), (g6, .cells (cur6.setIfInBounds (0 + k * 12 + 5) (.int .i64 (min v (-1)))) 53 (0, 0))] rfl rfl (st_at (off := 0 + k * 12 + 5) (v := .int .i64 (min v (-1))) rfl (by kernel_rfl) (by kernel_rfl) (.tail _ (.head _)) hBg6 (by kernel_rfl) rfl rfl (by rw [hsz6]; omega) (.inr rfl) (List.forall_mem_cons.2 ⟨.inr ⟨(.head _), (by first | assumption | exact Ne.symm (by assumption))⟩, (List.forall_mem_cons.2 ⟨.inl rfl, (List.forall_mem_nil _)⟩)⟩)) ?_
            refine wpL_done (fun W41 hW41 => ?_)
            refine (show Code.wp _ _ _ _ _ from ?_)
            refine wp_seq ?_
            have hbZ := hWB.1.trans (hW41.1.mono hWB.1.size)
            have HCZ := Lib.hid (show SLV W41 (some ⟨g6, 0, none⟩) ((cs.set k { ck with k20 := (min v (-1)) }).flatMap colC) from (rowr_slv hW41 (.tail _ (.head _)) hr88))
            have HOZ := Lib.hid (show SLV W41 poS (osS.flatMap covC) from ((RL.base HOS.out) _ (hW41.sub (fun _ h => by cases h))))
            have HRZ := Lib.hid (show RwR W41 osS from (HRS.out.keep hW41.1))
            have HPZ := Lib.hid (show PlR W41 (cs.set k { ck with k20 := (min v (-1)) }) from (pl_set (c' := { ck with k20 := (min v (-1)) }) (HPS.out.keep hW41.1) ((HPS.out.keep hW41.1) ck (List.mem_of_getElem? hck))))
            have hlp : ∀ c ∈ (cs.set k { ck with k20 := (min v (-1)) }), c.plugs.length ≤ 4000000000 := (pll_set (c' := { ck with k20 := (min v (-1)) }) lpS (lpS ck (List.mem_of_getElem? hck)))
            have hlr : ∀ o ∈ osS, o.rows.length ≤ 4000000000 := lrS
            have hbad : rightX (cs.set k { ck with k20 := (min v (-1)) }) osS = false := set_bad hck (col_rg (c := { ck with k20 := (min v (-1)) }) (r := ((min v (-1)), 0, 500000000)) (.tail _ (.tail _ (.tail _ (.tail _ (.head _))))) (by show (min v (-1)) < 0 ∨ 500000000 < (min v (-1)); omega))
            have HGZ := Lib.hid (CapR.of (cs := (shC (.slice (some ⟨g6, 0, none⟩) cs.length cap6) (.slice poS osS.length coS) tl0)) hW41 (.head _))
            refine wp_region_V (W0 := W41) [] (by kernel_rfl) ((KS.start W41)) ?_
            refine vb (i := 0) (v := .agg (shC (.slice (some ⟨g6, 0, none⟩) cs.length cap6) (.slice poS osS.length coS) tl0).toArray) rfl rfl rfl (yb_rs (off := 0) (cs := _) rfl (by kernel_rfl) (fun W hW => ((HGZ.out).keep hW.1).2) Try.underlying32 rfl (by kernel_rfl)) ?_
            refine vv (i := 1) (v := .bool (rightX (cs.set k { ck with k20 := (min v (-1)) }) osS)) rfl rfl rfl (yb_call (f := 14) (args := #[.agg (shC (.slice (some ⟨g6, 0, none⟩) cs.length cap6) (.slice poS osS.length coS) tl0).toArray]) (fun _ => by kernel_rfl) fun W hW => (by have h9 := Right_any (cs.set k { ck with k20 := (min v (-1)) }) (some ⟨g6, 0, none⟩) cap6 (by rw [List.length_set]; omega) osS poS coS (by have h9 := loS; omega) tl0 W ((RL.base HCZ.out) _ (hW.sub (fun _ h => by cases h))) ((RL.base HOZ.out) _ (hW.sub (fun _ h => by cases h))) (HRZ.out.keep hW.1) hlr (HPZ.out.keep hW.1) hlp; rw [List.length_set] at h9; exact h9)) ?_
            refine vp (i := 2) (v := .bool (!(rightX (cs.set k { ck with k20 := (min v (-1)) }) osS))) rfl rfl rfl (run_un rfl (by kernel_rfl) fun w => un_not w) ?_
            refine vm (i := 3) (v := .bool (!(rightX (cs.set k { ck with k20 := (min v (-1)) }) osS))) rfl rfl rfl ?_
            cases h24 : (rightX (cs.set k { ck with k20 := (min v (-1)) }) osS) with
            | false =>
              refine vb (i := 4) (v := .agg (shC (.slice (some ⟨g6, 0, none⟩) cs.length cap6) (.slice poS osS.length coS) tl0).toArray) rfl rfl rfl (yb_rs (off := 0) (cs := _) rfl (by kernel_rfl) (fun W hW => ((HGZ.out).keep hW.1).2) Try.underlying32 rfl (by kernel_rfl)) ?_
              refine vm (i := 5) (v := .int .i64 (min v (-1))) rfl rfl rfl ?_
              refine vv (i := 6) (v := .int .i64 (fiN (covOf (cs.set k { ck with k20 := (min v (-1)) }) osS (min v (-1))))) rfl rfl rfl (yb_call (f := 16) (args := #[.agg (shC (.slice (some ⟨g6, 0, none⟩) cs.length cap6) (.slice poS osS.length coS) tl0).toArray, .int .i64 (min v (-1))]) (fun _ => by kernel_rfl) fun W hW => (by have h9 := CoverOf_any (cs.set k { ck with k20 := (min v (-1)) }) (some ⟨g6, 0, none⟩) cap6 (by rw [List.length_set]; omega) osS poS coS (by have h9 := loS; omega) tl0 (min v (-1)) W ((RL.base HCZ.out) _ (hW.sub (fun _ h => by cases h))) ((RL.base HOZ.out) _ (hW.sub (fun _ h => by cases h))) (HRZ.out.keep hW.1) hlr; rw [List.length_set] at h9; exact h9)) ?_
              refine vp (i := 7) (v := .bool true) rfl rfl rfl (run_bin rfl (vx := (.int .i64 (fiN (covOf (cs.set k { ck with k20 := (min v (-1)) }) osS (min v (-1)))))) (vy := (.int .i64 (-1))) (by kernel_rfl) (by kernel_rfl) fun w => bi_eql (decide_eq_true (cov_low hlo)) w) ?_
              refine vm (i := 8) (v := .bool true) rfl rfl rfl ?_
              refine vm (i := 9) (v := .bool true) rfl rfl rfl ?_
              refine vb (i := 10) (v := .agg (shC (.slice (some ⟨g6, 0, none⟩) cs.length cap6) (.slice poS osS.length coS) tl0).toArray) rfl rfl rfl (yb_rs (off := 0) (cs := _) rfl (by kernel_rfl) (fun W hW => ((HGZ.out).keep hW.1).2) Try.underlying32 rfl (by kernel_rfl)) ?_
              refine vm (i := 11) (v := .int .i64 (min v (-1))) rfl rfl rfl ?_
              refine vb (i := 14) (v := .agg (shC (.slice (some ⟨g6, 0, none⟩) cs.length cap6) (.slice poS osS.length coS) tl0).toArray) rfl rfl rfl (yb_rs (off := 0) (cs := _) rfl (by kernel_rfl) (fun W hW => ((HGZ.out).keep hW.1).2) Try.underlying32 rfl (by kernel_rfl)) ?_
              refine vm (i := 15) (v := .int .i64 (max v 0)) rfl rfl rfl ?_
              refine vp (i := 16) (v := .int .i64 (max (max v 0) 100)) rfl rfl rfl (run_max2 (x := (max v 0)) (y := 100) (z := (max (max v 0) 100)) rfl (by kernel_rfl) (by kernel_rfl) rfl) ?_
              refine vb (i := 20) (v := .agg (shC (.slice (some ⟨g6, 0, none⟩) cs.length cap6) (.slice poS osS.length coS) tl0).toArray) rfl rfl rfl (yb_rs (off := 0) (cs := _) rfl (by kernel_rfl) (fun W hW => ((HGZ.out).keep hW.1).2) Try.underlying32 rfl (by kernel_rfl)) ?_
              refine vm (i := 21) (v := .int .i64 (min v (-1))) rfl rfl rfl ?_
              refine wpV_c (i := 12) (OutRL inC W41 [] (alongX (cs.set k { ck with k20 := (min v (-1)) }) osS (min v (-1)) false)) rfl rfl (by kernel_rfl) (by kernel_rfl) (fun _ => (by kernel_rfl)) (fun W hW => calls_r hW ((by have h9 := Under_any (cs.set k { ck with k20 := (min v (-1)) }) (some ⟨g6, 0, none⟩) cap6 (by rw [List.length_set]; omega) osS poS coS (by have h9 := loS; omega) tl0 (min v (-1)) W ((RL.base HCZ.out) _ (hW.sub (fun _ h => by cases h))) ((RL.base HOZ.out) _ (hW.sub (fun _ h => by cases h))) (HRZ.out.keep hW.1) hlr; rw [List.length_set] at h9; exact h9))) (fun v K9 hG => hG.sub) (fun _ => by simp only [List.setIfInBounds_toArray, List.set_cons_succ, List.set_cons_zero] <;> rfl) ?_
              rintro _ Kl89 ⟨p89, c89, _, rfl, n89, R89, N89, rfl⟩
              have hl89 : (alongX (cs.set k { ck with k20 := (min v (-1)) }) osS (min v (-1)) false).length = 0 := by rw [al_low hlo]; rfl
              refine vp (i := 13) (v := .int .i64 ((((alongX (cs.set k { ck with k20 := (min v (-1)) }) osS (min v (-1)) false).length) : Nat) : Int)) rfl rfl rfl (run_lenL (p := p89) (cap := c89) (n := (alongX (cs.set k { ck with k20 := (min v (-1)) }) osS (min v (-1)) false).length) rfl Try.underlying39 (by kernel_rfl)) ?_
              refine wpV_c (i := 17) (OutRL inC W41 Kl89 (alongX (cs.set k { ck with k20 := (min v (-1)) }) osS (max (max v 0) 100) true)) rfl rfl (by kernel_rfl) (by kernel_rfl) (fun _ => (by kernel_rfl)) (fun W hW => calls_r hW ((by have h9 := Upon_any (cs.set k { ck with k20 := (min v (-1)) }) (some ⟨g6, 0, none⟩) cap6 (by rw [List.length_set]; omega) osS poS coS (by have h9 := loS; omega) tl0 (max (max v 0) 100) W ((RL.base HCZ.out) _ (hW.sub (fun _ h => by cases h))) ((RL.base HOZ.out) _ (hW.sub (fun _ h => by cases h))) (HRZ.out.keep hW.1) hlr; rw [List.length_set] at h9; exact h9))) (fun v K9 hG => hG.sub) (fun _ => by simp only [List.setIfInBounds_toArray, List.set_cons_succ, List.set_cons_zero] <;> rfl) ?_
              rintro _ _ ⟨p90, c90, Kl90, rfl, n90, R90, N90, rfl⟩
              obtain dj91_0 : Dj Kl89 Kl90 := by simpa only [dj_app_l, dj_app_r, dj_cons_l, dj_cons_r, dj_nil_l, dj_nil_r, dk_app, dk_cons, dk_nil, and_true, true_and, and_assoc] using (show Dj Kl89 Kl90 from N90)
              have hl90 : (alongX (cs.set k { ck with k20 := (min v (-1)) }) osS (max (max v 0) 100) true).length = 0 := by rw [al_high (by omega) (by have h9 := loS; omega)]; rfl
              refine vp (i := 18) (v := .int .i64 ((((alongX (cs.set k { ck with k20 := (min v (-1)) }) osS (max (max v 0) 100) true).length) : Nat) : Int)) rfl rfl rfl (run_lenL (p := p90) (cap := c90) (n := (alongX (cs.set k { ck with k20 := (min v (-1)) }) osS (max (max v 0) 100) true).length) rfl Try.underlying39 (by kernel_rfl)) ?_
              refine vp (i := 19) (v := .int .i64 (((((alongX (cs.set k { ck with k20 := (min v (-1)) }) osS (min v (-1)) false).length) + ((alongX (cs.set k { ck with k20 := (min v (-1)) }) osS (max (max v 0) 100) true).length)) : Nat) : Int)) rfl rfl rfl (run_bin rfl (vx := (.int .i64 ((((alongX (cs.set k { ck with k20 := (min v (-1)) }) osS (min v (-1)) false).length) : Nat) : Int))) (vy := (.int .i64 ((((alongX (cs.set k { ck with k20 := (min v (-1)) }) osS (max (max v 0) 100) true).length) : Nat) : Int))) (by kernel_rfl) (by kernel_rfl) fun w => bn_add (z := (((alongX (cs.set k { ck with k20 := (min v (-1)) }) osS (min v (-1)) false).length) + ((alongX (cs.set k { ck with k20 := (min v (-1)) }) osS (max (max v 0) 100) true).length))) rfl (wr_i64 (by omega)) w) ?_
              refine wpV_c (i := 22) (OutRL inC W41 (Kl89 ++ Kl90) (besideX (cs.set k { ck with k20 := (min v (-1)) }) (min v (-1)))) rfl rfl (by kernel_rfl) (by kernel_rfl) (fun _ => (by kernel_rfl)) (fun W hW => calls_r hW ((by have h9 := Beside_any (cs.set k { ck with k20 := (min v (-1)) }) (some ⟨g6, 0, none⟩) cap6 (by rw [List.length_set]; omega) osS poS coS (by have h9 := loS; omega) tl0 (min v (-1)) W ((RL.base HCZ.out) _ (hW.sub (fun _ h => by cases h))) ((RL.base HOZ.out) _ (hW.sub (fun _ h => by cases h))); rw [List.length_set] at h9; exact h9))) (fun v K9 hG => hG.sub) (fun _ => by simp only [List.setIfInBounds_toArray, List.set_cons_succ, List.set_cons_zero] <;> rfl) ?_
              rintro _ _ ⟨p92, c92, Kl92, rfl, n92, R92, N92, rfl⟩
              obtain ⟨dj93_0, dj93_1⟩ : Dj Kl89 Kl92 ∧ Dj Kl90 Kl92 := by simpa only [dj_app_l, dj_app_r, dj_cons_l, dj_cons_r, dj_nil_l, dj_nil_r, dk_app, dk_cons, dk_nil, and_true, true_and, and_assoc] using (show Dj (Kl89 ++ Kl90) Kl92 from N92)
              have hl92 : (besideX (cs.set k { ck with k20 := (min v (-1)) }) (min v (-1))).length = 0 := by rw [bes_low hlo]; rfl
              refine vp (i := 23) (v := .int .i64 ((((besideX (cs.set k { ck with k20 := (min v (-1)) }) (min v (-1))).length) : Nat) : Int)) rfl rfl rfl (run_lenL (p := p92) (cap := c92) (n := (besideX (cs.set k { ck with k20 := (min v (-1)) }) (min v (-1))).length) rfl Try.underlying39 (by kernel_rfl)) ?_
              refine vp (i := 24) (v := .int .i64 ((((((alongX (cs.set k { ck with k20 := (min v (-1)) }) osS (min v (-1)) false).length) + ((alongX (cs.set k { ck with k20 := (min v (-1)) }) osS (max (max v 0) 100) true).length)) + ((besideX (cs.set k { ck with k20 := (min v (-1)) }) (min v (-1))).length)) : Nat) : Int)) rfl rfl rfl (run_bin rfl (vx := (.int .i64 (((((alongX (cs.set k { ck with k20 := (min v (-1)) }) osS (min v (-1)) false).length) + ((alongX (cs.set k { ck with k20 := (min v (-1)) }) osS (max (max v 0) 100) true).length)) : Nat) : Int))) (vy := (.int .i64 ((((besideX (cs.set k { ck with k20 := (min v (-1)) }) (min v (-1))).length) : Nat) : Int))) (by kernel_rfl) (by kernel_rfl) fun w => bn_add (z := ((((alongX (cs.set k { ck with k20 := (min v (-1)) }) osS (min v (-1)) false).length) + ((alongX (cs.set k { ck with k20 := (min v (-1)) }) osS (max (max v 0) 100) true).length)) + ((besideX (cs.set k { ck with k20 := (min v (-1)) }) (min v (-1))).length))) rfl (wr_i64 (by omega)) w) ?_
              refine vp (i := 25) (v := .bool true) rfl rfl rfl (run_bin rfl (vx := (.int .i64 ((((((alongX (cs.set k { ck with k20 := (min v (-1)) }) osS (min v (-1)) false).length) + ((alongX (cs.set k { ck with k20 := (min v (-1)) }) osS (max (max v 0) 100) true).length)) + ((besideX (cs.set k { ck with k20 := (min v (-1)) }) (min v (-1))).length)) : Nat) : Int))) (vy := (.int .i64 ((0 : Nat) : Int))) (by kernel_rfl) (by kernel_rfl) fun w => bn_eql (decide_eq_true (by omega)) w) ?_
              refine vm (i := 26) (v := .bool true) rfl rfl rfl ?_
              refine vm (i := 27) (v := .bool true) rfl rfl rfl ?_
              refine vv (i := 28) (v := .bool true) rfl rfl rfl (yb_call (f := 20) (args := #[.slice none 0 0, .slice none 0 0]) (fun _ => by kernel_rfl) fun W hW => SameInts_any [] [] none none 0 0 (Nat.zero_le _) W (.inl rfl) (.inl rfl)) ?_
              refine vm (i := 29) (v := .bool true) rfl rfl rfl ?_
              refine vm (i := 30) (v := .bool true) rfl rfl rfl ?_
              refine vv (i := 31) (v := .bool true) rfl rfl rfl (yb_call (f := 10) (args := #[]) (fun _ => by kernel_rfl) fun W hW => awake_any W) ?_
              refine vm (i := 32) (v := .bool true) rfl rfl rfl ?_
              refine vm (i := 33) (v := .bool true) rfl rfl rfl ?_
              refine wpV_done (by kernel_rfl) (fun W42 hW42 => ?_) _
              refine (show Code.wp _ _ _ _ _ from ?_)
              refine wp_ret ?_
              try simp only [inBlock_ret, then_ret]
              refine bodyPost_ret (v := .bool true) ?_ rfl ?_
              · kernel_rfl
              · exact ⟨rfl, (hbZ.trans (hW42.1.mono hbZ.size))⟩
            | true =>
              exact absurd h24 (by rw [hbad]; decide)
        | true =>
          have h4 : wy = 3 := of_decide_eq_true hd4
          clear hd4
          refine wp_cond_true rfl ?_
          refine wp_region_L (W0 := WB) [(g1, .cells (shC (.slice (some ⟨g6, 0, none⟩) cs.length cap6) (.slice poS osS.length coS) tl0).toArray 32 (0, 0)), (g6, .cells cur6 53 (0, 0))] (hW12) ?_
          refine lm (v := .pointer (some ⟨g6, 0 + k * 12, none⟩)) rfl rfl ?_
          refine lm (v := .int .i64 (max v 0)) rfl rfl ?_
          refine lp (v := .int .i64 (max (max v 0) 40001)) rfl rfl (run_max2 (x := (max v 0)) (y := 40001) (z := (max (max v 0) 40001)) rfl (by kernel_rfl) (by kernel_rfl) rfl) ?_
          refine lm (v := .pointer (some ⟨g6, 0 + k * 12, none⟩)) rfl rfl ?_
          refine lm (v := .pointer (some ⟨g6, 0 + k * 12 + 4, none⟩)) rfl rfl ?_
          have hr94 : RowR colC (cur6.setIfInBounds (0 + k * 12 + 4) (.int .i64 (max (max v 0) 40001))) (cs.set k { ck with height := (max (max v 0) 40001) }) := RowR.set hr6 colC_len hck (by decide) rfl
          refine wpL_s [(g1, .cells (shC (.slice (some ⟨g6, 0, none⟩) cs.length cap6) (.slice poS osS.length coS) tl0).toArray 32 (0, 0)), (g6, .cells (cur6.setIfInBounds (0 + k * 12 + 4) (.int .i64 (max (max v 0) 40001))) 53 (0, 0))] rfl rfl (st_at (off := 0 + k * 12 + 4) (v := .int .i64 (max (max v 0) 40001)) rfl (by kernel_rfl) (by kernel_rfl) (.tail _ (.head _)) hBg6 (by kernel_rfl) rfl rfl (by rw [hsz6]; omega) (.inr rfl) (List.forall_mem_cons.2 ⟨.inr ⟨(.head _), (by first | assumption | exact Ne.symm (by assumption))⟩, (List.forall_mem_cons.2 ⟨.inl rfl, (List.forall_mem_nil _)⟩)⟩)) ?_
          refine wpL_done (fun W43 hW43 => ?_)
          refine (show Code.wp _ _ _ _ _ from ?_)
          refine wp_seq ?_
          have hbZ := hWB.1.trans (hW43.1.mono hWB.1.size)
          have HCZ := Lib.hid (show SLV W43 (some ⟨g6, 0, none⟩) ((cs.set k { ck with height := (max (max v 0) 40001) }).flatMap colC) from (rowr_slv hW43 (.tail _ (.head _)) hr94))
          have HOZ := Lib.hid (show SLV W43 poS (osS.flatMap covC) from ((RL.base HOS.out) _ (hW43.sub (fun _ h => by cases h))))
          have HRZ := Lib.hid (show RwR W43 osS from (HRS.out.keep hW43.1))
          have HPZ := Lib.hid (show PlR W43 (cs.set k { ck with height := (max (max v 0) 40001) }) from (pl_set (c' := { ck with height := (max (max v 0) 40001) }) (HPS.out.keep hW43.1) ((HPS.out.keep hW43.1) ck (List.mem_of_getElem? hck))))
          have hlp : ∀ c ∈ (cs.set k { ck with height := (max (max v 0) 40001) }), c.plugs.length ≤ 4000000000 := (pll_set (c' := { ck with height := (max (max v 0) 40001) }) lpS (lpS ck (List.mem_of_getElem? hck)))
          have hlr : ∀ o ∈ osS, o.rows.length ≤ 4000000000 := lrS
          have hbad : rightX (cs.set k { ck with height := (max (max v 0) 40001) }) osS = false := set_bad hck (col_rg (c := { ck with height := (max (max v 0) 40001) }) (r := ((max (max v 0) 40001), 0, 40000)) (.tail _ (.tail _ (.tail _ (.head _)))) (by show (max (max v 0) 40001) < 0 ∨ 40000 < (max (max v 0) 40001); omega))
          have HGZ := Lib.hid (CapR.of (cs := (shC (.slice (some ⟨g6, 0, none⟩) cs.length cap6) (.slice poS osS.length coS) tl0)) hW43 (.head _))
          refine wp_region_V (W0 := W43) [] (by kernel_rfl) ((KS.start W43)) ?_
          refine vb (i := 0) (v := .agg (shC (.slice (some ⟨g6, 0, none⟩) cs.length cap6) (.slice poS osS.length coS) tl0).toArray) rfl rfl rfl (yb_rs (off := 0) (cs := _) rfl (by kernel_rfl) (fun W hW => ((HGZ.out).keep hW.1).2) Try.underlying32 rfl (by kernel_rfl)) ?_
          refine vv (i := 1) (v := .bool (rightX (cs.set k { ck with height := (max (max v 0) 40001) }) osS)) rfl rfl rfl (yb_call (f := 14) (args := #[.agg (shC (.slice (some ⟨g6, 0, none⟩) cs.length cap6) (.slice poS osS.length coS) tl0).toArray]) (fun _ => by kernel_rfl) fun W hW => (by have h9 := Right_any (cs.set k { ck with height := (max (max v 0) 40001) }) (some ⟨g6, 0, none⟩) cap6 (by rw [List.length_set]; omega) osS poS coS (by have h9 := loS; omega) tl0 W ((RL.base HCZ.out) _ (hW.sub (fun _ h => by cases h))) ((RL.base HOZ.out) _ (hW.sub (fun _ h => by cases h))) (HRZ.out.keep hW.1) hlr (HPZ.out.keep hW.1) hlp; rw [List.length_set] at h9; exact h9)) ?_
          refine vp (i := 2) (v := .bool (!(rightX (cs.set k { ck with height := (max (max v 0) 40001) }) osS))) rfl rfl rfl (run_un rfl (by kernel_rfl) fun w => un_not w) ?_
          refine vm (i := 3) (v := .bool (!(rightX (cs.set k { ck with height := (max (max v 0) 40001) }) osS))) rfl rfl rfl ?_
          cases h25 : (rightX (cs.set k { ck with height := (max (max v 0) 40001) }) osS) with
          | false =>
            refine vb (i := 4) (v := .agg (shC (.slice (some ⟨g6, 0, none⟩) cs.length cap6) (.slice poS osS.length coS) tl0).toArray) rfl rfl rfl (yb_rs (off := 0) (cs := _) rfl (by kernel_rfl) (fun W hW => ((HGZ.out).keep hW.1).2) Try.underlying32 rfl (by kernel_rfl)) ?_
            refine vm (i := 5) (v := .int .i64 (min v (-1))) rfl rfl rfl ?_
            refine vv (i := 6) (v := .int .i64 (fiN (covOf (cs.set k { ck with height := (max (max v 0) 40001) }) osS (min v (-1))))) rfl rfl rfl (yb_call (f := 16) (args := #[.agg (shC (.slice (some ⟨g6, 0, none⟩) cs.length cap6) (.slice poS osS.length coS) tl0).toArray, .int .i64 (min v (-1))]) (fun _ => by kernel_rfl) fun W hW => (by have h9 := CoverOf_any (cs.set k { ck with height := (max (max v 0) 40001) }) (some ⟨g6, 0, none⟩) cap6 (by rw [List.length_set]; omega) osS poS coS (by have h9 := loS; omega) tl0 (min v (-1)) W ((RL.base HCZ.out) _ (hW.sub (fun _ h => by cases h))) ((RL.base HOZ.out) _ (hW.sub (fun _ h => by cases h))) (HRZ.out.keep hW.1) hlr; rw [List.length_set] at h9; exact h9)) ?_
            refine vp (i := 7) (v := .bool true) rfl rfl rfl (run_bin rfl (vx := (.int .i64 (fiN (covOf (cs.set k { ck with height := (max (max v 0) 40001) }) osS (min v (-1)))))) (vy := (.int .i64 (-1))) (by kernel_rfl) (by kernel_rfl) fun w => bi_eql (decide_eq_true (cov_low hlo)) w) ?_
            refine vm (i := 8) (v := .bool true) rfl rfl rfl ?_
            refine vm (i := 9) (v := .bool true) rfl rfl rfl ?_
            refine vb (i := 10) (v := .agg (shC (.slice (some ⟨g6, 0, none⟩) cs.length cap6) (.slice poS osS.length coS) tl0).toArray) rfl rfl rfl (yb_rs (off := 0) (cs := _) rfl (by kernel_rfl) (fun W hW => ((HGZ.out).keep hW.1).2) Try.underlying32 rfl (by kernel_rfl)) ?_
            refine vm (i := 11) (v := .int .i64 (min v (-1))) rfl rfl rfl ?_
            refine vb (i := 14) (v := .agg (shC (.slice (some ⟨g6, 0, none⟩) cs.length cap6) (.slice poS osS.length coS) tl0).toArray) rfl rfl rfl (yb_rs (off := 0) (cs := _) rfl (by kernel_rfl) (fun W hW => ((HGZ.out).keep hW.1).2) Try.underlying32 rfl (by kernel_rfl)) ?_
            refine vm (i := 15) (v := .int .i64 (max v 0)) rfl rfl rfl ?_
            refine vp (i := 16) (v := .int .i64 (max (max v 0) 100)) rfl rfl rfl (run_max2 (x := (max v 0)) (y := 100) (z := (max (max v 0) 100)) rfl (by kernel_rfl) (by kernel_rfl) rfl) ?_
            refine vb (i := 20) (v := .agg (shC (.slice (some ⟨g6, 0, none⟩) cs.length cap6) (.slice poS osS.length coS) tl0).toArray) rfl rfl rfl (yb_rs (off := 0) (cs := _) rfl (by kernel_rfl) (fun W hW => ((HGZ.out).keep hW.1).2) Try.underlying32 rfl (by kernel_rfl)) ?_
            refine vm (i := 21) (v := .int .i64 (min v (-1))) rfl rfl rfl ?_
            refine wpV_c (i := 12) (OutRL inC W43 [] (alongX (cs.set k { ck with height := (max (max v 0) 40001) }) osS (min v (-1)) false)) rfl rfl (by kernel_rfl) (by kernel_rfl) (fun _ => (by kernel_rfl)) (fun W hW => calls_r hW ((by have h9 := Under_any (cs.set k { ck with height := (max (max v 0) 40001) }) (some ⟨g6, 0, none⟩) cap6 (by rw [List.length_set]; omega) osS poS coS (by have h9 := loS; omega) tl0 (min v (-1)) W ((RL.base HCZ.out) _ (hW.sub (fun _ h => by cases h))) ((RL.base HOZ.out) _ (hW.sub (fun _ h => by cases h))) (HRZ.out.keep hW.1) hlr; rw [List.length_set] at h9; exact h9))) (fun v K9 hG => hG.sub) (fun _ => by simp only [List.setIfInBounds_toArray, List.set_cons_succ, List.set_cons_zero] <;> rfl) ?_
            rintro _ Kl95 ⟨p95, c95, _, rfl, n95, R95, N95, rfl⟩
            have hl95 : (alongX (cs.set k { ck with height := (max (max v 0) 40001) }) osS (min v (-1)) false).length = 0 := by rw [al_low hlo]; rfl
            refine vp (i := 13) (v := .int .i64 ((((alongX (cs.set k { ck with height := (max (max v 0) 40001) }) osS (min v (-1)) false).length) : Nat) : Int)) rfl rfl rfl (run_lenL (p := p95) (cap := c95) (n := (alongX (cs.set k { ck with height := (max (max v 0) 40001) }) osS (min v (-1)) false).length) rfl Try.underlying39 (by kernel_rfl)) ?_
            refine wpV_c (i := 17) (OutRL inC W43 Kl95 (alongX (cs.set k { ck with height := (max (max v 0) 40001) }) osS (max (max v 0) 100) true)) rfl rfl (by kernel_rfl) (by kernel_rfl) (fun _ => (by kernel_rfl)) (fun W hW => calls_r hW ((by have h9 := Upon_any (cs.set k { ck with height := (max (max v 0) 40001) }) (some ⟨g6, 0, none⟩) cap6 (by rw [List.length_set]; omega) osS poS coS (by have h9 := loS; omega) tl0 (max (max v 0) 100) W ((RL.base HCZ.out) _ (hW.sub (fun _ h => by cases h))) ((RL.base HOZ.out) _ (hW.sub (fun _ h => by cases h))) (HRZ.out.keep hW.1) hlr; rw [List.length_set] at h9; exact h9))) (fun v K9 hG => hG.sub) (fun _ => by simp only [List.setIfInBounds_toArray, List.set_cons_succ, List.set_cons_zero] <;> rfl) ?_
            rintro _ _ ⟨p96, c96, Kl96, rfl, n96, R96, N96, rfl⟩
            obtain dj97_0 : Dj Kl95 Kl96 := by simpa only [dj_app_l, dj_app_r, dj_cons_l, dj_cons_r, dj_nil_l, dj_nil_r, dk_app, dk_cons, dk_nil, and_true, true_and, and_assoc] using (show Dj Kl95 Kl96 from N96)
            have hl96 : (alongX (cs.set k { ck with height := (max (max v 0) 40001) }) osS (max (max v 0) 100) true).length = 0 := by rw [al_high (by omega) (by have h9 := loS; omega)]; rfl
            refine vp (i := 18) (v := .int .i64 ((((alongX (cs.set k { ck with height := (max (max v 0) 40001) }) osS (max (max v 0) 100) true).length) : Nat) : Int)) rfl rfl rfl (run_lenL (p := p96) (cap := c96) (n := (alongX (cs.set k { ck with height := (max (max v 0) 40001) }) osS (max (max v 0) 100) true).length) rfl Try.underlying39 (by kernel_rfl)) ?_
            refine vp (i := 19) (v := .int .i64 (((((alongX (cs.set k { ck with height := (max (max v 0) 40001) }) osS (min v (-1)) false).length) + ((alongX (cs.set k { ck with height := (max (max v 0) 40001) }) osS (max (max v 0) 100) true).length)) : Nat) : Int)) rfl rfl rfl (run_bin rfl (vx := (.int .i64 ((((alongX (cs.set k { ck with height := (max (max v 0) 40001) }) osS (min v (-1)) false).length) : Nat) : Int))) (vy := (.int .i64 ((((alongX (cs.set k { ck with height := (max (max v 0) 40001) }) osS (max (max v 0) 100) true).length) : Nat) : Int))) (by kernel_rfl) (by kernel_rfl) fun w => bn_add (z := (((alongX (cs.set k { ck with height := (max (max v 0) 40001) }) osS (min v (-1)) false).length) + ((alongX (cs.set k { ck with height := (max (max v 0) 40001) }) osS (max (max v 0) 100) true).length))) rfl (wr_i64 (by omega)) w) ?_
            refine wpV_c (i := 22) (OutRL inC W43 (Kl95 ++ Kl96) (besideX (cs.set k { ck with height := (max (max v 0) 40001) }) (min v (-1)))) rfl rfl (by kernel_rfl) (by kernel_rfl) (fun _ => (by kernel_rfl)) (fun W hW => calls_r hW ((by have h9 := Beside_any (cs.set k { ck with height := (max (max v 0) 40001) }) (some ⟨g6, 0, none⟩) cap6 (by rw [List.length_set]; omega) osS poS coS (by have h9 := loS; omega) tl0 (min v (-1)) W ((RL.base HCZ.out) _ (hW.sub (fun _ h => by cases h))) ((RL.base HOZ.out) _ (hW.sub (fun _ h => by cases h))); rw [List.length_set] at h9; exact h9))) (fun v K9 hG => hG.sub) (fun _ => by simp only [List.setIfInBounds_toArray, List.set_cons_succ, List.set_cons_zero] <;> rfl) ?_
            rintro _ _ ⟨p98, c98, Kl98, rfl, n98, R98, N98, rfl⟩
            obtain ⟨dj99_0, dj99_1⟩ : Dj Kl95 Kl98 ∧ Dj Kl96 Kl98 := by simpa only [dj_app_l, dj_app_r, dj_cons_l, dj_cons_r, dj_nil_l, dj_nil_r, dk_app, dk_cons, dk_nil, and_true, true_and, and_assoc] using (show Dj (Kl95 ++ Kl96) Kl98 from N98)
            have hl98 : (besideX (cs.set k { ck with height := (max (max v 0) 40001) }) (min v (-1))).length = 0 := by rw [bes_low hlo]; rfl
            refine vp (i := 23) (v := .int .i64 ((((besideX (cs.set k { ck with height := (max (max v 0) 40001) }) (min v (-1))).length) : Nat) : Int)) rfl rfl rfl (run_lenL (p := p98) (cap := c98) (n := (besideX (cs.set k { ck with height := (max (max v 0) 40001) }) (min v (-1))).length) rfl Try.underlying39 (by kernel_rfl)) ?_
            refine vp (i := 24) (v := .int .i64 ((((((alongX (cs.set k { ck with height := (max (max v 0) 40001) }) osS (min v (-1)) false).length) + ((alongX (cs.set k { ck with height := (max (max v 0) 40001) }) osS (max (max v 0) 100) true).length)) + ((besideX (cs.set k { ck with height := (max (max v 0) 40001) }) (min v (-1))).length)) : Nat) : Int)) rfl rfl rfl (run_bin rfl (vx := (.int .i64 (((((alongX (cs.set k { ck with height := (max (max v 0) 40001) }) osS (min v (-1)) false).length) + ((alongX (cs.set k { ck with height := (max (max v 0) 40001) }) osS (max (max v 0) 100) true).length)) : Nat) : Int))) (vy := (.int .i64 ((((besideX (cs.set k { ck with height := (max (max v 0) 40001) }) (min v (-1))).length) : Nat) : Int))) (by kernel_rfl) (by kernel_rfl) fun w => bn_add (z := ((((alongX (cs.set k { ck with height := (max (max v 0) 40001) }) osS (min v (-1)) false).length) + ((alongX (cs.set k { ck with height := (max (max v 0) 40001) }) osS (max (max v 0) 100) true).length)) + ((besideX (cs.set k { ck with height := (max (max v 0) 40001) }) (min v (-1))).length))) rfl (wr_i64 (by omega)) w) ?_
            refine vp (i := 25) (v := .bool true) rfl rfl rfl (run_bin rfl (vx := (.int .i64 ((((((alongX (cs.set k { ck with height := (max (max v 0) 40001) }) osS (min v (-1)) false).length) + ((alongX (cs.set k { ck with height := (max (max v 0) 40001) }) osS (max (max v 0) 100) true).length)) + ((besideX (cs.set k { ck with height := (max (max v 0) 40001) }) (min v (-1))).length)) : Nat) : Int))) (vy := (.int .i64 ((0 : Nat) : Int))) (by kernel_rfl) (by kernel_rfl) fun w => bn_eql (decide_eq_true (by omega)) w) ?_
            refine vm (i := 26) (v := .bool true) rfl rfl rfl ?_
            refine vm (i := 27) (v := .bool true) rfl rfl rfl ?_
            refine vv (i := 28) (v := .bool true) rfl rfl rfl (yb_call (f := 20) (args := #[.slice none 0 0, .slice none 0 0]) (fun _ => by kernel_rfl) fun W hW => SameInts_any [] [] none none 0 0 (Nat.zero_le _) W (.inl rfl) (.inl rfl)) ?_
            refine vm (i := 29) (v := .bool true) rfl rfl rfl ?_
            refine vm (i := 30) (v := .bool true) rfl rfl rfl ?_
            refine vv (i := 31) (v := .bool true) rfl rfl rfl (yb_call (f := 10) (args := #[]) (fun _ => by kernel_rfl) fun W hW => awake_any W) ?_
            refine vm (i := 32) (v := .bool true) rfl rfl rfl ?_
            refine vm (i := 33) (v := .bool true) rfl rfl rfl ?_
            refine wpV_done (by kernel_rfl) (fun W44 hW44 => ?_) _
            refine (show Code.wp _ _ _ _ _ from ?_)
            refine wp_ret ?_
            try simp only [inBlock_ret, then_ret]
            refine bodyPost_ret (v := .bool true) ?_ rfl ?_
            · kernel_rfl
            · exact ⟨rfl, (hbZ.trans (hW44.1.mono hbZ.size))⟩
          | true =>
            exact absurd h25 (by rw [hbad]; decide)
      | true =>
        have h3 : wy = 2 := of_decide_eq_true hd3
        clear hd3
        refine wp_cond_true rfl ?_
        refine wp_region_L (W0 := WB) [(g1, .cells (shC (.slice (some ⟨g6, 0, none⟩) cs.length cap6) (.slice poS osS.length coS) tl0).toArray 32 (0, 0)), (g6, .cells cur6 53 (0, 0))] (hW11) ?_
        refine lm (v := .pointer (some ⟨g6, 0 + k * 12, none⟩)) rfl rfl ?_
        refine lm (v := .int .i64 (max v 0)) rfl rfl ?_
        refine lp (v := .int .i64 (max (max v 0) 11)) rfl rfl (run_max2 (x := (max v 0)) (y := 11) (z := (max (max v 0) 11)) rfl (by kernel_rfl) (by kernel_rfl) rfl) ?_
        refine lm (v := .pointer (some ⟨g6, 0 + k * 12, none⟩)) rfl rfl ?_
        refine lm (v := .pointer (some ⟨g6, 0 + k * 12 + 3, none⟩)) rfl rfl ?_
        have hr100 : RowR colC (cur6.setIfInBounds (0 + k * 12 + 3) (.int .i64 (max (max v 0) 11))) (cs.set k { ck with tiers := (max (max v 0) 11) }) := RowR.set hr6 colC_len hck (by decide) rfl
        refine wpL_s [(g1, .cells (shC (.slice (some ⟨g6, 0, none⟩) cs.length cap6) (.slice poS osS.length coS) tl0).toArray 32 (0, 0)), (g6, .cells (cur6.setIfInBounds (0 + k * 12 + 3) (.int .i64 (max (max v 0) 11))) 53 (0, 0))] rfl rfl (st_at (off := 0 + k * 12 + 3) (v := .int .i64 (max (max v 0) 11)) rfl (by kernel_rfl) (by kernel_rfl) (.tail _ (.head _)) hBg6 (by kernel_rfl) rfl rfl (by rw [hsz6]; omega) (.inr rfl) (List.forall_mem_cons.2 ⟨.inr ⟨(.head _), (by first | assumption | exact Ne.symm (by assumption))⟩, (List.forall_mem_cons.2 ⟨.inl rfl, (List.forall_mem_nil _)⟩)⟩)) ?_
        refine wpL_done (fun W45 hW45 => ?_)
        refine (show Code.wp _ _ _ _ _ from ?_)
        refine wp_seq ?_
        have hbZ := hWB.1.trans (hW45.1.mono hWB.1.size)
        have HCZ := Lib.hid (show SLV W45 (some ⟨g6, 0, none⟩) ((cs.set k { ck with tiers := (max (max v 0) 11) }).flatMap colC) from (rowr_slv hW45 (.tail _ (.head _)) hr100))
        have HOZ := Lib.hid (show SLV W45 poS (osS.flatMap covC) from ((RL.base HOS.out) _ (hW45.sub (fun _ h => by cases h))))
        have HRZ := Lib.hid (show RwR W45 osS from (HRS.out.keep hW45.1))
        have HPZ := Lib.hid (show PlR W45 (cs.set k { ck with tiers := (max (max v 0) 11) }) from (pl_set (c' := { ck with tiers := (max (max v 0) 11) }) (HPS.out.keep hW45.1) ((HPS.out.keep hW45.1) ck (List.mem_of_getElem? hck))))
        have hlp : ∀ c ∈ (cs.set k { ck with tiers := (max (max v 0) 11) }), c.plugs.length ≤ 4000000000 := (pll_set (c' := { ck with tiers := (max (max v 0) 11) }) lpS (lpS ck (List.mem_of_getElem? hck)))
        have hlr : ∀ o ∈ osS, o.rows.length ≤ 4000000000 := lrS
        have hbad : rightX (cs.set k { ck with tiers := (max (max v 0) 11) }) osS = false := set_bad hck (col_rg (c := { ck with tiers := (max (max v 0) 11) }) (r := ((max (max v 0) 11), 1, 10)) (.tail _ (.tail _ (.head _))) (by show (max (max v 0) 11) < 1 ∨ 10 < (max (max v 0) 11); omega))
        have HGZ := Lib.hid (CapR.of (cs := (shC (.slice (some ⟨g6, 0, none⟩) cs.length cap6) (.slice poS osS.length coS) tl0)) hW45 (.head _))
        refine wp_region_V (W0 := W45) [] (by kernel_rfl) ((KS.start W45)) ?_
        refine vb (i := 0) (v := .agg (shC (.slice (some ⟨g6, 0, none⟩) cs.length cap6) (.slice poS osS.length coS) tl0).toArray) rfl rfl rfl (yb_rs (off := 0) (cs := _) rfl (by kernel_rfl) (fun W hW => ((HGZ.out).keep hW.1).2) Try.underlying32 rfl (by kernel_rfl)) ?_
        refine vv (i := 1) (v := .bool (rightX (cs.set k { ck with tiers := (max (max v 0) 11) }) osS)) rfl rfl rfl (yb_call (f := 14) (args := #[.agg (shC (.slice (some ⟨g6, 0, none⟩) cs.length cap6) (.slice poS osS.length coS) tl0).toArray]) (fun _ => by kernel_rfl) fun W hW => (by have h9 := Right_any (cs.set k { ck with tiers := (max (max v 0) 11) }) (some ⟨g6, 0, none⟩) cap6 (by rw [List.length_set]; omega) osS poS coS (by have h9 := loS; omega) tl0 W ((RL.base HCZ.out) _ (hW.sub (fun _ h => by cases h))) ((RL.base HOZ.out) _ (hW.sub (fun _ h => by cases h))) (HRZ.out.keep hW.1) hlr (HPZ.out.keep hW.1) hlp; rw [List.length_set] at h9; exact h9)) ?_
        refine vp (i := 2) (v := .bool (!(rightX (cs.set k { ck with tiers := (max (max v 0) 11) }) osS))) rfl rfl rfl (run_un rfl (by kernel_rfl) fun w => un_not w) ?_
        refine vm (i := 3) (v := .bool (!(rightX (cs.set k { ck with tiers := (max (max v 0) 11) }) osS))) rfl rfl rfl ?_
        cases h26 : (rightX (cs.set k { ck with tiers := (max (max v 0) 11) }) osS) with
        | false =>
          refine vb (i := 4) (v := .agg (shC (.slice (some ⟨g6, 0, none⟩) cs.length cap6) (.slice poS osS.length coS) tl0).toArray) rfl rfl rfl (yb_rs (off := 0) (cs := _) rfl (by kernel_rfl) (fun W hW => ((HGZ.out).keep hW.1).2) Try.underlying32 rfl (by kernel_rfl)) ?_
          refine vm (i := 5) (v := .int .i64 (min v (-1))) rfl rfl rfl ?_
          refine vv (i := 6) (v := .int .i64 (fiN (covOf (cs.set k { ck with tiers := (max (max v 0) 11) }) osS (min v (-1))))) rfl rfl rfl (yb_call (f := 16) (args := #[.agg (shC (.slice (some ⟨g6, 0, none⟩) cs.length cap6) (.slice poS osS.length coS) tl0).toArray, .int .i64 (min v (-1))]) (fun _ => by kernel_rfl) fun W hW => (by have h9 := CoverOf_any (cs.set k { ck with tiers := (max (max v 0) 11) }) (some ⟨g6, 0, none⟩) cap6 (by rw [List.length_set]; omega) osS poS coS (by have h9 := loS; omega) tl0 (min v (-1)) W ((RL.base HCZ.out) _ (hW.sub (fun _ h => by cases h))) ((RL.base HOZ.out) _ (hW.sub (fun _ h => by cases h))) (HRZ.out.keep hW.1) hlr; rw [List.length_set] at h9; exact h9)) ?_
          refine vp (i := 7) (v := .bool true) rfl rfl rfl (run_bin rfl (vx := (.int .i64 (fiN (covOf (cs.set k { ck with tiers := (max (max v 0) 11) }) osS (min v (-1)))))) (vy := (.int .i64 (-1))) (by kernel_rfl) (by kernel_rfl) fun w => bi_eql (decide_eq_true (cov_low hlo)) w) ?_
          refine vm (i := 8) (v := .bool true) rfl rfl rfl ?_
          refine vm (i := 9) (v := .bool true) rfl rfl rfl ?_
          refine vb (i := 10) (v := .agg (shC (.slice (some ⟨g6, 0, none⟩) cs.length cap6) (.slice poS osS.length coS) tl0).toArray) rfl rfl rfl (yb_rs (off := 0) (cs := _) rfl (by kernel_rfl) (fun W hW => ((HGZ.out).keep hW.1).2) Try.underlying32 rfl (by kernel_rfl)) ?_
          refine vm (i := 11) (v := .int .i64 (min v (-1))) rfl rfl rfl ?_
          refine vb (i := 14) (v := .agg (shC (.slice (some ⟨g6, 0, none⟩) cs.length cap6) (.slice poS osS.length coS) tl0).toArray) rfl rfl rfl (yb_rs (off := 0) (cs := _) rfl (by kernel_rfl) (fun W hW => ((HGZ.out).keep hW.1).2) Try.underlying32 rfl (by kernel_rfl)) ?_
          refine vm (i := 15) (v := .int .i64 (max v 0)) rfl rfl rfl ?_
          refine vp (i := 16) (v := .int .i64 (max (max v 0) 100)) rfl rfl rfl (run_max2 (x := (max v 0)) (y := 100) (z := (max (max v 0) 100)) rfl (by kernel_rfl) (by kernel_rfl) rfl) ?_
          refine vb (i := 20) (v := .agg (shC (.slice (some ⟨g6, 0, none⟩) cs.length cap6) (.slice poS osS.length coS) tl0).toArray) rfl rfl rfl (yb_rs (off := 0) (cs := _) rfl (by kernel_rfl) (fun W hW => ((HGZ.out).keep hW.1).2) Try.underlying32 rfl (by kernel_rfl)) ?_
          refine vm (i := 21) (v := .int .i64 (min v (-1))) rfl rfl rfl ?_
          refine wpV_c (i := 12) (OutRL inC W45 [] (alongX (cs.set k { ck with tiers := (max (max v 0) 11) }) osS (min v (-1)) false)) rfl rfl (by kernel_rfl) (by kernel_rfl) (fun _ => (by kernel_rfl)) (fun W hW => calls_r hW ((by have h9 := Under_any (cs.set k { ck with tiers := (max (max v 0) 11) }) (some ⟨g6, 0, none⟩) cap6 (by rw [List.length_set]; omega) osS poS coS (by have h9 := loS; omega) tl0 (min v (-1)) W ((RL.base HCZ.out) _ (hW.sub (fun _ h => by cases h))) ((RL.base HOZ.out) _ (hW.sub (fun _ h => by cases h))) (HRZ.out.keep hW.1) hlr; rw [List.length_set] at h9; exact h9))) (fun v K9 hG => hG.sub) (fun _ => by simp only [List.setIfInBounds_toArray, List.set_cons_succ, List.set_cons_zero] <;> rfl) ?_
          rintro _ Kl101 ⟨p101, c101, _, rfl, n101, R101, N101, rfl⟩
          have hl101 : (alongX (cs.set k { ck with tiers := (max (max v 0) 11) }) osS (min v (-1)) false).length = 0 := by rw [al_low hlo]; rfl
          refine vp (i := 13) (v := .int .i64 ((((alongX (cs.set k { ck with tiers := (max (max v 0) 11) }) osS (min v (-1)) false).length) : Nat) : Int)) rfl rfl rfl (run_lenL (p := p101) (cap := c101) (n := (alongX (cs.set k { ck with tiers := (max (max v 0) 11) }) osS (min v (-1)) false).length) rfl Try.underlying39 (by kernel_rfl)) ?_
          refine wpV_c (i := 17) (OutRL inC W45 Kl101 (alongX (cs.set k { ck with tiers := (max (max v 0) 11) }) osS (max (max v 0) 100) true)) rfl rfl (by kernel_rfl) (by kernel_rfl) (fun _ => (by kernel_rfl)) (fun W hW => calls_r hW ((by have h9 := Upon_any (cs.set k { ck with tiers := (max (max v 0) 11) }) (some ⟨g6, 0, none⟩) cap6 (by rw [List.length_set]; omega) osS poS coS (by have h9 := loS; omega) tl0 (max (max v 0) 100) W ((RL.base HCZ.out) _ (hW.sub (fun _ h => by cases h))) ((RL.base HOZ.out) _ (hW.sub (fun _ h => by cases h))) (HRZ.out.keep hW.1) hlr; rw [List.length_set] at h9; exact h9))) (fun v K9 hG => hG.sub) (fun _ => by simp only [List.setIfInBounds_toArray, List.set_cons_succ, List.set_cons_zero] <;> rfl) ?_
          rintro _ _ ⟨p102, c102, Kl102, rfl, n102, R102, N102, rfl⟩
          obtain dj103_0 : Dj Kl101 Kl102 := by simpa only [dj_app_l, dj_app_r, dj_cons_l, dj_cons_r, dj_nil_l, dj_nil_r, dk_app, dk_cons, dk_nil, and_true, true_and, and_assoc] using (show Dj Kl101 Kl102 from N102)
          have hl102 : (alongX (cs.set k { ck with tiers := (max (max v 0) 11) }) osS (max (max v 0) 100) true).length = 0 := by rw [al_high (by omega) (by have h9 := loS; omega)]; rfl
          refine vp (i := 18) (v := .int .i64 ((((alongX (cs.set k { ck with tiers := (max (max v 0) 11) }) osS (max (max v 0) 100) true).length) : Nat) : Int)) rfl rfl rfl (run_lenL (p := p102) (cap := c102) (n := (alongX (cs.set k { ck with tiers := (max (max v 0) 11) }) osS (max (max v 0) 100) true).length) rfl Try.underlying39 (by kernel_rfl)) ?_
          refine vp (i := 19) (v := .int .i64 (((((alongX (cs.set k { ck with tiers := (max (max v 0) 11) }) osS (min v (-1)) false).length) + ((alongX (cs.set k { ck with tiers := (max (max v 0) 11) }) osS (max (max v 0) 100) true).length)) : Nat) : Int)) rfl rfl rfl (run_bin rfl (vx := (.int .i64 ((((alongX (cs.set k { ck with tiers := (max (max v 0) 11) }) osS (min v (-1)) false).length) : Nat) : Int))) (vy := (.int .i64 ((((alongX (cs.set k { ck with tiers := (max (max v 0) 11) }) osS (max (max v 0) 100) true).length) : Nat) : Int))) (by kernel_rfl) (by kernel_rfl) fun w => bn_add (z := (((alongX (cs.set k { ck with tiers := (max (max v 0) 11) }) osS (min v (-1)) false).length) + ((alongX (cs.set k { ck with tiers := (max (max v 0) 11) }) osS (max (max v 0) 100) true).length))) rfl (wr_i64 (by omega)) w) ?_
          refine wpV_c (i := 22) (OutRL inC W45 (Kl101 ++ Kl102) (besideX (cs.set k { ck with tiers := (max (max v 0) 11) }) (min v (-1)))) rfl rfl (by kernel_rfl) (by kernel_rfl) (fun _ => (by kernel_rfl)) (fun W hW => calls_r hW ((by have h9 := Beside_any (cs.set k { ck with tiers := (max (max v 0) 11) }) (some ⟨g6, 0, none⟩) cap6 (by rw [List.length_set]; omega) osS poS coS (by have h9 := loS; omega) tl0 (min v (-1)) W ((RL.base HCZ.out) _ (hW.sub (fun _ h => by cases h))) ((RL.base HOZ.out) _ (hW.sub (fun _ h => by cases h))); rw [List.length_set] at h9; exact h9))) (fun v K9 hG => hG.sub) (fun _ => by simp only [List.setIfInBounds_toArray, List.set_cons_succ, List.set_cons_zero] <;> rfl) ?_
          rintro _ _ ⟨p104, c104, Kl104, rfl, n104, R104, N104, rfl⟩
          obtain ⟨dj105_0, dj105_1⟩ : Dj Kl101 Kl104 ∧ Dj Kl102 Kl104 := by simpa only [dj_app_l, dj_app_r, dj_cons_l, dj_cons_r, dj_nil_l, dj_nil_r, dk_app, dk_cons, dk_nil, and_true, true_and, and_assoc] using (show Dj (Kl101 ++ Kl102) Kl104 from N104)
          have hl104 : (besideX (cs.set k { ck with tiers := (max (max v 0) 11) }) (min v (-1))).length = 0 := by rw [bes_low hlo]; rfl
          refine vp (i := 23) (v := .int .i64 ((((besideX (cs.set k { ck with tiers := (max (max v 0) 11) }) (min v (-1))).length) : Nat) : Int)) rfl rfl rfl (run_lenL (p := p104) (cap := c104) (n := (besideX (cs.set k { ck with tiers := (max (max v 0) 11) }) (min v (-1))).length) rfl Try.underlying39 (by kernel_rfl)) ?_
          refine vp (i := 24) (v := .int .i64 ((((((alongX (cs.set k { ck with tiers := (max (max v 0) 11) }) osS (min v (-1)) false).length) + ((alongX (cs.set k { ck with tiers := (max (max v 0) 11) }) osS (max (max v 0) 100) true).length)) + ((besideX (cs.set k { ck with tiers := (max (max v 0) 11) }) (min v (-1))).length)) : Nat) : Int)) rfl rfl rfl (run_bin rfl (vx := (.int .i64 (((((alongX (cs.set k { ck with tiers := (max (max v 0) 11) }) osS (min v (-1)) false).length) + ((alongX (cs.set k { ck with tiers := (max (max v 0) 11) }) osS (max (max v 0) 100) true).length)) : Nat) : Int))) (vy := (.int .i64 ((((besideX (cs.set k { ck with tiers := (max (max v 0) 11) }) (min v (-1))).length) : Nat) : Int))) (by kernel_rfl) (by kernel_rfl) fun w => bn_add (z := ((((alongX (cs.set k { ck with tiers := (max (max v 0) 11) }) osS (min v (-1)) false).length) + ((alongX (cs.set k { ck with tiers := (max (max v 0) 11) }) osS (max (max v 0) 100) true).length)) + ((besideX (cs.set k { ck with tiers := (max (max v 0) 11) }) (min v (-1))).length))) rfl (wr_i64 (by omega)) w) ?_
          refine vp (i := 25) (v := .bool true) rfl rfl rfl (run_bin rfl (vx := (.int .i64 ((((((alongX (cs.set k { ck with tiers := (max (max v 0) 11) }) osS (min v (-1)) false).length) + ((alongX (cs.set k { ck with tiers := (max (max v 0) 11) }) osS (max (max v 0) 100) true).length)) + ((besideX (cs.set k { ck with tiers := (max (max v 0) 11) }) (min v (-1))).length)) : Nat) : Int))) (vy := (.int .i64 ((0 : Nat) : Int))) (by kernel_rfl) (by kernel_rfl) fun w => bn_eql (decide_eq_true (by omega)) w) ?_
          refine vm (i := 26) (v := .bool true) rfl rfl rfl ?_
          refine vm (i := 27) (v := .bool true) rfl rfl rfl ?_
          refine vv (i := 28) (v := .bool true) rfl rfl rfl (yb_call (f := 20) (args := #[.slice none 0 0, .slice none 0 0]) (fun _ => by kernel_rfl) fun W hW => SameInts_any [] [] none none 0 0 (Nat.zero_le _) W (.inl rfl) (.inl rfl)) ?_
          refine vm (i := 29) (v := .bool true) rfl rfl rfl ?_
          refine vm (i := 30) (v := .bool true) rfl rfl rfl ?_
          refine vv (i := 31) (v := .bool true) rfl rfl rfl (yb_call (f := 10) (args := #[]) (fun _ => by kernel_rfl) fun W hW => awake_any W) ?_
          refine vm (i := 32) (v := .bool true) rfl rfl rfl ?_
          refine vm (i := 33) (v := .bool true) rfl rfl rfl ?_
          refine wpV_done (by kernel_rfl) (fun W46 hW46 => ?_) _
          refine (show Code.wp _ _ _ _ _ from ?_)
          refine wp_ret ?_
          try simp only [inBlock_ret, then_ret]
          refine bodyPost_ret (v := .bool true) ?_ rfl ?_
          · kernel_rfl
          · exact ⟨rfl, (hbZ.trans (hW46.1.mono hbZ.size))⟩
        | true =>
          exact absurd h26 (by rw [hbad]; decide)
    | true =>
      have h2 : wy = 1 := of_decide_eq_true hd2
      clear hd2
      refine wp_cond_true rfl ?_
      refine wp_region_L (W0 := WB) [(g1, .cells (shC (.slice (some ⟨g6, 0, none⟩) cs.length cap6) (.slice poS osS.length coS) tl0).toArray 32 (0, 0)), (g6, .cells cur6 53 (0, 0))] (hW10) ?_
      refine lm (v := .pointer (some ⟨g6, 0 + k * 12, none⟩)) rfl rfl ?_
      refine lm (v := .int .i64 (min v (-1))) rfl rfl ?_
      refine lm (v := .pointer (some ⟨g6, 0 + k * 12, none⟩)) rfl rfl ?_
      refine lm (v := .pointer (some ⟨g6, 0 + k * 12 + 1, none⟩)) rfl rfl ?_
      have hr106 : RowR colC (cur6.setIfInBounds (0 + k * 12 + 1) (.int .i64 (min v (-1)))) (cs.set k { ck with row := (min v (-1)) }) := RowR.set hr6 colC_len hck (by decide) rfl
      refine wpL_s [(g1, .cells (shC (.slice (some ⟨g6, 0, none⟩) cs.length cap6) (.slice poS osS.length coS) tl0).toArray 32 (0, 0)), (g6, .cells (cur6.setIfInBounds (0 + k * 12 + 1) (.int .i64 (min v (-1)))) 53 (0, 0))] rfl rfl (st_at (off := 0 + k * 12 + 1) (v := .int .i64 (min v (-1))) rfl (by kernel_rfl) (by kernel_rfl) (.tail _ (.head _)) hBg6 (by kernel_rfl) rfl rfl (by rw [hsz6]; omega) (.inr rfl) (List.forall_mem_cons.2 ⟨.inr ⟨(.head _), (by first | assumption | exact Ne.symm (by assumption))⟩, (List.forall_mem_cons.2 ⟨.inl rfl, (List.forall_mem_nil _)⟩)⟩)) ?_
      refine wpL_done (fun W47 hW47 => ?_)
      refine (show Code.wp _ _ _ _ _ from ?_)
      refine wp_seq ?_
      have hbZ := hWB.1.trans (hW47.1.mono hWB.1.size)
      have HCZ := Lib.hid (show SLV W47 (some ⟨g6, 0, none⟩) ((cs.set k { ck with row := (min v (-1)) }).flatMap colC) from (rowr_slv hW47 (.tail _ (.head _)) hr106))
      have HOZ := Lib.hid (show SLV W47 poS (osS.flatMap covC) from ((RL.base HOS.out) _ (hW47.sub (fun _ h => by cases h))))
      have HRZ := Lib.hid (show RwR W47 osS from (HRS.out.keep hW47.1))
      have HPZ := Lib.hid (show PlR W47 (cs.set k { ck with row := (min v (-1)) }) from (pl_set (c' := { ck with row := (min v (-1)) }) (HPS.out.keep hW47.1) ((HPS.out.keep hW47.1) ck (List.mem_of_getElem? hck))))
      have hlp : ∀ c ∈ (cs.set k { ck with row := (min v (-1)) }), c.plugs.length ≤ 4000000000 := (pll_set (c' := { ck with row := (min v (-1)) }) lpS (lpS ck (List.mem_of_getElem? hck)))
      have hlr : ∀ o ∈ osS, o.rows.length ≤ 4000000000 := lrS
      have hbad : rightX (cs.set k { ck with row := (min v (-1)) }) osS = false := set_bad hck (col_rg (c := { ck with row := (min v (-1)) }) (r := ((min v (-1)), 0, 30)) (.tail _ (.head _)) (by show (min v (-1)) < 0 ∨ 30 < (min v (-1)); omega))
      have HGZ := Lib.hid (CapR.of (cs := (shC (.slice (some ⟨g6, 0, none⟩) cs.length cap6) (.slice poS osS.length coS) tl0)) hW47 (.head _))
      refine wp_region_V (W0 := W47) [] (by kernel_rfl) ((KS.start W47)) ?_
      refine vb (i := 0) (v := .agg (shC (.slice (some ⟨g6, 0, none⟩) cs.length cap6) (.slice poS osS.length coS) tl0).toArray) rfl rfl rfl (yb_rs (off := 0) (cs := _) rfl (by kernel_rfl) (fun W hW => ((HGZ.out).keep hW.1).2) Try.underlying32 rfl (by kernel_rfl)) ?_
      refine vv (i := 1) (v := .bool (rightX (cs.set k { ck with row := (min v (-1)) }) osS)) rfl rfl rfl (yb_call (f := 14) (args := #[.agg (shC (.slice (some ⟨g6, 0, none⟩) cs.length cap6) (.slice poS osS.length coS) tl0).toArray]) (fun _ => by kernel_rfl) fun W hW => (by have h9 := Right_any (cs.set k { ck with row := (min v (-1)) }) (some ⟨g6, 0, none⟩) cap6 (by rw [List.length_set]; omega) osS poS coS (by have h9 := loS; omega) tl0 W ((RL.base HCZ.out) _ (hW.sub (fun _ h => by cases h))) ((RL.base HOZ.out) _ (hW.sub (fun _ h => by cases h))) (HRZ.out.keep hW.1) hlr (HPZ.out.keep hW.1) hlp; rw [List.length_set] at h9; exact h9)) ?_
      refine vp (i := 2) (v := .bool (!(rightX (cs.set k { ck with row := (min v (-1)) }) osS))) rfl rfl rfl (run_un rfl (by kernel_rfl) fun w => un_not w) ?_
      refine vm (i := 3) (v := .bool (!(rightX (cs.set k { ck with row := (min v (-1)) }) osS))) rfl rfl rfl ?_
      cases h27 : (rightX (cs.set k { ck with row := (min v (-1)) }) osS) with
      | false =>
        refine vb (i := 4) (v := .agg (shC (.slice (some ⟨g6, 0, none⟩) cs.length cap6) (.slice poS osS.length coS) tl0).toArray) rfl rfl rfl (yb_rs (off := 0) (cs := _) rfl (by kernel_rfl) (fun W hW => ((HGZ.out).keep hW.1).2) Try.underlying32 rfl (by kernel_rfl)) ?_
        refine vm (i := 5) (v := .int .i64 (min v (-1))) rfl rfl rfl ?_
        refine vv (i := 6) (v := .int .i64 (fiN (covOf (cs.set k { ck with row := (min v (-1)) }) osS (min v (-1))))) rfl rfl rfl (yb_call (f := 16) (args := #[.agg (shC (.slice (some ⟨g6, 0, none⟩) cs.length cap6) (.slice poS osS.length coS) tl0).toArray, .int .i64 (min v (-1))]) (fun _ => by kernel_rfl) fun W hW => (by have h9 := CoverOf_any (cs.set k { ck with row := (min v (-1)) }) (some ⟨g6, 0, none⟩) cap6 (by rw [List.length_set]; omega) osS poS coS (by have h9 := loS; omega) tl0 (min v (-1)) W ((RL.base HCZ.out) _ (hW.sub (fun _ h => by cases h))) ((RL.base HOZ.out) _ (hW.sub (fun _ h => by cases h))) (HRZ.out.keep hW.1) hlr; rw [List.length_set] at h9; exact h9)) ?_
        refine vp (i := 7) (v := .bool true) rfl rfl rfl (run_bin rfl (vx := (.int .i64 (fiN (covOf (cs.set k { ck with row := (min v (-1)) }) osS (min v (-1)))))) (vy := (.int .i64 (-1))) (by kernel_rfl) (by kernel_rfl) fun w => bi_eql (decide_eq_true (cov_low hlo)) w) ?_
        refine vm (i := 8) (v := .bool true) rfl rfl rfl ?_
        refine vm (i := 9) (v := .bool true) rfl rfl rfl ?_
        refine vb (i := 10) (v := .agg (shC (.slice (some ⟨g6, 0, none⟩) cs.length cap6) (.slice poS osS.length coS) tl0).toArray) rfl rfl rfl (yb_rs (off := 0) (cs := _) rfl (by kernel_rfl) (fun W hW => ((HGZ.out).keep hW.1).2) Try.underlying32 rfl (by kernel_rfl)) ?_
        refine vm (i := 11) (v := .int .i64 (min v (-1))) rfl rfl rfl ?_
        refine vb (i := 14) (v := .agg (shC (.slice (some ⟨g6, 0, none⟩) cs.length cap6) (.slice poS osS.length coS) tl0).toArray) rfl rfl rfl (yb_rs (off := 0) (cs := _) rfl (by kernel_rfl) (fun W hW => ((HGZ.out).keep hW.1).2) Try.underlying32 rfl (by kernel_rfl)) ?_
        refine vm (i := 15) (v := .int .i64 (max v 0)) rfl rfl rfl ?_
        refine vp (i := 16) (v := .int .i64 (max (max v 0) 100)) rfl rfl rfl (run_max2 (x := (max v 0)) (y := 100) (z := (max (max v 0) 100)) rfl (by kernel_rfl) (by kernel_rfl) rfl) ?_
        refine vb (i := 20) (v := .agg (shC (.slice (some ⟨g6, 0, none⟩) cs.length cap6) (.slice poS osS.length coS) tl0).toArray) rfl rfl rfl (yb_rs (off := 0) (cs := _) rfl (by kernel_rfl) (fun W hW => ((HGZ.out).keep hW.1).2) Try.underlying32 rfl (by kernel_rfl)) ?_
        refine vm (i := 21) (v := .int .i64 (min v (-1))) rfl rfl rfl ?_
        refine wpV_c (i := 12) (OutRL inC W47 [] (alongX (cs.set k { ck with row := (min v (-1)) }) osS (min v (-1)) false)) rfl rfl (by kernel_rfl) (by kernel_rfl) (fun _ => (by kernel_rfl)) (fun W hW => calls_r hW ((by have h9 := Under_any (cs.set k { ck with row := (min v (-1)) }) (some ⟨g6, 0, none⟩) cap6 (by rw [List.length_set]; omega) osS poS coS (by have h9 := loS; omega) tl0 (min v (-1)) W ((RL.base HCZ.out) _ (hW.sub (fun _ h => by cases h))) ((RL.base HOZ.out) _ (hW.sub (fun _ h => by cases h))) (HRZ.out.keep hW.1) hlr; rw [List.length_set] at h9; exact h9))) (fun v K9 hG => hG.sub) (fun _ => by simp only [List.setIfInBounds_toArray, List.set_cons_succ, List.set_cons_zero] <;> rfl) ?_
        rintro _ Kl107 ⟨p107, c107, _, rfl, n107, R107, N107, rfl⟩
        have hl107 : (alongX (cs.set k { ck with row := (min v (-1)) }) osS (min v (-1)) false).length = 0 := by rw [al_low hlo]; rfl
        refine vp (i := 13) (v := .int .i64 ((((alongX (cs.set k { ck with row := (min v (-1)) }) osS (min v (-1)) false).length) : Nat) : Int)) rfl rfl rfl (run_lenL (p := p107) (cap := c107) (n := (alongX (cs.set k { ck with row := (min v (-1)) }) osS (min v (-1)) false).length) rfl Try.underlying39 (by kernel_rfl)) ?_
        refine wpV_c (i := 17) (OutRL inC W47 Kl107 (alongX (cs.set k { ck with row := (min v (-1)) }) osS (max (max v 0) 100) true)) rfl rfl (by kernel_rfl) (by kernel_rfl) (fun _ => (by kernel_rfl)) (fun W hW => calls_r hW ((by have h9 := Upon_any (cs.set k { ck with row := (min v (-1)) }) (some ⟨g6, 0, none⟩) cap6 (by rw [List.length_set]; omega) osS poS coS (by have h9 := loS; omega) tl0 (max (max v 0) 100) W ((RL.base HCZ.out) _ (hW.sub (fun _ h => by cases h))) ((RL.base HOZ.out) _ (hW.sub (fun _ h => by cases h))) (HRZ.out.keep hW.1) hlr; rw [List.length_set] at h9; exact h9))) (fun v K9 hG => hG.sub) (fun _ => by simp only [List.setIfInBounds_toArray, List.set_cons_succ, List.set_cons_zero] <;> rfl) ?_
        rintro _ _ ⟨p108, c108, Kl108, rfl, n108, R108, N108, rfl⟩
        obtain dj109_0 : Dj Kl107 Kl108 := by simpa only [dj_app_l, dj_app_r, dj_cons_l, dj_cons_r, dj_nil_l, dj_nil_r, dk_app, dk_cons, dk_nil, and_true, true_and, and_assoc] using (show Dj Kl107 Kl108 from N108)
        have hl108 : (alongX (cs.set k { ck with row := (min v (-1)) }) osS (max (max v 0) 100) true).length = 0 := by rw [al_high (by omega) (by have h9 := loS; omega)]; rfl
        refine vp (i := 18) (v := .int .i64 ((((alongX (cs.set k { ck with row := (min v (-1)) }) osS (max (max v 0) 100) true).length) : Nat) : Int)) rfl rfl rfl (run_lenL (p := p108) (cap := c108) (n := (alongX (cs.set k { ck with row := (min v (-1)) }) osS (max (max v 0) 100) true).length) rfl Try.underlying39 (by kernel_rfl)) ?_
        refine vp (i := 19) (v := .int .i64 (((((alongX (cs.set k { ck with row := (min v (-1)) }) osS (min v (-1)) false).length) + ((alongX (cs.set k { ck with row := (min v (-1)) }) osS (max (max v 0) 100) true).length)) : Nat) : Int)) rfl rfl rfl (run_bin rfl (vx := (.int .i64 ((((alongX (cs.set k { ck with row := (min v (-1)) }) osS (min v (-1)) false).length) : Nat) : Int))) (vy := (.int .i64 ((((alongX (cs.set k { ck with row := (min v (-1)) }) osS (max (max v 0) 100) true).length) : Nat) : Int))) (by kernel_rfl) (by kernel_rfl) fun w => bn_add (z := (((alongX (cs.set k { ck with row := (min v (-1)) }) osS (min v (-1)) false).length) + ((alongX (cs.set k { ck with row := (min v (-1)) }) osS (max (max v 0) 100) true).length))) rfl (wr_i64 (by omega)) w) ?_
        refine wpV_c (i := 22) (OutRL inC W47 (Kl107 ++ Kl108) (besideX (cs.set k { ck with row := (min v (-1)) }) (min v (-1)))) rfl rfl (by kernel_rfl) (by kernel_rfl) (fun _ => (by kernel_rfl)) (fun W hW => calls_r hW ((by have h9 := Beside_any (cs.set k { ck with row := (min v (-1)) }) (some ⟨g6, 0, none⟩) cap6 (by rw [List.length_set]; omega) osS poS coS (by have h9 := loS; omega) tl0 (min v (-1)) W ((RL.base HCZ.out) _ (hW.sub (fun _ h => by cases h))) ((RL.base HOZ.out) _ (hW.sub (fun _ h => by cases h))); rw [List.length_set] at h9; exact h9))) (fun v K9 hG => hG.sub) (fun _ => by simp only [List.setIfInBounds_toArray, List.set_cons_succ, List.set_cons_zero] <;> rfl) ?_
        rintro _ _ ⟨p110, c110, Kl110, rfl, n110, R110, N110, rfl⟩
        obtain ⟨dj111_0, dj111_1⟩ : Dj Kl107 Kl110 ∧ Dj Kl108 Kl110 := by simpa only [dj_app_l, dj_app_r, dj_cons_l, dj_cons_r, dj_nil_l, dj_nil_r, dk_app, dk_cons, dk_nil, and_true, true_and, and_assoc] using (show Dj (Kl107 ++ Kl108) Kl110 from N110)
        have hl110 : (besideX (cs.set k { ck with row := (min v (-1)) }) (min v (-1))).length = 0 := by rw [bes_low hlo]; rfl
        refine vp (i := 23) (v := .int .i64 ((((besideX (cs.set k { ck with row := (min v (-1)) }) (min v (-1))).length) : Nat) : Int)) rfl rfl rfl (run_lenL (p := p110) (cap := c110) (n := (besideX (cs.set k { ck with row := (min v (-1)) }) (min v (-1))).length) rfl Try.underlying39 (by kernel_rfl)) ?_
        refine vp (i := 24) (v := .int .i64 ((((((alongX (cs.set k { ck with row := (min v (-1)) }) osS (min v (-1)) false).length) + ((alongX (cs.set k { ck with row := (min v (-1)) }) osS (max (max v 0) 100) true).length)) + ((besideX (cs.set k { ck with row := (min v (-1)) }) (min v (-1))).length)) : Nat) : Int)) rfl rfl rfl (run_bin rfl (vx := (.int .i64 (((((alongX (cs.set k { ck with row := (min v (-1)) }) osS (min v (-1)) false).length) + ((alongX (cs.set k { ck with row := (min v (-1)) }) osS (max (max v 0) 100) true).length)) : Nat) : Int))) (vy := (.int .i64 ((((besideX (cs.set k { ck with row := (min v (-1)) }) (min v (-1))).length) : Nat) : Int))) (by kernel_rfl) (by kernel_rfl) fun w => bn_add (z := ((((alongX (cs.set k { ck with row := (min v (-1)) }) osS (min v (-1)) false).length) + ((alongX (cs.set k { ck with row := (min v (-1)) }) osS (max (max v 0) 100) true).length)) + ((besideX (cs.set k { ck with row := (min v (-1)) }) (min v (-1))).length))) rfl (wr_i64 (by omega)) w) ?_
        refine vp (i := 25) (v := .bool true) rfl rfl rfl (run_bin rfl (vx := (.int .i64 ((((((alongX (cs.set k { ck with row := (min v (-1)) }) osS (min v (-1)) false).length) + ((alongX (cs.set k { ck with row := (min v (-1)) }) osS (max (max v 0) 100) true).length)) + ((besideX (cs.set k { ck with row := (min v (-1)) }) (min v (-1))).length)) : Nat) : Int))) (vy := (.int .i64 ((0 : Nat) : Int))) (by kernel_rfl) (by kernel_rfl) fun w => bn_eql (decide_eq_true (by omega)) w) ?_
        refine vm (i := 26) (v := .bool true) rfl rfl rfl ?_
        refine vm (i := 27) (v := .bool true) rfl rfl rfl ?_
        refine vv (i := 28) (v := .bool true) rfl rfl rfl (yb_call (f := 20) (args := #[.slice none 0 0, .slice none 0 0]) (fun _ => by kernel_rfl) fun W hW => SameInts_any [] [] none none 0 0 (Nat.zero_le _) W (.inl rfl) (.inl rfl)) ?_
        refine vm (i := 29) (v := .bool true) rfl rfl rfl ?_
        refine vm (i := 30) (v := .bool true) rfl rfl rfl ?_
        refine vv (i := 31) (v := .bool true) rfl rfl rfl (yb_call (f := 10) (args := #[]) (fun _ => by kernel_rfl) fun W hW => awake_any W) ?_
        refine vm (i := 32) (v := .bool true) rfl rfl rfl ?_
        refine vm (i := 33) (v := .bool true) rfl rfl rfl ?_
        refine wpV_done (by kernel_rfl) (fun W48 hW48 => ?_) _
        refine (show Code.wp _ _ _ _ _ from ?_)
        refine wp_ret ?_
        try simp only [inBlock_ret, then_ret]
        refine bodyPost_ret (v := .bool true) ?_ rfl ?_
        · kernel_rfl
        · exact ⟨rfl, (hbZ.trans (hW48.1.mono hbZ.size))⟩
      | true =>
        exact absurd h27 (by rw [hbad]; decide)
  | true =>
    have h1 : wy = 0 := of_decide_eq_true hd1
    clear hd1
    refine wp_cond_true rfl ?_
    refine wp_region_L (W0 := WB) [(g1, .cells (shC (.slice (some ⟨g6, 0, none⟩) cs.length cap6) (.slice poS osS.length coS) tl0).toArray 32 (0, 0)), (g6, .cells cur6 53 (0, 0))] (hW9) ?_
    refine lm (v := .pointer (some ⟨g6, 0 + k * 12, none⟩)) rfl rfl ?_
    refine lm (v := .int .i64 (max v 0)) rfl rfl ?_
    refine lp (v := .int .i64 (max (max v 0) 40)) rfl rfl (run_max2 (x := (max v 0)) (y := 40) (z := (max (max v 0) 40)) rfl (by kernel_rfl) (by kernel_rfl) rfl) ?_
    refine lm (v := .pointer (some ⟨g6, 0 + k * 12, none⟩)) rfl rfl ?_
    refine lm (v := .pointer (some ⟨g6, 0 + k * 12, none⟩)) rfl rfl ?_
    have hr112 : RowR colC (cur6.setIfInBounds (0 + k * 12 + 0) (.int .i64 (max (max v 0) 40))) (cs.set k { ck with bay := (max (max v 0) 40) }) := RowR.set hr6 colC_len hck (by decide) rfl
    refine wpL_s [(g1, .cells (shC (.slice (some ⟨g6, 0, none⟩) cs.length cap6) (.slice poS osS.length coS) tl0).toArray 32 (0, 0)), (g6, .cells (cur6.setIfInBounds (0 + k * 12 + 0) (.int .i64 (max (max v 0) 40))) 53 (0, 0))] rfl rfl (st_at (off := 0 + k * 12 + 0) (v := .int .i64 (max (max v 0) 40)) rfl (by kernel_rfl) (by kernel_rfl) (.tail _ (.head _)) hBg6 (by kernel_rfl) rfl rfl (by rw [hsz6]; omega) (.inr rfl) (List.forall_mem_cons.2 ⟨.inr ⟨(.head _), (by first | assumption | exact Ne.symm (by assumption))⟩, (List.forall_mem_cons.2 ⟨.inl rfl, (List.forall_mem_nil _)⟩)⟩)) ?_
    refine wpL_done (fun W49 hW49 => ?_)
    refine (show Code.wp _ _ _ _ _ from ?_)
    refine wp_seq ?_
    have hbZ := hWB.1.trans (hW49.1.mono hWB.1.size)
    have HCZ := Lib.hid (show SLV W49 (some ⟨g6, 0, none⟩) ((cs.set k { ck with bay := (max (max v 0) 40) }).flatMap colC) from (rowr_slv hW49 (.tail _ (.head _)) hr112))
    have HOZ := Lib.hid (show SLV W49 poS (osS.flatMap covC) from ((RL.base HOS.out) _ (hW49.sub (fun _ h => by cases h))))
    have HRZ := Lib.hid (show RwR W49 osS from (HRS.out.keep hW49.1))
    have HPZ := Lib.hid (show PlR W49 (cs.set k { ck with bay := (max (max v 0) 40) }) from (pl_set (c' := { ck with bay := (max (max v 0) 40) }) (HPS.out.keep hW49.1) ((HPS.out.keep hW49.1) ck (List.mem_of_getElem? hck))))
    have hlp : ∀ c ∈ (cs.set k { ck with bay := (max (max v 0) 40) }), c.plugs.length ≤ 4000000000 := (pll_set (c' := { ck with bay := (max (max v 0) 40) }) lpS (lpS ck (List.mem_of_getElem? hck)))
    have hlr : ∀ o ∈ osS, o.rows.length ≤ 4000000000 := lrS
    have hbad : rightX (cs.set k { ck with bay := (max (max v 0) 40) }) osS = false := set_bad hck (col_rg (c := { ck with bay := (max (max v 0) 40) }) (r := ((max (max v 0) 40), 0, 39)) (.head _) (by show (max (max v 0) 40) < 0 ∨ 39 < (max (max v 0) 40); omega))
    have HGZ := Lib.hid (CapR.of (cs := (shC (.slice (some ⟨g6, 0, none⟩) cs.length cap6) (.slice poS osS.length coS) tl0)) hW49 (.head _))
    refine wp_region_V (W0 := W49) [] (by kernel_rfl) ((KS.start W49)) ?_
    refine vb (i := 0) (v := .agg (shC (.slice (some ⟨g6, 0, none⟩) cs.length cap6) (.slice poS osS.length coS) tl0).toArray) rfl rfl rfl (yb_rs (off := 0) (cs := _) rfl (by kernel_rfl) (fun W hW => ((HGZ.out).keep hW.1).2) Try.underlying32 rfl (by kernel_rfl)) ?_
    refine vv (i := 1) (v := .bool (rightX (cs.set k { ck with bay := (max (max v 0) 40) }) osS)) rfl rfl rfl (yb_call (f := 14) (args := #[.agg (shC (.slice (some ⟨g6, 0, none⟩) cs.length cap6) (.slice poS osS.length coS) tl0).toArray]) (fun _ => by kernel_rfl) fun W hW => (by have h9 := Right_any (cs.set k { ck with bay := (max (max v 0) 40) }) (some ⟨g6, 0, none⟩) cap6 (by rw [List.length_set]; omega) osS poS coS (by have h9 := loS; omega) tl0 W ((RL.base HCZ.out) _ (hW.sub (fun _ h => by cases h))) ((RL.base HOZ.out) _ (hW.sub (fun _ h => by cases h))) (HRZ.out.keep hW.1) hlr (HPZ.out.keep hW.1) hlp; rw [List.length_set] at h9; exact h9)) ?_
    refine vp (i := 2) (v := .bool (!(rightX (cs.set k { ck with bay := (max (max v 0) 40) }) osS))) rfl rfl rfl (run_un rfl (by kernel_rfl) fun w => un_not w) ?_
    refine vm (i := 3) (v := .bool (!(rightX (cs.set k { ck with bay := (max (max v 0) 40) }) osS))) rfl rfl rfl ?_
    cases h28 : (rightX (cs.set k { ck with bay := (max (max v 0) 40) }) osS) with
    | false =>
      refine vb (i := 4) (v := .agg (shC (.slice (some ⟨g6, 0, none⟩) cs.length cap6) (.slice poS osS.length coS) tl0).toArray) rfl rfl rfl (yb_rs (off := 0) (cs := _) rfl (by kernel_rfl) (fun W hW => ((HGZ.out).keep hW.1).2) Try.underlying32 rfl (by kernel_rfl)) ?_
      refine vm (i := 5) (v := .int .i64 (min v (-1))) rfl rfl rfl ?_
      refine vv (i := 6) (v := .int .i64 (fiN (covOf (cs.set k { ck with bay := (max (max v 0) 40) }) osS (min v (-1))))) rfl rfl rfl (yb_call (f := 16) (args := #[.agg (shC (.slice (some ⟨g6, 0, none⟩) cs.length cap6) (.slice poS osS.length coS) tl0).toArray, .int .i64 (min v (-1))]) (fun _ => by kernel_rfl) fun W hW => (by have h9 := CoverOf_any (cs.set k { ck with bay := (max (max v 0) 40) }) (some ⟨g6, 0, none⟩) cap6 (by rw [List.length_set]; omega) osS poS coS (by have h9 := loS; omega) tl0 (min v (-1)) W ((RL.base HCZ.out) _ (hW.sub (fun _ h => by cases h))) ((RL.base HOZ.out) _ (hW.sub (fun _ h => by cases h))) (HRZ.out.keep hW.1) hlr; rw [List.length_set] at h9; exact h9)) ?_
      refine vp (i := 7) (v := .bool true) rfl rfl rfl (run_bin rfl (vx := (.int .i64 (fiN (covOf (cs.set k { ck with bay := (max (max v 0) 40) }) osS (min v (-1)))))) (vy := (.int .i64 (-1))) (by kernel_rfl) (by kernel_rfl) fun w => bi_eql (decide_eq_true (cov_low hlo)) w) ?_
      refine vm (i := 8) (v := .bool true) rfl rfl rfl ?_
      refine vm (i := 9) (v := .bool true) rfl rfl rfl ?_
      refine vb (i := 10) (v := .agg (shC (.slice (some ⟨g6, 0, none⟩) cs.length cap6) (.slice poS osS.length coS) tl0).toArray) rfl rfl rfl (yb_rs (off := 0) (cs := _) rfl (by kernel_rfl) (fun W hW => ((HGZ.out).keep hW.1).2) Try.underlying32 rfl (by kernel_rfl)) ?_
      refine vm (i := 11) (v := .int .i64 (min v (-1))) rfl rfl rfl ?_
      refine vb (i := 14) (v := .agg (shC (.slice (some ⟨g6, 0, none⟩) cs.length cap6) (.slice poS osS.length coS) tl0).toArray) rfl rfl rfl (yb_rs (off := 0) (cs := _) rfl (by kernel_rfl) (fun W hW => ((HGZ.out).keep hW.1).2) Try.underlying32 rfl (by kernel_rfl)) ?_
      refine vm (i := 15) (v := .int .i64 (max v 0)) rfl rfl rfl ?_
      refine vp (i := 16) (v := .int .i64 (max (max v 0) 100)) rfl rfl rfl (run_max2 (x := (max v 0)) (y := 100) (z := (max (max v 0) 100)) rfl (by kernel_rfl) (by kernel_rfl) rfl) ?_
      refine vb (i := 20) (v := .agg (shC (.slice (some ⟨g6, 0, none⟩) cs.length cap6) (.slice poS osS.length coS) tl0).toArray) rfl rfl rfl (yb_rs (off := 0) (cs := _) rfl (by kernel_rfl) (fun W hW => ((HGZ.out).keep hW.1).2) Try.underlying32 rfl (by kernel_rfl)) ?_
      refine vm (i := 21) (v := .int .i64 (min v (-1))) rfl rfl rfl ?_
      refine wpV_c (i := 12) (OutRL inC W49 [] (alongX (cs.set k { ck with bay := (max (max v 0) 40) }) osS (min v (-1)) false)) rfl rfl (by kernel_rfl) (by kernel_rfl) (fun _ => (by kernel_rfl)) (fun W hW => calls_r hW ((by have h9 := Under_any (cs.set k { ck with bay := (max (max v 0) 40) }) (some ⟨g6, 0, none⟩) cap6 (by rw [List.length_set]; omega) osS poS coS (by have h9 := loS; omega) tl0 (min v (-1)) W ((RL.base HCZ.out) _ (hW.sub (fun _ h => by cases h))) ((RL.base HOZ.out) _ (hW.sub (fun _ h => by cases h))) (HRZ.out.keep hW.1) hlr; rw [List.length_set] at h9; exact h9))) (fun v K9 hG => hG.sub) (fun _ => by simp only [List.setIfInBounds_toArray, List.set_cons_succ, List.set_cons_zero] <;> rfl) ?_
      rintro _ Kl113 ⟨p113, c113, _, rfl, n113, R113, N113, rfl⟩
      have hl113 : (alongX (cs.set k { ck with bay := (max (max v 0) 40) }) osS (min v (-1)) false).length = 0 := by rw [al_low hlo]; rfl
      refine vp (i := 13) (v := .int .i64 ((((alongX (cs.set k { ck with bay := (max (max v 0) 40) }) osS (min v (-1)) false).length) : Nat) : Int)) rfl rfl rfl (run_lenL (p := p113) (cap := c113) (n := (alongX (cs.set k { ck with bay := (max (max v 0) 40) }) osS (min v (-1)) false).length) rfl Try.underlying39 (by kernel_rfl)) ?_
      refine wpV_c (i := 17) (OutRL inC W49 Kl113 (alongX (cs.set k { ck with bay := (max (max v 0) 40) }) osS (max (max v 0) 100) true)) rfl rfl (by kernel_rfl) (by kernel_rfl) (fun _ => (by kernel_rfl)) (fun W hW => calls_r hW ((by have h9 := Upon_any (cs.set k { ck with bay := (max (max v 0) 40) }) (some ⟨g6, 0, none⟩) cap6 (by rw [List.length_set]; omega) osS poS coS (by have h9 := loS; omega) tl0 (max (max v 0) 100) W ((RL.base HCZ.out) _ (hW.sub (fun _ h => by cases h))) ((RL.base HOZ.out) _ (hW.sub (fun _ h => by cases h))) (HRZ.out.keep hW.1) hlr; rw [List.length_set] at h9; exact h9))) (fun v K9 hG => hG.sub) (fun _ => by simp only [List.setIfInBounds_toArray, List.set_cons_succ, List.set_cons_zero] <;> rfl) ?_
      rintro _ _ ⟨p114, c114, Kl114, rfl, n114, R114, N114, rfl⟩
      obtain dj115_0 : Dj Kl113 Kl114 := by simpa only [dj_app_l, dj_app_r, dj_cons_l, dj_cons_r, dj_nil_l, dj_nil_r, dk_app, dk_cons, dk_nil, and_true, true_and, and_assoc] using (show Dj Kl113 Kl114 from N114)
      have hl114 : (alongX (cs.set k { ck with bay := (max (max v 0) 40) }) osS (max (max v 0) 100) true).length = 0 := by rw [al_high (by omega) (by have h9 := loS; omega)]; rfl
      refine vp (i := 18) (v := .int .i64 ((((alongX (cs.set k { ck with bay := (max (max v 0) 40) }) osS (max (max v 0) 100) true).length) : Nat) : Int)) rfl rfl rfl (run_lenL (p := p114) (cap := c114) (n := (alongX (cs.set k { ck with bay := (max (max v 0) 40) }) osS (max (max v 0) 100) true).length) rfl Try.underlying39 (by kernel_rfl)) ?_
      refine vp (i := 19) (v := .int .i64 (((((alongX (cs.set k { ck with bay := (max (max v 0) 40) }) osS (min v (-1)) false).length) + ((alongX (cs.set k { ck with bay := (max (max v 0) 40) }) osS (max (max v 0) 100) true).length)) : Nat) : Int)) rfl rfl rfl (run_bin rfl (vx := (.int .i64 ((((alongX (cs.set k { ck with bay := (max (max v 0) 40) }) osS (min v (-1)) false).length) : Nat) : Int))) (vy := (.int .i64 ((((alongX (cs.set k { ck with bay := (max (max v 0) 40) }) osS (max (max v 0) 100) true).length) : Nat) : Int))) (by kernel_rfl) (by kernel_rfl) fun w => bn_add (z := (((alongX (cs.set k { ck with bay := (max (max v 0) 40) }) osS (min v (-1)) false).length) + ((alongX (cs.set k { ck with bay := (max (max v 0) 40) }) osS (max (max v 0) 100) true).length))) rfl (wr_i64 (by omega)) w) ?_
      refine wpV_c (i := 22) (OutRL inC W49 (Kl113 ++ Kl114) (besideX (cs.set k { ck with bay := (max (max v 0) 40) }) (min v (-1)))) rfl rfl (by kernel_rfl) (by kernel_rfl) (fun _ => (by kernel_rfl)) (fun W hW => calls_r hW ((by have h9 := Beside_any (cs.set k { ck with bay := (max (max v 0) 40) }) (some ⟨g6, 0, none⟩) cap6 (by rw [List.length_set]; omega) osS poS coS (by have h9 := loS; omega) tl0 (min v (-1)) W ((RL.base HCZ.out) _ (hW.sub (fun _ h => by cases h))) ((RL.base HOZ.out) _ (hW.sub (fun _ h => by cases h))); rw [List.length_set] at h9; exact h9))) (fun v K9 hG => hG.sub) (fun _ => by simp only [List.setIfInBounds_toArray, List.set_cons_succ, List.set_cons_zero] <;> rfl) ?_
      rintro _ _ ⟨p116, c116, Kl116, rfl, n116, R116, N116, rfl⟩
      obtain ⟨dj117_0, dj117_1⟩ : Dj Kl113 Kl116 ∧ Dj Kl114 Kl116 := by simpa only [dj_app_l, dj_app_r, dj_cons_l, dj_cons_r, dj_nil_l, dj_nil_r, dk_app, dk_cons, dk_nil, and_true, true_and, and_assoc] using (show Dj (Kl113 ++ Kl114) Kl116 from N116)
      have hl116 : (besideX (cs.set k { ck with bay := (max (max v 0) 40) }) (min v (-1))).length = 0 := by rw [bes_low hlo]; rfl
      refine vp (i := 23) (v := .int .i64 ((((besideX (cs.set k { ck with bay := (max (max v 0) 40) }) (min v (-1))).length) : Nat) : Int)) rfl rfl rfl (run_lenL (p := p116) (cap := c116) (n := (besideX (cs.set k { ck with bay := (max (max v 0) 40) }) (min v (-1))).length) rfl Try.underlying39 (by kernel_rfl)) ?_
      refine vp (i := 24) (v := .int .i64 ((((((alongX (cs.set k { ck with bay := (max (max v 0) 40) }) osS (min v (-1)) false).length) + ((alongX (cs.set k { ck with bay := (max (max v 0) 40) }) osS (max (max v 0) 100) true).length)) + ((besideX (cs.set k { ck with bay := (max (max v 0) 40) }) (min v (-1))).length)) : Nat) : Int)) rfl rfl rfl (run_bin rfl (vx := (.int .i64 (((((alongX (cs.set k { ck with bay := (max (max v 0) 40) }) osS (min v (-1)) false).length) + ((alongX (cs.set k { ck with bay := (max (max v 0) 40) }) osS (max (max v 0) 100) true).length)) : Nat) : Int))) (vy := (.int .i64 ((((besideX (cs.set k { ck with bay := (max (max v 0) 40) }) (min v (-1))).length) : Nat) : Int))) (by kernel_rfl) (by kernel_rfl) fun w => bn_add (z := ((((alongX (cs.set k { ck with bay := (max (max v 0) 40) }) osS (min v (-1)) false).length) + ((alongX (cs.set k { ck with bay := (max (max v 0) 40) }) osS (max (max v 0) 100) true).length)) + ((besideX (cs.set k { ck with bay := (max (max v 0) 40) }) (min v (-1))).length))) rfl (wr_i64 (by omega)) w) ?_
      refine vp (i := 25) (v := .bool true) rfl rfl rfl (run_bin rfl (vx := (.int .i64 ((((((alongX (cs.set k { ck with bay := (max (max v 0) 40) }) osS (min v (-1)) false).length) + ((alongX (cs.set k { ck with bay := (max (max v 0) 40) }) osS (max (max v 0) 100) true).length)) + ((besideX (cs.set k { ck with bay := (max (max v 0) 40) }) (min v (-1))).length)) : Nat) : Int))) (vy := (.int .i64 ((0 : Nat) : Int))) (by kernel_rfl) (by kernel_rfl) fun w => bn_eql (decide_eq_true (by omega)) w) ?_
      refine vm (i := 26) (v := .bool true) rfl rfl rfl ?_
      refine vm (i := 27) (v := .bool true) rfl rfl rfl ?_
      refine vv (i := 28) (v := .bool true) rfl rfl rfl (yb_call (f := 20) (args := #[.slice none 0 0, .slice none 0 0]) (fun _ => by kernel_rfl) fun W hW => SameInts_any [] [] none none 0 0 (Nat.zero_le _) W (.inl rfl) (.inl rfl)) ?_
      refine vm (i := 29) (v := .bool true) rfl rfl rfl ?_
      refine vm (i := 30) (v := .bool true) rfl rfl rfl ?_
      refine vv (i := 31) (v := .bool true) rfl rfl rfl (yb_call (f := 10) (args := #[]) (fun _ => by kernel_rfl) fun W hW => awake_any W) ?_
      refine vm (i := 32) (v := .bool true) rfl rfl rfl ?_
      refine vm (i := 33) (v := .bool true) rfl rfl rfl ?_
      refine wpV_done (by kernel_rfl) (fun W50 hW50 => ?_) _
      refine (show Code.wp _ _ _ _ _ from ?_)
      refine wp_ret ?_
      try simp only [inBlock_ret, then_ret]
      refine bodyPost_ret (v := .bool true) ?_ rfl ?_
      · kernel_rfl
      · exact ⟨rfl, (hbZ.trans (hW50.1.mono hbZ.size))⟩
    | true =>
      exact absurd h28 (by rw [hbad]; decide)
end Go.Proofs.Ytldhjhjomokkgaa
