import Derived.Test.YtalmflgkbmnghaaGreatDoorYWc02
import Derived.Test.YtalmflgkbmnghaaGreatDoorRS03
import Derived.Test.YtalmflgkbmnghaaGreatDoorRS02
/- Part of the proof: YF, YH, YG, YI, Rc, YD, YJ, YJn. -/
set_option linter.unusedVariables false
set_option linter.unusedSimpArgs false
set_option linter.unusedSectionVars false
namespace Go.Proofs.YtalmflgkbmnghaaGreatDoor
open Go Go.RowKit Tw
set_option linter.unusedSimpArgs false
set_option linter.unusedVariables false
open Tf (dg R R_pos R_le R_succ dg_of_lt setd setd_eq)
section
variable {P : Program} {md : Region.Mode} {ops : Array Oper} {Q : Exit → Act → World → Prop} {W0 : Base}
theorem vb {i : Nat} {oi : Oper} {v : Value} {d n : Nat} {listed : Array Bool} {tm : Array Value} {df : List Deferred} {K : List (Nat × Obj)} {T : Array Value} (hi : ops[i]? = some oi) (hd : oi.dst = some d) (hw : Region.wanted oi (yielded ops tm) = true)
    (hy : ∀ w, KS W0 [] w → ∀ K' : Act → World → Prop, (∀ w', Below w.heap.size w w' → K' (Act.put ⟨tm, df⟩ oi.dst v) w') → Oper.wp P oi ⟨tm, df⟩ w K' (fun _ _ _ => False))
    (h : wpV P md ops Q W0 n (listed.setIfInBounds i true) ⟨T, df⟩ K) (hlt : Nat.blt d tm.size = true := by kernel_rfl) (hf : freeP md ops listed i = true := by kernel_rfl) (hT : tm.setIfInBounds d v = T := by simp only [List.setIfInBounds_toArray, List.set_cons_succ, List.set_cons_zero] <;> rfl) : wpV P md ops Q W0 (n + 1) listed ⟨tm, df⟩ K := by
  unfold freeP at hf
  simp only [Bool.and_eq_true] at hf
  obtain ⟨h1, h2, h3, h4⟩ := hf
  refine wpV_first (v := v) hi (Region.noSelect_spec h1) n listed _ K (closed_of h4) (Region.free_spec hi h2) (by simpa using h3)
    (.inl fun K' => .inl ⟨hw, fun w hk => Oto.of_wp hd (Nat.le_of_ble_eq_true hlt) (hy w (hk.sub (fun _ h => by cases h)))⟩) ?_
  rw [hd]
  subst hT
  exact h
end
theorem get_ex {l : List Nat} {k : Nat} (h : k < l.length) : ∃ x, l[k]? = some x := ⟨_, List.getElem?_eq_getElem h⟩
theorem ansG_sub {W0 : Base} {K K2 : List (Nat × Obj)} {l : List Nat} {v : Value} (h : AnsG W0 K l v K2) : ∀ p ∈ K, p ∈ K2 := by
  obtain ⟨_, _, _, _, _, _, _, _, rfl⟩ := h
  exact fun p hp => List.mem_append_left _ hp
set_option maxRecDepth 100000 in
set_option maxHeartbeats 4000000 in
theorem radd_any (a b : Nat) (p q : Option Addr) (c d : Nat) (la : (cd a).length ≤ 100000) (lb : (cd b).length ≤ 100000) (w : World) (hp : SLV w p (nums (cd a))) (hq : SLV w q (nums (cd b))) : Calls Tryz.prog 46 #[.slice p (cd a).length c, .slice q (cd b).length d] w fun e w' => Ans w (cd (a + b)) e w' := by
  have HP : NS (w : Base) p (cd a) [] := NS.base hp
  have HQ : NS (w : Base) q (cd b) [] := NS.base hq
  clear hp hq
  go_enter Tryz.func46, Tryz.ntmps46
  refine wp_seq ?_
  refine wp_region_L (W0 := w) [] (KS.start w) ?_
  refine Tw.lm (v := .slice none 0 0) rfl rfl ?_
  refine wpL_done (fun W1 hW1 => ?_)
  refine (show Code.wp _ _ _ _ _ from ?_)
  refine wp_seq ?_
  refine wp_region_L (W0 := w) [] (hW1) ?_
  refine Tw.lm (v := .slice none 0 0) rfl rfl ?_
  refine wpL_done (fun W2 hW2 => ?_)
  refine (show Code.wp _ _ _ _ _ from ?_)
  refine wp_seq ?_
  refine wp_region_L (W0 := w) [] (hW2) ?_
  refine Tw.lm (v := .int .i64 0) rfl rfl ?_
  refine wpL_done (fun W3 hW3 => ?_)
  refine (show Code.wp _ _ _ _ _ from ?_)
  refine wp_seq ?_
  refine wp_seq ?_
  refine wp_region_L (W0 := w) [] (hW3) ?_
  refine Tw.lm (v := .int .i64 0) rfl rfl ?_
  refine wpL_done (fun W4 hW4 => ?_)
  refine (show Code.wp _ _ _ _ _ from ?_)
  refine wp_block ?_
  go_loopw [7, 6, 5] (fun u7 u6 u5 wr => ∃ (i cy : Nat) (R : List Nat) (vo : Value) (Ko : List (Nat × Obj)), (OwnL (w : Base) 3 1 vo i (nums R) Ko) ∧ (AddI a b R i cy) ∧ (i ≤ (max (cd a).length (cd b).length) ∨ (i = (max (cd a).length (cd b).length) + 1 ∧ cy = 0)) ∧ u7 = .int .i64 ((i : Nat) : Int) ∧ u6 = .int .i64 ((cy : Nat) : Int) ∧ vo = u5 ∧ KS w Ko wr) (fun u7 _ _ _ => (max (cd a).length (cd b).length) + 2 - (intOf u7).toNat)
  case atStart => exact ⟨0, 0, [], (.slice none 0 0), [], (OwnL.nil _ _ _), (AddI.start a b), (by omega), rfl, rfl, rfl, (hW4.sub (fun p hp => by first | exact hp | (simp only [List.mem_cons, List.mem_append, List.nil_append, List.not_mem_nil, or_assoc, or_false, false_or, List.cons_append, List.append_assoc] at hp ⊢ <;> grind)))⟩
  case round =>
    obtain ⟨i, cy, R, vo, Ko, hO, hI, hi, rfl, rfl, rfl, hL5⟩ := hrel
    have hcy := hI.c1
    refine wp_seq ?_
    refine wp_seq ?_
    refine wp_region_L (W0 := w) Ko (hL5) ?_
    refine Tw.lm (v := .int .i64 ((i : Nat) : Int)) rfl rfl ?_
    refine Tw.lm (v := .slice p ((cd a).length) c) rfl rfl ?_
    refine Tw.lp (v := .int .i64 ((((cd a).length) : Nat) : Int)) rfl rfl (run_lenL (p := p) (cap := c) (n := ((cd a).length)) rfl Tryz.underlying32 (by kernel_rfl)) ?_
    refine Tw.lp (v := .bool (decide (i < ((cd a).length)))) rfl rfl (run_bin rfl (vx := (.int .i64 ((i : Nat) : Int))) (vy := (.int .i64 ((((cd a).length) : Nat) : Int))) (by kernel_rfl) (by kernel_rfl) fun w => bn_lss rfl w) ?_
    refine Tw.lm (v := .bool (decide (i < ((cd a).length)))) rfl rfl ?_
    cases hd1 : (decide (i < ((cd a).length))) with
    | false =>
      have h1 : ¬ (i < ((cd a).length)) := of_decide_eq_false hd1
      clear hd1
      refine Tw.lm (v := .int .i64 ((i : Nat) : Int)) rfl rfl ?_
      refine Tw.lm (v := .slice q ((cd b).length) d) rfl rfl ?_
      refine Tw.lp (v := .int .i64 ((((cd b).length) : Nat) : Int)) rfl rfl (run_lenL (p := q) (cap := d) (n := ((cd b).length)) rfl Tryz.underlying32 (by kernel_rfl)) ?_
      refine Tw.lp (v := .bool (decide (i < ((cd b).length)))) rfl rfl (run_bin rfl (vx := (.int .i64 ((i : Nat) : Int))) (vy := (.int .i64 ((((cd b).length) : Nat) : Int))) (by kernel_rfl) (by kernel_rfl) fun w => bn_lss rfl w) ?_
      refine Tw.lm (v := .bool (decide (i < ((cd b).length)))) rfl rfl ?_
      refine Tw.lm (v := .bool (decide (i < ((cd b).length)))) rfl rfl ?_
      cases hd2 : (decide (i < ((cd b).length))) with
      | false =>
        have h2 : ¬ (i < ((cd b).length)) := of_decide_eq_false hd2
        clear hd2
        refine Tw.lm (v := .int .i64 ((cy : Nat) : Int)) rfl rfl ?_
        refine Tw.lp (v := .bool (decide (0 < cy))) rfl rfl (run_bin rfl (vx := (.int .i64 ((cy : Nat) : Int))) (vy := (.int .i64 ((0 : Nat) : Int))) (by kernel_rfl) (by kernel_rfl) fun w => bn_gtr rfl w) ?_
        refine Tw.lm (v := .bool (decide (0 < cy))) rfl rfl ?_
        refine wpL_done (fun W6 hW6 => ?_)
        refine (show Code.wp _ _ _ _ _ from ?_)
        cases hd3 : (decide (0 < cy)) with
        | false =>
          have h3 : ¬ (0 < cy) := of_decide_eq_false hd3
          clear hd3
          refine wp_cond_false rfl ?_
          refine wp_exit ?_
          refine (show Code.wp _ _ _ _ _ from ?_)
          refine wp_seq ?_
          refine wp_region_L (W0 := w) Ko (hW6) ?_
          refine Tw.lm (v := vo) rfl rfl ?_
          refine Tw.lm (v := vo) rfl rfl ?_
          refine wpL_done (fun W7 hW7 => ?_)
          refine (show Code.wp _ _ _ _ _ from ?_)
          refine wp_ret ?_
          try simp only [inBlock_ret, then_ret]
          refine bodyPost_ret (v := vo) ?_ rfl ?_
          · kernel_rfl
          · exact ans_end hO (by have hc0 : cy = 0 := (by omega); subst hc0; exact hI.end h1 h2) hW7 (fun q hq => by first | exact hq | (simp only [List.mem_cons, List.mem_append, List.nil_append, List.not_mem_nil, or_assoc, or_false, false_or] at hq ⊢ <;> grind))
        | true =>
          have h3 : 0 < cy := of_decide_eq_true hd3
          clear hd3
          refine wp_cond_true rfl ?_
          refine wp_skip ?_
          refine (show Code.wp _ _ _ _ _ from ?_)
          refine wp_seq ?_
          refine wp_block ?_
          refine wp_seq ?_
          refine wp_seq ?_
          refine wp_region_L (W0 := w) Ko (hW6) ?_
          refine Tw.lm (v := .int .i64 ((i : Nat) : Int)) rfl rfl ?_
          refine Tw.lm (v := .slice p ((cd a).length) c) rfl rfl ?_
          refine Tw.lp (v := .int .i64 ((((cd a).length) : Nat) : Int)) rfl rfl (run_lenL (p := p) (cap := c) (n := ((cd a).length)) rfl Tryz.underlying32 (by kernel_rfl)) ?_
          refine Tw.lp (v := .bool false) rfl rfl (run_bin rfl (vx := (.int .i64 ((i : Nat) : Int))) (vy := (.int .i64 ((((cd a).length) : Nat) : Int))) (by kernel_rfl) (by kernel_rfl) fun w => bn_lss (decide_eq_false (by assumption)) w) ?_
          refine wpL_done (fun W8 hW8 => ?_)
          refine (show Code.wp _ _ _ _ _ from ?_)
          refine wp_cond_false rfl ?_
          refine wp_skip ?_
          refine (show Code.wp _ _ _ _ _ from ?_)
          refine wp_seq ?_
          refine wp_seq ?_
          refine wp_region_L (W0 := w) Ko (hW8) ?_
          refine Tw.lm (v := .int .i64 ((i : Nat) : Int)) rfl rfl ?_
          refine Tw.lm (v := .slice q ((cd b).length) d) rfl rfl ?_
          refine Tw.lp (v := .int .i64 ((((cd b).length) : Nat) : Int)) rfl rfl (run_lenL (p := q) (cap := d) (n := ((cd b).length)) rfl Tryz.underlying32 (by kernel_rfl)) ?_
          refine Tw.lp (v := .bool false) rfl rfl (run_bin rfl (vx := (.int .i64 ((i : Nat) : Int))) (vy := (.int .i64 ((((cd b).length) : Nat) : Int))) (by kernel_rfl) (by kernel_rfl) fun w => bn_lss (decide_eq_false (by assumption)) w) ?_
          refine wpL_done (fun W9 hW9 => ?_)
          refine (show Code.wp _ _ _ _ _ from ?_)
          refine wp_cond_false rfl ?_
          refine wp_skip ?_
          refine (show Code.wp _ _ _ _ _ from ?_)
          refine wp_seq ?_
          refine wp_region_L (W0 := w) Ko (hW9) ?_
          refine Tw.lm (v := vo) rfl rfl ?_
          refine Tw.lm (v := .int .i64 ((cy : Nat) : Int)) rfl rfl ?_
          refine Tw.lp (v := .int .i64 (((cy % 65536) : Nat) : Int)) rfl rfl (run_bin rfl (vx := (.int .i64 ((cy : Nat) : Int))) (vy := (.int .i64 ((65536 : Nat) : Int))) (by kernel_rfl) (by kernel_rfl) fun w => bn_rem (z := (cy % 65536)) rfl (by omega) w) ?_
          refine wpL_new (fun g => .slice (some ⟨g, 0, none⟩) 1 1) (obi := .cells #[.int .i64 (((cy % 65536) : Nat) : Int)] 3 (0, 0)) rfl rfl (fun _ => by kernel_rfl) (fun _ => by simp only [List.setIfInBounds_toArray, List.set_cons_succ, List.set_cons_zero] <;> rfl) fun g2 Bg2 Fg2 => ?_
          obtain dj3_0 : Dk g2 Ko := by simpa only [dj_app_l, dj_app_r, dj_cons_l, dj_cons_r, dj_nil_l, dj_nil_r, dk_app, dk_cons, dk_nil, and_true, true_and, and_assoc] using (show Dk g2 Ko from Fg2)
          refine wpL_g (AppO w 3 1 [] (i + 1) ((nums R) ++ [.int .i64 (((cy % 65536) : Nat) : Int)])) rfl rfl (app_own el_int (m := 1) (c := 1) (news := [.int .i64 (((cy % 65536) : Nat) : Int)]) rfl (by kernel_rfl) (by kernel_rfl) (.head _) hO (fun p hp => by simp only [List.mem_cons, List.mem_append, List.nil_append, List.not_mem_nil, or_assoc, or_false, false_or, hp, or_true, true_or]) (fun _ h => by cases h) rfl (by simp [strV, Value.oneCell']) (by omega) (by omega) (by omega)) (fun _ => by simp only [List.setIfInBounds_toArray, List.set_cons_succ, List.set_cons_zero] <;> rfl) ?_
          rintro v4 Kl4 ⟨_, O4, N4, rfl⟩
          refine Tw.lm (v := v4) rfl rfl ?_
          refine wpL_done (fun W10 hW10 => ?_)
          refine (show Code.wp _ _ _ _ _ from ?_)
          refine wp_region_L (W0 := w) Kl4 (hW10) ?_
          refine Tw.lm (v := .int .i64 ((cy : Nat) : Int)) rfl rfl ?_
          refine Tw.lp (v := .int .i64 (((cy / 65536) : Nat) : Int)) rfl rfl (run_bin rfl (vx := (.int .i64 ((cy : Nat) : Int))) (vy := (.int .i64 ((65536 : Nat) : Int))) (by kernel_rfl) (by kernel_rfl) fun w => bn_quo (z := (cy / 65536)) rfl (by omega) (wr_i64 (by omega)) w) ?_
          refine Tw.lm (v := .int .i64 (((cy / 65536) : Nat) : Int)) rfl rfl ?_
          refine wpL_done (fun W11 hW11 => ?_)
          refine (show Code.wp _ _ _ _ _ from ?_)
          refine wp_region_L (W0 := w) Kl4 (hW11) ?_
          refine Tw.lm (v := .int .i64 ((i : Nat) : Int)) rfl rfl ?_
          refine Tw.lp (v := .int .i64 (((i + 1) : Nat) : Int)) rfl rfl (run_bin rfl (vx := (.int .i64 ((i : Nat) : Int))) (vy := (.int .i64 ((1 : Nat) : Int))) (by kernel_rfl) (by kernel_rfl) fun w => bn_add (z := (i + 1)) rfl (wr_i64 (by omega)) w) ?_
          refine Tw.lm (v := .int .i64 (((i + 1) : Nat) : Int)) rfl rfl ?_
          refine wpL_done (fun W12 hW12 => ?_)
          go_roundw
          case rel =>
            repeat apply Exists.intro
            exact ⟨⟨i + 1, (cy / 65536), (R ++ [cy % 65536]), v4, Kl4, (own_snoc O4), (AddI.step (s := cy) hI (.inr ⟨h1, rfl⟩) (.inr ⟨h2, rfl⟩) (by omega) (by omega)), (by omega), rfl, rfl, rfl, (hW12.sub (fun p hp => by first | exact hp | (simp only [List.mem_cons, List.mem_append, List.nil_append, List.not_mem_nil, or_assoc, or_false, false_or, List.cons_append, List.append_assoc] at hp ⊢ <;> grind)))⟩, rfl⟩
          case measure => (show (max (cd a).length (cd b).length) + 2 - (intOf (.int .i64 (((i + 1) : Nat) : Int))).toNat < (max (cd a).length (cd b).length) + 2 - (intOf (.int .i64 ((i : Nat) : Int))).toNat); simp only [intOf]; omega
      | true =>
        have h2 : i < ((cd b).length) := of_decide_eq_true hd2
        clear hd2
        refine Tw.ln rfl ?_
        refine Tw.ln rfl ?_
        refine Tw.lm (v := .bool true) rfl rfl ?_
        refine wpL_done (fun W13 hW13 => ?_)
        refine (show Code.wp _ _ _ _ _ from ?_)
        refine wp_cond_true rfl ?_
        refine wp_skip ?_
        refine (show Code.wp _ _ _ _ _ from ?_)
        refine wp_seq ?_
        refine wp_block ?_
        refine wp_seq ?_
        refine wp_seq ?_
        refine wp_region_L (W0 := w) Ko (hW13) ?_
        refine Tw.lm (v := .int .i64 ((i : Nat) : Int)) rfl rfl ?_
        refine Tw.lm (v := .slice p ((cd a).length) c) rfl rfl ?_
        refine Tw.lp (v := .int .i64 ((((cd a).length) : Nat) : Int)) rfl rfl (run_lenL (p := p) (cap := c) (n := ((cd a).length)) rfl Tryz.underlying32 (by kernel_rfl)) ?_
        refine Tw.lp (v := .bool false) rfl rfl (run_bin rfl (vx := (.int .i64 ((i : Nat) : Int))) (vy := (.int .i64 ((((cd a).length) : Nat) : Int))) (by kernel_rfl) (by kernel_rfl) fun w => bn_lss (decide_eq_false (by assumption)) w) ?_
        refine wpL_done (fun W14 hW14 => ?_)
        refine (show Code.wp _ _ _ _ _ from ?_)
        refine wp_cond_false rfl ?_
        refine wp_skip ?_
        refine (show Code.wp _ _ _ _ _ from ?_)
        refine wp_seq ?_
        refine wp_seq ?_
        refine wp_region_L (W0 := w) Ko (hW14) ?_
        refine Tw.lm (v := .int .i64 ((i : Nat) : Int)) rfl rfl ?_
        refine Tw.lm (v := .slice q ((cd b).length) d) rfl rfl ?_
        refine Tw.lp (v := .int .i64 ((((cd b).length) : Nat) : Int)) rfl rfl (run_lenL (p := q) (cap := d) (n := ((cd b).length)) rfl Tryz.underlying32 (by kernel_rfl)) ?_
        refine Tw.lp (v := .bool true) rfl rfl (run_bin rfl (vx := (.int .i64 ((i : Nat) : Int))) (vy := (.int .i64 ((((cd b).length) : Nat) : Int))) (by kernel_rfl) (by kernel_rfl) fun w => bn_lss (decide_eq_true (by assumption)) w) ?_
        refine wpL_done (fun W15 hW15 => ?_)
        refine (show Code.wp _ _ _ _ _ from ?_)
        refine wp_cond_true rfl ?_
        refine wp_region_L (W0 := w) Ko (hW15) ?_
        refine Tw.lm (v := .int .i64 ((cy : Nat) : Int)) rfl rfl ?_
        refine Tw.lm (v := .slice q ((cd b).length) d) rfl rfl ?_
        refine Tw.lm (v := .int .i64 ((i : Nat) : Int)) rfl rfl ?_
        obtain ⟨b5, f5, hp5, hc5⟩ := (HQ.mono (fun q hq => by first | exact hq | (simp only [List.mem_cons, List.mem_append, List.nil_append, List.not_mem_nil, or_assoc, or_false, false_or] at hq ⊢ <;> grind))).at hW15 (k := i) (by omega)
        refine Tw.lp (v := .pointer (some ⟨b5, f5 + i * 1, none⟩)) rfl rfl (run_idxQ (p := q) (cap := d) (n := ((cd b).length)) (j := .i64) (k := i) (sz := 1) rfl Tryz.underlying32 (by kernel_rfl) (by kernel_rfl) hp5 (by kernel_rfl) (by omega)) ?_
        obtain ⟨x6, hx6⟩ : ∃ xq_, ((cd b) : List Nat)[i]? = some xq_ := get_ex (show i < ((cd b) : List Nat).length by omega)
        have lx6 : x6 < 65536 := dOk.at (cd_ok b) hx6
        refine Tw.lv (v := .int .i64 ((x6 : Nat) : Int)) rfl rfl (yb_ns (off := f5 + i * 1) rfl (by kernel_rfl) (fun W hW => hc5 W (hW.sub (fun q hq => by first | exact hq | (simp only [List.mem_cons, List.mem_append, List.nil_append, List.not_mem_nil, or_assoc, or_false, false_or] at hq ⊢ <;> grind))) _ _ hx6) Tryz.underlying3 rfl) ?_
        refine Tw.lp (v := .int .i64 (((cy + x6) : Nat) : Int)) rfl rfl (run_bin rfl (vx := (.int .i64 ((cy : Nat) : Int))) (vy := (.int .i64 ((x6 : Nat) : Int))) (by kernel_rfl) (by kernel_rfl) fun w => bn_add (z := (cy + x6)) rfl (wr_i64 (by omega)) w) ?_
        refine Tw.lm (v := .int .i64 (((cy + x6) : Nat) : Int)) rfl rfl ?_
        refine wpL_done (fun W16 hW16 => ?_)
        refine (show Code.wp _ _ _ _ _ from ?_)
        refine wp_seq ?_
        refine wp_region_L (W0 := w) Ko (hW16) ?_
        refine Tw.lm (v := vo) rfl rfl ?_
        refine Tw.lm (v := .int .i64 (((cy + x6) : Nat) : Int)) rfl rfl ?_
        refine Tw.lp (v := .int .i64 ((((cy + x6) % 65536) : Nat) : Int)) rfl rfl (run_bin rfl (vx := (.int .i64 (((cy + x6) : Nat) : Int))) (vy := (.int .i64 ((65536 : Nat) : Int))) (by kernel_rfl) (by kernel_rfl) fun w => bn_rem (z := ((cy + x6) % 65536)) rfl (by omega) w) ?_
        refine wpL_new (fun g => .slice (some ⟨g, 0, none⟩) 1 1) (obi := .cells #[.int .i64 ((((cy + x6) % 65536) : Nat) : Int)] 3 (0, 0)) rfl rfl (fun _ => by kernel_rfl) (fun _ => by simp only [List.setIfInBounds_toArray, List.set_cons_succ, List.set_cons_zero] <;> rfl) fun g7 Bg7 Fg7 => ?_
        obtain dj8_0 : Dk g7 Ko := by simpa only [dj_app_l, dj_app_r, dj_cons_l, dj_cons_r, dj_nil_l, dj_nil_r, dk_app, dk_cons, dk_nil, and_true, true_and, and_assoc] using (show Dk g7 Ko from Fg7)
        refine wpL_g (AppO w 3 1 [] (i + 1) ((nums R) ++ [.int .i64 ((((cy + x6) % 65536) : Nat) : Int)])) rfl rfl (app_own el_int (m := 1) (c := 1) (news := [.int .i64 ((((cy + x6) % 65536) : Nat) : Int)]) rfl (by kernel_rfl) (by kernel_rfl) (.head _) hO (fun p hp => by simp only [List.mem_cons, List.mem_append, List.nil_append, List.not_mem_nil, or_assoc, or_false, false_or, hp, or_true, true_or]) (fun _ h => by cases h) rfl (by simp [strV, Value.oneCell']) (by omega) (by omega) (by omega)) (fun _ => by simp only [List.setIfInBounds_toArray, List.set_cons_succ, List.set_cons_zero] <;> rfl) ?_
        rintro v9 Kl9 ⟨_, O9, N9, rfl⟩
        refine Tw.lm (v := v9) rfl rfl ?_
        refine wpL_done (fun W17 hW17 => ?_)
        refine (show Code.wp _ _ _ _ _ from ?_)
        refine wp_region_L (W0 := w) Kl9 (hW17) ?_
        refine Tw.lm (v := .int .i64 (((cy + x6) : Nat) : Int)) rfl rfl ?_
        refine Tw.lp (v := .int .i64 ((((cy + x6) / 65536) : Nat) : Int)) rfl rfl (run_bin rfl (vx := (.int .i64 (((cy + x6) : Nat) : Int))) (vy := (.int .i64 ((65536 : Nat) : Int))) (by kernel_rfl) (by kernel_rfl) fun w => bn_quo (z := ((cy + x6) / 65536)) rfl (by omega) (wr_i64 (by omega)) w) ?_
        refine Tw.lm (v := .int .i64 ((((cy + x6) / 65536) : Nat) : Int)) rfl rfl ?_
        refine wpL_done (fun W18 hW18 => ?_)
        refine (show Code.wp _ _ _ _ _ from ?_)
        refine wp_region_L (W0 := w) Kl9 (hW18) ?_
        refine Tw.lm (v := .int .i64 ((i : Nat) : Int)) rfl rfl ?_
        refine Tw.lp (v := .int .i64 (((i + 1) : Nat) : Int)) rfl rfl (run_bin rfl (vx := (.int .i64 ((i : Nat) : Int))) (vy := (.int .i64 ((1 : Nat) : Int))) (by kernel_rfl) (by kernel_rfl) fun w => bn_add (z := (i + 1)) rfl (wr_i64 (by omega)) w) ?_
        refine Tw.lm (v := .int .i64 (((i + 1) : Nat) : Int)) rfl rfl ?_
        refine wpL_done (fun W19 hW19 => ?_)
        go_roundw
        case rel =>
          repeat apply Exists.intro
          exact ⟨⟨i + 1, ((cy + x6) / 65536), (R ++ [(cy + x6) % 65536]), v9, Kl9, (own_snoc O9), (AddI.step (s := (cy + x6)) hI (.inr ⟨h1, rfl⟩) (.inl ⟨h2, hx6⟩) (by omega) (by omega)), (by omega), rfl, rfl, rfl, (hW19.sub (fun p hp => by first | exact hp | (simp only [List.mem_cons, List.mem_append, List.nil_append, List.not_mem_nil, or_assoc, or_false, false_or, List.cons_append, List.append_assoc] at hp ⊢ <;> grind)))⟩, rfl⟩
        case measure => (show (max (cd a).length (cd b).length) + 2 - (intOf (.int .i64 (((i + 1) : Nat) : Int))).toNat < (max (cd a).length (cd b).length) + 2 - (intOf (.int .i64 ((i : Nat) : Int))).toNat); simp only [intOf]; omega
    | true =>
      have h1 : i < ((cd a).length) := of_decide_eq_true hd1
      clear hd1
      refine Tw.ln rfl ?_
      refine Tw.ln rfl ?_
      refine Tw.ln rfl ?_
      refine Tw.ln rfl ?_
      refine Tw.lm (v := .bool true) rfl rfl ?_
      refine Tw.lm (v := .bool true) rfl rfl ?_
      refine Tw.ln rfl ?_
      refine Tw.ln rfl ?_
      refine Tw.lm (v := .bool true) rfl rfl ?_
      refine wpL_done (fun W20 hW20 => ?_)
      refine (show Code.wp _ _ _ _ _ from ?_)
      refine wp_cond_true rfl ?_
      refine wp_skip ?_
      refine (show Code.wp _ _ _ _ _ from ?_)
      refine wp_seq ?_
      refine wp_block ?_
      refine wp_seq ?_
      refine wp_seq ?_
      refine wp_region_L (W0 := w) Ko (hW20) ?_
      refine Tw.lm (v := .int .i64 ((i : Nat) : Int)) rfl rfl ?_
      refine Tw.lm (v := .slice p ((cd a).length) c) rfl rfl ?_
      refine Tw.lp (v := .int .i64 ((((cd a).length) : Nat) : Int)) rfl rfl (run_lenL (p := p) (cap := c) (n := ((cd a).length)) rfl Tryz.underlying32 (by kernel_rfl)) ?_
      refine Tw.lp (v := .bool true) rfl rfl (run_bin rfl (vx := (.int .i64 ((i : Nat) : Int))) (vy := (.int .i64 ((((cd a).length) : Nat) : Int))) (by kernel_rfl) (by kernel_rfl) fun w => bn_lss (decide_eq_true (by assumption)) w) ?_
      refine wpL_done (fun W21 hW21 => ?_)
      refine (show Code.wp _ _ _ _ _ from ?_)
      refine wp_cond_true rfl ?_
      refine wp_region_L (W0 := w) Ko (hW21) ?_
      refine Tw.lm (v := .int .i64 ((cy : Nat) : Int)) rfl rfl ?_
      refine Tw.lm (v := .slice p ((cd a).length) c) rfl rfl ?_
      refine Tw.lm (v := .int .i64 ((i : Nat) : Int)) rfl rfl ?_
      obtain ⟨b10, f10, hp10, hc10⟩ := (HP.mono (fun q hq => by first | exact hq | (simp only [List.mem_cons, List.mem_append, List.nil_append, List.not_mem_nil, or_assoc, or_false, false_or] at hq ⊢ <;> grind))).at hW21 (k := i) (by omega)
      refine Tw.lp (v := .pointer (some ⟨b10, f10 + i * 1, none⟩)) rfl rfl (run_idxQ (p := p) (cap := c) (n := ((cd a).length)) (j := .i64) (k := i) (sz := 1) rfl Tryz.underlying32 (by kernel_rfl) (by kernel_rfl) hp10 (by kernel_rfl) (by omega)) ?_
      obtain ⟨x11, hx11⟩ : ∃ xq_, ((cd a) : List Nat)[i]? = some xq_ := get_ex (show i < ((cd a) : List Nat).length by omega)
      have lx11 : x11 < 65536 := dOk.at (cd_ok a) hx11
      refine Tw.lv (v := .int .i64 ((x11 : Nat) : Int)) rfl rfl (yb_ns (off := f10 + i * 1) rfl (by kernel_rfl) (fun W hW => hc10 W (hW.sub (fun q hq => by first | exact hq | (simp only [List.mem_cons, List.mem_append, List.nil_append, List.not_mem_nil, or_assoc, or_false, false_or] at hq ⊢ <;> grind))) _ _ hx11) Tryz.underlying3 rfl) ?_
      refine Tw.lp (v := .int .i64 (((cy + x11) : Nat) : Int)) rfl rfl (run_bin rfl (vx := (.int .i64 ((cy : Nat) : Int))) (vy := (.int .i64 ((x11 : Nat) : Int))) (by kernel_rfl) (by kernel_rfl) fun w => bn_add (z := (cy + x11)) rfl (wr_i64 (by omega)) w) ?_
      refine Tw.lm (v := .int .i64 (((cy + x11) : Nat) : Int)) rfl rfl ?_
      refine wpL_done (fun W22 hW22 => ?_)
      refine (show Code.wp _ _ _ _ _ from ?_)
      refine wp_seq ?_
      refine wp_seq ?_
      refine wp_region_L (W0 := w) Ko (hW22) ?_
      refine Tw.lm (v := .int .i64 ((i : Nat) : Int)) rfl rfl ?_
      refine Tw.lm (v := .slice q ((cd b).length) d) rfl rfl ?_
      refine Tw.lp (v := .int .i64 ((((cd b).length) : Nat) : Int)) rfl rfl (run_lenL (p := q) (cap := d) (n := ((cd b).length)) rfl Tryz.underlying32 (by kernel_rfl)) ?_
      refine Tw.lp (v := .bool (decide (i < ((cd b).length)))) rfl rfl (run_bin rfl (vx := (.int .i64 ((i : Nat) : Int))) (vy := (.int .i64 ((((cd b).length) : Nat) : Int))) (by kernel_rfl) (by kernel_rfl) fun w => bn_lss rfl w) ?_
      refine wpL_done (fun W23 hW23 => ?_)
      refine (show Code.wp _ _ _ _ _ from ?_)
      cases hd4 : (decide (i < ((cd b).length))) with
      | false =>
        have h4 : ¬ (i < ((cd b).length)) := of_decide_eq_false hd4
        clear hd4
        refine wp_cond_false rfl ?_
        refine wp_skip ?_
        refine (show Code.wp _ _ _ _ _ from ?_)
        refine wp_seq ?_
        refine wp_region_L (W0 := w) Ko (hW23) ?_
        refine Tw.lm (v := vo) rfl rfl ?_
        refine Tw.lm (v := .int .i64 (((cy + x11) : Nat) : Int)) rfl rfl ?_
        refine Tw.lp (v := .int .i64 ((((cy + x11) % 65536) : Nat) : Int)) rfl rfl (run_bin rfl (vx := (.int .i64 (((cy + x11) : Nat) : Int))) (vy := (.int .i64 ((65536 : Nat) : Int))) (by kernel_rfl) (by kernel_rfl) fun w => bn_rem (z := ((cy + x11) % 65536)) rfl (by omega) w) ?_
        refine wpL_new (fun g => .slice (some ⟨g, 0, none⟩) 1 1) (obi := .cells #[.int .i64 ((((cy + x11) % 65536) : Nat) : Int)] 3 (0, 0)) rfl rfl (fun _ => by kernel_rfl) (fun _ => by simp only [List.setIfInBounds_toArray, List.set_cons_succ, List.set_cons_zero] <;> rfl) fun g12 Bg12 Fg12 => ?_
        obtain dj13_0 : Dk g12 Ko := by simpa only [dj_app_l, dj_app_r, dj_cons_l, dj_cons_r, dj_nil_l, dj_nil_r, dk_app, dk_cons, dk_nil, and_true, true_and, and_assoc] using (show Dk g12 Ko from Fg12)
        refine wpL_g (AppO w 3 1 [] (i + 1) ((nums R) ++ [.int .i64 ((((cy + x11) % 65536) : Nat) : Int)])) rfl rfl (app_own el_int (m := 1) (c := 1) (news := [.int .i64 ((((cy + x11) % 65536) : Nat) : Int)]) rfl (by kernel_rfl) (by kernel_rfl) (.head _) hO (fun p hp => by simp only [List.mem_cons, List.mem_append, List.nil_append, List.not_mem_nil, or_assoc, or_false, false_or, hp, or_true, true_or]) (fun _ h => by cases h) rfl (by simp [strV, Value.oneCell']) (by omega) (by omega) (by omega)) (fun _ => by simp only [List.setIfInBounds_toArray, List.set_cons_succ, List.set_cons_zero] <;> rfl) ?_
        rintro v14 Kl14 ⟨_, O14, N14, rfl⟩
        refine Tw.lm (v := v14) rfl rfl ?_
        refine wpL_done (fun W24 hW24 => ?_)
        refine (show Code.wp _ _ _ _ _ from ?_)
        refine wp_region_L (W0 := w) Kl14 (hW24) ?_
        refine Tw.lm (v := .int .i64 (((cy + x11) : Nat) : Int)) rfl rfl ?_
        refine Tw.lp (v := .int .i64 ((((cy + x11) / 65536) : Nat) : Int)) rfl rfl (run_bin rfl (vx := (.int .i64 (((cy + x11) : Nat) : Int))) (vy := (.int .i64 ((65536 : Nat) : Int))) (by kernel_rfl) (by kernel_rfl) fun w => bn_quo (z := ((cy + x11) / 65536)) rfl (by omega) (wr_i64 (by omega)) w) ?_
        refine Tw.lm (v := .int .i64 ((((cy + x11) / 65536) : Nat) : Int)) rfl rfl ?_
        refine wpL_done (fun W25 hW25 => ?_)
        refine (show Code.wp _ _ _ _ _ from ?_)
        refine wp_region_L (W0 := w) Kl14 (hW25) ?_
        refine Tw.lm (v := .int .i64 ((i : Nat) : Int)) rfl rfl ?_
        refine Tw.lp (v := .int .i64 (((i + 1) : Nat) : Int)) rfl rfl (run_bin rfl (vx := (.int .i64 ((i : Nat) : Int))) (vy := (.int .i64 ((1 : Nat) : Int))) (by kernel_rfl) (by kernel_rfl) fun w => bn_add (z := (i + 1)) rfl (wr_i64 (by omega)) w) ?_
        refine Tw.lm (v := .int .i64 (((i + 1) : Nat) : Int)) rfl rfl ?_
        refine wpL_done (fun W26 hW26 => ?_)
        go_roundw
        case rel =>
          repeat apply Exists.intro
          exact ⟨⟨i + 1, ((cy + x11) / 65536), (R ++ [(cy + x11) % 65536]), v14, Kl14, (own_snoc O14), (AddI.step (s := (cy + x11)) hI (.inl ⟨h1, hx11⟩) (.inr ⟨h4, rfl⟩) (by omega) (by omega)), (by omega), rfl, rfl, rfl, (hW26.sub (fun p hp => by first | exact hp | (simp only [List.mem_cons, List.mem_append, List.nil_append, List.not_mem_nil, or_assoc, or_false, false_or, List.cons_append, List.append_assoc] at hp ⊢ <;> grind)))⟩, rfl⟩
        case measure => (show (max (cd a).length (cd b).length) + 2 - (intOf (.int .i64 (((i + 1) : Nat) : Int))).toNat < (max (cd a).length (cd b).length) + 2 - (intOf (.int .i64 ((i : Nat) : Int))).toNat); simp only [intOf]; omega
      | true =>
        have h4 : i < ((cd b).length) := of_decide_eq_true hd4
        clear hd4
        refine wp_cond_true rfl ?_
        refine wp_region_L (W0 := w) Ko (hW23) ?_
        refine Tw.lm (v := .int .i64 (((cy + x11) : Nat) : Int)) rfl rfl ?_
        refine Tw.lm (v := .slice q ((cd b).length) d) rfl rfl ?_
        refine Tw.lm (v := .int .i64 ((i : Nat) : Int)) rfl rfl ?_
        obtain ⟨b15, f15, hp15, hc15⟩ := (HQ.mono (fun q hq => by first | exact hq | (simp only [List.mem_cons, List.mem_append, List.nil_append, List.not_mem_nil, or_assoc, or_false, false_or] at hq ⊢ <;> grind))).at hW23 (k := i) (by omega)
        refine Tw.lp (v := .pointer (some ⟨b15, f15 + i * 1, none⟩)) rfl rfl (run_idxQ (p := q) (cap := d) (n := ((cd b).length)) (j := .i64) (k := i) (sz := 1) rfl Tryz.underlying32 (by kernel_rfl) (by kernel_rfl) hp15 (by kernel_rfl) (by omega)) ?_
        obtain ⟨x16, hx16⟩ : ∃ xq_, ((cd b) : List Nat)[i]? = some xq_ := get_ex (show i < ((cd b) : List Nat).length by omega)
        have lx16 : x16 < 65536 := dOk.at (cd_ok b) hx16
        refine Tw.lv (v := .int .i64 ((x16 : Nat) : Int)) rfl rfl (yb_ns (off := f15 + i * 1) rfl (by kernel_rfl) (fun W hW => hc15 W (hW.sub (fun q hq => by first | exact hq | (simp only [List.mem_cons, List.mem_append, List.nil_append, List.not_mem_nil, or_assoc, or_false, false_or] at hq ⊢ <;> grind))) _ _ hx16) Tryz.underlying3 rfl) ?_
        refine Tw.lp (v := .int .i64 ((((cy + x11) + x16) : Nat) : Int)) rfl rfl (run_bin rfl (vx := (.int .i64 (((cy + x11) : Nat) : Int))) (vy := (.int .i64 ((x16 : Nat) : Int))) (by kernel_rfl) (by kernel_rfl) fun w => bn_add (z := ((cy + x11) + x16)) rfl (wr_i64 (by omega)) w) ?_
        refine Tw.lm (v := .int .i64 ((((cy + x11) + x16) : Nat) : Int)) rfl rfl ?_
        refine wpL_done (fun W27 hW27 => ?_)
        refine (show Code.wp _ _ _ _ _ from ?_)
        refine wp_seq ?_
        refine wp_region_L (W0 := w) Ko (hW27) ?_
        refine Tw.lm (v := vo) rfl rfl ?_
        refine Tw.lm (v := .int .i64 ((((cy + x11) + x16) : Nat) : Int)) rfl rfl ?_
        refine Tw.lp (v := .int .i64 (((((cy + x11) + x16) % 65536) : Nat) : Int)) rfl rfl (run_bin rfl (vx := (.int .i64 ((((cy + x11) + x16) : Nat) : Int))) (vy := (.int .i64 ((65536 : Nat) : Int))) (by kernel_rfl) (by kernel_rfl) fun w => bn_rem (z := (((cy + x11) + x16) % 65536)) rfl (by omega) w) ?_
        refine wpL_new (fun g => .slice (some ⟨g, 0, none⟩) 1 1) (obi := .cells #[.int .i64 (((((cy + x11) + x16) % 65536) : Nat) : Int)] 3 (0, 0)) rfl rfl (fun _ => by kernel_rfl) (fun _ => by simp only [List.setIfInBounds_toArray, List.set_cons_succ, List.set_cons_zero] <;> rfl) fun g17 Bg17 Fg17 => ?_
        obtain dj18_0 : Dk g17 Ko := by simpa only [dj_app_l, dj_app_r, dj_cons_l, dj_cons_r, dj_nil_l, dj_nil_r, dk_app, dk_cons, dk_nil, and_true, true_and, and_assoc] using (show Dk g17 Ko from Fg17)
        refine wpL_g (AppO w 3 1 [] (i + 1) ((nums R) ++ [.int .i64 (((((cy + x11) + x16) % 65536) : Nat) : Int)])) rfl rfl (app_own el_int (m := 1) (c := 1) (news := [.int .i64 (((((cy + x11) + x16) % 65536) : Nat) : Int)]) rfl (by kernel_rfl) (by kernel_rfl) (.head _) hO (fun p hp => by simp only [List.mem_cons, List.mem_append, List.nil_append, List.not_mem_nil, or_assoc, or_false, false_or, hp, or_true, true_or]) (fun _ h => by cases h) rfl (by simp [strV, Value.oneCell']) (by omega) (by omega) (by omega)) (fun _ => by simp only [List.setIfInBounds_toArray, List.set_cons_succ, List.set_cons_zero] <;> rfl) ?_
        rintro v19 Kl19 ⟨_, O19, N19, rfl⟩
        refine Tw.lm (v := v19) rfl rfl ?_
        refine wpL_done (fun W28 hW28 => ?_)
        refine (show Code.wp _ _ _ _ _ from ?_)
        refine wp_region_L (W0 := w) Kl19 (hW28) ?_
        refine Tw.lm (v := .int .i64 ((((cy + x11) + x16) : Nat) : Int)) rfl rfl ?_
        refine Tw.lp (v := .int .i64 (((((cy + x11) + x16) / 65536) : Nat) : Int)) rfl rfl (run_bin rfl (vx := (.int .i64 ((((cy + x11) + x16) : Nat) : Int))) (vy := (.int .i64 ((65536 : Nat) : Int))) (by kernel_rfl) (by kernel_rfl) fun w => bn_quo (z := (((cy + x11) + x16) / 65536)) rfl (by omega) (wr_i64 (by omega)) w) ?_
        refine Tw.lm (v := .int .i64 (((((cy + x11) + x16) / 65536) : Nat) : Int)) rfl rfl ?_
        refine wpL_done (fun W29 hW29 => ?_)
        refine (show Code.wp _ _ _ _ _ from ?_)
        refine wp_region_L (W0 := w) Kl19 (hW29) ?_
        refine Tw.lm (v := .int .i64 ((i : Nat) : Int)) rfl rfl ?_
        refine Tw.lp (v := .int .i64 (((i + 1) : Nat) : Int)) rfl rfl (run_bin rfl (vx := (.int .i64 ((i : Nat) : Int))) (vy := (.int .i64 ((1 : Nat) : Int))) (by kernel_rfl) (by kernel_rfl) fun w => bn_add (z := (i + 1)) rfl (wr_i64 (by omega)) w) ?_
        refine Tw.lm (v := .int .i64 (((i + 1) : Nat) : Int)) rfl rfl ?_
        refine wpL_done (fun W30 hW30 => ?_)
        go_roundw
        case rel =>
          repeat apply Exists.intro
          exact ⟨⟨i + 1, (((cy + x11) + x16) / 65536), (R ++ [((cy + x11) + x16) % 65536]), v19, Kl19, (own_snoc O19), (AddI.step (s := ((cy + x11) + x16)) hI (.inl ⟨h1, hx11⟩) (.inl ⟨h4, hx16⟩) (by omega) (by omega)), (by omega), rfl, rfl, rfl, (hW30.sub (fun p hp => by first | exact hp | (simp only [List.mem_cons, List.mem_append, List.nil_append, List.not_mem_nil, or_assoc, or_false, false_or, List.cons_append, List.append_assoc] at hp ⊢ <;> grind)))⟩, rfl⟩
        case measure => (show (max (cd a).length (cd b).length) + 2 - (intOf (.int .i64 (((i + 1) : Nat) : Int))).toNat < (max (cd a).length (cd b).length) + 2 - (intOf (.int .i64 ((i : Nat) : Int))).toNat); simp only [intOf]; omega
end Go.Proofs.YtalmflgkbmnghaaGreatDoor
namespace Go.Proofs.YtalmflgkbmnghaaGreatDoor
open Go Go.RowKit Tw
set_option linter.unusedSimpArgs false
set_option linter.unusedVariables false
open Tf (dg R R_pos R_le R_succ dg_of_lt setd setd_eq)
structure DigI (n : Nat) (R : List Nat) (i : Nat) : Prop where
  ok : dOk R
  len : R.length = 2 * i
  val : dv R + 65536 ^ (2 * i) * (n / 65536 ^ (2 * i)) = n
theorem DigI.start (n : Nat) : DigI n [] 0 := ⟨dOk.nil, rfl, by simp [dv]⟩
theorem dg_q (n i : Nat) : dg n i = n / 65536 ^ (2 * i) % 4294967296 := by rw [← R_sq]; unfold dg; rfl
theorem dg_lt' (n i : Nat) : dg n i < 4294967296 := by rw [dg_q]; exact Nat.mod_lt _ (by omega)
theorem DigI.step {n : Nat} {R : List Nat} {i : Nat} (h : DigI n R i) : DigI n (R ++ [dg n i % 65536] ++ [dg n i / 65536]) (i + 1) := by
  obtain ⟨h1, h2, h3⟩ := h
  have hq := dg_q n i
  have hl := dg_lt' n i
  refine ⟨(h1.snoc (Nat.mod_lt _ (by omega))).snoc (by omega), by simp [h2]; omega, ?_⟩
  have e : n / 65536 ^ (2 * (i + 1)) = n / 65536 ^ (2 * i) / 4294967296 := by
    rw [show 2 * (i + 1) = 2 * i + 2 from by omega, Nat.pow_add, Nat.div_div_eq_div_mul]
  rw [dv_snoc, dv_snoc, List.length_append, h2, e, hq]
  conv => rhs; rw [← h3]
  generalize n / 65536 ^ (2 * i) = q
  rw [show 2 * (i + 1) = 2 * i + 2 from by omega, Nat.pow_add, show ([q % 4294967296 % 65536] : List Nat).length = 1 from rfl, Nat.pow_add]
  generalize 65536 ^ (2 * i) = m
  simp only [Nat.add_assoc, Nat.mul_assoc, ← Nat.mul_add]
  congr 2
  omega
theorem DigI.end {n : Nat} {R : List Nat} {i : Nat} (h : DigI n R i) (hi : i = 8) (hn : n < 65536 ^ (2 * 8)) : dv R = n := by
  have h3 := h.val
  subst hi
  rw [Nat.div_eq_of_lt hn, Nat.mul_zero] at h3
  omega
theorem one_is {x e : Nat} (h : (cd x).length = 1) (he : (cd x)[0]? = some e) : decide (e = 1) = decide (x = 1) := by
  have h1 := dv_take he
  rw [List.take_of_length_le (by omega), dv_cd] at h1
  simp [dv] at h1
  rw [h1]
theorem one_not {x : Nat} (h : ¬ (cd x).length = 1) : false = decide (x = 1) := by
  rw [eq_comm, decide_eq_false_iff_not]
  rintro rfl
  exact h (by rw [cd_pos (by omega)]; rfl)
theorem own_two {W0 : Base} {E : TypeId} {v : Value} {n d e : Nat} {l : List Nat} {K : List (Nat × Obj)} (h : OwnL W0 E 1 v (2 * n + 2) (nums l ++ [.int .i64 ((d : Nat) : Int), .int .i64 ((e : Nat) : Int)]) K) : OwnL W0 E 1 v (2 * (n + 1)) (nums (l ++ [d] ++ [e])) K := by
  have : nums (l ++ [d] ++ [e]) = nums l ++ [.int .i64 ((d : Nat) : Int), .int .i64 ((e : Nat) : Int)] := by simp [nums]
  rw [this]
  exact h
set_option maxRecDepth 100000 in
set_option maxHeartbeats 20000000 in
theorem rdigits_any (n : Nat) (hn : n < R 8) (w : World) : Calls Tryz.prog 43 #[.agg (fa 8 (dg n))] w fun e w' => Ans w (cd n) e w' := by
  have hn2 : n < 65536 ^ (2 * 8) := by rw [← R_sq]; exact hn
  have ln16 : (cd n).length ≤ 16 := cd_le.2 hn2
  go_enter Tryz.func43, Tryz.ntmps43
  refine wp_seq ?_
  refine wp_region_L (W0 := w) [] (KS.start w) ?_
  refine wpL_new (fun g => .pointer (some ⟨g, 0, none⟩)) (obi := .cells (fa 8 (dg n)) 23 (0, 0)) rfl rfl (fun _ => by kernel_rfl) (fun _ => by simp only [List.setIfInBounds_toArray, List.set_cons_succ, List.set_cons_zero] <;> rfl) fun g1 Bg1 Fg1 => ?_
  refine Tw.lm (v := .slice none 0 0) rfl rfl ?_
  refine wpL_done (fun W1 hW1 => ?_)
  refine (show Code.wp _ _ _ _ _ from ?_)
  refine wp_seq ?_
  refine wp_region_L (W0 := w) [(g1, .cells (fa 8 (dg n)) 23 (0, 0))] (hW1) ?_
  refine Tw.lm (v := .slice none 0 0) rfl rfl ?_
  refine wpL_done (fun W2 hW2 => ?_)
  refine (show Code.wp _ _ _ _ _ from ?_)
  refine wp_seq ?_
  refine wp_seq ?_
  refine wp_region_L (W0 := w) [(g1, .cells (fa 8 (dg n)) 23 (0, 0))] (hW2) ?_
  refine Tw.lm (v := .int .i64 0) rfl rfl ?_
  refine wpL_done (fun W3 hW3 => ?_)
  refine (show Code.wp _ _ _ _ _ from ?_)
  refine wp_block ?_
  go_loopw [4, 3] (fun u4 u3 wr => ∃ (i : Nat) (R : List Nat) (vo : Value) (Ko : List (Nat × Obj)), (OwnL (w : Base) 3 1 vo (2 * i) (nums R) Ko) ∧ (DigI n R i) ∧ (i ≤ 8) ∧ (Dk g1 Ko) ∧ u4 = .int .i64 ((i : Nat) : Int) ∧ vo = u3 ∧ KS w ((g1, .cells (fa 8 (dg n)) 23 (0, 0)) :: Ko) wr) (fun u4 _ _ => 8 - (intOf u4).toNat)
  case atStart => exact ⟨0, [], (.slice none 0 0), [], (OwnL.nil _ _ _), (DigI.start n), (by omega), (show Dk g1 [] from (by (try simp only [dj_app_l, dj_app_r, dj_cons_l, dj_cons_r, dj_nil_l, dj_nil_r, dk_app, dk_cons, dk_nil, and_true, true_and, and_assoc]); repeat' (first | trivial | assumption | exact Dj.symm (by assumption) | exact Ne.symm (by assumption) | apply And.intro))), rfl, rfl, (hW3.sub (fun p hp => by first | exact hp | (simp only [List.mem_cons, List.mem_append, List.nil_append, List.not_mem_nil, or_assoc, or_false, false_or, List.cons_append, List.append_assoc] at hp ⊢ <;> grind)))⟩
  case round =>
    obtain ⟨i, R, vo, Ko, hO, hI, hi, dh2_0, rfl, rfl, hL4⟩ := hrel
    have hdg := dg_lt' n i
    have hRl := hI.len
    refine wp_seq ?_
    refine wp_seq ?_
    refine wp_region_L (W0 := w) ((g1, .cells (fa 8 (dg n)) 23 (0, 0)) :: Ko) (hL4) ?_
    refine Tw.lm (v := .int .i64 ((i : Nat) : Int)) rfl rfl ?_
    refine Tw.lp (v := .bool (decide (i < 8))) rfl rfl (run_bin rfl (vx := (.int .i64 ((i : Nat) : Int))) (vy := (.int .i64 ((8 : Nat) : Int))) (by kernel_rfl) (by kernel_rfl) fun w => bn_lss rfl w) ?_
    refine wpL_done (fun W5 hW5 => ?_)
    refine (show Code.wp _ _ _ _ _ from ?_)
    cases hd1 : (decide (i < 8)) with
    | false =>
      have h1 : ¬ (i < 8) := of_decide_eq_false hd1
      clear hd1
      refine wp_cond_false rfl ?_
      refine wp_exit ?_
      refine (show Code.wp _ _ _ _ _ from ?_)
      refine wp_seq ?_
      refine wp_region_L (W0 := w) ((g1, .cells (fa 8 (dg n)) 23 (0, 0)) :: Ko) (hW5) ?_
      refine Tw.lm (v := vo) rfl rfl ?_
      obtain ⟨p3, c3, rfl, hc3, HN3, HF3⟩ := own_ns hO
      refine Tw.lv (v := .slice p3 ((cd n).length) c3) rfl rfl (yb_call (f := 81) (args := #[.slice p3 (2 * i) c3]) (fun _ => by kernel_rfl) fun W hW => trim_any R n (2 * i) p3 c3 hI.ok (hI.end (by omega) hn2) (own_len hO).symm hc3 (by omega) W ((HN3.mono (fun q hq => by first | exact hq | (simp only [List.mem_cons, List.mem_append, List.nil_append, List.not_mem_nil, or_assoc, or_false, false_or] at hq ⊢ <;> grind))) W hW)) ?_
      refine Tw.lm (v := .slice p3 ((cd n).length) c3) rfl rfl ?_
      refine wpL_done (fun W6 hW6 => ?_)
      refine (show Code.wp _ _ _ _ _ from ?_)
      refine wp_ret ?_
      try simp only [inBlock_ret, then_ret]
      refine bodyPost_ret (v := .slice p3 ((cd n).length) c3) ?_ rfl ?_
      · kernel_rfl
      · exact ⟨_, _, rfl, (Nat.le_trans (cd_trim_le hI.ok (hI.end (by omega) hn2) (own_len hO).symm) hc3), slf_trim (HF3 _ _ (hW6.sub (fun q hq => by first | exact hq | (simp only [List.mem_cons, List.mem_append, List.nil_append, List.not_mem_nil, or_assoc, or_false, false_or] at hq ⊢ <;> grind))) rfl (Below.refl _ _)) hI.ok (hI.end (by omega) hn2), hW6.1⟩
    | true =>
      have h1 : i < 8 := of_decide_eq_true hd1
      clear hd1
      refine wp_cond_true rfl ?_
      refine wp_skip ?_
      refine (show Code.wp _ _ _ _ _ from ?_)
      refine wp_seq ?_
      refine wp_block ?_
      refine wp_region_V (W0 := w) ((g1, .cells (fa 8 (dg n)) 23 (0, 0)) :: Ko) (by kernel_rfl) (hW5) ?_
      refine vm (i := 0) (v := vo) rfl rfl rfl ?_
      refine vm (i := 1) (v := .int .i64 ((i : Nat) : Int)) rfl rfl rfl ?_
      refine vp (i := 2) (v := .pointer (some ⟨g1, 0 + i * 1, none⟩)) rfl rfl rfl (run_idxA (j := .i64) (b := g1) (off := 0) (k := i) (sz := 1) rfl Tryz.underlying23 (by kernel_rfl) (by kernel_rfl) (by kernel_rfl) (by omega)) ?_
      refine vv (i := 3) (v := .int .u32 (((dg n i) : Nat) : Int)) rfl rfl rfl (yb_cell rfl (by kernel_rfl) (.head _) Tryz.underlying22 rfl (fa_at (by omega))) ?_
      refine vp (i := 4) (v := .int .u32 ((((dg n i) % 65536) : Nat) : Int)) rfl rfl rfl (run_bin rfl (vx := (.int .u32 (((dg n i) : Nat) : Int))) (vy := (.int .u32 ((65536 : Nat) : Int))) (by kernel_rfl) (by kernel_rfl) fun w => bn_rem (z := ((dg n i) % 65536)) rfl (by omega) w) ?_
      refine vp (i := 5) (v := .int .i64 ((((dg n i) % 65536) : Nat) : Int)) rfl rfl rfl (run_conv rfl (vx := (.int .u32 ((((dg n i) % 65536) : Nat) : Int))) (by kernel_rfl) fun w => cv_int Tryz.underlying22 Tryz.underlying3 (wr_i64 (by omega)) w) ?_
      refine vm (i := 6) (v := .int .i64 ((i : Nat) : Int)) rfl rfl rfl ?_
      refine vp (i := 7) (v := .pointer (some ⟨g1, 0 + i * 1, none⟩)) rfl rfl rfl (run_idxA (j := .i64) (b := g1) (off := 0) (k := i) (sz := 1) rfl Tryz.underlying23 (by kernel_rfl) (by kernel_rfl) (by kernel_rfl) (by omega)) ?_
      refine vv (i := 8) (v := .int .u32 (((dg n i) : Nat) : Int)) rfl rfl rfl (yb_cell rfl (by kernel_rfl) (.head _) Tryz.underlying22 rfl (fa_at (by omega))) ?_
      refine vp (i := 9) (v := .int .u32 ((((dg n i) / 65536) : Nat) : Int)) rfl rfl rfl (run_bin rfl (vx := (.int .u32 (((dg n i) : Nat) : Int))) (vy := (.int .u32 ((65536 : Nat) : Int))) (by kernel_rfl) (by kernel_rfl) fun w => bn_quo (z := ((dg n i) / 65536)) rfl (by omega) (wr_u32 (by omega)) w) ?_
      refine vp (i := 10) (v := .int .i64 ((((dg n i) / 65536) : Nat) : Int)) rfl rfl rfl (run_conv rfl (vx := (.int .u32 ((((dg n i) / 65536) : Nat) : Int))) (by kernel_rfl) fun w => cv_int Tryz.underlying22 Tryz.underlying3 (wr_i64 (by omega)) w) ?_
      refine wpV_ns (fun g => .slice (some ⟨g, 0, none⟩) 2 2) (i := 11) (obi := .cells #[.int .i64 ((((dg n i) % 65536) : Nat) : Int), .int .i64 ((((dg n i) / 65536) : Nat) : Int)] 3 (0, 0)) rfl rfl rfl (by kernel_rfl) (fun _ => by kernel_rfl) (fun _ => by simp only [List.setIfInBounds_toArray, List.set_cons_succ, List.set_cons_zero] <;> rfl) fun g4 Bg4 Fg4 => ?_
      obtain ⟨dj5_0, dj5_1⟩ : g1 ≠ g4 ∧ Dk g4 Ko := by simpa only [dj_app_l, dj_app_r, dj_cons_l, dj_cons_r, dj_nil_l, dj_nil_r, dk_app, dk_cons, dk_nil, and_true, true_and, and_assoc] using (show Dk g4 ((g1, .cells (fa 8 (dg n)) 23 (0, 0)) :: Ko) from Fg4)
      refine wpV_g (AppO w 3 1 [(g1, .cells (fa 8 (dg n)) 23 (0, 0))] ((2 * i) + 2) ((nums R) ++ [.int .i64 ((((dg n i) % 65536) : Nat) : Int), .int .i64 ((((dg n i) / 65536) : Nat) : Int)])) (i := 12) rfl rfl rfl (by kernel_rfl) rfl (app_own el_int (m := 2) (c := 2) (news := [.int .i64 ((((dg n i) % 65536) : Nat) : Int), .int .i64 ((((dg n i) / 65536) : Nat) : Int)]) rfl (by kernel_rfl) (by kernel_rfl) (.head _) hO (fun p hp => by simp only [List.mem_cons, List.mem_append, List.nil_append, List.not_mem_nil, or_assoc, or_false, false_or, hp, or_true, true_or]) (fun p hp => ⟨by simp only [List.mem_cons, List.mem_append, List.nil_append, List.not_mem_nil, or_assoc, or_false, false_or] at hp ⊢ <;> grind, (show Dj [(g1, .cells (fa 8 (dg n)) 23 (0, 0))] Ko from (by (try simp only [dj_app_l, dj_app_r, dj_cons_l, dj_cons_r, dj_nil_l, dj_nil_r, dk_app, dk_cons, dk_nil, and_true, true_and, and_assoc]); repeat' (first | trivial | assumption | exact Dj.symm (by assumption) | exact Ne.symm (by assumption) | apply And.intro))) p hp⟩) rfl (by simp [strV, Value.oneCell']) (by omega) (by omega) (by omega)) (fun _ => by simp only [List.setIfInBounds_toArray, List.set_cons_succ, List.set_cons_zero] <;> rfl) ?_
      rintro v6 K9 ⟨Kl6, O6, N6, rfl⟩
      obtain dj7_0 : Dk g1 Kl6 := by simpa only [dj_app_l, dj_app_r, dj_cons_l, dj_cons_r, dj_nil_l, dj_nil_r, dk_app, dk_cons, dk_nil, and_true, true_and, and_assoc] using (show Dj [(g1, .cells (fa 8 (dg n)) 23 (0, 0))] Kl6 from N6)
      refine vm (i := 13) (v := v6) rfl rfl rfl ?_
      refine wpV_done (by kernel_rfl) (fun W7 hW7 => ?_) _
      refine (show Code.wp _ _ _ _ _ from ?_)
      refine wp_region_L (W0 := w) ((g1, .cells (fa 8 (dg n)) 23 (0, 0)) :: Kl6) (hW7) ?_
      refine Tw.lm (v := .int .i64 ((i : Nat) : Int)) rfl rfl ?_
      refine Tw.lp (v := .int .i64 (((i + 1) : Nat) : Int)) rfl rfl (run_bin rfl (vx := (.int .i64 ((i : Nat) : Int))) (vy := (.int .i64 ((1 : Nat) : Int))) (by kernel_rfl) (by kernel_rfl) fun w => bn_add (z := (i + 1)) rfl (wr_i64 (by omega)) w) ?_
      refine Tw.lm (v := .int .i64 (((i + 1) : Nat) : Int)) rfl rfl ?_
      refine wpL_done (fun W8 hW8 => ?_)
      go_roundw
      case rel =>
        repeat apply Exists.intro
        exact ⟨⟨i + 1, (R ++ [dg n i % 65536] ++ [dg n i / 65536]), v6, Kl6, (by have h := O6; exact own_two h), hI.step, (by omega), (show Dk g1 Kl6 from (by (try simp only [dj_app_l, dj_app_r, dj_cons_l, dj_cons_r, dj_nil_l, dj_nil_r, dk_app, dk_cons, dk_nil, and_true, true_and, and_assoc]); repeat' (first | trivial | assumption | exact Dj.symm (by assumption) | exact Ne.symm (by assumption) | apply And.intro))), rfl, rfl, (hW8.sub (fun p hp => by first | exact hp | (simp only [List.mem_cons, List.mem_append, List.nil_append, List.not_mem_nil, or_assoc, or_false, false_or, List.cons_append, List.append_assoc] at hp ⊢ <;> grind)))⟩, rfl⟩
      case measure => (show 8 - (intOf (.int .i64 (((i + 1) : Nat) : Int))).toNat < 8 - (intOf (.int .i64 ((i : Nat) : Int))).toNat); simp only [intOf]; omega
set_option maxRecDepth 100000 in
set_option maxHeartbeats 4000000 in
theorem rone_any (x : Nat) (p : Option Addr) (c : Nat) (w : World) (hp : SLV w p (nums (cd x))) : Calls Tryz.prog 50 #[.slice p (cd x).length c] w fun e w' => e = .returned (.bool (decide (x = 1))) ∧ Below w.heap.size w w' := by
  have HP : NS (w : Base) p (cd x) [] := NS.base hp
  clear hp
  obtain ⟨S, hS⟩ : ∃ S, S = decide (x = 1) := ⟨_, rfl⟩
  rw [← hS]
  go_enter Tryz.func50, Tryz.ntmps50
  refine wp_seq ?_
  refine wp_region_L (W0 := w) [] (KS.start w) ?_
  refine Tw.lm (v := .bool false) rfl rfl ?_
  refine wpL_done (fun W1 hW1 => ?_)
  refine (show Code.wp _ _ _ _ _ from ?_)
  refine wp_seq ?_
  refine wp_region_L (W0 := w) [] (hW1) ?_
  refine Tw.lm (v := .slice p ((cd x).length) c) rfl rfl ?_
  refine Tw.lp (v := .int .i64 ((((cd x).length) : Nat) : Int)) rfl rfl (run_lenL (p := p) (cap := c) (n := ((cd x).length)) rfl Tryz.underlying32 (by kernel_rfl)) ?_
  refine Tw.lp (v := .bool (decide (((cd x).length) = 1))) rfl rfl (run_bin rfl (vx := (.int .i64 ((((cd x).length) : Nat) : Int))) (vy := (.int .i64 ((1 : Nat) : Int))) (by kernel_rfl) (by kernel_rfl) fun w => bn_eql rfl w) ?_
  refine Tw.lm (v := .bool (decide (((cd x).length) = 1))) rfl rfl ?_
  cases hd1 : (decide (((cd x).length) = 1)) with
  | false =>
    have h1 : ¬ (((cd x).length) = 1) := of_decide_eq_false hd1
    clear hd1
    refine Tw.ln rfl ?_
    refine Tw.ln rfl ?_
    refine Tw.ln rfl ?_
    refine Tw.ln rfl ?_
    refine Tw.lm (v := .bool false) rfl rfl ?_
    refine Tw.lm (v := .bool false) rfl rfl ?_
    refine wpL_done (fun W2 hW2 => ?_)
    refine (show Code.wp _ _ _ _ _ from ?_)
    refine wp_ret ?_
    try simp only [inBlock_ret, then_ret]
    refine bodyPost_ret (v := .bool false) ?_ rfl ?_
    · kernel_rfl
    · exact ⟨(bool_is ((one_not h1).trans hS.symm)), hW2.1⟩
  | true =>
    have h1 : ((cd x).length) = 1 := of_decide_eq_true hd1
    clear hd1
    refine Tw.lm (v := .slice p ((cd x).length) c) rfl rfl ?_
    obtain ⟨b1, f1, hp1, hc1⟩ := (HP.mono (fun q hq => by first | exact hq | (simp only [List.mem_cons, List.mem_append, List.nil_append, List.not_mem_nil, or_assoc, or_false, false_or] at hq ⊢ <;> grind))).at hW1 (k := 0) (by omega)
    refine Tw.lp (v := .pointer (some ⟨b1, f1 + 0 * 1, none⟩)) rfl rfl (run_idxQ (p := p) (cap := c) (n := ((cd x).length)) (j := .i64) (k := 0) (sz := 1) rfl Tryz.underlying32 (by kernel_rfl) (by kernel_rfl) hp1 (by kernel_rfl) (by omega)) ?_
    obtain ⟨x2, hx2⟩ : ∃ xq_, ((cd x) : List Nat)[0]? = some xq_ := get_ex (show 0 < ((cd x) : List Nat).length by omega)
    have lx2 : x2 < 65536 := dOk.at (cd_ok x) hx2
    refine Tw.lv (v := .int .i64 ((x2 : Nat) : Int)) rfl rfl (yb_ns (off := f1 + 0 * 1) rfl (by kernel_rfl) (fun W hW => hc1 W (hW.sub (fun q hq => by first | exact hq | (simp only [List.mem_cons, List.mem_append, List.nil_append, List.not_mem_nil, or_assoc, or_false, false_or] at hq ⊢ <;> grind))) _ _ hx2) Tryz.underlying3 rfl) ?_
    refine Tw.lp (v := .bool (decide (x2 = 1))) rfl rfl (run_bin rfl (vx := (.int .i64 ((x2 : Nat) : Int))) (vy := (.int .i64 ((1 : Nat) : Int))) (by kernel_rfl) (by kernel_rfl) fun w => bn_eql rfl w) ?_
    refine Tw.lm (v := .bool (decide (x2 = 1))) rfl rfl ?_
    refine Tw.lm (v := .bool (decide (x2 = 1))) rfl rfl ?_
    refine wpL_done (fun W3 hW3 => ?_)
    refine (show Code.wp _ _ _ _ _ from ?_)
    refine wp_ret ?_
    try simp only [inBlock_ret, then_ret]
    refine bodyPost_ret (v := .bool (decide (x2 = 1))) ?_ rfl ?_
    · kernel_rfl
    · exact ⟨(bool_is ((one_is h1 hx2).trans hS.symm)), hW3.1⟩
end Go.Proofs.YtalmflgkbmnghaaGreatDoor
namespace Go.Proofs.YtalmflgkbmnghaaGreatDoor
open Go Go.RowKit Tw
set_option linter.unusedSimpArgs false
set_option linter.unusedVariables false
open Tf (dg R R_pos R_le R_succ dg_of_lt setd setd_eq)
theorem cd_mul_len (x y : Nat) : (cd (x * y)).length ≤ (cd x).length + (cd y).length := by
  rw [cd_le, Nat.pow_add]
  rcases Nat.eq_zero_or_pos (x * y) with h | h
  · rw [h]; exact Nat.mul_pos (Nat.pow_pos (by omega)) (Nat.pow_pos (by omega))
  · exact Nat.mul_lt_mul'' (cd_hi x) (cd_hi y)
theorem cd_drop_len (b k : Nat) : (cd (dv ((cd b).drop k))).length ≤ (cd b).length := by
  rw [← cd_drop b k, List.length_drop]; omega
theorem mul_len {a b k m : Nat} (h : m = a * dv ((cd b).drop k)) : (cd m).length ≤ (cd a).length + (cd b).length := by
  have h1 := cd_mul_len a (dv ((cd b).drop k))
  have h2 := cd_drop_len b k
  rw [h]; omega
theorem cd_base_len (m : Nat) : (cd (65536 * m)).length ≤ (cd m).length + 1 := by
  rw [cd_le, Nat.pow_succ]
  have := cd_hi m
  omega
set_option maxRecDepth 100000 in
set_option maxHeartbeats 20000000 in
theorem rmul_any (a b : Nat) (p q : Option Addr) (c d : Nat) (la : (cd a).length ≤ 20000) (lb : (cd b).length ≤ 20000) (w : World) (hp : SLV w p (nums (cd a))) (hq : SLV w q (nums (cd b))) : Calls Tryz.prog 44 #[.slice p (cd a).length c, .slice q (cd b).length d] w fun e w' => Ans w (cd (a * b)) e w' := by
  have HP : NS (w : Base) p (cd a) [] := NS.base hp
  have HQ : NS (w : Base) q (cd b) [] := NS.base hq
  clear hp hq
  go_enter Tryz.func44, Tryz.ntmps44
  refine wp_seq ?_
  refine wp_region_L (W0 := w) [] (KS.start w) ?_
  refine Tw.lm (v := .slice none 0 0) rfl rfl ?_
  refine wpL_done (fun W1 hW1 => ?_)
  refine (show Code.wp _ _ _ _ _ from ?_)
  refine wp_seq ?_
  refine wp_region_L (W0 := w) [] (hW1) ?_
  refine Tw.lm (v := .slice none 0 0) rfl rfl ?_
  refine wpL_done (fun W2 hW2 => ?_)
  refine (show Code.wp _ _ _ _ _ from ?_)
  refine wp_seq ?_
  refine wp_seq ?_
  refine wp_region_L (W0 := w) [] (hW2) ?_
  refine Tw.lm (v := .slice q ((cd b).length) d) rfl rfl ?_
  refine Tw.lp (v := .int .i64 ((((cd b).length) : Nat) : Int)) rfl rfl (run_lenL (p := q) (cap := d) (n := ((cd b).length)) rfl Tryz.underlying32 (by kernel_rfl)) ?_
  refine Tw.lp (v := .int .i64 (((((cd b).length) : Nat) : Int) - 1)) rfl rfl (run_bin rfl (vx := (.int .i64 ((((cd b).length) : Nat) : Int))) (vy := (.int .i64 ((1 : Nat) : Int))) (by kernel_rfl) (by kernel_rfl) fun w => bi_sub (z := (((((cd b).length) : Nat) : Int) - 1)) rfl (wi_i64 (by omega)) w) ?_
  refine Tw.lm (v := .int .i64 (((((cd b).length) : Nat) : Int) - 1)) rfl rfl ?_
  refine wpL_done (fun W3 hW3 => ?_)
  refine (show Code.wp _ _ _ _ _ from ?_)
  refine wp_block ?_
  go_loopw [6, 5] (fun u6 u5 wr => ∃ (z : Int) (k : Nat) (po : Option Addr) (co : Nat) (m : Nat) (Kt : List (Nat × Obj)), (NS (w : Base) po (cd m) Kt) ∧ (∀ W3, KS (w : Base) Kt W3 → SLF w W3 po (nums (cd m))) ∧ ((cd m).length ≤ co) ∧ (z = (k : Int) - 1) ∧ (k ≤ (cd b).length) ∧ (m = a * dv ((cd b).drop k)) ∧ ((cd m).length ≤ 40000) ∧ u6 = .int .i64 z ∧ u5 = .slice po ((cd m).length) co ∧ KS w Kt wr) (fun u6 _ _ => (intOf u6 + 1).toNat)
  case atStart => exact ⟨(((((cd b).length) : Nat) : Int) - 1), (cd b).length, none, 0, 0, [], NS.nil, (fun _ _ => .inl (by rw [cd_zero]; rfl)), (Nat.zero_le _), rfl, (Nat.le_refl _), (by rw [drop_big (Nat.le_refl _), Nat.mul_zero]), (by rw [cd_zero]; simp), rfl, rfl, (hW3.sub (fun p hp => by first | exact hp | (simp only [List.mem_cons, List.mem_append, List.nil_append, List.not_mem_nil, or_assoc, or_false, false_or, List.cons_append, List.append_assoc] at hp ⊢ <;> grind)))⟩
  case round =>
    obtain ⟨z, k, po, co, m, Kt, HO, HF, hco, hz, hk, hm, hml, rfl, rfl, hL4⟩ := hrel
    refine wp_seq ?_
    refine wp_seq ?_
    refine wp_region_L (W0 := w) Kt (hL4) ?_
    refine Tw.lm (v := .int .i64 z) rfl rfl ?_
    refine Tw.lp (v := .bool (!(decide (z < 0)))) rfl rfl (run_bin rfl (vx := (.int .i64 z)) (vy := (.int .i64 0)) (by kernel_rfl) (by kernel_rfl) fun w => bi_geq rfl w) ?_
    refine wpL_done (fun W5 hW5 => ?_)
    refine (show Code.wp _ _ _ _ _ from ?_)
    cases hd1 : (decide (z < 0)) with
    | false =>
      have h1 : ¬ (z < 0) := of_decide_eq_false hd1
      clear hd1
      obtain ⟨j, rfl⟩ := Int.eq_ofNat_of_zero_le (show 0 ≤ z by omega)
      obtain rfl : k = j + 1 := by omega
      refine wp_cond_true rfl ?_
      refine wp_skip ?_
      refine (show Code.wp _ _ _ _ _ from ?_)
      refine wp_seq ?_
      refine wp_block ?_
      refine wp_region_V (W0 := w) Kt (by kernel_rfl) (hW5) ?_
      refine vm (i := 1) (v := .slice po ((cd m).length) co) rfl rfl rfl ?_
      refine vm (i := 4) (v := .slice p ((cd a).length) c) rfl rfl rfl ?_
      refine vm (i := 5) (v := .slice q ((cd b).length) d) rfl rfl rfl ?_
      refine vm (i := 6) (v := .int .i64 ((j : Nat) : Int)) rfl rfl rfl ?_
      obtain ⟨b1, f1, hp1, hc1⟩ := HQ.at (hW5.sub (fun q hq => by cases hq)) (k := j) (by omega)
      refine vp (i := 7) (v := .pointer (some ⟨b1, f1 + j * 1, none⟩)) rfl rfl rfl (run_idxQ (p := q) (cap := d) (n := ((cd b).length)) (j := .i64) (k := j) (sz := 1) rfl Tryz.underlying32 (by kernel_rfl) (by kernel_rfl) hp1 (by kernel_rfl) (by omega)) ?_
      obtain ⟨x2, hx2⟩ : ∃ xq_, ((cd b) : List Nat)[j]? = some xq_ := get_ex (show j < ((cd b) : List Nat).length by omega)
      have lx2 : x2 < 65536 := dOk.at (cd_ok b) hx2
      refine vb (i := 8) (v := .int .i64 ((x2 : Nat) : Int)) rfl rfl rfl (yb_ns (off := f1 + j * 1) rfl (by kernel_rfl) (fun W hW => hc1 W hW _ _ hx2) Tryz.underlying3 rfl) ?_
      refine wpV_ns (fun g => .slice (some ⟨g, 0, none⟩) 1 1) (i := 0) (obi := .cells #[.int .i64 0] 3 (0, 0)) rfl rfl rfl (by kernel_rfl) (fun _ => by kernel_rfl) (fun _ => by simp only [List.setIfInBounds_toArray, List.set_cons_succ, List.set_cons_zero] <;> rfl) fun g3 Bg3 Fg3 => ?_
      obtain dj4_0 : Dk g3 Kt := by simpa only [dj_app_l, dj_app_r, dj_cons_l, dj_cons_r, dj_nil_l, dj_nil_r, dk_app, dk_cons, dk_nil, and_true, true_and, and_assoc] using (show Dk g3 Kt from Fg3)
      refine wpV_g (AppO w 3 1 Kt (1 + ((cd m).length)) ((nums [0]) ++ nums (cd m))) (i := 2) rfl rfl rfl (by kernel_rfl) rfl (app_any el_int (m := ((cd m).length)) (news := nums (cd m)) rfl (by kernel_rfl) (by kernel_rfl) (src_ns (c := co) Tryz.underlying32 (HO.mono (fun q hq => by first | exact hq | (simp only [List.mem_cons, List.mem_append, List.nil_append, List.not_mem_nil, or_assoc, or_false, false_or] at hq ⊢ <;> grind))) rfl) (own_row (xs := (nums [0])) Bg3 rfl (by omega)) (fun p hp => by cases List.mem_singleton.1 hp; exact (.head _)) (fun p hp => ⟨by simp only [List.mem_cons, List.mem_append, List.nil_append, List.not_mem_nil, or_assoc, or_false, false_or] at hp ⊢ <;> grind, (show Dj Kt [(g3, .cells #[.int .i64 0] 3 (0, 0))] from (by (try simp only [dj_app_l, dj_app_r, dj_cons_l, dj_cons_r, dj_nil_l, dj_nil_r, dk_app, dk_cons, dk_nil, and_true, true_and, and_assoc]); repeat' (first | trivial | assumption | exact Dj.symm (by assumption) | exact Ne.symm (by assumption) | apply And.intro))) p hp⟩) (by omega) (by omega)) (fun _ => by simp only [List.setIfInBounds_toArray, List.set_cons_succ, List.set_cons_zero] <;> rfl) ?_
      rintro v5 K9 ⟨Kl5, O5, N5, rfl⟩
      replace O5 : OwnL w 3 1 v5 (1 + ((cd m).length)) (nums ([0] ++ (cd m))) Kl5 := by rw [nums_app]; exact O5
      obtain dj6_0 : Dj Kt Kl5 := by simpa only [dj_app_l, dj_app_r, dj_cons_l, dj_cons_r, dj_nil_l, dj_nil_r, dk_app, dk_cons, dk_nil, and_true, true_and, and_assoc] using (show Dj Kt Kl5 from N5)
      obtain ⟨p7, c7, rfl, hc7, HN7, HF7⟩ := own_ns O5
      refine wpV_c (i := 3) (fun u K2 => u = .slice p7 ((cd (65536 * m)).length) c7 ∧ K2 = (Kt ++ Kl5)) rfl rfl (by kernel_rfl) (by kernel_rfl) (fun _ => (by kernel_rfl)) (fun W hW => (trim_any ([0] ++ (cd m)) (65536 * m) (1 + ((cd m).length)) p7 c7 ((show dOk [0] from fun z hz => by cases List.mem_singleton.1 hz; decide).app (cd_ok m)) (dv_append0 m) (own_len O5).symm hc7 (by omega) W ((HN7.mono (fun q hq => by first | exact hq | (simp only [List.mem_cons, List.mem_append, List.nil_append, List.not_mem_nil, or_assoc, or_false, false_or] at hq ⊢ <;> grind))) W hW)).mono fun e w2 hh => ⟨_, _, hh.1, KS.below hW hh.2, rfl, rfl⟩) (fun _ _ h => h.2 ▸ fun _ hp => hp) (fun _ => by simp only [List.setIfInBounds_toArray, List.set_cons_succ, List.set_cons_zero] <;> rfl) ?_
      rintro _ _ ⟨rfl, rfl⟩
      refine wpV_c (i := 9) (AnsG w (Kt ++ Kl5) (cd (a * x2))) rfl rfl (by kernel_rfl) (by kernel_rfl) (fun _ => (by kernel_rfl)) (fun W hW => (scale_any a x2 p c (by omega) (by omega) W ((HP.mono (fun q hq => by first | exact hq | (simp only [List.mem_cons, List.mem_append, List.nil_append, List.not_mem_nil, or_assoc, or_false, false_or] at hq ⊢ <;> grind))) W hW)).mono fun e w2 h => Ans.g h hW) (fun _ _ h => ansG_sub h) (fun _ => by simp only [List.setIfInBounds_toArray, List.set_cons_succ, List.set_cons_zero] <;> rfl) ?_
      rintro v8 _ ⟨q8, d8, T8, rfl, C8, H8, F8, J8, rfl⟩
      obtain ⟨dj9_0, dj9_1⟩ : Dj Kt T8 ∧ Dj Kl5 T8 := by simpa only [dj_app_l, dj_app_r, dj_cons_l, dj_cons_r, dj_nil_l, dj_nil_r, dk_app, dk_cons, dk_nil, and_true, true_and, and_assoc] using (show Dj (Kt ++ Kl5) T8 from J8)
      have hl1 := cd_base_len m
      have hl2 := cd_mul_len a x2
      have hl3 : (cd x2).length ≤ 1 := cd_le.2 (by omega)
      refine wpV_c (i := 10) (AnsG w ((Kt ++ Kl5) ++ T8) (cd ((65536 * m) + (a * x2)))) rfl rfl (by kernel_rfl) (by kernel_rfl) (fun _ => (by kernel_rfl)) (fun W hW => (radd_any (65536 * m) (a * x2) p7 q8 c7 d8 (by omega) (by omega) W (((ns_trim HN7 ((show dOk [0] from fun z hz => by cases List.mem_singleton.1 hz; decide).app (cd_ok m)) (dv_append0 m)).mono (fun q hq => by first | exact hq | (simp only [List.mem_cons, List.mem_append, List.nil_append, List.not_mem_nil, or_assoc, or_false, false_or] at hq ⊢ <;> grind))) W hW) ((H8.mono (fun q hq => by first | exact hq | (simp only [List.mem_cons, List.mem_append, List.nil_append, List.not_mem_nil, or_assoc, or_false, false_or] at hq ⊢ <;> grind))) W hW)).mono fun e w2 h => Ans.g h hW) (fun _ _ h => ansG_sub h) (fun _ => by simp only [List.setIfInBounds_toArray, List.set_cons_succ, List.set_cons_zero] <;> rfl) ?_
      rintro v10 _ ⟨q10, d10, T10, rfl, C10, H10, F10, J10, rfl⟩
      obtain ⟨dj11_0, dj11_1, dj11_2⟩ : Dj Kt T10 ∧ Dj Kl5 T10 ∧ Dj T8 T10 := by simpa only [dj_app_l, dj_app_r, dj_cons_l, dj_cons_r, dj_nil_l, dj_nil_r, dk_app, dk_cons, dk_nil, and_true, true_and, and_assoc] using (show Dj ((Kt ++ Kl5) ++ T8) T10 from J10)
      refine vm (i := 11) (v := .slice q10 ((cd ((65536 * m) + (a * x2))).length) d10) rfl rfl rfl ?_
      refine wpV_done (by kernel_rfl) (fun W6 hW6 => ?_) _
      refine (show Code.wp _ _ _ _ _ from ?_)
      refine wp_region_L (W0 := w) (((Kt ++ Kl5) ++ T8) ++ T10) (hW6) ?_
      refine Tw.lm (v := .int .i64 ((j : Nat) : Int)) rfl rfl ?_
      refine Tw.lp (v := .int .i64 (((j : Nat) : Int) - 1)) rfl rfl (run_bin rfl (vx := (.int .i64 ((j : Nat) : Int))) (vy := (.int .i64 ((1 : Nat) : Int))) (by kernel_rfl) (by kernel_rfl) fun w => bi_sub (z := (((j : Nat) : Int) - 1)) rfl (wi_i64 (by omega)) w) ?_
      refine Tw.lm (v := .int .i64 (((j : Nat) : Int) - 1)) rfl rfl ?_
      refine wpL_done (fun W7 hW7 => ?_)
      have e0 : (65536 * m) + (a * x2) = a * dv ((cd b).drop j) := by rw [hm]; have e := mul_step (a := a) hx2; rw [dv_append0] at e; exact e
      go_roundw
      case rel =>
        repeat apply Exists.intro
        exact ⟨⟨(((j : Nat) : Int) - 1), j, q10, d10, (65536 * m) + (a * x2), (Kt ++ (Kl5 ++ (T8 ++ T10))), (H10.mono (fun q hq => by first | exact hq | (simp only [List.mem_cons, List.mem_append, List.nil_append, List.not_mem_nil, or_assoc, or_false, false_or] at hq ⊢ <;> grind))), (fun W3 h => F10 W3 (h.sub (fun q hq => by first | exact hq | (simp only [List.mem_cons, List.mem_append, List.nil_append, List.not_mem_nil, or_assoc, or_false, false_or] at hq ⊢ <;> grind))) rfl), C10, rfl, (by omega), e0, (by have := mul_len e0; omega), rfl, rfl, (hW7.sub (fun p hp => by first | exact hp | (simp only [List.mem_cons, List.mem_append, List.nil_append, List.not_mem_nil, or_assoc, or_false, false_or, List.cons_append, List.append_assoc] at hp ⊢ <;> grind)))⟩, rfl⟩
      case measure => (show (intOf (.int .i64 (((j : Nat) : Int) - 1)) + 1).toNat < (intOf (.int .i64 ((j : Nat) : Int)) + 1).toNat); simp only [intOf]; omega
    | true =>
      have h1 : z < 0 := of_decide_eq_true hd1
      clear hd1
      refine wp_cond_false rfl ?_
      refine wp_exit ?_
      refine (show Code.wp _ _ _ _ _ from ?_)
      refine wp_seq ?_
      refine wp_region_L (W0 := w) Kt (hW5) ?_
      refine Tw.lm (v := .slice po ((cd m).length) co) rfl rfl ?_
      refine Tw.lv (v := .slice po ((cd m).length) co) rfl rfl (yb_call (f := 81) (args := #[.slice po ((cd m).length) co]) (fun _ => by kernel_rfl) fun W hW => trim_any (cd m) m ((cd m).length) po co (cd_ok m) (dv_cd m) rfl hco (by omega) W ((HO.mono (fun q hq => by first | exact hq | (simp only [List.mem_cons, List.mem_append, List.nil_append, List.not_mem_nil, or_assoc, or_false, false_or] at hq ⊢ <;> grind))) W hW)) ?_
      refine Tw.lm (v := .slice po ((cd m).length) co) rfl rfl ?_
      refine wpL_done (fun W8 hW8 => ?_)
      refine (show Code.wp _ _ _ _ _ from ?_)
      refine wp_ret ?_
      try simp only [inBlock_ret, then_ret]
      refine bodyPost_ret (v := .slice po ((cd m).length) co) ?_ rfl ?_
      · kernel_rfl
      · exact (by have h0 : k = 0 := (by omega); subst h0; rw [List.drop_zero, dv_cd] at hm; rw [← hm]; exact ⟨_, _, rfl, (Nat.le_trans (cd_trim_le (cd_ok m) (dv_cd m) rfl) hco), HF _ hW8, hW8.1⟩)
end Go.Proofs.YtalmflgkbmnghaaGreatDoor
namespace Go.Proofs.YtalmflgkbmnghaaGreatDoor
open Go Go.RowKit Tw
set_option linter.unusedSimpArgs false
set_option linter.unusedVariables false
open Tf (dg R R_pos R_le R_succ dg_of_lt setd setd_eq)
theorem yb_fnum {P : Program} {W0 : Base} {o : Oper} {a : Act} {K : List (Nat × Obj)} {ty t : TypeId} {x : Operand} {g : Nat} {fr : Nat × Nat} {s : Bool} {n d : Nat} {D : TypeDesc} (ho : o.op = .load ty x) (hx : a.eval x = .pointer (some ⟨g, 1, none⟩))
    (hm : (g, .cells (frcC s n d) t fr) ∈ K) (hu : P.underlying ty = some D) (hd : aggD D = true) (hi : (P.info? ty).map (·.size) = some 8) :
    ∀ w, KS W0 K w → ∀ K' : Act → World → Prop, (∀ w', Below w.heap.size w w' → K' (a.put o.dst (.agg (fa 8 (dg n)))) w') → Oper.wp P o a w K' (fun _ _ _ => False) :=
  yb_cells (cs := (fa 8 (dg n)).toList) ho hx hm (fun j v hj => by
    rw [Array.getElem?_toList] at hj
    have hl := (Array.getElem?_eq_some_iff.1 hj).1
    rw [fa_size] at hl
    unfold frcC
    rw [Array.getElem?_append_left (by simp <;> omega), Array.getElem?_append_right (by simp)]
    simpa using hj) hu hd (by simpa using hi)
theorem yb_fden {P : Program} {W0 : Base} {o : Oper} {a : Act} {K : List (Nat × Obj)} {ty t : TypeId} {x : Operand} {g : Nat} {fr : Nat × Nat} {s : Bool} {n d : Nat} {D : TypeDesc} (ho : o.op = .load ty x) (hx : a.eval x = .pointer (some ⟨g, 9, none⟩))
    (hm : (g, .cells (frcC s n d) t fr) ∈ K) (hu : P.underlying ty = some D) (hd : aggD D = true) (hi : (P.info? ty).map (·.size) = some 8) :
    ∀ w, KS W0 K w → ∀ K' : Act → World → Prop, (∀ w', Below w.heap.size w w' → K' (a.put o.dst (.agg (fa 8 (dg d)))) w') → Oper.wp P o a w K' (fun _ _ _ => False) :=
  yb_cells (cs := (fa 8 (dg d)).toList) ho hx hm (fun j v hj => by
    rw [Array.getElem?_toList] at hj
    have hl := (Array.getElem?_eq_some_iff.1 hj).1
    rw [fa_size] at hl
    unfold frcC
    rw [Array.getElem?_append_right (by simp <;> omega)]
    simpa [fa_size] using hj) hu hd (by simpa using hi)
theorem frc_negq {b s : Bool} {n d : Nat} (h : b = s) : (frcC s n d)[0]? = some (.bool b) := by subst h; exact frc_neg _ _ _
theorem cd_16 {n : Nat} (h : n < R 8) : (cd n).length ≤ 16 := cd_R8.2 h
theorem cd_add_len {x y : Nat} {i j : Nat} (hx : (cd x).length ≤ i) (hy : (cd y).length ≤ j) (h1 : i ≤ 32 := by omega) (h2 : j ≤ 32 := by omega) : (cd (x + y)).length ≤ 33 := by
  have h3 := cd_le.1 (Nat.le_trans hx h1)
  have h4 := cd_le.1 (Nat.le_trans hy h2)
  refine cd_le.2 (Nat.lt_trans (Nat.add_lt_add h3 h4) ?_)
  decide
end Go.Proofs.YtalmflgkbmnghaaGreatDoor
namespace Go.Proofs.YtalmflgkbmnghaaGreatDoor
open Go.RowKit Tf
variable [ShLZ]
end Go.Proofs.YtalmflgkbmnghaaGreatDoor
namespace Go.Proofs.YtalmflgkbmnghaaGreatDoor
open Go Go.RowKit Tw Tf
variable [ShLZ]
theorem right_zero {neg : Bool} {n d : Nat} (h : (cd d).length = 0) : false = rightB neg n d := by
  rw [cd_len0] at h
  subst h
  unfold rightB
  split <;> simp
theorem right_neg {n d : Nat} (h : (cd n).length = 0) : false = rightB true n d := by
  rw [cd_len0] at h
  subst h
  unfold rightB
  simp
theorem right_gcd {neg : Bool} {n d : Nat} (hd : ¬ (cd d).length = 0) (h : neg = false ∨ ¬ (cd n).length = 0) : decide (Nat.gcd n d = 1) = rightB neg n d := by
  rw [cd_len0] at hd
  simp only [cd_len0] at h
  unfold rightB
  split
  · rename_i h0
    subst h0
    rcases h with h | h
    · subst h; simp
    · exact absurd rfl h
  · simp [hd]
theorem pack_norm (S : Bool) (N Z : Nat) (hZ : Z ≠ 0) (q : Rat) (hq : q = Rat.normalize (sg S N) Z hZ) : packV S (N / Nat.gcd N Z) (Z / Nat.gcd N Z) = fracV q := by
  have hg : 0 < Nat.gcd N Z := Nat.gcd_pos_of_pos_right _ (by omega)
  have e1 : q.num = sg S (N / Nat.gcd N Z) := by
    rw [hq, Rat.normalize_eq]
    show sg S N / (((sg S N).natAbs.gcd Z : Nat) : Int) = _
    rw [sg_abs]
    obtain ⟨m, hm⟩ := Nat.gcd_dvd_left N Z
    have h2 : sg S N = (Nat.gcd N Z : Int) * sg S m := by
      have h3 : sg S (Nat.gcd N Z * m) = (Nat.gcd N Z : Int) * sg S m := by
        unfold sg
        split <;> simp [Int.mul_neg]
      rw [← h3, ← hm]
    rw [Nat.div_eq_of_eq_mul_right hg hm]
    rw [h2, Int.mul_ediv_cancel_left _ (by omega)]
  have e2 : q.den = Z / Nat.gcd N Z := by
    rw [hq, Rat.normalize_eq]
    show Z / (sg S N).natAbs.gcd Z = _
    rw [sg_abs]
  refine packV_rat q (by rw [e1, sg_abs]) e2 ?_
  rw [e1, sg_neg]
theorem sg_mul (s : Bool) (a b : Nat) : sg s (a * b) = sg s a * (b : Int) := by
  unfold sg; split <;> simp [Int.neg_mul]
theorem norm_add (x y : Rat) (hZ : x.den * y.den ≠ 0) : packV (psS (decide (x.num < 0)) (decide (y.num < 0)) (x.num.natAbs * y.den) (y.num.natAbs * x.den)) (psN (decide (x.num < 0)) (decide (y.num < 0)) (x.num.natAbs * y.den) (y.num.natAbs * x.den) / Nat.gcd (psN (decide (x.num < 0)) (decide (y.num < 0)) (x.num.natAbs * y.den) (y.num.natAbs * x.den)) (x.den * y.den)) (x.den * y.den / Nat.gcd (psN (decide (x.num < 0)) (decide (y.num < 0)) (x.num.natAbs * y.den) (y.num.natAbs * x.den)) (x.den * y.den)) = fracV (x + y) := by
  refine pack_norm _ _ _ hZ _ ?_
  have e : sg (psS (decide (x.num < 0)) (decide (y.num < 0)) (x.num.natAbs * y.den) (y.num.natAbs * x.den)) (psN (decide (x.num < 0)) (decide (y.num < 0)) (x.num.natAbs * y.den) (y.num.natAbs * x.den)) = x.num * y.den + y.num * x.den := by
    rw [ps_int, sg_mul, sg_mul, sg_of, sg_of]
  rw [Rat.add_def]
  simp only [e]
theorem add_norm {s1 s2 : Bool} {n1 d1 n2 d2 : Nat} (h1 : rightB s1 n1 d1 = true) (h2 : rightB s2 n2 d2 = true) : packV (psS s1 s2 (n1 * d2) (n2 * d1)) (psN s1 s2 (n1 * d2) (n2 * d1) / Nat.gcd (psN s1 s2 (n1 * d2) (n2 * d1)) (d1 * d2)) (d1 * d2 / Nat.gcd (psN s1 s2 (n1 * d2) (n2 * d1)) (d1 * d2)) = addV s1 n1 d1 s2 n2 d2 := by
  obtain ⟨x, _, e2, e3, e4⟩ := right_rat h1
  obtain ⟨y, _, f2, f3, f4⟩ := right_rat h2
  subst e2 e3 e4 f2 f3 f4
  rw [norm_add x y (Nat.ne_of_gt (Nat.mul_pos x.den_pos y.den_pos)), addV_rat]
end Go.Proofs.YtalmflgkbmnghaaGreatDoor
namespace Go.Proofs.YtalmflgkbmnghaaGreatDoor
open Go Go.RowKit Tw
set_option linter.unusedSimpArgs false
set_option linter.unusedVariables false
open Tf (dg R R_pos R_le R_succ dg_of_lt setd setd_eq)
variable [ShLZ]
set_option maxRecDepth 100000 in
set_option maxHeartbeats 20000000 in
theorem rright_any (s : Bool) (n d : Nat) (hn : n < R 8) (hd : d < R 8) (w : World) : Calls Tryz.prog 18 #[.agg (frcC s n d)] w fun e w' => e = .returned (.bool (rightB s n d)) ∧ Below w.heap.size w w' := by
  obtain ⟨S, hS⟩ : ∃ S, S = rightB s n d := ⟨_, rfl⟩
  rw [← hS]
  have lnn := cd_16 hn
  have lnd := cd_16 hd
  go_enter Tryz.func18, Tryz.ntmps18
  refine wp_seq ?_
  refine wp_region_L (W0 := w) [] (KS.start w) ?_
  refine wpL_new (fun g => .pointer (some ⟨g, 0, none⟩)) (obi := .cells (frcC s n d) 34 (0, 0)) rfl rfl (fun _ => by kernel_rfl) (fun _ => by simp only [List.setIfInBounds_toArray, List.set_cons_succ, List.set_cons_zero] <;> rfl) fun g1 Bg1 Fg1 => ?_
  refine Tw.lm (v := .bool false) rfl rfl ?_
  refine wpL_done (fun W1 hW1 => ?_)
  refine (show Code.wp _ _ _ _ _ from ?_)
  refine wp_seq ?_
  refine wp_region_V (W0 := w) [(g1, .cells (frcC s n d) 34 (0, 0))] (by kernel_rfl) (hW1) ?_
  refine vm (i := 0) (v := .pointer (some ⟨g1, 1, none⟩)) rfl rfl rfl ?_
  refine vv (i := 1) (v := .agg (fa 8 (dg n))) rfl rfl rfl (yb_fnum (s := s) (n := n) (d := d) rfl (by kernel_rfl) (.head _) Tryz.underlying23 rfl (by kernel_rfl)) ?_
  refine vm (i := 3) (v := .pointer (some ⟨g1, 9, none⟩)) rfl rfl rfl ?_
  refine vv (i := 4) (v := .agg (fa 8 (dg d))) rfl rfl rfl (yb_fden (s := s) (n := n) (d := d) rfl (by kernel_rfl) (.head _) Tryz.underlying23 rfl (by kernel_rfl)) ?_
  refine wpV_c (i := 2) (AnsG w [(g1, .cells (frcC s n d) 34 (0, 0))] (cd n)) rfl rfl (by kernel_rfl) (by kernel_rfl) (fun _ => (by kernel_rfl)) (fun W hW => (rdigits_any n hn W).mono fun e w2 h => Ans.g h hW) (fun _ _ h => ansG_sub h) (fun _ => by simp only [List.setIfInBounds_toArray, List.set_cons_succ, List.set_cons_zero] <;> rfl) ?_
  rintro v2 _ ⟨q2, d2, T2, rfl, C2, H2, F2, J2, rfl⟩
  obtain dj3_0 : Dk g1 T2 := by simpa only [dj_app_l, dj_app_r, dj_cons_l, dj_cons_r, dj_nil_l, dj_nil_r, dk_app, dk_cons, dk_nil, and_true, true_and, and_assoc] using (show Dj [(g1, .cells (frcC s n d) 34 (0, 0))] T2 from J2)
  refine wpV_c (i := 5) (AnsG w ((g1, .cells (frcC s n d) 34 (0, 0)) :: T2) (cd d)) rfl rfl (by kernel_rfl) (by kernel_rfl) (fun _ => (by kernel_rfl)) (fun W hW => (rdigits_any d hd W).mono fun e w2 h => Ans.g h hW) (fun _ _ h => ansG_sub h) (fun _ => by simp only [List.setIfInBounds_toArray, List.set_cons_succ, List.set_cons_zero] <;> rfl) ?_
  rintro v4 _ ⟨q4, d4, T4, rfl, C4, H4, F4, J4, rfl⟩
  obtain ⟨dj5_0, dj5_1⟩ : Dk g1 T4 ∧ Dj T2 T4 := by simpa only [dj_app_l, dj_app_r, dj_cons_l, dj_cons_r, dj_nil_l, dj_nil_r, dk_app, dk_cons, dk_nil, and_true, true_and, and_assoc] using (show Dj ((g1, .cells (frcC s n d) 34 (0, 0)) :: T2) T4 from J4)
  refine vm (i := 6) (v := .slice q2 ((cd n).length) d2) rfl rfl rfl ?_
  refine vm (i := 7) (v := .slice q4 ((cd d).length) d4) rfl rfl rfl ?_
  refine wpV_done (by kernel_rfl) (fun W2 hW2 => ?_) _
  refine (show Code.wp _ _ _ _ _ from ?_)
  refine wp_seq ?_
  refine wp_seq ?_
  refine wp_region_L (W0 := w) ((g1, .cells (frcC s n d) 34 (0, 0)) :: (T2 ++ T4)) (hW2) ?_
  refine Tw.lm (v := .slice q4 ((cd d).length) d4) rfl rfl ?_
  refine Tw.lp (v := .int .i64 ((((cd d).length) : Nat) : Int)) rfl rfl (run_lenL (p := q4) (cap := d4) (n := ((cd d).length)) rfl Tryz.underlying32 (by kernel_rfl)) ?_
  refine Tw.lp (v := .bool (decide (((cd d).length) = 0))) rfl rfl (run_bin rfl (vx := (.int .i64 ((((cd d).length) : Nat) : Int))) (vy := (.int .i64 ((0 : Nat) : Int))) (by kernel_rfl) (by kernel_rfl) fun w => bn_eql rfl w) ?_
  refine Tw.lm (v := .bool (decide (((cd d).length) = 0))) rfl rfl ?_
  cases hd1 : (decide (((cd d).length) = 0)) with
  | false =>
    have h1 : ¬ (((cd d).length) = 0) := of_decide_eq_false hd1
    clear hd1
    refine Tw.lm (v := .pointer (some ⟨g1, 0, none⟩)) rfl rfl ?_
    obtain ⟨qs, hqs⟩ : ∃ b, b = s := ⟨_, rfl⟩
    refine Tw.lv (v := .bool qs) rfl rfl (yb_cell (off := 0) rfl (by kernel_rfl) (.head _) Tryz.underlying4 rfl (frc_negq hqs)) ?_
    refine Tw.lm (v := .bool qs) rfl rfl ?_
    cases h2 : qs with
    | false =>
      refine Tw.ln rfl ?_
      refine Tw.ln rfl ?_
      refine Tw.ln rfl ?_
      refine Tw.lm (v := .bool false) rfl rfl ?_
      refine Tw.lm (v := .bool false) rfl rfl ?_
      refine wpL_done (fun W3 hW3 => ?_)
      refine (show Code.wp _ _ _ _ _ from ?_)
      refine wp_cond_false rfl ?_
      refine wp_skip ?_
      refine (show Code.wp _ _ _ _ _ from ?_)
      refine wp_seq ?_
      refine wp_region_L (W0 := w) ((g1, .cells (frcC s n d) 34 (0, 0)) :: (T2 ++ T4)) (hW3) ?_
      refine Tw.lm (v := .slice q2 ((cd n).length) d2) rfl rfl ?_
      refine Tw.lm (v := .slice q4 ((cd d).length) d4) rfl rfl ?_
      refine wpL_c (f := 51) (args := #[.slice q2 ((cd n).length) d2, .slice q4 ((cd d).length) d4]) (AnsW w ((g1, .cells (frcC s n d) 34 (0, 0)) :: (T2 ++ T4)) (cd (Nat.gcd n d))) rfl (by kernel_rfl) (fun _ => (by kernel_rfl)) (fun W hW => (common_any n d q2 q4 d2 d4 (by omega) (by omega) C2 C4 W ((H2.mono (fun q hq => by first | exact hq | (simp only [List.mem_cons, List.mem_append, List.nil_append, List.not_mem_nil, or_assoc, or_false, false_or] at hq ⊢ <;> grind))) W hW) ((H4.mono (fun q hq => by first | exact hq | (simp only [List.mem_cons, List.mem_append, List.nil_append, List.not_mem_nil, or_assoc, or_false, false_or] at hq ⊢ <;> grind))) W hW)).mono fun e w2 h => AnsV.g h hW) (fun _ => by simp only [List.setIfInBounds_toArray, List.set_cons_succ, List.set_cons_zero] <;> rfl) ?_
      rintro v6 _ ⟨q6, d6, T6, rfl, C6, H6, rfl⟩
      refine Tw.lv (v := .bool (decide ((Nat.gcd n d) = 1))) rfl rfl (yb_call (f := 50) (args := #[.slice q6 ((cd (Nat.gcd n d)).length) d6]) (fun _ => by kernel_rfl) fun W hW => rone_any (Nat.gcd n d) q6 d6 W ((H6.mono (fun q hq => by first | exact hq | (simp only [List.mem_cons, List.mem_append, List.nil_append, List.not_mem_nil, or_assoc, or_false, false_or] at hq ⊢ <;> grind))) W hW)) ?_
      refine Tw.lm (v := .bool (decide ((Nat.gcd n d) = 1))) rfl rfl ?_
      refine wpL_done (fun W4 hW4 => ?_)
      refine (show Code.wp _ _ _ _ _ from ?_)
      refine wp_ret ?_
      try simp only [inBlock_ret, then_ret]
      refine bodyPost_ret (v := .bool (decide ((Nat.gcd n d) = 1))) ?_ rfl ?_
      · kernel_rfl
      · exact ⟨(bool_is ((right_gcd h1 (.inl (hqs.symm.trans h2))).trans hS.symm)), hW4.1⟩
    | true =>
      refine Tw.lm (v := .slice q2 ((cd n).length) d2) rfl rfl ?_
      refine Tw.lp (v := .int .i64 ((((cd n).length) : Nat) : Int)) rfl rfl (run_lenL (p := q2) (cap := d2) (n := ((cd n).length)) rfl Tryz.underlying32 (by kernel_rfl)) ?_
      refine Tw.lp (v := .bool (decide (((cd n).length) = 0))) rfl rfl (run_bin rfl (vx := (.int .i64 ((((cd n).length) : Nat) : Int))) (vy := (.int .i64 ((0 : Nat) : Int))) (by kernel_rfl) (by kernel_rfl) fun w => bn_eql rfl w) ?_
      refine Tw.lm (v := .bool (decide (((cd n).length) = 0))) rfl rfl ?_
      refine Tw.lm (v := .bool (decide (((cd n).length) = 0))) rfl rfl ?_
      refine wpL_done (fun W5 hW5 => ?_)
      refine (show Code.wp _ _ _ _ _ from ?_)
      cases hd3 : (decide (((cd n).length) = 0)) with
      | false =>
        have h3 : ¬ (((cd n).length) = 0) := of_decide_eq_false hd3
        clear hd3
        refine wp_cond_false rfl ?_
        refine wp_skip ?_
        refine (show Code.wp _ _ _ _ _ from ?_)
        refine wp_seq ?_
        refine wp_region_L (W0 := w) ((g1, .cells (frcC s n d) 34 (0, 0)) :: (T2 ++ T4)) (hW5) ?_
        refine Tw.lm (v := .slice q2 ((cd n).length) d2) rfl rfl ?_
        refine Tw.lm (v := .slice q4 ((cd d).length) d4) rfl rfl ?_
        refine wpL_c (f := 51) (args := #[.slice q2 ((cd n).length) d2, .slice q4 ((cd d).length) d4]) (AnsW w ((g1, .cells (frcC s n d) 34 (0, 0)) :: (T2 ++ T4)) (cd (Nat.gcd n d))) rfl (by kernel_rfl) (fun _ => (by kernel_rfl)) (fun W hW => (common_any n d q2 q4 d2 d4 (by omega) (by omega) C2 C4 W ((H2.mono (fun q hq => by first | exact hq | (simp only [List.mem_cons, List.mem_append, List.nil_append, List.not_mem_nil, or_assoc, or_false, false_or] at hq ⊢ <;> grind))) W hW) ((H4.mono (fun q hq => by first | exact hq | (simp only [List.mem_cons, List.mem_append, List.nil_append, List.not_mem_nil, or_assoc, or_false, false_or] at hq ⊢ <;> grind))) W hW)).mono fun e w2 h => AnsV.g h hW) (fun _ => by simp only [List.setIfInBounds_toArray, List.set_cons_succ, List.set_cons_zero] <;> rfl) ?_
        rintro v7 _ ⟨q7, d7, T7, rfl, C7, H7, rfl⟩
        refine Tw.lv (v := .bool (decide ((Nat.gcd n d) = 1))) rfl rfl (yb_call (f := 50) (args := #[.slice q7 ((cd (Nat.gcd n d)).length) d7]) (fun _ => by kernel_rfl) fun W hW => rone_any (Nat.gcd n d) q7 d7 W ((H7.mono (fun q hq => by first | exact hq | (simp only [List.mem_cons, List.mem_append, List.nil_append, List.not_mem_nil, or_assoc, or_false, false_or] at hq ⊢ <;> grind))) W hW)) ?_
        refine Tw.lm (v := .bool (decide ((Nat.gcd n d) = 1))) rfl rfl ?_
        refine wpL_done (fun W6 hW6 => ?_)
        refine (show Code.wp _ _ _ _ _ from ?_)
        refine wp_ret ?_
        try simp only [inBlock_ret, then_ret]
        refine bodyPost_ret (v := .bool (decide ((Nat.gcd n d) = 1))) ?_ rfl ?_
        · kernel_rfl
        · exact ⟨(bool_is ((right_gcd h1 (.inr h3)).trans hS.symm)), hW6.1⟩
      | true =>
        have h3 : ((cd n).length) = 0 := of_decide_eq_true hd3
        clear hd3
        refine wp_cond_true rfl ?_
        refine wp_seq ?_
        refine wp_region_L (W0 := w) ((g1, .cells (frcC s n d) 34 (0, 0)) :: (T2 ++ T4)) (hW5) ?_
        refine Tw.lm (v := .bool false) rfl rfl ?_
        refine wpL_done (fun W7 hW7 => ?_)
        refine (show Code.wp _ _ _ _ _ from ?_)
        refine wp_ret ?_
        try simp only [inBlock_ret, then_ret]
        refine bodyPost_ret (v := .bool false) ?_ rfl ?_
        · kernel_rfl
        · exact ⟨(bool_is (by have e : s = true := hqs.symm.trans h2; subst e; exact (right_neg h3).trans hS.symm)), hW7.1⟩
  | true =>
    have h1 : ((cd d).length) = 0 := of_decide_eq_true hd1
    clear hd1
    refine Tw.ln rfl ?_
    refine Tw.ln rfl ?_
    refine Tw.ln rfl ?_
    refine Tw.ln rfl ?_
    refine Tw.ln rfl ?_
    refine Tw.ln rfl ?_
    refine Tw.ln rfl ?_
    refine Tw.lm (v := .bool true) rfl rfl ?_
    refine wpL_done (fun W8 hW8 => ?_)
    refine (show Code.wp _ _ _ _ _ from ?_)
    refine wp_cond_true rfl ?_
    refine wp_seq ?_
    refine wp_region_L (W0 := w) ((g1, .cells (frcC s n d) 34 (0, 0)) :: (T2 ++ T4)) (hW8) ?_
    refine Tw.lm (v := .bool false) rfl rfl ?_
    refine wpL_done (fun W9 hW9 => ?_)
    refine (show Code.wp _ _ _ _ _ from ?_)
    refine wp_ret ?_
    try simp only [inBlock_ret, then_ret]
    refine bodyPost_ret (v := .bool false) ?_ rfl ?_
    · kernel_rfl
    · exact ⟨(bool_is ((right_zero h1).trans hS.symm)), hW9.1⟩
end Go.Proofs.YtalmflgkbmnghaaGreatDoor
namespace Go.Proofs.YtalmflgkbmnghaaGreatDoor
open Go Go.RowKit Tw
set_option linter.unusedSimpArgs false
set_option linter.unusedVariables false
open Tf (dg R R_pos R_le R_succ dg_of_lt setd setd_eq)
end Go.Proofs.YtalmflgkbmnghaaGreatDoor
