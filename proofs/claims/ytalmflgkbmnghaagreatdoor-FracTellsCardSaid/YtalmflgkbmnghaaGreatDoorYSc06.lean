import Derived.Test.YtalmflgkbmnghaaGreatDoorYSc05
import Derived.Test.YtalmflgkbmnghaaGreatDoorRT03
import Derived.Test.YtalmflgkbmnghaaGreatDoorYSc03
/- Part of the proof: YN, Te, YE, YO. -/
set_option linter.unusedVariables false
set_option linter.unusedSimpArgs false
set_option linter.unusedSectionVars false
namespace Go.Proofs.YtalmflgkbmnghaaGreatDoor
open Go Go.RowKit Tw
set_option linter.unusedSimpArgs false
set_option linter.unusedVariables false
open Tf (dg R R_pos R_le R_succ dg_of_lt setd setd_eq)
variable [ShLZ]
theorem cmp_ret2 {a b : Int} (h : a = b) : Value.tuple #[.int .i64 a, .int .i64 0] = .tuple #[.int .i64 b, .int .i64 0] := by rw [h]
theorem cd_limit : cd 9223372036854775808 = [0, 0, 0, 32768] := by
  rw [cd_pos (by decide), cd_pos (by decide), cd_pos (by decide), cd_pos (by decide), show 9223372036854775808 / 65536 / 65536 / 65536 / 65536 = 0 from by decide, cd_zero]
theorem cd_1 : cd 1 = [1] := by rw [cd_pos (by decide), show 1 / 65536 = 0 from by decide, cd_zero]
theorem less_limL (a : Nat) (p q : Option Addr) (c d : Nat) (w : World) (hp : SLV w p (nums (cd a))) (hq : SLV w q (nums [0, 0, 0, 32768])) : Calls Tryz.prog 47 #[.slice q 4 d, .slice p (cd a).length c] w fun e w' => e = .returned (.bool (decide (9223372036854775808 < a))) ∧ Below w.heap.size w w' := by
  have h := less_any 9223372036854775808 a q p d c (by rw [cd_limit]; decide) w (by rw [cd_limit]; exact hq) hp
  rw [cd_limit] at h
  exact h
theorem less_limR (a : Nat) (p q : Option Addr) (c d : Nat) (la : (cd a).length ≤ 4000000000) (w : World) (hp : SLV w p (nums (cd a))) (hq : SLV w q (nums [0, 0, 0, 32768])) : Calls Tryz.prog 47 #[.slice p (cd a).length c, .slice q 4 d] w fun e w' => e = .returned (.bool (decide (a < 9223372036854775808))) ∧ Below w.heap.size w w' := by
  have h := less_any a 9223372036854775808 p q c d la w hp (by rw [cd_limit]; exact hq)
  rw [cd_limit] at h
  exact h
theorem radd_one (a : Nat) (p q : Option Addr) (c d : Nat) (la : (cd a).length ≤ 100000) (w : World) (hp : SLV w p (nums (cd a))) (hq : SLV w q (nums [1])) : Calls Tryz.prog 46 #[.slice p (cd a).length c, .slice q 1 d] w fun e w' => Ans w (cd (a + 1)) e w' := by
  have h := radd_any a 1 p q c d la (by rw [cd_1]; decide) w hp (by rw [cd_1]; exact hq)
  rw [cd_1] at h
  exact h
theorem floor_more {s : Bool} {n d Q : Nat} (hQ : floorQ s n d = Q) (h : 9223372036854775808 < Q ∨ (s = false ∧ ¬ Q < 9223372036854775808)) : floorV s n d = .tuple #[.int .i64 0, .int .i64 3] := by
  unfold floorV
  rw [hQ, if_neg]
  rintro (h1 | ⟨h1, h2⟩)
  · rcases h with h | ⟨_, h⟩ <;> omega
  · rcases h with h | ⟨h, _⟩
    · omega
    · rw [h] at h2; cases h2
theorem floor_less {s : Bool} {n d Q : Nat} (hQ : floorQ s n d = Q) (h : ¬ 9223372036854775808 < Q) (h2 : s = true ∨ Q < 9223372036854775808) : floorV s n d = .tuple #[.int .i64 (Tf.sg s Q), .int .i64 0] := by
  unfold floorV
  rw [hQ, if_pos]
  rcases h2 with h2 | h2
  · rcases Nat.lt_or_ge Q 9223372036854775808 with h3 | h3
    · exact .inl h3
    · exact .inr ⟨by omega, h2⟩
  · exact .inl h2
theorem dv_drop_le (l : List Nat) (i : Nat) (h : i ≤ l.length) : dv (l.drop i) ≤ dv l := by
  have h1 := dv_split l i h
  have h2 : 1 * dv (l.drop i) ≤ 65536 ^ i * dv (l.drop i) := Nat.mul_le_mul_right _ (Nat.pow_pos (by omega))
  omega
set_option maxRecDepth 100000 in
set_option maxHeartbeats 20000000 in
theorem RFloor_any (s : Bool) (n d : Nat) (hn : n < R 8) (hd : d < R 8) (w : World) : Calls Tryz.prog 29 #[.agg (frcC s n d)] w fun e w' => e = .returned (if rightB s n d = true then floorV s n d else .tuple #[.int .i64 0, .int .i64 2]) ∧ Below w.heap.size w w' := by
  obtain ⟨V, hV⟩ : ∃ V : Value, V = (if rightB s n d = true then floorV s n d else .tuple #[.int .i64 0, .int .i64 2]) := ⟨_, rfl⟩
  rw [← hV]
  have lnn := cd_16 hn
  have lnq : (cd (n / d)).length ≤ 16 := cd_div_len lnn
  go_enter Tryz.func29, Tryz.ntmps29
  refine wp_seq ?_
  refine wp_region_L (W0 := w) [] (KS.start w) ?_
  refine wpL_new (fun g => .pointer (some ⟨g, 0, none⟩)) (obi := .cells (frcC s n d) 34 (0, 0)) rfl rfl (fun _ => by kernel_rfl) (fun _ => by simp only [List.setIfInBounds_toArray, List.set_cons_succ, List.set_cons_zero] <;> rfl) fun g1 Bg1 Fg1 => ?_
  refine Tw.lm (v := .int .i64 0) rfl rfl ?_
  refine Tw.lm (v := .int .i64 0) rfl rfl ?_
  refine wpL_done (fun W1 hW1 => ?_)
  refine (show Code.wp _ _ _ _ _ from ?_)
  refine wp_seq ?_
  refine wp_seq ?_
  refine wp_region_L (W0 := w) [(g1, .cells (frcC s n d) 34 (0, 0))] (hW1) ?_
  refine Tw.lv (v := .agg (frcC s n d)) rfl rfl (yb_all rfl (by kernel_rfl) (.head _) Tryz.underlying34 rfl (by simp only [frcC_size]; kernel_rfl)) ?_
  refine Tw.lv (v := .bool (rightB s n d)) rfl rfl (yb_call (f := 18) (args := #[.agg (frcC s n d)]) (fun _ => by kernel_rfl) fun W hW => rright_any s n d hn hd W) ?_
  refine Tw.lp (v := .bool (!(rightB s n d))) rfl rfl (run_un rfl (by kernel_rfl) fun w => un_not w) ?_
  refine wpL_done (fun W2 hW2 => ?_)
  refine (show Code.wp _ _ _ _ _ from ?_)
  cases h1 : (rightB s n d) with
  | false =>
    refine wp_cond_true rfl ?_
    refine wp_seq ?_
    refine wp_region_L (W0 := w) [(g1, .cells (frcC s n d) 34 (0, 0))] (hW2) ?_
    refine Tw.lm (v := .int .i64 0) rfl rfl ?_
    refine Tw.lm (v := .int .i64 2) rfl rfl ?_
    refine wpL_done (fun W3 hW3 => ?_)
    refine (show Code.wp _ _ _ _ _ from ?_)
    refine wp_ret ?_
    try simp only [inBlock_ret, then_ret]
    refine bodyPost_ret (v := .tuple #[.int .i64 0, .int .i64 2]) ?_ rfl ?_
    · kernel_rfl
    · exact ⟨(ret_v (by rw [hV, if_neg (fun h => by rw [h1] at h; cases h)])), hW3.1⟩
  | true =>
    refine wp_cond_false rfl ?_
    refine wp_skip ?_
    refine (show Code.wp _ _ _ _ _ from ?_)
    refine wp_seq ?_
    refine wp_region_V (W0 := w) [(g1, .cells (frcC s n d) 34 (0, 0))] (by kernel_rfl) (hW2) ?_
    refine vm (i := 0) (v := .pointer (some ⟨g1, 1, none⟩)) rfl rfl rfl ?_
    refine vv (i := 1) (v := .agg (fa 8 (dg n))) rfl rfl rfl (yb_fnum (s := s) (n := n) (d := d) rfl (by kernel_rfl) (.head _) Tryz.underlying23 rfl (by kernel_rfl)) ?_
    refine vm (i := 3) (v := .pointer (some ⟨g1, 9, none⟩)) rfl rfl rfl ?_
    refine vv (i := 4) (v := .agg (fa 8 (dg d))) rfl rfl rfl (yb_fden (s := s) (n := n) (d := d) rfl (by kernel_rfl) (.head _) Tryz.underlying23 rfl (by kernel_rfl)) ?_
    refine wpV_c (i := 2) (AnsG w [(g1, .cells (frcC s n d) 34 (0, 0))] (cd n)) rfl rfl (by kernel_rfl) (by kernel_rfl) (fun _ => (by kernel_rfl)) (fun W hW => (rdigits_any n hn W).mono fun e w2 h => Ans.g h hW) (fun _ _ h => ansG_sub h) (fun _ => by simp only [List.setIfInBounds_toArray, List.set_cons_succ, List.set_cons_zero] <;> rfl) ?_
    rintro v2 _ ⟨q2, d2, T2, rfl, C2, H2, F2, J2, rfl⟩
    obtain dj3_0 : Dk g1 T2 := by simpa only [dj_app_l, dj_app_r, dj_cons_l, dj_cons_r, dj_nil_l, dj_nil_r, dk_app, dk_cons, dk_nil, and_true, true_and, and_assoc] using (show Dj [(g1, .cells (frcC s n d) 34 (0, 0))] T2 from J2)
    refine wpV_c (i := 5) (AnsG w ((g1, .cells (frcC s n d) 34 (0, 0)) :: T2) (cd d)) rfl rfl (by kernel_rfl) (by kernel_rfl) (fun _ => (by kernel_rfl)) (fun W hW => (rdigits_any d hd W).mono fun e w2 h => Ans.g h hW) (fun _ _ h => ansG_sub h) (fun _ => by simp only [List.setIfInBounds_toArray, List.set_cons_succ, List.set_cons_zero] <;> rfl) ?_
    rintro v4 _ ⟨q4, d4, T4, rfl, C4, H4, F4, J4, rfl⟩
    obtain ⟨dj5_0, dj5_1⟩ : Dk g1 T4 ∧ Dj T2 T4 := by simpa only [dj_app_l, dj_app_r, dj_cons_l, dj_cons_r, dj_nil_l, dj_nil_r, dk_app, dk_cons, dk_nil, and_true, true_and, and_assoc] using (show Dj ((g1, .cells (frcC s n d) 34 (0, 0)) :: T2) T4 from J4)
    have ln6 : (cd n).length ≤ 16 := cd_16 hn
    refine wpV_c (i := 6) (AnsW2 w ((g1, .cells (frcC s n d) 34 (0, 0)) :: (T2 ++ T4)) (cd (n / d)) (cd (n % d))) rfl rfl (by kernel_rfl) (by kernel_rfl) (fun _ => (by kernel_rfl)) (fun W hW => (div_any n d q2 q4 d2 d4 (right_den h1) (by omega) C2 W ((H2.mono (fun q hq => by first | exact hq | (simp only [List.mem_cons, List.mem_append, List.nil_append, List.not_mem_nil, or_assoc, or_false, false_or] at hq ⊢ <;> grind))) W hW) ((H4.mono (fun q hq => by first | exact hq | (simp only [List.mem_cons, List.mem_append, List.nil_append, List.not_mem_nil, or_assoc, or_false, false_or] at hq ⊢ <;> grind))) W hW)).mono fun e w2 h => Ans2.g h hW) (fun _ _ h => ansW2_sub h) (fun _ => by simp only [List.setIfInBounds_toArray, List.set_cons_succ, List.set_cons_zero] <;> rfl) ?_
    rintro v7 _ ⟨q7, d7, r7, g7, T7, rfl, C7, E7, H7, G7, rfl⟩
    refine vm (i := 7) (v := .tuple #[.slice q7 ((cd (n / d)).length) d7, .slice r7 ((cd (n % d)).length) g7]) rfl rfl rfl ?_
    refine vm (i := 8) (v := .slice q7 ((cd (n / d)).length) d7) rfl rfl rfl ?_
    refine vm (i := 9) (v := .slice r7 ((cd (n % d)).length) g7) rfl rfl rfl ?_
    refine vm (i := 10) (v := .slice q7 ((cd (n / d)).length) d7) rfl rfl rfl ?_
    refine vm (i := 11) (v := .slice r7 ((cd (n % d)).length) g7) rfl rfl rfl ?_
    refine wpV_done (by kernel_rfl) (fun W4 hW4 => ?_) _
    refine (show Code.wp _ _ _ _ _ from ?_)
    refine wp_seq ?_
    refine wp_seq ?_
    refine wp_region_L (W0 := w) ((g1, .cells (frcC s n d) 34 (0, 0)) :: ((T2 ++ T4) ++ T7)) (hW4) ?_
    refine Tw.lm (v := .pointer (some ⟨g1, 0, none⟩)) rfl rfl ?_
    obtain ⟨qs, hqs⟩ : ∃ b, b = s := ⟨_, rfl⟩
    refine Tw.lv (v := .bool qs) rfl rfl (yb_cell (off := 0) rfl (by kernel_rfl) (.head _) Tryz.underlying4 rfl (frc_negq hqs)) ?_
    refine Tw.lm (v := .bool qs) rfl rfl ?_
    cases h2 : qs with
    | false =>
      refine Tw.ln rfl ?_
      refine Tw.ln rfl ?_
      refine Tw.ln rfl ?_
      refine Tw.lm (v := .bool false) rfl rfl ?_
      refine wpL_done (fun W5 hW5 => ?_)
      refine (show Code.wp _ _ _ _ _ from ?_)
      refine wp_cond_false rfl ?_
      refine wp_skip ?_
      refine (show Code.wp _ _ _ _ _ from ?_)
      refine wp_seq ?_
      refine wp_region_L (W0 := w) ((g1, .cells (frcC s n d) 34 (0, 0)) :: ((T2 ++ T4) ++ T7)) (hW5) ?_
      refine wpL_new (fun g => .slice (some ⟨g, 0, none⟩) 4 4) (obi := .cells #[.int .i64 0, .int .i64 0, .int .i64 0, .int .i64 32768] 3 (0, 0)) rfl rfl (fun _ => by kernel_rfl) (fun _ => by simp only [List.setIfInBounds_toArray, List.set_cons_succ, List.set_cons_zero] <;> rfl) fun g8 Bg8 Fg8 => ?_
      obtain ⟨dj9_0, dj9_1, dj9_2, dj9_3⟩ : g1 ≠ g8 ∧ Dk g8 T2 ∧ Dk g8 T4 ∧ Dk g8 T7 := by simpa only [dj_app_l, dj_app_r, dj_cons_l, dj_cons_r, dj_nil_l, dj_nil_r, dk_app, dk_cons, dk_nil, and_true, true_and, and_assoc] using (show Dk g8 ((g1, .cells (frcC s n d) 34 (0, 0)) :: ((T2 ++ T4) ++ T7)) from Fg8)
      refine Tw.lm (v := .slice (some ⟨g8, 0, none⟩) 4 4) rfl rfl ?_
      refine wpL_done (fun W6 hW6 => ?_)
      refine (show Code.wp _ _ _ _ _ from ?_)
      refine wp_seq ?_
      refine wp_seq ?_
      refine wp_region_L (W0 := w) ((g8, .cells #[.int .i64 0, .int .i64 0, .int .i64 0, .int .i64 32768] 3 (0, 0)) :: (g1, .cells (frcC s n d) 34 (0, 0)) :: ((T2 ++ T4) ++ T7)) (hW6) ?_
      refine Tw.lm (v := .slice (some ⟨g8, 0, none⟩) 4 4) rfl rfl ?_
      refine Tw.lm (v := .slice q7 ((cd (n / d)).length) d7) rfl rfl ?_
      refine Tw.lv (v := .bool (decide (9223372036854775808 < (n / d)))) rfl rfl (yb_call (f := 47) (args := #[.slice (some ⟨g8, 0, none⟩) 4 4, .slice q7 ((cd (n / d)).length) d7]) (fun _ => by kernel_rfl) fun W hW => less_limL (n / d) q7 (some ⟨g8, 0, none⟩) d7 4 W ((H7.mono (fun q hq => by first | exact hq | (simp only [List.mem_cons, List.mem_append, List.nil_append, List.not_mem_nil, or_assoc, or_false, false_or] at hq ⊢ <;> grind))) W hW) (((show NS (w : Base) (some ⟨g8, 0, none⟩) [0, 0, 0, 32768] [(g8, .cells #[.int .i64 0, .int .i64 0, .int .i64 0, .int .i64 32768] 3 (0, 0))] from ns_blk).mono (fun q hq => by cases List.mem_singleton.1 hq; exact (.head _))) W hW)) ?_
      refine Tw.lm (v := .bool (decide (9223372036854775808 < (n / d)))) rfl rfl ?_
      cases hd3 : (decide (9223372036854775808 < (n / d))) with
      | false =>
        have h3 : ¬ (9223372036854775808 < (n / d)) := of_decide_eq_false hd3
        clear hd3
        refine Tw.lm (v := .pointer (some ⟨g1, 0, none⟩)) rfl rfl ?_
        refine Tw.lv (v := .bool false) rfl rfl (yb_cell (off := 0) rfl (by kernel_rfl) (.tail _ (.head _)) Tryz.underlying4 rfl (frc_negq (h2.symm.trans hqs))) ?_
        refine Tw.lm (v := .bool true) rfl rfl ?_
        refine Tw.lm (v := .bool true) rfl rfl ?_
        refine Tw.lm (v := .slice q7 ((cd (n / d)).length) d7) rfl rfl ?_
        refine Tw.lm (v := .slice (some ⟨g8, 0, none⟩) 4 4) rfl rfl ?_
        refine Tw.lv (v := .bool (decide ((n / d) < 9223372036854775808))) rfl rfl (yb_call (f := 47) (args := #[.slice q7 ((cd (n / d)).length) d7, .slice (some ⟨g8, 0, none⟩) 4 4]) (fun _ => by kernel_rfl) fun W hW => less_limR (n / d) q7 (some ⟨g8, 0, none⟩) d7 4 (by omega) W ((H7.mono (fun q hq => by first | exact hq | (simp only [List.mem_cons, List.mem_append, List.nil_append, List.not_mem_nil, or_assoc, or_false, false_or] at hq ⊢ <;> grind))) W hW) (((show NS (w : Base) (some ⟨g8, 0, none⟩) [0, 0, 0, 32768] [(g8, .cells #[.int .i64 0, .int .i64 0, .int .i64 0, .int .i64 32768] 3 (0, 0))] from ns_blk).mono (fun q hq => by cases List.mem_singleton.1 hq; exact (.head _))) W hW)) ?_
        refine Tw.lp (v := .bool (!(decide ((n / d) < 9223372036854775808)))) rfl rfl (run_un rfl (by kernel_rfl) fun w => un_not w) ?_
        refine Tw.lm (v := .bool (!(decide ((n / d) < 9223372036854775808)))) rfl rfl ?_
        refine Tw.lm (v := .bool (!(decide ((n / d) < 9223372036854775808)))) rfl rfl ?_
        refine wpL_done (fun W7 hW7 => ?_)
        refine (show Code.wp _ _ _ _ _ from ?_)
        cases hd4 : (decide ((n / d) < 9223372036854775808)) with
        | false =>
          have h4 : ¬ ((n / d) < 9223372036854775808) := of_decide_eq_false hd4
          clear hd4
          refine wp_cond_true rfl ?_
          refine wp_seq ?_
          refine wp_region_L (W0 := w) ((g8, .cells #[.int .i64 0, .int .i64 0, .int .i64 0, .int .i64 32768] 3 (0, 0)) :: (g1, .cells (frcC s n d) 34 (0, 0)) :: ((T2 ++ T4) ++ T7)) (hW7) ?_
          refine Tw.lm (v := .int .i64 0) rfl rfl ?_
          refine Tw.lm (v := .int .i64 3) rfl rfl ?_
          refine wpL_done (fun W8 hW8 => ?_)
          refine (show Code.wp _ _ _ _ _ from ?_)
          refine wp_ret ?_
          try simp only [inBlock_ret, then_ret]
          refine bodyPost_ret (v := .tuple #[.int .i64 0, .int .i64 3]) ?_ rfl ?_
          · kernel_rfl
          · exact ⟨(ret_v (by have e1 : s = false := hqs.symm.trans h2; subst e1; rw [hV, if_pos h1, floor_more (by unfold floorQ; rw [if_neg (by simp)]) (.inr ⟨rfl, h4⟩)])), hW8.1⟩
        | true =>
          have h4 : (n / d) < 9223372036854775808 := of_decide_eq_true hd4
          clear hd4
          refine wp_cond_false rfl ?_
          refine wp_skip ?_
          refine (show Code.wp _ _ _ _ _ from ?_)
          refine wp_seq ?_
          refine wp_region_L (W0 := w) ((g8, .cells #[.int .i64 0, .int .i64 0, .int .i64 0, .int .i64 32768] 3 (0, 0)) :: (g1, .cells (frcC s n d) 34 (0, 0)) :: ((T2 ++ T4) ++ T7)) (hW7) ?_
          refine Tw.lm (v := .int .i64 0) rfl rfl ?_
          refine wpL_done (fun W9 hW9 => ?_)
          refine (show Code.wp _ _ _ _ _ from ?_)
          refine wp_seq ?_
          refine wp_seq ?_
          refine wp_region_L (W0 := w) ((g8, .cells #[.int .i64 0, .int .i64 0, .int .i64 0, .int .i64 32768] 3 (0, 0)) :: (g1, .cells (frcC s n d) 34 (0, 0)) :: ((T2 ++ T4) ++ T7)) (hW9) ?_
          refine Tw.lm (v := .slice q7 ((cd (n / d)).length) d7) rfl rfl ?_
          refine Tw.lp (v := .int .i64 ((((cd (n / d)).length) : Nat) : Int)) rfl rfl (run_lenL (p := q7) (cap := d7) (n := ((cd (n / d)).length)) rfl Tryz.underlying32 (by kernel_rfl)) ?_
          refine Tw.lp (v := .int .i64 (((((cd (n / d)).length) : Nat) : Int) - 1)) rfl rfl (run_bin rfl (vx := (.int .i64 ((((cd (n / d)).length) : Nat) : Int))) (vy := (.int .i64 ((1 : Nat) : Int))) (by kernel_rfl) (by kernel_rfl) fun w => bi_sub (z := (((((cd (n / d)).length) : Nat) : Int) - 1)) rfl (wi_i64 (by omega)) w) ?_
          refine Tw.lm (v := .int .i64 (((((cd (n / d)).length) : Nat) : Int) - 1)) rfl rfl ?_
          refine wpL_done (fun W10 hW10 => ?_)
          refine (show Code.wp _ _ _ _ _ from ?_)
          refine wp_block ?_
          go_loopw [8, 7] (fun u8 u7 wr => ∃ (z : Int) (zn : Int) (k m : Nat), (z = (k : Int) - 1) ∧ (zn = ((m : Nat) : Int)) ∧ (k ≤ (cd (n / d)).length) ∧ (m = dv ((cd (n / d)).drop k)) ∧ u8 = .int .i64 z ∧ u7 = .int .i64 zn ∧ KS w ((g8, .cells #[.int .i64 0, .int .i64 0, .int .i64 0, .int .i64 32768] 3 (0, 0)) :: (g1, .cells (frcC s n d) 34 (0, 0)) :: ((T2 ++ T4) ++ T7)) wr) (fun u8 _ _ => (intOf u8 + 1).toNat)
          case atStart => exact ⟨(((((cd (n / d)).length) : Nat) : Int) - 1), 0, (cd (n / d)).length, 0, rfl, (by omega), (Nat.le_refl _), (drop_big (Nat.le_refl _)).symm, rfl, rfl, (hW10.sub (fun p hp => by first | exact hp | (simp only [List.mem_cons, List.mem_append, List.nil_append, List.not_mem_nil, or_assoc, or_false, false_or, List.cons_append, List.append_assoc] at hp ⊢ <;> grind)))⟩
          case round =>
            obtain ⟨z, zn, k, m, hz, hzn, hk, hm, rfl, rfl, hL11⟩ := hrel
            refine wp_seq ?_
            refine wp_seq ?_
            refine wp_region_L (W0 := w) ((g8, .cells #[.int .i64 0, .int .i64 0, .int .i64 0, .int .i64 32768] 3 (0, 0)) :: (g1, .cells (frcC s n d) 34 (0, 0)) :: ((T2 ++ T4) ++ T7)) (hL11) ?_
            refine Tw.lm (v := .int .i64 z) rfl rfl ?_
            refine Tw.lp (v := .bool (!(decide (z < 0)))) rfl rfl (run_bin rfl (vx := (.int .i64 z)) (vy := (.int .i64 0)) (by kernel_rfl) (by kernel_rfl) fun w => bi_geq rfl w) ?_
            refine wpL_done (fun W12 hW12 => ?_)
            refine (show Code.wp _ _ _ _ _ from ?_)
            cases hd5 : (decide (z < 0)) with
            | false =>
              have h5 : ¬ (z < 0) := of_decide_eq_false hd5
              clear hd5
              obtain ⟨j, rfl⟩ := Int.eq_ofNat_of_zero_le (show 0 ≤ z by omega)
              obtain rfl : k = j + 1 := by omega
              obtain ⟨x10, hx10⟩ : ∃ xq_, ((cd (n / d)) : List Nat)[j]? = some xq_ := get_ex (show j < ((cd (n / d)) : List Nat).length by omega)
              have lx10 : x10 < 65536 := dOk.at (cd_ok (n / d)) hx10
              have hdj := dv_drop_le (cd (n / d)) j (by omega)
              rw [dv_cd, dv_drop hx10, ← hm] at hdj
              refine wp_cond_true rfl ?_
              refine wp_skip ?_
              refine (show Code.wp _ _ _ _ _ from ?_)
              refine wp_seq ?_
              refine wp_block ?_
              refine wp_seq ?_
              refine wp_region_L (W0 := w) ((g8, .cells #[.int .i64 0, .int .i64 0, .int .i64 0, .int .i64 32768] 3 (0, 0)) :: (g1, .cells (frcC s n d) 34 (0, 0)) :: ((T2 ++ T4) ++ T7)) (hW12) ?_
              refine Tw.lm (v := .pointer (some ⟨g1, 0, none⟩)) rfl rfl ?_
              refine Tw.lv (v := .bool false) rfl rfl (yb_cell (off := 0) rfl (by kernel_rfl) (.tail _ (.head _)) Tryz.underlying4 rfl (frc_negq (h2.symm.trans hqs))) ?_
              refine wpL_done (fun W13 hW13 => ?_)
              refine (show Code.wp _ _ _ _ _ from ?_)
              refine wp_cond_false rfl ?_
              refine wp_region_L (W0 := w) ((g8, .cells #[.int .i64 0, .int .i64 0, .int .i64 0, .int .i64 32768] 3 (0, 0)) :: (g1, .cells (frcC s n d) 34 (0, 0)) :: ((T2 ++ T4) ++ T7)) (hW13) ?_
              refine Tw.lm (v := .int .i64 zn) rfl rfl ?_
              refine Tw.lp (v := .int .i64 (zn * 65536)) rfl rfl (run_bin rfl (vx := (.int .i64 zn)) (vy := (.int .i64 65536)) (by kernel_rfl) (by kernel_rfl) fun w => bi_mul (z := (zn * 65536)) rfl (wi_i64 (by omega)) w) ?_
              refine Tw.lm (v := .slice q7 ((cd (n / d)).length) d7) rfl rfl ?_
              refine Tw.lm (v := .int .i64 ((j : Nat) : Int)) rfl rfl ?_
              obtain ⟨b11, f11, hp11, hc11⟩ := (H7.mono (fun q hq => by first | exact hq | (simp only [List.mem_cons, List.mem_append, List.nil_append, List.not_mem_nil, or_assoc, or_false, false_or] at hq ⊢ <;> grind))).at hW13 (k := j) (by omega)
              refine Tw.lp (v := .pointer (some ⟨b11, f11 + j * 1, none⟩)) rfl rfl (run_idxQ (p := q7) (cap := d7) (n := ((cd (n / d)).length)) (j := .i64) (k := j) (sz := 1) rfl Tryz.underlying32 (by kernel_rfl) (by kernel_rfl) hp11 (by kernel_rfl) (by omega)) ?_
              refine Tw.lv (v := .int .i64 ((x10 : Nat) : Int)) rfl rfl (yb_ns (off := f11 + j * 1) rfl (by kernel_rfl) (fun W hW => hc11 W (hW.sub (fun q hq => by first | exact hq | (simp only [List.mem_cons, List.mem_append, List.nil_append, List.not_mem_nil, or_assoc, or_false, false_or] at hq ⊢ <;> grind))) _ _ hx10) Tryz.underlying3 rfl) ?_
              refine Tw.lp (v := .int .i64 ((zn * 65536) + ((x10 : Nat) : Int))) rfl rfl (run_bin rfl (vx := (.int .i64 (zn * 65536))) (vy := (.int .i64 ((x10 : Nat) : Int))) (by kernel_rfl) (by kernel_rfl) fun w => bi_add (z := ((zn * 65536) + ((x10 : Nat) : Int))) rfl (wi_i64 (by omega)) w) ?_
              refine Tw.lm (v := .int .i64 ((zn * 65536) + ((x10 : Nat) : Int))) rfl rfl ?_
              refine wpL_done (fun W14 hW14 => ?_)
              refine (show Code.wp _ _ _ _ _ from ?_)
              refine wp_region_L (W0 := w) ((g8, .cells #[.int .i64 0, .int .i64 0, .int .i64 0, .int .i64 32768] 3 (0, 0)) :: (g1, .cells (frcC s n d) 34 (0, 0)) :: ((T2 ++ T4) ++ T7)) (hW14) ?_
              refine Tw.lm (v := .int .i64 ((j : Nat) : Int)) rfl rfl ?_
              refine Tw.lp (v := .int .i64 (((j : Nat) : Int) - 1)) rfl rfl (run_bin rfl (vx := (.int .i64 ((j : Nat) : Int))) (vy := (.int .i64 ((1 : Nat) : Int))) (by kernel_rfl) (by kernel_rfl) fun w => bi_sub (z := (((j : Nat) : Int) - 1)) rfl (wi_i64 (by omega)) w) ?_
              refine Tw.lm (v := .int .i64 (((j : Nat) : Int) - 1)) rfl rfl ?_
              refine wpL_done (fun W15 hW15 => ?_)
              go_roundw
              case rel =>
                repeat apply Exists.intro
                exact ⟨⟨(((j : Nat) : Int) - 1), ((zn * 65536) + ((x10 : Nat) : Int)), j, (m * 65536 + x10), (by omega), (by omega), (by omega), (by rw [dv_drop hx10, hm]; omega), rfl, rfl, (hW15.sub (fun p hp => by first | exact hp | (simp only [List.mem_cons, List.mem_append, List.nil_append, List.not_mem_nil, or_assoc, or_false, false_or, List.cons_append, List.append_assoc] at hp ⊢ <;> grind)))⟩, rfl⟩
              case measure => (show (intOf (.int .i64 (((j : Nat) : Int) - 1)) + 1).toNat < (intOf (.int .i64 ((j : Nat) : Int)) + 1).toNat); simp only [intOf]; omega
            | true =>
              have h5 : z < 0 := of_decide_eq_true hd5
              clear hd5
              refine wp_cond_false rfl ?_
              refine wp_exit ?_
              refine (show Code.wp _ _ _ _ _ from ?_)
              refine wp_seq ?_
              refine wp_region_L (W0 := w) ((g8, .cells #[.int .i64 0, .int .i64 0, .int .i64 0, .int .i64 32768] 3 (0, 0)) :: (g1, .cells (frcC s n d) 34 (0, 0)) :: ((T2 ++ T4) ++ T7)) (hW12) ?_
              refine Tw.lm (v := .int .i64 zn) rfl rfl ?_
              refine Tw.lm (v := .int .i64 zn) rfl rfl ?_
              refine Tw.lm (v := .int .i64 0) rfl rfl ?_
              refine wpL_done (fun W16 hW16 => ?_)
              refine (show Code.wp _ _ _ _ _ from ?_)
              refine wp_ret ?_
              try simp only [inBlock_ret, then_ret]
              refine bodyPost_ret (v := .tuple #[.int .i64 zn, .int .i64 0]) ?_ rfl ?_
              · kernel_rfl
              · exact ⟨(ret_v (by have e1 : s = false := hqs.symm.trans h2; subst e1; rw [hV, if_pos h1, floor_less (by unfold floorQ; rw [if_neg (by simp)]) h3 (.inr h4)]; refine cmp_ret2 ?_; rw [show k = 0 from by omega, List.drop_zero, dv_cd] at hm; rw [hzn, hm]; rfl)), hW16.1⟩
      | true =>
        have h3 : 9223372036854775808 < (n / d) := of_decide_eq_true hd3
        clear hd3
        refine Tw.ln rfl ?_
        refine Tw.ln rfl ?_
        refine Tw.ln rfl ?_
        refine Tw.ln rfl ?_
        refine Tw.ln rfl ?_
        refine Tw.ln rfl ?_
        refine Tw.ln rfl ?_
        refine Tw.ln rfl ?_
        refine Tw.ln rfl ?_
        refine Tw.lm (v := .bool true) rfl rfl ?_
        refine wpL_done (fun W17 hW17 => ?_)
        refine (show Code.wp _ _ _ _ _ from ?_)
        refine wp_cond_true rfl ?_
        refine wp_seq ?_
        refine wp_region_L (W0 := w) ((g8, .cells #[.int .i64 0, .int .i64 0, .int .i64 0, .int .i64 32768] 3 (0, 0)) :: (g1, .cells (frcC s n d) 34 (0, 0)) :: ((T2 ++ T4) ++ T7)) (hW17) ?_
        refine Tw.lm (v := .int .i64 0) rfl rfl ?_
        refine Tw.lm (v := .int .i64 3) rfl rfl ?_
        refine wpL_done (fun W18 hW18 => ?_)
        refine (show Code.wp _ _ _ _ _ from ?_)
        refine wp_ret ?_
        try simp only [inBlock_ret, then_ret]
        refine bodyPost_ret (v := .tuple #[.int .i64 0, .int .i64 3]) ?_ rfl ?_
        · kernel_rfl
        · exact ⟨(ret_v (by have e1 : s = false := hqs.symm.trans h2; subst e1; rw [hV, if_pos h1, floor_more (by unfold floorQ; rw [if_neg (by simp)]) (.inl h3)])), hW18.1⟩
    | true =>
      refine Tw.lm (v := .slice r7 ((cd (n % d)).length) g7) rfl rfl ?_
      refine Tw.lp (v := .int .i64 ((((cd (n % d)).length) : Nat) : Int)) rfl rfl (run_lenL (p := r7) (cap := g7) (n := ((cd (n % d)).length)) rfl Tryz.underlying32 (by kernel_rfl)) ?_
      refine Tw.lp (v := .bool (decide (0 < ((cd (n % d)).length)))) rfl rfl (run_bin rfl (vx := (.int .i64 ((((cd (n % d)).length) : Nat) : Int))) (vy := (.int .i64 ((0 : Nat) : Int))) (by kernel_rfl) (by kernel_rfl) fun w => bn_gtr rfl w) ?_
      refine Tw.lm (v := .bool (decide (0 < ((cd (n % d)).length)))) rfl rfl ?_
      refine wpL_done (fun W19 hW19 => ?_)
      refine (show Code.wp _ _ _ _ _ from ?_)
      cases hd6 : (decide (0 < ((cd (n % d)).length))) with
      | false =>
        have h6 : ¬ (0 < ((cd (n % d)).length)) := of_decide_eq_false hd6
        clear hd6
        refine wp_cond_false rfl ?_
        refine wp_skip ?_
        refine (show Code.wp _ _ _ _ _ from ?_)
        refine wp_seq ?_
        refine wp_region_L (W0 := w) ((g1, .cells (frcC s n d) 34 (0, 0)) :: ((T2 ++ T4) ++ T7)) (hW19) ?_
        refine wpL_new (fun g => .slice (some ⟨g, 0, none⟩) 4 4) (obi := .cells #[.int .i64 0, .int .i64 0, .int .i64 0, .int .i64 32768] 3 (0, 0)) rfl rfl (fun _ => by kernel_rfl) (fun _ => by simp only [List.setIfInBounds_toArray, List.set_cons_succ, List.set_cons_zero] <;> rfl) fun g12 Bg12 Fg12 => ?_
        obtain ⟨dj13_0, dj13_1, dj13_2, dj13_3⟩ : g1 ≠ g12 ∧ Dk g12 T2 ∧ Dk g12 T4 ∧ Dk g12 T7 := by simpa only [dj_app_l, dj_app_r, dj_cons_l, dj_cons_r, dj_nil_l, dj_nil_r, dk_app, dk_cons, dk_nil, and_true, true_and, and_assoc] using (show Dk g12 ((g1, .cells (frcC s n d) 34 (0, 0)) :: ((T2 ++ T4) ++ T7)) from Fg12)
        refine Tw.lm (v := .slice (some ⟨g12, 0, none⟩) 4 4) rfl rfl ?_
        refine wpL_done (fun W20 hW20 => ?_)
        refine (show Code.wp _ _ _ _ _ from ?_)
        refine wp_seq ?_
        refine wp_seq ?_
        refine wp_region_L (W0 := w) ((g12, .cells #[.int .i64 0, .int .i64 0, .int .i64 0, .int .i64 32768] 3 (0, 0)) :: (g1, .cells (frcC s n d) 34 (0, 0)) :: ((T2 ++ T4) ++ T7)) (hW20) ?_
        refine Tw.lm (v := .slice (some ⟨g12, 0, none⟩) 4 4) rfl rfl ?_
        refine Tw.lm (v := .slice q7 ((cd (n / d)).length) d7) rfl rfl ?_
        refine Tw.lv (v := .bool (decide (9223372036854775808 < (n / d)))) rfl rfl (yb_call (f := 47) (args := #[.slice (some ⟨g12, 0, none⟩) 4 4, .slice q7 ((cd (n / d)).length) d7]) (fun _ => by kernel_rfl) fun W hW => less_limL (n / d) q7 (some ⟨g12, 0, none⟩) d7 4 W ((H7.mono (fun q hq => by first | exact hq | (simp only [List.mem_cons, List.mem_append, List.nil_append, List.not_mem_nil, or_assoc, or_false, false_or] at hq ⊢ <;> grind))) W hW) (((show NS (w : Base) (some ⟨g12, 0, none⟩) [0, 0, 0, 32768] [(g12, .cells #[.int .i64 0, .int .i64 0, .int .i64 0, .int .i64 32768] 3 (0, 0))] from ns_blk).mono (fun q hq => by cases List.mem_singleton.1 hq; exact (.head _))) W hW)) ?_
        refine Tw.lm (v := .bool (decide (9223372036854775808 < (n / d)))) rfl rfl ?_
        cases hd7 : (decide (9223372036854775808 < (n / d))) with
        | false =>
          have h7 : ¬ (9223372036854775808 < (n / d)) := of_decide_eq_false hd7
          clear hd7
          refine Tw.lm (v := .pointer (some ⟨g1, 0, none⟩)) rfl rfl ?_
          refine Tw.lv (v := .bool true) rfl rfl (yb_cell (off := 0) rfl (by kernel_rfl) (.tail _ (.head _)) Tryz.underlying4 rfl (frc_negq (h2.symm.trans hqs))) ?_
          refine Tw.lm (v := .bool false) rfl rfl ?_
          refine Tw.lm (v := .bool false) rfl rfl ?_
          refine Tw.ln rfl ?_
          refine Tw.ln rfl ?_
          refine Tw.ln rfl ?_
          refine Tw.ln rfl ?_
          refine Tw.lm (v := .bool false) rfl rfl ?_
          refine Tw.lm (v := .bool false) rfl rfl ?_
          refine wpL_done (fun W21 hW21 => ?_)
          refine (show Code.wp _ _ _ _ _ from ?_)
          refine wp_cond_false rfl ?_
          refine wp_skip ?_
          refine (show Code.wp _ _ _ _ _ from ?_)
          refine wp_seq ?_
          refine wp_region_L (W0 := w) ((g12, .cells #[.int .i64 0, .int .i64 0, .int .i64 0, .int .i64 32768] 3 (0, 0)) :: (g1, .cells (frcC s n d) 34 (0, 0)) :: ((T2 ++ T4) ++ T7)) (hW21) ?_
          refine Tw.lm (v := .int .i64 0) rfl rfl ?_
          refine wpL_done (fun W22 hW22 => ?_)
          refine (show Code.wp _ _ _ _ _ from ?_)
          refine wp_seq ?_
          refine wp_seq ?_
          refine wp_region_L (W0 := w) ((g12, .cells #[.int .i64 0, .int .i64 0, .int .i64 0, .int .i64 32768] 3 (0, 0)) :: (g1, .cells (frcC s n d) 34 (0, 0)) :: ((T2 ++ T4) ++ T7)) (hW22) ?_
          refine Tw.lm (v := .slice q7 ((cd (n / d)).length) d7) rfl rfl ?_
          refine Tw.lp (v := .int .i64 ((((cd (n / d)).length) : Nat) : Int)) rfl rfl (run_lenL (p := q7) (cap := d7) (n := ((cd (n / d)).length)) rfl Tryz.underlying32 (by kernel_rfl)) ?_
          refine Tw.lp (v := .int .i64 (((((cd (n / d)).length) : Nat) : Int) - 1)) rfl rfl (run_bin rfl (vx := (.int .i64 ((((cd (n / d)).length) : Nat) : Int))) (vy := (.int .i64 ((1 : Nat) : Int))) (by kernel_rfl) (by kernel_rfl) fun w => bi_sub (z := (((((cd (n / d)).length) : Nat) : Int) - 1)) rfl (wi_i64 (by omega)) w) ?_
          refine Tw.lm (v := .int .i64 (((((cd (n / d)).length) : Nat) : Int) - 1)) rfl rfl ?_
          refine wpL_done (fun W23 hW23 => ?_)
          refine (show Code.wp _ _ _ _ _ from ?_)
          refine wp_block ?_
          go_loopw [8, 7] (fun u8 u7 wr => ∃ (z : Int) (zn : Int) (k m : Nat), (z = (k : Int) - 1) ∧ (zn = -((m : Nat) : Int)) ∧ (k ≤ (cd (n / d)).length) ∧ (m = dv ((cd (n / d)).drop k)) ∧ u8 = .int .i64 z ∧ u7 = .int .i64 zn ∧ KS w ((g12, .cells #[.int .i64 0, .int .i64 0, .int .i64 0, .int .i64 32768] 3 (0, 0)) :: (g1, .cells (frcC s n d) 34 (0, 0)) :: ((T2 ++ T4) ++ T7)) wr) (fun u8 _ _ => (intOf u8 + 1).toNat)
          case atStart => exact ⟨(((((cd (n / d)).length) : Nat) : Int) - 1), 0, (cd (n / d)).length, 0, rfl, (by omega), (Nat.le_refl _), (drop_big (Nat.le_refl _)).symm, rfl, rfl, (hW23.sub (fun p hp => by first | exact hp | (simp only [List.mem_cons, List.mem_append, List.nil_append, List.not_mem_nil, or_assoc, or_false, false_or, List.cons_append, List.append_assoc] at hp ⊢ <;> grind)))⟩
          case round =>
            obtain ⟨z, zn, k, m, hz, hzn, hk, hm, rfl, rfl, hL24⟩ := hrel
            refine wp_seq ?_
            refine wp_seq ?_
            refine wp_region_L (W0 := w) ((g12, .cells #[.int .i64 0, .int .i64 0, .int .i64 0, .int .i64 32768] 3 (0, 0)) :: (g1, .cells (frcC s n d) 34 (0, 0)) :: ((T2 ++ T4) ++ T7)) (hL24) ?_
            refine Tw.lm (v := .int .i64 z) rfl rfl ?_
            refine Tw.lp (v := .bool (!(decide (z < 0)))) rfl rfl (run_bin rfl (vx := (.int .i64 z)) (vy := (.int .i64 0)) (by kernel_rfl) (by kernel_rfl) fun w => bi_geq rfl w) ?_
            refine wpL_done (fun W25 hW25 => ?_)
            refine (show Code.wp _ _ _ _ _ from ?_)
            cases hd8 : (decide (z < 0)) with
            | false =>
              have h8 : ¬ (z < 0) := of_decide_eq_false hd8
              clear hd8
              obtain ⟨j, rfl⟩ := Int.eq_ofNat_of_zero_le (show 0 ≤ z by omega)
              obtain rfl : k = j + 1 := by omega
              obtain ⟨x14, hx14⟩ : ∃ xq_, ((cd (n / d)) : List Nat)[j]? = some xq_ := get_ex (show j < ((cd (n / d)) : List Nat).length by omega)
              have lx14 : x14 < 65536 := dOk.at (cd_ok (n / d)) hx14
              have hdj := dv_drop_le (cd (n / d)) j (by omega)
              rw [dv_cd, dv_drop hx14, ← hm] at hdj
              refine wp_cond_true rfl ?_
              refine wp_skip ?_
              refine (show Code.wp _ _ _ _ _ from ?_)
              refine wp_seq ?_
              refine wp_block ?_
              refine wp_seq ?_
              refine wp_region_L (W0 := w) ((g12, .cells #[.int .i64 0, .int .i64 0, .int .i64 0, .int .i64 32768] 3 (0, 0)) :: (g1, .cells (frcC s n d) 34 (0, 0)) :: ((T2 ++ T4) ++ T7)) (hW25) ?_
              refine Tw.lm (v := .pointer (some ⟨g1, 0, none⟩)) rfl rfl ?_
              refine Tw.lv (v := .bool true) rfl rfl (yb_cell (off := 0) rfl (by kernel_rfl) (.tail _ (.head _)) Tryz.underlying4 rfl (frc_negq (h2.symm.trans hqs))) ?_
              refine wpL_done (fun W26 hW26 => ?_)
              refine (show Code.wp _ _ _ _ _ from ?_)
              refine wp_cond_true rfl ?_
              refine wp_region_L (W0 := w) ((g12, .cells #[.int .i64 0, .int .i64 0, .int .i64 0, .int .i64 32768] 3 (0, 0)) :: (g1, .cells (frcC s n d) 34 (0, 0)) :: ((T2 ++ T4) ++ T7)) (hW26) ?_
              refine Tw.lm (v := .int .i64 zn) rfl rfl ?_
              refine Tw.lp (v := .int .i64 (zn * 65536)) rfl rfl (run_bin rfl (vx := (.int .i64 zn)) (vy := (.int .i64 65536)) (by kernel_rfl) (by kernel_rfl) fun w => bi_mul (z := (zn * 65536)) rfl (wi_i64 (by omega)) w) ?_
              refine Tw.lm (v := .slice q7 ((cd (n / d)).length) d7) rfl rfl ?_
              refine Tw.lm (v := .int .i64 ((j : Nat) : Int)) rfl rfl ?_
              obtain ⟨b15, f15, hp15, hc15⟩ := (H7.mono (fun q hq => by first | exact hq | (simp only [List.mem_cons, List.mem_append, List.nil_append, List.not_mem_nil, or_assoc, or_false, false_or] at hq ⊢ <;> grind))).at hW26 (k := j) (by omega)
              refine Tw.lp (v := .pointer (some ⟨b15, f15 + j * 1, none⟩)) rfl rfl (run_idxQ (p := q7) (cap := d7) (n := ((cd (n / d)).length)) (j := .i64) (k := j) (sz := 1) rfl Tryz.underlying32 (by kernel_rfl) (by kernel_rfl) hp15 (by kernel_rfl) (by omega)) ?_
              refine Tw.lv (v := .int .i64 ((x14 : Nat) : Int)) rfl rfl (yb_ns (off := f15 + j * 1) rfl (by kernel_rfl) (fun W hW => hc15 W (hW.sub (fun q hq => by first | exact hq | (simp only [List.mem_cons, List.mem_append, List.nil_append, List.not_mem_nil, or_assoc, or_false, false_or] at hq ⊢ <;> grind))) _ _ hx14) Tryz.underlying3 rfl) ?_
              refine Tw.lp (v := .int .i64 ((zn * 65536) - ((x14 : Nat) : Int))) rfl rfl (run_bin rfl (vx := (.int .i64 (zn * 65536))) (vy := (.int .i64 ((x14 : Nat) : Int))) (by kernel_rfl) (by kernel_rfl) fun w => bi_sub (z := ((zn * 65536) - ((x14 : Nat) : Int))) rfl (wi_i64 (by omega)) w) ?_
              refine Tw.lm (v := .int .i64 ((zn * 65536) - ((x14 : Nat) : Int))) rfl rfl ?_
              refine wpL_done (fun W27 hW27 => ?_)
              refine (show Code.wp _ _ _ _ _ from ?_)
              refine wp_region_L (W0 := w) ((g12, .cells #[.int .i64 0, .int .i64 0, .int .i64 0, .int .i64 32768] 3 (0, 0)) :: (g1, .cells (frcC s n d) 34 (0, 0)) :: ((T2 ++ T4) ++ T7)) (hW27) ?_
              refine Tw.lm (v := .int .i64 ((j : Nat) : Int)) rfl rfl ?_
              refine Tw.lp (v := .int .i64 (((j : Nat) : Int) - 1)) rfl rfl (run_bin rfl (vx := (.int .i64 ((j : Nat) : Int))) (vy := (.int .i64 ((1 : Nat) : Int))) (by kernel_rfl) (by kernel_rfl) fun w => bi_sub (z := (((j : Nat) : Int) - 1)) rfl (wi_i64 (by omega)) w) ?_
              refine Tw.lm (v := .int .i64 (((j : Nat) : Int) - 1)) rfl rfl ?_
              refine wpL_done (fun W28 hW28 => ?_)
              go_roundw
              case rel =>
                repeat apply Exists.intro
                exact ⟨⟨(((j : Nat) : Int) - 1), ((zn * 65536) - ((x14 : Nat) : Int)), j, (m * 65536 + x14), (by omega), (by omega), (by omega), (by rw [dv_drop hx14, hm]; omega), rfl, rfl, (hW28.sub (fun p hp => by first | exact hp | (simp only [List.mem_cons, List.mem_append, List.nil_append, List.not_mem_nil, or_assoc, or_false, false_or, List.cons_append, List.append_assoc] at hp ⊢ <;> grind)))⟩, rfl⟩
              case measure => (show (intOf (.int .i64 (((j : Nat) : Int) - 1)) + 1).toNat < (intOf (.int .i64 ((j : Nat) : Int)) + 1).toNat); simp only [intOf]; omega
            | true =>
              have h8 : z < 0 := of_decide_eq_true hd8
              clear hd8
              refine wp_cond_false rfl ?_
              refine wp_exit ?_
              refine (show Code.wp _ _ _ _ _ from ?_)
              refine wp_seq ?_
              refine wp_region_L (W0 := w) ((g12, .cells #[.int .i64 0, .int .i64 0, .int .i64 0, .int .i64 32768] 3 (0, 0)) :: (g1, .cells (frcC s n d) 34 (0, 0)) :: ((T2 ++ T4) ++ T7)) (hW25) ?_
              refine Tw.lm (v := .int .i64 zn) rfl rfl ?_
              refine Tw.lm (v := .int .i64 zn) rfl rfl ?_
              refine Tw.lm (v := .int .i64 0) rfl rfl ?_
              refine wpL_done (fun W29 hW29 => ?_)
              refine (show Code.wp _ _ _ _ _ from ?_)
              refine wp_ret ?_
              try simp only [inBlock_ret, then_ret]
              refine bodyPost_ret (v := .tuple #[.int .i64 zn, .int .i64 0]) ?_ rfl ?_
              · kernel_rfl
              · exact ⟨(ret_v (by have e1 : s = true := hqs.symm.trans h2; subst e1; rw [hV, if_pos h1, floor_less (by unfold floorQ; rw [if_neg (fun h => h.2 (cd_len0.1 (by omega)))]) h7 (.inl rfl)]; refine cmp_ret2 ?_; rw [show k = 0 from by omega, List.drop_zero, dv_cd] at hm; rw [hzn, hm]; rfl)), hW29.1⟩
        | true =>
          have h7 : 9223372036854775808 < (n / d) := of_decide_eq_true hd7
          clear hd7
          refine Tw.ln rfl ?_
          refine Tw.ln rfl ?_
          refine Tw.ln rfl ?_
          refine Tw.ln rfl ?_
          refine Tw.ln rfl ?_
          refine Tw.ln rfl ?_
          refine Tw.ln rfl ?_
          refine Tw.ln rfl ?_
          refine Tw.ln rfl ?_
          refine Tw.lm (v := .bool true) rfl rfl ?_
          refine wpL_done (fun W30 hW30 => ?_)
          refine (show Code.wp _ _ _ _ _ from ?_)
          refine wp_cond_true rfl ?_
          refine wp_seq ?_
          refine wp_region_L (W0 := w) ((g12, .cells #[.int .i64 0, .int .i64 0, .int .i64 0, .int .i64 32768] 3 (0, 0)) :: (g1, .cells (frcC s n d) 34 (0, 0)) :: ((T2 ++ T4) ++ T7)) (hW30) ?_
          refine Tw.lm (v := .int .i64 0) rfl rfl ?_
          refine Tw.lm (v := .int .i64 3) rfl rfl ?_
          refine wpL_done (fun W31 hW31 => ?_)
          refine (show Code.wp _ _ _ _ _ from ?_)
          refine wp_ret ?_
          try simp only [inBlock_ret, then_ret]
          refine bodyPost_ret (v := .tuple #[.int .i64 0, .int .i64 3]) ?_ rfl ?_
          · kernel_rfl
          · exact ⟨(ret_v (by have e1 : s = true := hqs.symm.trans h2; subst e1; rw [hV, if_pos h1, floor_more (by unfold floorQ; rw [if_neg (fun h => h.2 (cd_len0.1 (by omega)))]) (.inl h7)])), hW31.1⟩
      | true =>
        have h6 : 0 < ((cd (n % d)).length) := of_decide_eq_true hd6
        clear hd6
        refine wp_cond_true rfl ?_
        refine wp_region_L (W0 := w) ((g1, .cells (frcC s n d) 34 (0, 0)) :: ((T2 ++ T4) ++ T7)) (hW19) ?_
        refine Tw.lm (v := .slice q7 ((cd (n / d)).length) d7) rfl rfl ?_
        refine wpL_new (fun g => .slice (some ⟨g, 0, none⟩) 1 1) (obi := .cells #[.int .i64 1] 3 (0, 0)) rfl rfl (fun _ => by kernel_rfl) (fun _ => by simp only [List.setIfInBounds_toArray, List.set_cons_succ, List.set_cons_zero] <;> rfl) fun g16 Bg16 Fg16 => ?_
        obtain ⟨dj17_0, dj17_1, dj17_2, dj17_3⟩ : g1 ≠ g16 ∧ Dk g16 T2 ∧ Dk g16 T4 ∧ Dk g16 T7 := by simpa only [dj_app_l, dj_app_r, dj_cons_l, dj_cons_r, dj_nil_l, dj_nil_r, dk_app, dk_cons, dk_nil, and_true, true_and, and_assoc] using (show Dk g16 ((g1, .cells (frcC s n d) 34 (0, 0)) :: ((T2 ++ T4) ++ T7)) from Fg16)
        refine wpL_c (f := 46) (args := #[.slice q7 ((cd (n / d)).length) d7, .slice (some ⟨g16, 0, none⟩) 1 1]) (AnsG w ((g16, .cells #[.int .i64 1] 3 (0, 0)) :: (g1, .cells (frcC s n d) 34 (0, 0)) :: ((T2 ++ T4) ++ T7)) (cd ((n / d) + 1))) rfl (by kernel_rfl) (fun _ => (by kernel_rfl)) (fun W hW => (radd_one (n / d) q7 (some ⟨g16, 0, none⟩) d7 1 (by omega) W ((H7.mono (fun q hq => by first | exact hq | (simp only [List.mem_cons, List.mem_append, List.nil_append, List.not_mem_nil, or_assoc, or_false, false_or] at hq ⊢ <;> grind))) W hW) (((show NS (w : Base) (some ⟨g16, 0, none⟩) [1] [(g16, .cells #[.int .i64 1] 3 (0, 0))] from ns_blk).mono (fun q hq => by cases List.mem_singleton.1 hq; exact (.head _))) W hW)).mono fun e w2 h => Ans.g h hW) (fun _ => by simp only [List.setIfInBounds_toArray, List.set_cons_succ, List.set_cons_zero] <;> rfl) ?_
        rintro v18 _ ⟨q18, d18, T18, rfl, C18, H18, F18, J18, rfl⟩
        obtain ⟨dj19_0, dj19_1, dj19_2, dj19_3, dj19_4⟩ : Dk g16 T18 ∧ Dk g1 T18 ∧ Dj T2 T18 ∧ Dj T4 T18 ∧ Dj T7 T18 := by simpa only [dj_app_l, dj_app_r, dj_cons_l, dj_cons_r, dj_nil_l, dj_nil_r, dk_app, dk_cons, dk_nil, and_true, true_and, and_assoc] using (show Dj ((g16, .cells #[.int .i64 1] 3 (0, 0)) :: (g1, .cells (frcC s n d) 34 (0, 0)) :: ((T2 ++ T4) ++ T7)) T18 from J18)
        have lq1 : (cd ((n / d) + 1)).length ≤ 33 := cd_add_len (i := 16) (j := 1) (by omega) (by rw [cd_1]; decide)
        refine Tw.lm (v := .slice q18 ((cd ((n / d) + 1)).length) d18) rfl rfl ?_
        refine wpL_done (fun W32 hW32 => ?_)
        refine (show Code.wp _ _ _ _ _ from ?_)
        refine wp_seq ?_
        refine wp_region_L (W0 := w) ((g16, .cells #[.int .i64 1] 3 (0, 0)) :: (g1, .cells (frcC s n d) 34 (0, 0)) :: (((T2 ++ T4) ++ T7) ++ T18)) (hW32) ?_
        refine wpL_new (fun g => .slice (some ⟨g, 0, none⟩) 4 4) (obi := .cells #[.int .i64 0, .int .i64 0, .int .i64 0, .int .i64 32768] 3 (0, 0)) rfl rfl (fun _ => by kernel_rfl) (fun _ => by simp only [List.setIfInBounds_toArray, List.set_cons_succ, List.set_cons_zero] <;> rfl) fun g20 Bg20 Fg20 => ?_
        obtain ⟨dj21_0, dj21_1, dj21_2, dj21_3, dj21_4, dj21_5⟩ : g16 ≠ g20 ∧ g1 ≠ g20 ∧ Dk g20 T2 ∧ Dk g20 T4 ∧ Dk g20 T7 ∧ Dk g20 T18 := by simpa only [dj_app_l, dj_app_r, dj_cons_l, dj_cons_r, dj_nil_l, dj_nil_r, dk_app, dk_cons, dk_nil, and_true, true_and, and_assoc] using (show Dk g20 ((g16, .cells #[.int .i64 1] 3 (0, 0)) :: (g1, .cells (frcC s n d) 34 (0, 0)) :: (((T2 ++ T4) ++ T7) ++ T18)) from Fg20)
        refine Tw.lm (v := .slice (some ⟨g20, 0, none⟩) 4 4) rfl rfl ?_
        refine wpL_done (fun W33 hW33 => ?_)
        refine (show Code.wp _ _ _ _ _ from ?_)
        refine wp_seq ?_
        refine wp_seq ?_
        refine wp_region_L (W0 := w) ((g20, .cells #[.int .i64 0, .int .i64 0, .int .i64 0, .int .i64 32768] 3 (0, 0)) :: (g16, .cells #[.int .i64 1] 3 (0, 0)) :: (g1, .cells (frcC s n d) 34 (0, 0)) :: (((T2 ++ T4) ++ T7) ++ T18)) (hW33) ?_
        refine Tw.lm (v := .slice (some ⟨g20, 0, none⟩) 4 4) rfl rfl ?_
        refine Tw.lm (v := .slice q18 ((cd ((n / d) + 1)).length) d18) rfl rfl ?_
        refine Tw.lv (v := .bool (decide (9223372036854775808 < ((n / d) + 1)))) rfl rfl (yb_call (f := 47) (args := #[.slice (some ⟨g20, 0, none⟩) 4 4, .slice q18 ((cd ((n / d) + 1)).length) d18]) (fun _ => by kernel_rfl) fun W hW => less_limL ((n / d) + 1) q18 (some ⟨g20, 0, none⟩) d18 4 W ((H18.mono (fun q hq => by first | exact hq | (simp only [List.mem_cons, List.mem_append, List.nil_append, List.not_mem_nil, or_assoc, or_false, false_or] at hq ⊢ <;> grind))) W hW) (((show NS (w : Base) (some ⟨g20, 0, none⟩) [0, 0, 0, 32768] [(g20, .cells #[.int .i64 0, .int .i64 0, .int .i64 0, .int .i64 32768] 3 (0, 0))] from ns_blk).mono (fun q hq => by cases List.mem_singleton.1 hq; exact (.head _))) W hW)) ?_
        refine Tw.lm (v := .bool (decide (9223372036854775808 < ((n / d) + 1)))) rfl rfl ?_
        cases hd9 : (decide (9223372036854775808 < ((n / d) + 1))) with
        | false =>
          have h9 : ¬ (9223372036854775808 < ((n / d) + 1)) := of_decide_eq_false hd9
          clear hd9
          refine Tw.lm (v := .pointer (some ⟨g1, 0, none⟩)) rfl rfl ?_
          refine Tw.lv (v := .bool true) rfl rfl (yb_cell (off := 0) rfl (by kernel_rfl) (.tail _ (.tail _ (.head _))) Tryz.underlying4 rfl (frc_negq (h2.symm.trans hqs))) ?_
          refine Tw.lm (v := .bool false) rfl rfl ?_
          refine Tw.lm (v := .bool false) rfl rfl ?_
          refine Tw.ln rfl ?_
          refine Tw.ln rfl ?_
          refine Tw.ln rfl ?_
          refine Tw.ln rfl ?_
          refine Tw.lm (v := .bool false) rfl rfl ?_
          refine Tw.lm (v := .bool false) rfl rfl ?_
          refine wpL_done (fun W34 hW34 => ?_)
          refine (show Code.wp _ _ _ _ _ from ?_)
          refine wp_cond_false rfl ?_
          refine wp_skip ?_
          refine (show Code.wp _ _ _ _ _ from ?_)
          refine wp_seq ?_
          refine wp_region_L (W0 := w) ((g20, .cells #[.int .i64 0, .int .i64 0, .int .i64 0, .int .i64 32768] 3 (0, 0)) :: (g16, .cells #[.int .i64 1] 3 (0, 0)) :: (g1, .cells (frcC s n d) 34 (0, 0)) :: (((T2 ++ T4) ++ T7) ++ T18)) (hW34) ?_
          refine Tw.lm (v := .int .i64 0) rfl rfl ?_
          refine wpL_done (fun W35 hW35 => ?_)
          refine (show Code.wp _ _ _ _ _ from ?_)
          refine wp_seq ?_
          refine wp_seq ?_
          refine wp_region_L (W0 := w) ((g20, .cells #[.int .i64 0, .int .i64 0, .int .i64 0, .int .i64 32768] 3 (0, 0)) :: (g16, .cells #[.int .i64 1] 3 (0, 0)) :: (g1, .cells (frcC s n d) 34 (0, 0)) :: (((T2 ++ T4) ++ T7) ++ T18)) (hW35) ?_
          refine Tw.lm (v := .slice q18 ((cd ((n / d) + 1)).length) d18) rfl rfl ?_
          refine Tw.lp (v := .int .i64 ((((cd ((n / d) + 1)).length) : Nat) : Int)) rfl rfl (run_lenL (p := q18) (cap := d18) (n := ((cd ((n / d) + 1)).length)) rfl Tryz.underlying32 (by kernel_rfl)) ?_
          refine Tw.lp (v := .int .i64 (((((cd ((n / d) + 1)).length) : Nat) : Int) - 1)) rfl rfl (run_bin rfl (vx := (.int .i64 ((((cd ((n / d) + 1)).length) : Nat) : Int))) (vy := (.int .i64 ((1 : Nat) : Int))) (by kernel_rfl) (by kernel_rfl) fun w => bi_sub (z := (((((cd ((n / d) + 1)).length) : Nat) : Int) - 1)) rfl (wi_i64 (by omega)) w) ?_
          refine Tw.lm (v := .int .i64 (((((cd ((n / d) + 1)).length) : Nat) : Int) - 1)) rfl rfl ?_
          refine wpL_done (fun W36 hW36 => ?_)
          refine (show Code.wp _ _ _ _ _ from ?_)
          refine wp_block ?_
          go_loopw [8, 7] (fun u8 u7 wr => ∃ (z : Int) (zn : Int) (k m : Nat), (z = (k : Int) - 1) ∧ (zn = -((m : Nat) : Int)) ∧ (k ≤ (cd ((n / d) + 1)).length) ∧ (m = dv ((cd ((n / d) + 1)).drop k)) ∧ u8 = .int .i64 z ∧ u7 = .int .i64 zn ∧ KS w ((g20, .cells #[.int .i64 0, .int .i64 0, .int .i64 0, .int .i64 32768] 3 (0, 0)) :: (g16, .cells #[.int .i64 1] 3 (0, 0)) :: (g1, .cells (frcC s n d) 34 (0, 0)) :: (((T2 ++ T4) ++ T7) ++ T18)) wr) (fun u8 _ _ => (intOf u8 + 1).toNat)
          case atStart => exact ⟨(((((cd ((n / d) + 1)).length) : Nat) : Int) - 1), 0, (cd ((n / d) + 1)).length, 0, rfl, (by omega), (Nat.le_refl _), (drop_big (Nat.le_refl _)).symm, rfl, rfl, (hW36.sub (fun p hp => by first | exact hp | (simp only [List.mem_cons, List.mem_append, List.nil_append, List.not_mem_nil, or_assoc, or_false, false_or, List.cons_append, List.append_assoc] at hp ⊢ <;> grind)))⟩
          case round =>
            obtain ⟨z, zn, k, m, hz, hzn, hk, hm, rfl, rfl, hL37⟩ := hrel
            refine wp_seq ?_
            refine wp_seq ?_
            refine wp_region_L (W0 := w) ((g20, .cells #[.int .i64 0, .int .i64 0, .int .i64 0, .int .i64 32768] 3 (0, 0)) :: (g16, .cells #[.int .i64 1] 3 (0, 0)) :: (g1, .cells (frcC s n d) 34 (0, 0)) :: (((T2 ++ T4) ++ T7) ++ T18)) (hL37) ?_
            refine Tw.lm (v := .int .i64 z) rfl rfl ?_
            refine Tw.lp (v := .bool (!(decide (z < 0)))) rfl rfl (run_bin rfl (vx := (.int .i64 z)) (vy := (.int .i64 0)) (by kernel_rfl) (by kernel_rfl) fun w => bi_geq rfl w) ?_
            refine wpL_done (fun W38 hW38 => ?_)
            refine (show Code.wp _ _ _ _ _ from ?_)
            cases hd10 : (decide (z < 0)) with
            | false =>
              have h10 : ¬ (z < 0) := of_decide_eq_false hd10
              clear hd10
              obtain ⟨j, rfl⟩ := Int.eq_ofNat_of_zero_le (show 0 ≤ z by omega)
              obtain rfl : k = j + 1 := by omega
              obtain ⟨x22, hx22⟩ : ∃ xq_, ((cd ((n / d) + 1)) : List Nat)[j]? = some xq_ := get_ex (show j < ((cd ((n / d) + 1)) : List Nat).length by omega)
              have lx22 : x22 < 65536 := dOk.at (cd_ok ((n / d) + 1)) hx22
              have hdj := dv_drop_le (cd ((n / d) + 1)) j (by omega)
              rw [dv_cd, dv_drop hx22, ← hm] at hdj
              refine wp_cond_true rfl ?_
              refine wp_skip ?_
              refine (show Code.wp _ _ _ _ _ from ?_)
              refine wp_seq ?_
              refine wp_block ?_
              refine wp_seq ?_
              refine wp_region_L (W0 := w) ((g20, .cells #[.int .i64 0, .int .i64 0, .int .i64 0, .int .i64 32768] 3 (0, 0)) :: (g16, .cells #[.int .i64 1] 3 (0, 0)) :: (g1, .cells (frcC s n d) 34 (0, 0)) :: (((T2 ++ T4) ++ T7) ++ T18)) (hW38) ?_
              refine Tw.lm (v := .pointer (some ⟨g1, 0, none⟩)) rfl rfl ?_
              refine Tw.lv (v := .bool true) rfl rfl (yb_cell (off := 0) rfl (by kernel_rfl) (.tail _ (.tail _ (.head _))) Tryz.underlying4 rfl (frc_negq (h2.symm.trans hqs))) ?_
              refine wpL_done (fun W39 hW39 => ?_)
              refine (show Code.wp _ _ _ _ _ from ?_)
              refine wp_cond_true rfl ?_
              refine wp_region_L (W0 := w) ((g20, .cells #[.int .i64 0, .int .i64 0, .int .i64 0, .int .i64 32768] 3 (0, 0)) :: (g16, .cells #[.int .i64 1] 3 (0, 0)) :: (g1, .cells (frcC s n d) 34 (0, 0)) :: (((T2 ++ T4) ++ T7) ++ T18)) (hW39) ?_
              refine Tw.lm (v := .int .i64 zn) rfl rfl ?_
              refine Tw.lp (v := .int .i64 (zn * 65536)) rfl rfl (run_bin rfl (vx := (.int .i64 zn)) (vy := (.int .i64 65536)) (by kernel_rfl) (by kernel_rfl) fun w => bi_mul (z := (zn * 65536)) rfl (wi_i64 (by omega)) w) ?_
              refine Tw.lm (v := .slice q18 ((cd ((n / d) + 1)).length) d18) rfl rfl ?_
              refine Tw.lm (v := .int .i64 ((j : Nat) : Int)) rfl rfl ?_
              obtain ⟨b23, f23, hp23, hc23⟩ := (H18.mono (fun q hq => by first | exact hq | (simp only [List.mem_cons, List.mem_append, List.nil_append, List.not_mem_nil, or_assoc, or_false, false_or] at hq ⊢ <;> grind))).at hW39 (k := j) (by omega)
              refine Tw.lp (v := .pointer (some ⟨b23, f23 + j * 1, none⟩)) rfl rfl (run_idxQ (p := q18) (cap := d18) (n := ((cd ((n / d) + 1)).length)) (j := .i64) (k := j) (sz := 1) rfl Tryz.underlying32 (by kernel_rfl) (by kernel_rfl) hp23 (by kernel_rfl) (by omega)) ?_
              refine Tw.lv (v := .int .i64 ((x22 : Nat) : Int)) rfl rfl (yb_ns (off := f23 + j * 1) rfl (by kernel_rfl) (fun W hW => hc23 W (hW.sub (fun q hq => by first | exact hq | (simp only [List.mem_cons, List.mem_append, List.nil_append, List.not_mem_nil, or_assoc, or_false, false_or] at hq ⊢ <;> grind))) _ _ hx22) Tryz.underlying3 rfl) ?_
              refine Tw.lp (v := .int .i64 ((zn * 65536) - ((x22 : Nat) : Int))) rfl rfl (run_bin rfl (vx := (.int .i64 (zn * 65536))) (vy := (.int .i64 ((x22 : Nat) : Int))) (by kernel_rfl) (by kernel_rfl) fun w => bi_sub (z := ((zn * 65536) - ((x22 : Nat) : Int))) rfl (wi_i64 (by omega)) w) ?_
              refine Tw.lm (v := .int .i64 ((zn * 65536) - ((x22 : Nat) : Int))) rfl rfl ?_
              refine wpL_done (fun W40 hW40 => ?_)
              refine (show Code.wp _ _ _ _ _ from ?_)
              refine wp_region_L (W0 := w) ((g20, .cells #[.int .i64 0, .int .i64 0, .int .i64 0, .int .i64 32768] 3 (0, 0)) :: (g16, .cells #[.int .i64 1] 3 (0, 0)) :: (g1, .cells (frcC s n d) 34 (0, 0)) :: (((T2 ++ T4) ++ T7) ++ T18)) (hW40) ?_
              refine Tw.lm (v := .int .i64 ((j : Nat) : Int)) rfl rfl ?_
              refine Tw.lp (v := .int .i64 (((j : Nat) : Int) - 1)) rfl rfl (run_bin rfl (vx := (.int .i64 ((j : Nat) : Int))) (vy := (.int .i64 ((1 : Nat) : Int))) (by kernel_rfl) (by kernel_rfl) fun w => bi_sub (z := (((j : Nat) : Int) - 1)) rfl (wi_i64 (by omega)) w) ?_
              refine Tw.lm (v := .int .i64 (((j : Nat) : Int) - 1)) rfl rfl ?_
              refine wpL_done (fun W41 hW41 => ?_)
              go_roundw
              case rel =>
                repeat apply Exists.intro
                exact ⟨⟨(((j : Nat) : Int) - 1), ((zn * 65536) - ((x22 : Nat) : Int)), j, (m * 65536 + x22), (by omega), (by omega), (by omega), (by rw [dv_drop hx22, hm]; omega), rfl, rfl, (hW41.sub (fun p hp => by first | exact hp | (simp only [List.mem_cons, List.mem_append, List.nil_append, List.not_mem_nil, or_assoc, or_false, false_or, List.cons_append, List.append_assoc] at hp ⊢ <;> grind)))⟩, rfl⟩
              case measure => (show (intOf (.int .i64 (((j : Nat) : Int) - 1)) + 1).toNat < (intOf (.int .i64 ((j : Nat) : Int)) + 1).toNat); simp only [intOf]; omega
            | true =>
              have h10 : z < 0 := of_decide_eq_true hd10
              clear hd10
              refine wp_cond_false rfl ?_
              refine wp_exit ?_
              refine (show Code.wp _ _ _ _ _ from ?_)
              refine wp_seq ?_
              refine wp_region_L (W0 := w) ((g20, .cells #[.int .i64 0, .int .i64 0, .int .i64 0, .int .i64 32768] 3 (0, 0)) :: (g16, .cells #[.int .i64 1] 3 (0, 0)) :: (g1, .cells (frcC s n d) 34 (0, 0)) :: (((T2 ++ T4) ++ T7) ++ T18)) (hW38) ?_
              refine Tw.lm (v := .int .i64 zn) rfl rfl ?_
              refine Tw.lm (v := .int .i64 zn) rfl rfl ?_
              refine Tw.lm (v := .int .i64 0) rfl rfl ?_
              refine wpL_done (fun W42 hW42 => ?_)
              refine (show Code.wp _ _ _ _ _ from ?_)
              refine wp_ret ?_
              try simp only [inBlock_ret, then_ret]
              refine bodyPost_ret (v := .tuple #[.int .i64 zn, .int .i64 0]) ?_ rfl ?_
              · kernel_rfl
              · exact ⟨(ret_v (by have e1 : s = true := hqs.symm.trans h2; subst e1; rw [hV, if_pos h1, floor_less (by unfold floorQ; rw [if_pos ⟨rfl, fun h => by rw [h, cd_zero] at h6; simp at h6⟩]) h9 (.inl rfl)]; refine cmp_ret2 ?_; rw [show k = 0 from by omega, List.drop_zero, dv_cd] at hm; rw [hzn, hm]; rfl)), hW42.1⟩
        | true =>
          have h9 : 9223372036854775808 < ((n / d) + 1) := of_decide_eq_true hd9
          clear hd9
          refine Tw.ln rfl ?_
          refine Tw.ln rfl ?_
          refine Tw.ln rfl ?_
          refine Tw.ln rfl ?_
          refine Tw.ln rfl ?_
          refine Tw.ln rfl ?_
          refine Tw.ln rfl ?_
          refine Tw.ln rfl ?_
          refine Tw.ln rfl ?_
          refine Tw.lm (v := .bool true) rfl rfl ?_
          refine wpL_done (fun W43 hW43 => ?_)
          refine (show Code.wp _ _ _ _ _ from ?_)
          refine wp_cond_true rfl ?_
          refine wp_seq ?_
          refine wp_region_L (W0 := w) ((g20, .cells #[.int .i64 0, .int .i64 0, .int .i64 0, .int .i64 32768] 3 (0, 0)) :: (g16, .cells #[.int .i64 1] 3 (0, 0)) :: (g1, .cells (frcC s n d) 34 (0, 0)) :: (((T2 ++ T4) ++ T7) ++ T18)) (hW43) ?_
          refine Tw.lm (v := .int .i64 0) rfl rfl ?_
          refine Tw.lm (v := .int .i64 3) rfl rfl ?_
          refine wpL_done (fun W44 hW44 => ?_)
          refine (show Code.wp _ _ _ _ _ from ?_)
          refine wp_ret ?_
          try simp only [inBlock_ret, then_ret]
          refine bodyPost_ret (v := .tuple #[.int .i64 0, .int .i64 3]) ?_ rfl ?_
          · kernel_rfl
          · exact ⟨(ret_v (by have e1 : s = true := hqs.symm.trans h2; subst e1; rw [hV, if_pos h1, floor_more (by unfold floorQ; rw [if_pos ⟨rfl, fun h => by rw [h, cd_zero] at h6; simp at h6⟩]) (.inl h9)])), hW44.1⟩
end Go.Proofs.YtalmflgkbmnghaaGreatDoor
/- The texts of fractions, and what is read of them, of their neighbours and of what is no text. -/
namespace Go.Proofs.YtalmflgkbmnghaaGreatDoor
open Go.RowKit Tf
variable [ShLZ]
variable [ShSt]
end Go.Proofs.YtalmflgkbmnghaaGreatDoor
namespace Go.Proofs.YtalmflgkbmnghaaGreatDoor
open Go Go.RowKit Tw Tf
variable [ShLZ]
variable [ShSt]
def decP (m : Nat) : List UInt8 := if m = 0 then [] else Lib.decDigits m
theorem decP_pos {m : Nat} (h : 0 < m) : decP m = Lib.decDigits m := if_neg (by omega)
theorem decP_step {m : Nat} (h : 0 < m) : decP m = decP (m / 10) ++ [UInt8.ofNat (48 + m % 10)] := by
  rw [decP_pos h]
  rcases Nat.lt_or_ge m 10 with h1 | h1
  · rw [dec_small h1, Nat.div_eq_of_lt h1, Nat.mod_eq_of_lt h1]; rfl
  · rw [dec_big h1, decP_pos (by omega)]
def DecI (N m : Nat) (s : List UInt8) : Prop := (s = [] ∧ m = N) ∨ (s ≠ [] ∧ decP m ++ s = Lib.decDigits N)
theorem DecI.step {N m : Nat} {s : List UInt8} {c : UInt8} (h : DecI N m s) (hr : 0 < m ∨ s = []) (hc : c = UInt8.ofNat (48 + m % 10)) : DecI N (m / 10) ([c] ++ s) := by
  subst hc
  right
  refine ⟨by simp, ?_⟩
  rcases Nat.eq_zero_or_pos m with h0 | h0
  · subst h0
    rcases h with ⟨h1, h2⟩ | ⟨h1, h2⟩
    · subst h1 h2; rw [dec_small (by omega)]; rfl
    · rcases hr with h3 | h3
      · omega
      · exact absurd h3 h1
  · rw [← List.append_assoc, ← decP_step h0]
    rcases h with ⟨h1, h2⟩ | ⟨h1, h2⟩
    · subst h1 h2; rw [decP_pos h0, List.append_nil]
    · exact h2
theorem DecI.end {N m : Nat} {s : List UInt8} (h : DecI N m s) (h1 : ¬ 0 < m) (h2 : ¬ s = []) : s = Lib.decDigits N := by
  rcases h with ⟨h3, _⟩ | ⟨_, h4⟩
  · exact absurd h3 h2
  · rw [← h4, show m = 0 from by omega]; rfl
theorem DecI.len {N m : Nat} {s : List UInt8} (h : DecI N m s) : s.length ≤ (Lib.decDigits N).length := by
  rcases h with ⟨h3, _⟩ | ⟨_, h4⟩
  · subst h3; simp
  · rw [← h4]; simp
end Go.Proofs.YtalmflgkbmnghaaGreatDoor
namespace Go.Proofs.YtalmflgkbmnghaaGreatDoor
open Go Go.RowKit Tw
set_option linter.unusedSimpArgs false
set_option linter.unusedVariables false
open Tf (dg R R_pos R_le R_succ dg_of_lt setd setd_eq)
variable [ShLZ]
variable [ShSt]
theorem cd_10 : cd 10 = [10] := by rw [cd_pos (by decide), show 10 / 65536 = 0 from by decide, cd_zero]
theorem rdiv_ten (a : Nat) (p q : Option Addr) (c d : Nat) (la : (cd a).length ≤ 90000) (hc : (cd a).length ≤ c) (w : World) (hp : SLV w p (nums (cd a))) (hq : SLV w q (nums [10])) : Calls Tryz.prog 61 #[.slice p (cd a).length c, .slice q 1 d] w fun e w' => Ans2 w (cd (a / 10)) (cd (a % 10)) e w' := by
  have h := div_any a 10 p q c d (by decide) la hc w hp (by rw [cd_10]; exact hq)
  rw [cd_10] at h
  exact h
theorem first_dig {y x : Nat} (hy : y < 10) (h : (cd y)[0]? = some x) : x = y := by
  rcases Nat.eq_zero_or_pos y with rfl | h0
  · simp [cd_zero] at h
  · rw [cd_pos h0] at h
    simp only [List.getElem?_cons_zero, Option.some.injEq] at h
    omega
def strZ : Value → Nat
  | .string b => if b.size = 0 then 1 else 0
  | _ => 0
theorem strZ_nil : strZ (strV []) = 1 := rfl
theorem strZ_cons (b : UInt8) (l : List UInt8) : strZ (strV ([b] ++ l)) = 0 := by
  show (if ([b] ++ l).toArray.size = 0 then 1 else 0) = 0
  rw [if_neg (by simp)]
theorem dec_less {m : Nat} {ss : List UInt8} (h : 0 < m ∨ ss = []) : m / 10 * 2 + 0 < m * 2 + strZ (strV ss) := by
  rcases h with h | h
  · omega
  · subst h; rw [strZ_nil]; omega
set_option maxRecDepth 100000 in
set_option maxHeartbeats 20000000 in
theorem rdecimal_any (n : Nat) (p : Option Addr) (c : Nat) (hn : n < R 8) (hc : (cd n).length ≤ c) (w : World) (hp : SLV w p (nums (cd n))) : Calls Tryz.prog 63 #[.slice p (cd n).length c] w fun e w' => e = .returned (strV (Lib.decDigits n)) ∧ Below w.heap.size w w' := by
  have HP : NS (w : Base) p (cd n) [] := NS.base hp
  clear hp
  have lnn := cd_16 hn
  have hl78 := dec_len78 hn
  go_enter Tryz.func63, Tryz.ntmps63
  refine wp_seq ?_
  refine wp_region_L (W0 := w) [] (KS.start w) ?_
  refine Tw.lm (v := strV []) rfl rfl ?_
  refine wpL_done (fun W1 hW1 => ?_)
  refine (show Code.wp _ _ _ _ _ from ?_)
  refine wp_seq ?_
  refine wp_region_L (W0 := w) [] (hW1) ?_
  refine Tw.lm (v := strV []) rfl rfl ?_
  refine wpL_done (fun W2 hW2 => ?_)
  refine (show Code.wp _ _ _ _ _ from ?_)
  refine wp_seq ?_
  refine wp_block ?_
  go_loopw [0, 3] (fun u0 u3 wr => ∃ (m : Nat) (ss : List UInt8) (po : Option Addr) (co : Nat) (Kt : List (Nat × Obj)), (NS (w : Base) po (cd m) Kt) ∧ ((cd m).length ≤ co) ∧ (DecI n m ss) ∧ (m ≤ n) ∧ u0 = .slice po ((cd m).length) co ∧ u3 = strV ss ∧ KS w Kt wr) (fun u0 u3 wz => valOf wz u0 * 2 + strZ u3)
  case atStart => exact ⟨n, [], p, c, [], HP, hc, (.inl ⟨rfl, rfl⟩), (Nat.le_refl _), rfl, rfl, (hW2.sub (fun p hp => by first | exact hp | (simp only [List.mem_cons, List.mem_append, List.nil_append, List.not_mem_nil, or_assoc, or_false, false_or, List.cons_append, List.append_assoc] at hp ⊢ <;> grind)))⟩
  case round =>
    obtain ⟨m, ss, po, co, Kt, HO, hco, hD, hmn, rfl, rfl, hL3⟩ := hrel
    have lsn := hD.len
    have lcm : (cd m).length ≤ 16 := cd_16 (Nat.lt_of_le_of_lt hmn hn)
    refine wp_seq ?_
    refine wp_seq ?_
    refine wp_region_L (W0 := w) Kt (hL3) ?_
    refine Tw.lm (v := .slice po ((cd m).length) co) rfl rfl ?_
    refine Tw.lp (v := .int .i64 ((((cd m).length) : Nat) : Int)) rfl rfl (run_lenL (p := po) (cap := co) (n := ((cd m).length)) rfl Tryz.underlying32 (by kernel_rfl)) ?_
    refine Tw.lp (v := .bool (decide (0 < ((cd m).length)))) rfl rfl (run_bin rfl (vx := (.int .i64 ((((cd m).length) : Nat) : Int))) (vy := (.int .i64 ((0 : Nat) : Int))) (by kernel_rfl) (by kernel_rfl) fun w => bn_gtr rfl w) ?_
    refine Tw.lm (v := .bool (decide (0 < ((cd m).length)))) rfl rfl ?_
    cases hd1 : (decide (0 < ((cd m).length))) with
    | false =>
      have h1 : ¬ (0 < ((cd m).length)) := of_decide_eq_false hd1
      clear hd1
      refine Tw.lm (v := strV ss) rfl rfl ?_
      refine Tw.lp (v := .bool (decide (ss = []))) rfl rfl (run_bin rfl (vx := strV ss) (vy := strV []) (by kernel_rfl) (by kernel_rfl) fun w => bs_eql rfl w) ?_
      refine Tw.lm (v := .bool (decide (ss = []))) rfl rfl ?_
      refine wpL_done (fun W4 hW4 => ?_)
      refine (show Code.wp _ _ _ _ _ from ?_)
      cases hd2 : (decide (ss = [])) with
      | false =>
        have h2 : ¬ (ss = []) := of_decide_eq_false hd2
        clear hd2
        refine wp_cond_false rfl ?_
        refine wp_exit ?_
        refine (show Code.wp _ _ _ _ _ from ?_)
        refine wp_seq ?_
        refine wp_region_L (W0 := w) Kt (hW4) ?_
        refine Tw.lm (v := strV ss) rfl rfl ?_
        refine Tw.lm (v := strV ss) rfl rfl ?_
        refine wpL_done (fun W5 hW5 => ?_)
        refine (show Code.wp _ _ _ _ _ from ?_)
        refine wp_ret ?_
        try simp only [inBlock_ret, then_ret]
        refine bodyPost_ret (v := strV ss) ?_ rfl ?_
        · kernel_rfl
        · exact ⟨(ret_v (by rw [hD.end (fun h => h1 (cd_app h)) h2])), hW5.1⟩
      | true =>
        have h2 : ss = [] := of_decide_eq_true hd2
        clear hd2
        refine wp_cond_true rfl ?_
        refine wp_skip ?_
        refine (show Code.wp _ _ _ _ _ from ?_)
        refine wp_block ?_
        refine wp_seq ?_
        refine wp_region_L (W0 := w) Kt (hW4) ?_
        refine Tw.lm (v := .slice po ((cd m).length) co) rfl rfl ?_
        refine wpL_new (fun g => .slice (some ⟨g, 0, none⟩) 1 1) (obi := .cells #[.int .i64 10] 3 (0, 0)) rfl rfl (fun _ => by kernel_rfl) (fun _ => by simp only [List.setIfInBounds_toArray, List.set_cons_succ, List.set_cons_zero] <;> rfl) fun g1 Bg1 Fg1 => ?_
        obtain dj2_0 : Dk g1 Kt := by simpa only [dj_app_l, dj_app_r, dj_cons_l, dj_cons_r, dj_nil_l, dj_nil_r, dk_app, dk_cons, dk_nil, and_true, true_and, and_assoc] using (show Dk g1 Kt from Fg1)
        refine wpL_c (f := 61) (args := #[.slice po ((cd m).length) co, .slice (some ⟨g1, 0, none⟩) 1 1]) (AnsW2 w ((g1, .cells #[.int .i64 10] 3 (0, 0)) :: Kt) (cd (m / 10)) (cd (m % 10))) rfl (by kernel_rfl) (fun _ => (by kernel_rfl)) (fun W hW => (rdiv_ten m po (some ⟨g1, 0, none⟩) co 1 (by omega) hco W ((HO.mono (fun q hq => by first | exact hq | (simp only [List.mem_cons, List.mem_append, List.nil_append, List.not_mem_nil, or_assoc, or_false, false_or] at hq ⊢ <;> grind))) W hW) (((show NS (w : Base) (some ⟨g1, 0, none⟩) [10] [(g1, .cells #[.int .i64 10] 3 (0, 0))] from ns_blk).mono (fun q hq => by cases List.mem_singleton.1 hq; exact (.head _))) W hW)).mono fun e w2 h => Ans2.g h hW) (fun _ => by simp only [List.setIfInBounds_toArray, List.set_cons_succ, List.set_cons_zero] <;> rfl) ?_
        rintro v3 _ ⟨q3, d3, r3, g3, T3, rfl, C3, E3, H3, G3, rfl⟩
        refine Tw.lm (v := .tuple #[.slice q3 ((cd (m / 10)).length) d3, .slice r3 ((cd (m % 10)).length) g3]) rfl rfl ?_
        refine Tw.lm (v := .slice q3 ((cd (m / 10)).length) d3) rfl rfl ?_
        refine Tw.lm (v := .slice r3 ((cd (m % 10)).length) g3) rfl rfl ?_
        refine Tw.lm (v := .slice q3 ((cd (m / 10)).length) d3) rfl rfl ?_
        refine Tw.lm (v := .slice r3 ((cd (m % 10)).length) g3) rfl rfl ?_
        refine wpL_done (fun W6 hW6 => ?_)
        refine (show Code.wp _ _ _ _ _ from ?_)
        refine wp_seq ?_
        refine wp_region_L (W0 := w) ((g1, .cells #[.int .i64 10] 3 (0, 0)) :: (Kt ++ T3)) (hW6) ?_
        refine Tw.lm (v := .int .i64 0) rfl rfl ?_
        refine wpL_done (fun W7 hW7 => ?_)
        refine (show Code.wp _ _ _ _ _ from ?_)
        refine wp_seq ?_
        refine wp_seq ?_
        refine wp_region_L (W0 := w) ((g1, .cells #[.int .i64 10] 3 (0, 0)) :: (Kt ++ T3)) (hW7) ?_
        refine Tw.lm (v := .slice r3 ((cd (m % 10)).length) g3) rfl rfl ?_
        refine Tw.lp (v := .int .i64 ((((cd (m % 10)).length) : Nat) : Int)) rfl rfl (run_lenL (p := r3) (cap := g3) (n := ((cd (m % 10)).length)) rfl Tryz.underlying32 (by kernel_rfl)) ?_
        refine Tw.lp (v := .bool (decide (0 < ((cd (m % 10)).length)))) rfl rfl (run_bin rfl (vx := (.int .i64 ((((cd (m % 10)).length) : Nat) : Int))) (vy := (.int .i64 ((0 : Nat) : Int))) (by kernel_rfl) (by kernel_rfl) fun w => bn_gtr rfl w) ?_
        refine wpL_done (fun W8 hW8 => ?_)
        refine (show Code.wp _ _ _ _ _ from ?_)
        cases hd3 : (decide (0 < ((cd (m % 10)).length))) with
        | false =>
          have h3 : ¬ (0 < ((cd (m % 10)).length)) := of_decide_eq_false hd3
          clear hd3
          have hmz : m % 10 = 0 := cd_len0.1 (by omega)
          refine wp_cond_false rfl ?_
          refine wp_skip ?_
          refine (show Code.wp _ _ _ _ _ from ?_)
          refine wp_seq ?_
          refine wp_region_L (W0 := w) ((g1, .cells #[.int .i64 10] 3 (0, 0)) :: (Kt ++ T3)) (hW8) ?_
          refine Tw.lm (v := .int .i64 0) rfl rfl ?_
          refine Tw.lm (v := .int .i64 48) rfl rfl ?_
          refine Tw.lm (v := .int .u8 48) rfl rfl ?_
          refine wpL_new (fun g => .slice (some ⟨g, 0, none⟩) 1 1) (obi := .cells #[.int .u8 48] 5 (0, 0)) rfl rfl (fun _ => by kernel_rfl) (fun _ => by simp only [List.setIfInBounds_toArray, List.set_cons_succ, List.set_cons_zero] <;> rfl) fun g4 Bg4 Fg4 => ?_
          obtain ⟨dj5_0, dj5_1, dj5_2⟩ : g1 ≠ g4 ∧ Dk g4 Kt ∧ Dk g4 T3 := by simpa only [dj_app_l, dj_app_r, dj_cons_l, dj_cons_r, dj_nil_l, dj_nil_r, dk_app, dk_cons, dk_nil, and_true, true_and, and_assoc] using (show Dk g4 ((g1, .cells #[.int .i64 10] 3 (0, 0)) :: (Kt ++ T3)) from Fg4)
          refine Tw.lv (v := strV [UInt8.ofNat 48]) rfl rfl (yb_str (n := 1) (cap := 1) (l := [UInt8.ofNat 48]) rfl Tryz.underlying67 Tryz.underlying5 Tryz.underlying9 (by kernel_rfl) rfl (.head _) (by first | rfl | (simp [RowB, u8s]; omega))) ?_
          refine Tw.lm (v := strV ss) rfl rfl ?_
          refine Tw.lp (v := strV ([UInt8.ofNat 48] ++ ss)) rfl rfl (run_bin rfl (vx := strV [UInt8.ofNat 48]) (vy := strV ss) (by kernel_rfl) (by kernel_rfl) fun w => bs_add (c := ([UInt8.ofNat 48] ++ ss)) rfl (by first | omega | (simp; omega)) w) ?_
          refine Tw.lm (v := strV ([UInt8.ofNat 48] ++ ss)) rfl rfl ?_
          refine wpL_done (fun W9 hW9 => ?_)
          refine (show Code.wp _ _ _ _ _ from ?_)
          refine wp_region_L (W0 := w) ((g4, .cells #[.int .u8 48] 5 (0, 0)) :: (g1, .cells #[.int .i64 10] 3 (0, 0)) :: (Kt ++ T3)) (hW9) ?_
          refine Tw.lm (v := .slice q3 ((cd (m / 10)).length) d3) rfl rfl ?_
          refine Tw.lm (v := .slice q3 ((cd (m / 10)).length) d3) rfl rfl ?_
          refine wpL_done (fun W10 hW10 => ?_)
          go_roundw
          case rel =>
            repeat apply Exists.intro
            exact ⟨⟨m / 10, ([UInt8.ofNat 48] ++ ss), q3, d3, (Kt ++ T3), (H3.mono (fun q hq => by first | exact hq | (simp only [List.mem_cons, List.mem_append, List.nil_append, List.not_mem_nil, or_assoc, or_false, false_or] at hq ⊢ <;> grind))), C3, (hD.step (.inr h2) (by rw [hmz])), (Nat.le_trans (Nat.div_le_self _ _) hmn), rfl, rfl, (hW10.sub (fun p hp => by first | exact hp | (simp only [List.mem_cons, List.mem_append, List.nil_append, List.not_mem_nil, or_assoc, or_false, false_or, List.cons_append, List.append_assoc] at hp ⊢ <;> grind)))⟩, rfl⟩
          case measure => (show valOf _ (.slice q3 (cd (m / 10)).length d3) * 2 + strZ (strV ([UInt8.ofNat 48] ++ ss)) < valOf _ (.slice po (cd m).length co) * 2 + strZ (strV ss)); rw [valOf_eq (((H3.mono (fun q hq => by first | exact hq | (simp only [List.mem_cons, List.mem_append, List.nil_append, List.not_mem_nil, or_assoc, or_false, false_or] at hq ⊢ <;> grind)))) _ hW10), valOf_eq (HO _ hL3), strZ_cons]; exact dec_less (.inr h2)
        | true =>
          have h3 : 0 < ((cd (m % 10)).length) := of_decide_eq_true hd3
          clear hd3
          obtain ⟨x6, hx6⟩ : ∃ xq_, ((cd (m % 10)) : List Nat)[0]? = some xq_ := get_ex (show 0 < ((cd (m % 10)) : List Nat).length by omega)
          have lx6 : x6 < 65536 := dOk.at (cd_ok (m % 10)) hx6
          have hxx : x6 = m % 10 := first_dig (Nat.mod_lt _ (by omega)) hx6
          have lxx : x6 < 10 := by omega
          refine wp_cond_true rfl ?_
          refine wp_region_L (W0 := w) ((g1, .cells #[.int .i64 10] 3 (0, 0)) :: (Kt ++ T3)) (hW8) ?_
          refine Tw.lm (v := .slice r3 ((cd (m % 10)).length) g3) rfl rfl ?_
          obtain ⟨b7, f7, hp7, hc7⟩ := (G3.mono (fun q hq => by first | exact hq | (simp only [List.mem_cons, List.mem_append, List.nil_append, List.not_mem_nil, or_assoc, or_false, false_or] at hq ⊢ <;> grind))).at hW8 (k := 0) (by omega)
          refine Tw.lp (v := .pointer (some ⟨b7, f7 + 0 * 1, none⟩)) rfl rfl (run_idxQ (p := r3) (cap := g3) (n := ((cd (m % 10)).length)) (j := .i64) (k := 0) (sz := 1) rfl Tryz.underlying32 (by kernel_rfl) (by kernel_rfl) hp7 (by kernel_rfl) (by omega)) ?_
          refine Tw.lv (v := .int .i64 ((x6 : Nat) : Int)) rfl rfl (yb_ns (off := f7 + 0 * 1) rfl (by kernel_rfl) (fun W hW => hc7 W (hW.sub (fun q hq => by first | exact hq | (simp only [List.mem_cons, List.mem_append, List.nil_append, List.not_mem_nil, or_assoc, or_false, false_or] at hq ⊢ <;> grind))) _ _ hx6) Tryz.underlying3 rfl) ?_
          refine Tw.lm (v := .int .i64 ((x6 : Nat) : Int)) rfl rfl ?_
          refine wpL_done (fun W11 hW11 => ?_)
          refine (show Code.wp _ _ _ _ _ from ?_)
          refine wp_seq ?_
          refine wp_region_L (W0 := w) ((g1, .cells #[.int .i64 10] 3 (0, 0)) :: (Kt ++ T3)) (hW11) ?_
          refine Tw.lm (v := .int .i64 ((x6 : Nat) : Int)) rfl rfl ?_
          refine Tw.lp (v := .int .i64 (((48 + x6) : Nat) : Int)) rfl rfl (run_bin rfl (vx := (.int .i64 ((48 : Nat) : Int))) (vy := (.int .i64 ((x6 : Nat) : Int))) (by kernel_rfl) (by kernel_rfl) fun w => bn_add (z := (48 + x6)) rfl (wr_i64 (by omega)) w) ?_
          refine Tw.lp (v := .int .u8 (((48 + x6) : Nat) : Int)) rfl rfl (run_conv rfl (vx := (.int .i64 (((48 + x6) : Nat) : Int))) (by kernel_rfl) fun w => cv_int Tryz.underlying3 Tryz.underlying5 (wr_u8 (by omega)) w) ?_
          refine wpL_new (fun g => .slice (some ⟨g, 0, none⟩) 1 1) (obi := .cells #[.int .u8 (((48 + x6) : Nat) : Int)] 5 (0, 0)) rfl rfl (fun _ => by kernel_rfl) (fun _ => by simp only [List.setIfInBounds_toArray, List.set_cons_succ, List.set_cons_zero] <;> rfl) fun g8 Bg8 Fg8 => ?_
          obtain ⟨dj9_0, dj9_1, dj9_2⟩ : g1 ≠ g8 ∧ Dk g8 Kt ∧ Dk g8 T3 := by simpa only [dj_app_l, dj_app_r, dj_cons_l, dj_cons_r, dj_nil_l, dj_nil_r, dk_app, dk_cons, dk_nil, and_true, true_and, and_assoc] using (show Dk g8 ((g1, .cells #[.int .i64 10] 3 (0, 0)) :: (Kt ++ T3)) from Fg8)
          refine Tw.lv (v := strV [UInt8.ofNat (48 + x6)]) rfl rfl (yb_str (n := 1) (cap := 1) (l := [UInt8.ofNat (48 + x6)]) rfl Tryz.underlying67 Tryz.underlying5 Tryz.underlying9 (by kernel_rfl) rfl (.head _) (by first | rfl | (simp [RowB, u8s]; omega))) ?_
          refine Tw.lm (v := strV ss) rfl rfl ?_
          refine Tw.lp (v := strV ([UInt8.ofNat (48 + x6)] ++ ss)) rfl rfl (run_bin rfl (vx := strV [UInt8.ofNat (48 + x6)]) (vy := strV ss) (by kernel_rfl) (by kernel_rfl) fun w => bs_add (c := ([UInt8.ofNat (48 + x6)] ++ ss)) rfl (by first | omega | (simp; omega)) w) ?_
          refine Tw.lm (v := strV ([UInt8.ofNat (48 + x6)] ++ ss)) rfl rfl ?_
          refine wpL_done (fun W12 hW12 => ?_)
          refine (show Code.wp _ _ _ _ _ from ?_)
          refine wp_region_L (W0 := w) ((g8, .cells #[.int .u8 (((48 + x6) : Nat) : Int)] 5 (0, 0)) :: (g1, .cells #[.int .i64 10] 3 (0, 0)) :: (Kt ++ T3)) (hW12) ?_
          refine Tw.lm (v := .slice q3 ((cd (m / 10)).length) d3) rfl rfl ?_
          refine Tw.lm (v := .slice q3 ((cd (m / 10)).length) d3) rfl rfl ?_
          refine wpL_done (fun W13 hW13 => ?_)
          go_roundw
          case rel =>
            repeat apply Exists.intro
            exact ⟨⟨m / 10, ([UInt8.ofNat (48 + x6)] ++ ss), q3, d3, (Kt ++ T3), (H3.mono (fun q hq => by first | exact hq | (simp only [List.mem_cons, List.mem_append, List.nil_append, List.not_mem_nil, or_assoc, or_false, false_or] at hq ⊢ <;> grind))), C3, (hD.step (.inr h2) (by rw [hxx])), (Nat.le_trans (Nat.div_le_self _ _) hmn), rfl, rfl, (hW13.sub (fun p hp => by first | exact hp | (simp only [List.mem_cons, List.mem_append, List.nil_append, List.not_mem_nil, or_assoc, or_false, false_or, List.cons_append, List.append_assoc] at hp ⊢ <;> grind)))⟩, rfl⟩
          case measure => (show valOf _ (.slice q3 (cd (m / 10)).length d3) * 2 + strZ (strV ([UInt8.ofNat (48 + x6)] ++ ss)) < valOf _ (.slice po (cd m).length co) * 2 + strZ (strV ss)); rw [valOf_eq (((H3.mono (fun q hq => by first | exact hq | (simp only [List.mem_cons, List.mem_append, List.nil_append, List.not_mem_nil, or_assoc, or_false, false_or] at hq ⊢ <;> grind)))) _ hW13), valOf_eq (HO _ hL3), strZ_cons]; exact dec_less (.inr h2)
    | true =>
      have h1 : 0 < ((cd m).length) := of_decide_eq_true hd1
      clear hd1
      refine Tw.ln rfl ?_
      refine Tw.ln rfl ?_
      refine Tw.lm (v := .bool true) rfl rfl ?_
      refine wpL_done (fun W14 hW14 => ?_)
      refine (show Code.wp _ _ _ _ _ from ?_)
      refine wp_cond_true rfl ?_
      refine wp_skip ?_
      refine (show Code.wp _ _ _ _ _ from ?_)
      refine wp_block ?_
      refine wp_seq ?_
      refine wp_region_L (W0 := w) Kt (hW14) ?_
      refine Tw.lm (v := .slice po ((cd m).length) co) rfl rfl ?_
      refine wpL_new (fun g => .slice (some ⟨g, 0, none⟩) 1 1) (obi := .cells #[.int .i64 10] 3 (0, 0)) rfl rfl (fun _ => by kernel_rfl) (fun _ => by simp only [List.setIfInBounds_toArray, List.set_cons_succ, List.set_cons_zero] <;> rfl) fun g10 Bg10 Fg10 => ?_
      obtain dj11_0 : Dk g10 Kt := by simpa only [dj_app_l, dj_app_r, dj_cons_l, dj_cons_r, dj_nil_l, dj_nil_r, dk_app, dk_cons, dk_nil, and_true, true_and, and_assoc] using (show Dk g10 Kt from Fg10)
      refine wpL_c (f := 61) (args := #[.slice po ((cd m).length) co, .slice (some ⟨g10, 0, none⟩) 1 1]) (AnsW2 w ((g10, .cells #[.int .i64 10] 3 (0, 0)) :: Kt) (cd (m / 10)) (cd (m % 10))) rfl (by kernel_rfl) (fun _ => (by kernel_rfl)) (fun W hW => (rdiv_ten m po (some ⟨g10, 0, none⟩) co 1 (by omega) hco W ((HO.mono (fun q hq => by first | exact hq | (simp only [List.mem_cons, List.mem_append, List.nil_append, List.not_mem_nil, or_assoc, or_false, false_or] at hq ⊢ <;> grind))) W hW) (((show NS (w : Base) (some ⟨g10, 0, none⟩) [10] [(g10, .cells #[.int .i64 10] 3 (0, 0))] from ns_blk).mono (fun q hq => by cases List.mem_singleton.1 hq; exact (.head _))) W hW)).mono fun e w2 h => Ans2.g h hW) (fun _ => by simp only [List.setIfInBounds_toArray, List.set_cons_succ, List.set_cons_zero] <;> rfl) ?_
      rintro v12 _ ⟨q12, d12, r12, g12, T12, rfl, C12, E12, H12, G12, rfl⟩
      refine Tw.lm (v := .tuple #[.slice q12 ((cd (m / 10)).length) d12, .slice r12 ((cd (m % 10)).length) g12]) rfl rfl ?_
      refine Tw.lm (v := .slice q12 ((cd (m / 10)).length) d12) rfl rfl ?_
      refine Tw.lm (v := .slice r12 ((cd (m % 10)).length) g12) rfl rfl ?_
      refine Tw.lm (v := .slice q12 ((cd (m / 10)).length) d12) rfl rfl ?_
      refine Tw.lm (v := .slice r12 ((cd (m % 10)).length) g12) rfl rfl ?_
      refine wpL_done (fun W15 hW15 => ?_)
      refine (show Code.wp _ _ _ _ _ from ?_)
      refine wp_seq ?_
      refine wp_region_L (W0 := w) ((g10, .cells #[.int .i64 10] 3 (0, 0)) :: (Kt ++ T12)) (hW15) ?_
      refine Tw.lm (v := .int .i64 0) rfl rfl ?_
      refine wpL_done (fun W16 hW16 => ?_)
      refine (show Code.wp _ _ _ _ _ from ?_)
      refine wp_seq ?_
      refine wp_seq ?_
      refine wp_region_L (W0 := w) ((g10, .cells #[.int .i64 10] 3 (0, 0)) :: (Kt ++ T12)) (hW16) ?_
      refine Tw.lm (v := .slice r12 ((cd (m % 10)).length) g12) rfl rfl ?_
      refine Tw.lp (v := .int .i64 ((((cd (m % 10)).length) : Nat) : Int)) rfl rfl (run_lenL (p := r12) (cap := g12) (n := ((cd (m % 10)).length)) rfl Tryz.underlying32 (by kernel_rfl)) ?_
      refine Tw.lp (v := .bool (decide (0 < ((cd (m % 10)).length)))) rfl rfl (run_bin rfl (vx := (.int .i64 ((((cd (m % 10)).length) : Nat) : Int))) (vy := (.int .i64 ((0 : Nat) : Int))) (by kernel_rfl) (by kernel_rfl) fun w => bn_gtr rfl w) ?_
      refine wpL_done (fun W17 hW17 => ?_)
      refine (show Code.wp _ _ _ _ _ from ?_)
      cases hd4 : (decide (0 < ((cd (m % 10)).length))) with
      | false =>
        have h4 : ¬ (0 < ((cd (m % 10)).length)) := of_decide_eq_false hd4
        clear hd4
        have hmz : m % 10 = 0 := cd_len0.1 (by omega)
        refine wp_cond_false rfl ?_
        refine wp_skip ?_
        refine (show Code.wp _ _ _ _ _ from ?_)
        refine wp_seq ?_
        refine wp_region_L (W0 := w) ((g10, .cells #[.int .i64 10] 3 (0, 0)) :: (Kt ++ T12)) (hW17) ?_
        refine Tw.lm (v := .int .i64 0) rfl rfl ?_
        refine Tw.lm (v := .int .i64 48) rfl rfl ?_
        refine Tw.lm (v := .int .u8 48) rfl rfl ?_
        refine wpL_new (fun g => .slice (some ⟨g, 0, none⟩) 1 1) (obi := .cells #[.int .u8 48] 5 (0, 0)) rfl rfl (fun _ => by kernel_rfl) (fun _ => by simp only [List.setIfInBounds_toArray, List.set_cons_succ, List.set_cons_zero] <;> rfl) fun g13 Bg13 Fg13 => ?_
        obtain ⟨dj14_0, dj14_1, dj14_2⟩ : g10 ≠ g13 ∧ Dk g13 Kt ∧ Dk g13 T12 := by simpa only [dj_app_l, dj_app_r, dj_cons_l, dj_cons_r, dj_nil_l, dj_nil_r, dk_app, dk_cons, dk_nil, and_true, true_and, and_assoc] using (show Dk g13 ((g10, .cells #[.int .i64 10] 3 (0, 0)) :: (Kt ++ T12)) from Fg13)
        refine Tw.lv (v := strV [UInt8.ofNat 48]) rfl rfl (yb_str (n := 1) (cap := 1) (l := [UInt8.ofNat 48]) rfl Tryz.underlying67 Tryz.underlying5 Tryz.underlying9 (by kernel_rfl) rfl (.head _) (by first | rfl | (simp [RowB, u8s]; omega))) ?_
        refine Tw.lm (v := strV ss) rfl rfl ?_
        refine Tw.lp (v := strV ([UInt8.ofNat 48] ++ ss)) rfl rfl (run_bin rfl (vx := strV [UInt8.ofNat 48]) (vy := strV ss) (by kernel_rfl) (by kernel_rfl) fun w => bs_add (c := ([UInt8.ofNat 48] ++ ss)) rfl (by first | omega | (simp; omega)) w) ?_
        refine Tw.lm (v := strV ([UInt8.ofNat 48] ++ ss)) rfl rfl ?_
        refine wpL_done (fun W18 hW18 => ?_)
        refine (show Code.wp _ _ _ _ _ from ?_)
        refine wp_region_L (W0 := w) ((g13, .cells #[.int .u8 48] 5 (0, 0)) :: (g10, .cells #[.int .i64 10] 3 (0, 0)) :: (Kt ++ T12)) (hW18) ?_
        refine Tw.lm (v := .slice q12 ((cd (m / 10)).length) d12) rfl rfl ?_
        refine Tw.lm (v := .slice q12 ((cd (m / 10)).length) d12) rfl rfl ?_
        refine wpL_done (fun W19 hW19 => ?_)
        go_roundw
        case rel =>
          repeat apply Exists.intro
          exact ⟨⟨m / 10, ([UInt8.ofNat 48] ++ ss), q12, d12, (Kt ++ T12), (H12.mono (fun q hq => by first | exact hq | (simp only [List.mem_cons, List.mem_append, List.nil_append, List.not_mem_nil, or_assoc, or_false, false_or] at hq ⊢ <;> grind))), C12, (hD.step (.inl (cd_pos' h1)) (by rw [hmz])), (Nat.le_trans (Nat.div_le_self _ _) hmn), rfl, rfl, (hW19.sub (fun p hp => by first | exact hp | (simp only [List.mem_cons, List.mem_append, List.nil_append, List.not_mem_nil, or_assoc, or_false, false_or, List.cons_append, List.append_assoc] at hp ⊢ <;> grind)))⟩, rfl⟩
        case measure => (show valOf _ (.slice q12 (cd (m / 10)).length d12) * 2 + strZ (strV ([UInt8.ofNat 48] ++ ss)) < valOf _ (.slice po (cd m).length co) * 2 + strZ (strV ss)); rw [valOf_eq (((H12.mono (fun q hq => by first | exact hq | (simp only [List.mem_cons, List.mem_append, List.nil_append, List.not_mem_nil, or_assoc, or_false, false_or] at hq ⊢ <;> grind)))) _ hW19), valOf_eq (HO _ hL3), strZ_cons]; exact dec_less (.inl (cd_pos' h1))
      | true =>
        have h4 : 0 < ((cd (m % 10)).length) := of_decide_eq_true hd4
        clear hd4
        obtain ⟨x15, hx15⟩ : ∃ xq_, ((cd (m % 10)) : List Nat)[0]? = some xq_ := get_ex (show 0 < ((cd (m % 10)) : List Nat).length by omega)
        have lx15 : x15 < 65536 := dOk.at (cd_ok (m % 10)) hx15
        have hxx : x15 = m % 10 := first_dig (Nat.mod_lt _ (by omega)) hx15
        have lxx : x15 < 10 := by omega
        refine wp_cond_true rfl ?_
        refine wp_region_L (W0 := w) ((g10, .cells #[.int .i64 10] 3 (0, 0)) :: (Kt ++ T12)) (hW17) ?_
        refine Tw.lm (v := .slice r12 ((cd (m % 10)).length) g12) rfl rfl ?_
        obtain ⟨b16, f16, hp16, hc16⟩ := (G12.mono (fun q hq => by first | exact hq | (simp only [List.mem_cons, List.mem_append, List.nil_append, List.not_mem_nil, or_assoc, or_false, false_or] at hq ⊢ <;> grind))).at hW17 (k := 0) (by omega)
        refine Tw.lp (v := .pointer (some ⟨b16, f16 + 0 * 1, none⟩)) rfl rfl (run_idxQ (p := r12) (cap := g12) (n := ((cd (m % 10)).length)) (j := .i64) (k := 0) (sz := 1) rfl Tryz.underlying32 (by kernel_rfl) (by kernel_rfl) hp16 (by kernel_rfl) (by omega)) ?_
        refine Tw.lv (v := .int .i64 ((x15 : Nat) : Int)) rfl rfl (yb_ns (off := f16 + 0 * 1) rfl (by kernel_rfl) (fun W hW => hc16 W (hW.sub (fun q hq => by first | exact hq | (simp only [List.mem_cons, List.mem_append, List.nil_append, List.not_mem_nil, or_assoc, or_false, false_or] at hq ⊢ <;> grind))) _ _ hx15) Tryz.underlying3 rfl) ?_
        refine Tw.lm (v := .int .i64 ((x15 : Nat) : Int)) rfl rfl ?_
        refine wpL_done (fun W20 hW20 => ?_)
        refine (show Code.wp _ _ _ _ _ from ?_)
        refine wp_seq ?_
        refine wp_region_L (W0 := w) ((g10, .cells #[.int .i64 10] 3 (0, 0)) :: (Kt ++ T12)) (hW20) ?_
        refine Tw.lm (v := .int .i64 ((x15 : Nat) : Int)) rfl rfl ?_
        refine Tw.lp (v := .int .i64 (((48 + x15) : Nat) : Int)) rfl rfl (run_bin rfl (vx := (.int .i64 ((48 : Nat) : Int))) (vy := (.int .i64 ((x15 : Nat) : Int))) (by kernel_rfl) (by kernel_rfl) fun w => bn_add (z := (48 + x15)) rfl (wr_i64 (by omega)) w) ?_
        refine Tw.lp (v := .int .u8 (((48 + x15) : Nat) : Int)) rfl rfl (run_conv rfl (vx := (.int .i64 (((48 + x15) : Nat) : Int))) (by kernel_rfl) fun w => cv_int Tryz.underlying3 Tryz.underlying5 (wr_u8 (by omega)) w) ?_
        refine wpL_new (fun g => .slice (some ⟨g, 0, none⟩) 1 1) (obi := .cells #[.int .u8 (((48 + x15) : Nat) : Int)] 5 (0, 0)) rfl rfl (fun _ => by kernel_rfl) (fun _ => by simp only [List.setIfInBounds_toArray, List.set_cons_succ, List.set_cons_zero] <;> rfl) fun g17 Bg17 Fg17 => ?_
        obtain ⟨dj18_0, dj18_1, dj18_2⟩ : g10 ≠ g17 ∧ Dk g17 Kt ∧ Dk g17 T12 := by simpa only [dj_app_l, dj_app_r, dj_cons_l, dj_cons_r, dj_nil_l, dj_nil_r, dk_app, dk_cons, dk_nil, and_true, true_and, and_assoc] using (show Dk g17 ((g10, .cells #[.int .i64 10] 3 (0, 0)) :: (Kt ++ T12)) from Fg17)
        refine Tw.lv (v := strV [UInt8.ofNat (48 + x15)]) rfl rfl (yb_str (n := 1) (cap := 1) (l := [UInt8.ofNat (48 + x15)]) rfl Tryz.underlying67 Tryz.underlying5 Tryz.underlying9 (by kernel_rfl) rfl (.head _) (by first | rfl | (simp [RowB, u8s]; omega))) ?_
        refine Tw.lm (v := strV ss) rfl rfl ?_
        refine Tw.lp (v := strV ([UInt8.ofNat (48 + x15)] ++ ss)) rfl rfl (run_bin rfl (vx := strV [UInt8.ofNat (48 + x15)]) (vy := strV ss) (by kernel_rfl) (by kernel_rfl) fun w => bs_add (c := ([UInt8.ofNat (48 + x15)] ++ ss)) rfl (by first | omega | (simp; omega)) w) ?_
        refine Tw.lm (v := strV ([UInt8.ofNat (48 + x15)] ++ ss)) rfl rfl ?_
        refine wpL_done (fun W21 hW21 => ?_)
        refine (show Code.wp _ _ _ _ _ from ?_)
        refine wp_region_L (W0 := w) ((g17, .cells #[.int .u8 (((48 + x15) : Nat) : Int)] 5 (0, 0)) :: (g10, .cells #[.int .i64 10] 3 (0, 0)) :: (Kt ++ T12)) (hW21) ?_
        refine Tw.lm (v := .slice q12 ((cd (m / 10)).length) d12) rfl rfl ?_
        refine Tw.lm (v := .slice q12 ((cd (m / 10)).length) d12) rfl rfl ?_
        refine wpL_done (fun W22 hW22 => ?_)
        go_roundw
        case rel =>
          repeat apply Exists.intro
          exact ⟨⟨m / 10, ([UInt8.ofNat (48 + x15)] ++ ss), q12, d12, (Kt ++ T12), (H12.mono (fun q hq => by first | exact hq | (simp only [List.mem_cons, List.mem_append, List.nil_append, List.not_mem_nil, or_assoc, or_false, false_or] at hq ⊢ <;> grind))), C12, (hD.step (.inl (cd_pos' h1)) (by rw [hxx])), (Nat.le_trans (Nat.div_le_self _ _) hmn), rfl, rfl, (hW22.sub (fun p hp => by first | exact hp | (simp only [List.mem_cons, List.mem_append, List.nil_append, List.not_mem_nil, or_assoc, or_false, false_or, List.cons_append, List.append_assoc] at hp ⊢ <;> grind)))⟩, rfl⟩
        case measure => (show valOf _ (.slice q12 (cd (m / 10)).length d12) * 2 + strZ (strV ([UInt8.ofNat (48 + x15)] ++ ss)) < valOf _ (.slice po (cd m).length co) * 2 + strZ (strV ss)); rw [valOf_eq (((H12.mono (fun q hq => by first | exact hq | (simp only [List.mem_cons, List.mem_append, List.nil_append, List.not_mem_nil, or_assoc, or_false, false_or] at hq ⊢ <;> grind)))) _ hW22), valOf_eq (HO _ hL3), strZ_cons]; exact dec_less (.inl (cd_pos' h1))
set_option maxRecDepth 100000 in
set_option maxHeartbeats 20000000 in
theorem RText_any (s : Bool) (n d : Nat) (hn : n < R 8) (hd : d < R 8) (w : World) : Calls Tryz.prog 31 #[.agg (frcC s n d)] w fun e w' => e = .returned (if rightB s n d = true then .tuple #[strV (textL s n d), .int .i64 0] else .tuple #[strV [], .int .i64 2]) ∧ Below w.heap.size w w' := by
  obtain ⟨V, hV⟩ : ∃ V : Value, V = (if rightB s n d = true then .tuple #[strV (textL s n d), .int .i64 0] else .tuple #[strV [], .int .i64 2]) := ⟨_, rfl⟩
  rw [← hV]
  have l1 := dec_len78 hn
  have l2 := dec_len78 hd
  go_enter Tryz.func31, Tryz.ntmps31
  refine wp_seq ?_
  refine wp_region_L (W0 := w) [] (KS.start w) ?_
  refine wpL_new (fun g => .pointer (some ⟨g, 0, none⟩)) (obi := .cells (frcC s n d) 34 (0, 0)) rfl rfl (fun _ => by kernel_rfl) (fun _ => by simp only [List.setIfInBounds_toArray, List.set_cons_succ, List.set_cons_zero] <;> rfl) fun g1 Bg1 Fg1 => ?_
  refine Tw.lm (v := strV []) rfl rfl ?_
  refine Tw.lm (v := .int .i64 0) rfl rfl ?_
  refine wpL_done (fun W1 hW1 => ?_)
  refine (show Code.wp _ _ _ _ _ from ?_)
  refine wp_seq ?_
  refine wp_seq ?_
  refine wp_region_L (W0 := w) [(g1, .cells (frcC s n d) 34 (0, 0))] (hW1) ?_
  refine Tw.lv (v := .agg (frcC s n d)) rfl rfl (yb_all rfl (by kernel_rfl) (.head _) Tryz.underlying34 rfl (by simp only [frcC_size]; kernel_rfl)) ?_
  refine Tw.lv (v := .bool (rightB s n d)) rfl rfl (yb_call (f := 18) (args := #[.agg (frcC s n d)]) (fun _ => by kernel_rfl) fun W hW => rright_any s n d hn hd W) ?_
  refine Tw.lp (v := .bool (!(rightB s n d))) rfl rfl (run_un rfl (by kernel_rfl) fun w => un_not w) ?_
  refine wpL_done (fun W2 hW2 => ?_)
  refine (show Code.wp _ _ _ _ _ from ?_)
  cases h1 : (rightB s n d) with
  | false =>
    refine wp_cond_true rfl ?_
    refine wp_seq ?_
    refine wp_region_L (W0 := w) [(g1, .cells (frcC s n d) 34 (0, 0))] (hW2) ?_
    refine Tw.lm (v := strV []) rfl rfl ?_
    refine Tw.lm (v := .int .i64 2) rfl rfl ?_
    refine wpL_done (fun W3 hW3 => ?_)
    refine (show Code.wp _ _ _ _ _ from ?_)
    refine wp_ret ?_
    try simp only [inBlock_ret, then_ret]
    refine bodyPost_ret (v := .tuple #[strV [], .int .i64 2]) ?_ rfl ?_
    · kernel_rfl
    · exact ⟨(ret_v (by rw [hV, if_neg (fun h => by rw [h1] at h; cases h)])), hW3.1⟩
  | true =>
    refine wp_cond_false rfl ?_
    refine wp_skip ?_
    refine (show Code.wp _ _ _ _ _ from ?_)
    refine wp_seq ?_
    refine wp_region_L (W0 := w) [(g1, .cells (frcC s n d) 34 (0, 0))] (hW2) ?_
    refine Tw.lm (v := .pointer (some ⟨g1, 1, none⟩)) rfl rfl ?_
    refine Tw.lv (v := .agg (fa 8 (dg n))) rfl rfl (yb_fnum (s := s) (n := n) (d := d) rfl (by kernel_rfl) (.head _) Tryz.underlying23 rfl (by kernel_rfl)) ?_
    refine wpL_c (f := 43) (args := #[.agg (fa 8 (dg n))]) (AnsG w [(g1, .cells (frcC s n d) 34 (0, 0))] (cd n)) rfl (by kernel_rfl) (fun _ => (by kernel_rfl)) (fun W hW => (rdigits_any n hn W).mono fun e w2 h => Ans.g h hW) (fun _ => by simp only [List.setIfInBounds_toArray, List.set_cons_succ, List.set_cons_zero] <;> rfl) ?_
    rintro v2 _ ⟨q2, d2, T2, rfl, C2, H2, F2, J2, rfl⟩
    obtain dj3_0 : Dk g1 T2 := by simpa only [dj_app_l, dj_app_r, dj_cons_l, dj_cons_r, dj_nil_l, dj_nil_r, dk_app, dk_cons, dk_nil, and_true, true_and, and_assoc] using (show Dj [(g1, .cells (frcC s n d) 34 (0, 0))] T2 from J2)
    refine Tw.lv (v := strV (Lib.decDigits n)) rfl rfl (yb_call (f := 63) (args := #[.slice q2 ((cd n).length) d2]) (fun _ => by kernel_rfl) fun W hW => rdecimal_any n q2 d2 hn C2 W ((H2.mono (fun q hq => by first | exact hq | (simp only [List.mem_cons, List.mem_append, List.nil_append, List.not_mem_nil, or_assoc, or_false, false_or] at hq ⊢ <;> grind))) W hW)) ?_
    refine Tw.lm (v := strV (Lib.decDigits n)) rfl rfl ?_
    refine wpL_done (fun W4 hW4 => ?_)
    refine (show Code.wp _ _ _ _ _ from ?_)
    refine wp_seq ?_
    refine wp_seq ?_
    refine wp_region_L (W0 := w) ((g1, .cells (frcC s n d) 34 (0, 0)) :: T2) (hW4) ?_
    refine Tw.lm (v := .pointer (some ⟨g1, 0, none⟩)) rfl rfl ?_
    obtain ⟨qs, hqs⟩ : ∃ b, b = s := ⟨_, rfl⟩
    refine Tw.lv (v := .bool qs) rfl rfl (yb_cell (off := 0) rfl (by kernel_rfl) (.head _) Tryz.underlying4 rfl (frc_negq hqs)) ?_
    refine wpL_done (fun W5 hW5 => ?_)
    refine (show Code.wp _ _ _ _ _ from ?_)
    cases h2 : qs with
    | false =>
      refine wp_cond_false rfl ?_
      refine wp_skip ?_
      refine (show Code.wp _ _ _ _ _ from ?_)
      refine wp_seq ?_
      refine wp_seq ?_
      refine wp_region_L (W0 := w) ((g1, .cells (frcC s n d) 34 (0, 0)) :: T2) (hW5) ?_
      refine Tw.lm (v := .pointer (some ⟨g1, 9, none⟩)) rfl rfl ?_
      refine Tw.lv (v := .agg (fa 8 (dg d))) rfl rfl (yb_fden (s := s) (n := n) (d := d) rfl (by kernel_rfl) (.head _) Tryz.underlying23 rfl (by kernel_rfl)) ?_
      refine wpL_c (f := 43) (args := #[.agg (fa 8 (dg d))]) (AnsG w ((g1, .cells (frcC s n d) 34 (0, 0)) :: T2) (cd d)) rfl (by kernel_rfl) (fun _ => (by kernel_rfl)) (fun W hW => (rdigits_any d hd W).mono fun e w2 h => Ans.g h hW) (fun _ => by simp only [List.setIfInBounds_toArray, List.set_cons_succ, List.set_cons_zero] <;> rfl) ?_
      rintro v4 _ ⟨q4, d4, T4, rfl, C4, H4, F4, J4, rfl⟩
      obtain ⟨dj5_0, dj5_1⟩ : Dk g1 T4 ∧ Dj T2 T4 := by simpa only [dj_app_l, dj_app_r, dj_cons_l, dj_cons_r, dj_nil_l, dj_nil_r, dk_app, dk_cons, dk_nil, and_true, true_and, and_assoc] using (show Dj ((g1, .cells (frcC s n d) 34 (0, 0)) :: T2) T4 from J4)
      refine Tw.lm (v := .slice q4 ((cd d).length) d4) rfl rfl ?_
      refine wpL_done (fun W6 hW6 => ?_)
      refine (show Code.wp _ _ _ _ _ from ?_)
      refine wp_seq ?_
      refine wp_region_L (W0 := w) ((g1, .cells (frcC s n d) 34 (0, 0)) :: (T2 ++ T4)) (hW6) ?_
      refine Tw.lm (v := .slice q4 ((cd d).length) d4) rfl rfl ?_
      refine Tw.lv (v := .bool (decide (d = 1))) rfl rfl (yb_call (f := 50) (args := #[.slice q4 ((cd d).length) d4]) (fun _ => by kernel_rfl) fun W hW => rone_any d q4 d4 W ((H4.mono (fun q hq => by first | exact hq | (simp only [List.mem_cons, List.mem_append, List.nil_append, List.not_mem_nil, or_assoc, or_false, false_or] at hq ⊢ <;> grind))) W hW)) ?_
      refine Tw.lp (v := .bool (!(decide (d = 1)))) rfl rfl (run_un rfl (by kernel_rfl) fun w => un_not w) ?_
      refine wpL_done (fun W7 hW7 => ?_)
      refine (show Code.wp _ _ _ _ _ from ?_)
      cases hd3 : (decide (d = 1)) with
      | false =>
        have h3 : ¬ (d = 1) := of_decide_eq_false hd3
        clear hd3
        refine wp_cond_true rfl ?_
        refine wp_region_L (W0 := w) ((g1, .cells (frcC s n d) 34 (0, 0)) :: (T2 ++ T4)) (hW7) ?_
        refine Tw.lm (v := strV (Lib.decDigits n)) rfl rfl ?_
        refine Tw.lp (v := strV ((Lib.decDigits n) ++ [47])) rfl rfl (run_bin rfl (vx := strV (Lib.decDigits n)) (vy := strV [47]) (by kernel_rfl) (by kernel_rfl) fun w => bs_add (c := ((Lib.decDigits n) ++ [47])) rfl (by first | omega | (simp; omega)) w) ?_
        refine Tw.lm (v := .slice q4 ((cd d).length) d4) rfl rfl ?_
        refine Tw.lv (v := strV (Lib.decDigits d)) rfl rfl (yb_call (f := 63) (args := #[.slice q4 ((cd d).length) d4]) (fun _ => by kernel_rfl) fun W hW => rdecimal_any d q4 d4 hd C4 W ((H4.mono (fun q hq => by first | exact hq | (simp only [List.mem_cons, List.mem_append, List.nil_append, List.not_mem_nil, or_assoc, or_false, false_or] at hq ⊢ <;> grind))) W hW)) ?_
        refine Tw.lp (v := strV (((Lib.decDigits n) ++ [47]) ++ (Lib.decDigits d))) rfl rfl (run_bin rfl (vx := strV ((Lib.decDigits n) ++ [47])) (vy := strV (Lib.decDigits d)) (by kernel_rfl) (by kernel_rfl) fun w => bs_add (c := (((Lib.decDigits n) ++ [47]) ++ (Lib.decDigits d))) rfl (by first | omega | (simp; omega)) w) ?_
        refine Tw.lm (v := strV (((Lib.decDigits n) ++ [47]) ++ (Lib.decDigits d))) rfl rfl ?_
        refine wpL_done (fun W8 hW8 => ?_)
        refine (show Code.wp _ _ _ _ _ from ?_)
        refine wp_seq ?_
        refine wp_region_L (W0 := w) ((g1, .cells (frcC s n d) 34 (0, 0)) :: (T2 ++ T4)) (hW8) ?_
        refine Tw.lm (v := strV (((Lib.decDigits n) ++ [47]) ++ (Lib.decDigits d))) rfl rfl ?_
        refine Tw.lm (v := strV (((Lib.decDigits n) ++ [47]) ++ (Lib.decDigits d))) rfl rfl ?_
        refine Tw.lm (v := .int .i64 0) rfl rfl ?_
        refine wpL_done (fun W9 hW9 => ?_)
        refine (show Code.wp _ _ _ _ _ from ?_)
        refine wp_ret ?_
        try simp only [inBlock_ret, then_ret]
        refine bodyPost_ret (v := .tuple #[strV (((Lib.decDigits n) ++ [47]) ++ (Lib.decDigits d)), .int .i64 0]) ?_ rfl ?_
        · kernel_rfl
        · exact ⟨(ret_v (by have e1 : s = false := hqs.symm.trans h2; subst e1; rw [hV, if_pos h1]; unfold textL; rw [if_neg h3]; simp)), hW9.1⟩
      | true =>
        have h3 : d = 1 := of_decide_eq_true hd3
        clear hd3
        refine wp_cond_false rfl ?_
        refine wp_skip ?_
        refine (show Code.wp _ _ _ _ _ from ?_)
        refine wp_seq ?_
        refine wp_region_L (W0 := w) ((g1, .cells (frcC s n d) 34 (0, 0)) :: (T2 ++ T4)) (hW7) ?_
        refine Tw.lm (v := strV (Lib.decDigits n)) rfl rfl ?_
        refine Tw.lm (v := strV (Lib.decDigits n)) rfl rfl ?_
        refine Tw.lm (v := .int .i64 0) rfl rfl ?_
        refine wpL_done (fun W10 hW10 => ?_)
        refine (show Code.wp _ _ _ _ _ from ?_)
        refine wp_ret ?_
        try simp only [inBlock_ret, then_ret]
        refine bodyPost_ret (v := .tuple #[strV (Lib.decDigits n), .int .i64 0]) ?_ rfl ?_
        · kernel_rfl
        · exact ⟨(ret_v (by have e1 : s = false := hqs.symm.trans h2; subst e1; rw [hV, if_pos h1]; unfold textL; rw [if_pos h3]; simp)), hW10.1⟩
    | true =>
      refine wp_cond_true rfl ?_
      refine wp_region_L (W0 := w) ((g1, .cells (frcC s n d) 34 (0, 0)) :: T2) (hW5) ?_
      refine Tw.lm (v := strV (Lib.decDigits n)) rfl rfl ?_
      refine Tw.lp (v := strV ([45] ++ (Lib.decDigits n))) rfl rfl (run_bin rfl (vx := strV [45]) (vy := strV (Lib.decDigits n)) (by kernel_rfl) (by kernel_rfl) fun w => bs_add (c := ([45] ++ (Lib.decDigits n))) rfl (by first | omega | (simp; omega)) w) ?_
      refine Tw.lm (v := strV ([45] ++ (Lib.decDigits n))) rfl rfl ?_
      refine wpL_done (fun W11 hW11 => ?_)
      refine (show Code.wp _ _ _ _ _ from ?_)
      refine wp_seq ?_
      refine wp_seq ?_
      refine wp_region_L (W0 := w) ((g1, .cells (frcC s n d) 34 (0, 0)) :: T2) (hW11) ?_
      refine Tw.lm (v := .pointer (some ⟨g1, 9, none⟩)) rfl rfl ?_
      refine Tw.lv (v := .agg (fa 8 (dg d))) rfl rfl (yb_fden (s := s) (n := n) (d := d) rfl (by kernel_rfl) (.head _) Tryz.underlying23 rfl (by kernel_rfl)) ?_
      refine wpL_c (f := 43) (args := #[.agg (fa 8 (dg d))]) (AnsG w ((g1, .cells (frcC s n d) 34 (0, 0)) :: T2) (cd d)) rfl (by kernel_rfl) (fun _ => (by kernel_rfl)) (fun W hW => (rdigits_any d hd W).mono fun e w2 h => Ans.g h hW) (fun _ => by simp only [List.setIfInBounds_toArray, List.set_cons_succ, List.set_cons_zero] <;> rfl) ?_
      rintro v6 _ ⟨q6, d6, T6, rfl, C6, H6, F6, J6, rfl⟩
      obtain ⟨dj7_0, dj7_1⟩ : Dk g1 T6 ∧ Dj T2 T6 := by simpa only [dj_app_l, dj_app_r, dj_cons_l, dj_cons_r, dj_nil_l, dj_nil_r, dk_app, dk_cons, dk_nil, and_true, true_and, and_assoc] using (show Dj ((g1, .cells (frcC s n d) 34 (0, 0)) :: T2) T6 from J6)
      refine Tw.lm (v := .slice q6 ((cd d).length) d6) rfl rfl ?_
      refine wpL_done (fun W12 hW12 => ?_)
      refine (show Code.wp _ _ _ _ _ from ?_)
      refine wp_seq ?_
      refine wp_region_L (W0 := w) ((g1, .cells (frcC s n d) 34 (0, 0)) :: (T2 ++ T6)) (hW12) ?_
      refine Tw.lm (v := .slice q6 ((cd d).length) d6) rfl rfl ?_
      refine Tw.lv (v := .bool (decide (d = 1))) rfl rfl (yb_call (f := 50) (args := #[.slice q6 ((cd d).length) d6]) (fun _ => by kernel_rfl) fun W hW => rone_any d q6 d6 W ((H6.mono (fun q hq => by first | exact hq | (simp only [List.mem_cons, List.mem_append, List.nil_append, List.not_mem_nil, or_assoc, or_false, false_or] at hq ⊢ <;> grind))) W hW)) ?_
      refine Tw.lp (v := .bool (!(decide (d = 1)))) rfl rfl (run_un rfl (by kernel_rfl) fun w => un_not w) ?_
      refine wpL_done (fun W13 hW13 => ?_)
      refine (show Code.wp _ _ _ _ _ from ?_)
      cases hd4 : (decide (d = 1)) with
      | false =>
        have h4 : ¬ (d = 1) := of_decide_eq_false hd4
        clear hd4
        refine wp_cond_true rfl ?_
        refine wp_region_L (W0 := w) ((g1, .cells (frcC s n d) 34 (0, 0)) :: (T2 ++ T6)) (hW13) ?_
        refine Tw.lm (v := strV ([45] ++ (Lib.decDigits n))) rfl rfl ?_
        refine Tw.lp (v := strV (([45] ++ (Lib.decDigits n)) ++ [47])) rfl rfl (run_bin rfl (vx := strV ([45] ++ (Lib.decDigits n))) (vy := strV [47]) (by kernel_rfl) (by kernel_rfl) fun w => bs_add (c := (([45] ++ (Lib.decDigits n)) ++ [47])) rfl (by first | omega | (simp; omega)) w) ?_
        refine Tw.lm (v := .slice q6 ((cd d).length) d6) rfl rfl ?_
        refine Tw.lv (v := strV (Lib.decDigits d)) rfl rfl (yb_call (f := 63) (args := #[.slice q6 ((cd d).length) d6]) (fun _ => by kernel_rfl) fun W hW => rdecimal_any d q6 d6 hd C6 W ((H6.mono (fun q hq => by first | exact hq | (simp only [List.mem_cons, List.mem_append, List.nil_append, List.not_mem_nil, or_assoc, or_false, false_or] at hq ⊢ <;> grind))) W hW)) ?_
        refine Tw.lp (v := strV ((([45] ++ (Lib.decDigits n)) ++ [47]) ++ (Lib.decDigits d))) rfl rfl (run_bin rfl (vx := strV (([45] ++ (Lib.decDigits n)) ++ [47])) (vy := strV (Lib.decDigits d)) (by kernel_rfl) (by kernel_rfl) fun w => bs_add (c := ((([45] ++ (Lib.decDigits n)) ++ [47]) ++ (Lib.decDigits d))) rfl (by first | omega | (simp; omega)) w) ?_
        refine Tw.lm (v := strV ((([45] ++ (Lib.decDigits n)) ++ [47]) ++ (Lib.decDigits d))) rfl rfl ?_
        refine wpL_done (fun W14 hW14 => ?_)
        refine (show Code.wp _ _ _ _ _ from ?_)
        refine wp_seq ?_
        refine wp_region_L (W0 := w) ((g1, .cells (frcC s n d) 34 (0, 0)) :: (T2 ++ T6)) (hW14) ?_
        refine Tw.lm (v := strV ((([45] ++ (Lib.decDigits n)) ++ [47]) ++ (Lib.decDigits d))) rfl rfl ?_
        refine Tw.lm (v := strV ((([45] ++ (Lib.decDigits n)) ++ [47]) ++ (Lib.decDigits d))) rfl rfl ?_
        refine Tw.lm (v := .int .i64 0) rfl rfl ?_
        refine wpL_done (fun W15 hW15 => ?_)
        refine (show Code.wp _ _ _ _ _ from ?_)
        refine wp_ret ?_
        try simp only [inBlock_ret, then_ret]
        refine bodyPost_ret (v := .tuple #[strV ((([45] ++ (Lib.decDigits n)) ++ [47]) ++ (Lib.decDigits d)), .int .i64 0]) ?_ rfl ?_
        · kernel_rfl
        · exact ⟨(ret_v (by have e1 : s = true := hqs.symm.trans h2; subst e1; rw [hV, if_pos h1]; unfold textL; rw [if_neg h4]; simp)), hW15.1⟩
      | true =>
        have h4 : d = 1 := of_decide_eq_true hd4
        clear hd4
        refine wp_cond_false rfl ?_
        refine wp_skip ?_
        refine (show Code.wp _ _ _ _ _ from ?_)
        refine wp_seq ?_
        refine wp_region_L (W0 := w) ((g1, .cells (frcC s n d) 34 (0, 0)) :: (T2 ++ T6)) (hW13) ?_
        refine Tw.lm (v := strV ([45] ++ (Lib.decDigits n))) rfl rfl ?_
        refine Tw.lm (v := strV ([45] ++ (Lib.decDigits n))) rfl rfl ?_
        refine Tw.lm (v := .int .i64 0) rfl rfl ?_
        refine wpL_done (fun W16 hW16 => ?_)
        refine (show Code.wp _ _ _ _ _ from ?_)
        refine wp_ret ?_
        try simp only [inBlock_ret, then_ret]
        refine bodyPost_ret (v := .tuple #[strV ([45] ++ (Lib.decDigits n)), .int .i64 0]) ?_ rfl ?_
        · kernel_rfl
        · exact ⟨(ret_v (by have e1 : s = true := hqs.symm.trans h2; subst e1; rw [hV, if_pos h1]; unfold textL; rw [if_pos h4]; simp)), hW16.1⟩
end Go.Proofs.YtalmflgkbmnghaaGreatDoor
