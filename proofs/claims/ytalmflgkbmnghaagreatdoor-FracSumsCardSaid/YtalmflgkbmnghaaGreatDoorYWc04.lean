import Derived.Test.YtalmflgkbmnghaaGreatDoorYWc03
/- Part of the proof: YK. -/
set_option linter.unusedVariables false
set_option linter.unusedSimpArgs false
set_option linter.unusedSectionVars false
namespace Go.Proofs.YtalmflgkbmnghaaGreatDoor
open Go Go.RowKit Tw
set_option linter.unusedSimpArgs false
set_option linter.unusedVariables false
open Tf (dg R R_pos R_le R_succ dg_of_lt setd setd_eq)
variable [ShLZ]
set_option maxRecDepth 100000 in
set_option maxHeartbeats 20000000 in
theorem RAdd_any (s1 s2 : Bool) (n1 d1 n2 d2 : Nat) (hn1 : n1 < R 8) (hd1 : d1 < R 8) (hn2 : n2 < R 8) (hd2 : d2 < R 8) (w : World) : Calls Tryz.prog 16 #[.agg (frcC s1 n1 d1), .agg (frcC s2 n2 d2)] w fun e w' => e = .returned (if (rightB s1 n1 d1 && rightB s2 n2 d2) = true then addV s1 n1 d1 s2 n2 d2 else argV) ∧ Below w.heap.size w w' := by
  obtain ⟨V, hV⟩ : ∃ V, V = (if (rightB s1 n1 d1 && rightB s2 n2 d2) = true then addV s1 n1 d1 s2 n2 d2 else argV) := ⟨_, rfl⟩
  rw [← hV]
  go_enter Tryz.func16, Tryz.ntmps16
  refine wp_seq ?_
  refine wp_region_L (W0 := w) [] (KS.start w) ?_
  refine wpL_new (fun g => .pointer (some ⟨g, 0, none⟩)) (obi := .cells (frcC s1 n1 d1) 34 (0, 0)) rfl rfl (fun _ => by kernel_rfl) (fun _ => by simp only [List.setIfInBounds_toArray, List.set_cons_succ, List.set_cons_zero] <;> rfl) fun g1 Bg1 Fg1 => ?_
  refine wpL_new (fun g => .pointer (some ⟨g, 0, none⟩)) (obi := .cells (frcC s2 n2 d2) 34 (0, 0)) rfl rfl (fun _ => by kernel_rfl) (fun _ => by simp only [List.setIfInBounds_toArray, List.set_cons_succ, List.set_cons_zero] <;> rfl) fun g2 Bg2 Fg2 => ?_
  obtain dj3_0 : g1 ≠ g2 := by simpa only [dj_app_l, dj_app_r, dj_cons_l, dj_cons_r, dj_nil_l, dj_nil_r, dk_app, dk_cons, dk_nil, and_true, true_and, and_assoc] using (show Dk g2 [(g1, .cells (frcC s1 n1 d1) 34 (0, 0))] from Fg2)
  refine wpL_new (fun g => .pointer (some ⟨g, 0, none⟩)) (obi := .cells (frcC false 0 0) 34 (0, 0)) rfl rfl (fun _ => by kernel_rfl) (fun _ => by simp only [List.setIfInBounds_toArray, List.set_cons_succ, List.set_cons_zero] <;> rfl) fun g4 Bg4 Fg4 => ?_
  obtain ⟨dj5_0, dj5_1⟩ : g2 ≠ g4 ∧ g1 ≠ g4 := by simpa only [dj_app_l, dj_app_r, dj_cons_l, dj_cons_r, dj_nil_l, dj_nil_r, dk_app, dk_cons, dk_nil, and_true, true_and, and_assoc] using (show Dk g4 [(g2, .cells (frcC s2 n2 d2) 34 (0, 0)), (g1, .cells (frcC s1 n1 d1) 34 (0, 0))] from Fg4)
  refine Tw.lm (v := .int .i64 0) rfl rfl ?_
  refine wpL_done (fun W1 hW1 => ?_)
  refine (show Code.wp _ _ _ _ _ from ?_)
  refine wp_seq ?_
  refine wp_seq ?_
  refine wp_region_L (W0 := w) [(g4, .cells (frcC false 0 0) 34 (0, 0)), (g2, .cells (frcC s2 n2 d2) 34 (0, 0)), (g1, .cells (frcC s1 n1 d1) 34 (0, 0))] (hW1) ?_
  refine Tw.lv (v := .agg (frcC s1 n1 d1)) rfl rfl (yb_all rfl (by kernel_rfl) (.tail _ (.tail _ (.head _))) Tryz.underlying34 rfl (by simp only [frcC_size]; kernel_rfl)) ?_
  refine Tw.lv (v := .bool (rightB s1 n1 d1)) rfl rfl (yb_call (f := 18) (args := #[.agg (frcC s1 n1 d1)]) (fun _ => by kernel_rfl) fun W hW => rright_any s1 n1 d1 hn1 hd1 W) ?_
  refine Tw.lp (v := .bool (!(rightB s1 n1 d1))) rfl rfl (run_un rfl (by kernel_rfl) fun w => un_not w) ?_
  refine Tw.lm (v := .bool (!(rightB s1 n1 d1))) rfl rfl ?_
  cases h1 : (rightB s1 n1 d1) with
  | false =>
    refine Tw.ln rfl ?_
    refine Tw.ln rfl ?_
    refine Tw.ln rfl ?_
    refine Tw.lm (v := .bool true) rfl rfl ?_
    refine wpL_done (fun W2 hW2 => ?_)
    refine (show Code.wp _ _ _ _ _ from ?_)
    refine wp_cond_true rfl ?_
    refine wp_seq ?_
    refine wp_region_L (W0 := w) [(g4, .cells (frcC false 0 0) 34 (0, 0)), (g2, .cells (frcC s2 n2 d2) 34 (0, 0)), (g1, .cells (frcC s1 n1 d1) 34 (0, 0))] (hW2) ?_
    refine Tw.lm (v := .agg (frcC false 0 0)) rfl rfl ?_
    refine wpL_s [(g4, .cells (frcC false 0 0) 34 (0, 0)), (g2, .cells (frcC s2 n2 d2) 34 (0, 0)), (g1, .cells (frcC s1 n1 d1) 34 (0, 0))] rfl rfl (st_all (by simp only [frcC_size]) (by exact frc_onec) rfl (by kernel_rfl) (by kernel_rfl) (.head _) Bg4 (by simp only [frcC_size]; kernel_rfl) (List.forall_mem_cons.2 ⟨.inl rfl, (List.forall_mem_cons.2 ⟨.inr ⟨(.tail _ (.head _)), (by first | assumption | exact Ne.symm (by assumption))⟩, (List.forall_mem_cons.2 ⟨.inr ⟨(.tail _ (.tail _ (.head _))), (by first | assumption | exact Ne.symm (by assumption))⟩, (List.forall_mem_nil _)⟩)⟩)⟩)) ?_
    refine Tw.lm (v := .int .i64 2) rfl rfl ?_
    refine wpL_done (fun W3 hW3 => ?_)
    refine (show Code.wp _ _ _ _ _ from ?_)
    refine wp_ret ?_
    try simp only [inBlock_ret, then_ret]
    refine bodyPost_ret (v := .tuple #[.agg (frcC false 0 0), .int .i64 2]) ?_ rfl ?_
    · exact (res_cell_tmp (p := 4) (q := 5) rfl rfl (hW3.2 _ (.head _)) Tryz.underlying34 rfl (by simp only [frcC_size]; kernel_rfl))
    · exact ⟨(ret_v (by rw [hV, h1]; rfl)), hW3.1⟩
  | true =>
    refine Tw.lv (v := .agg (frcC s2 n2 d2)) rfl rfl (yb_all rfl (by kernel_rfl) (.tail _ (.head _)) Tryz.underlying34 rfl (by simp only [frcC_size]; kernel_rfl)) ?_
    refine Tw.lv (v := .bool (rightB s2 n2 d2)) rfl rfl (yb_call (f := 18) (args := #[.agg (frcC s2 n2 d2)]) (fun _ => by kernel_rfl) fun W hW => rright_any s2 n2 d2 hn2 hd2 W) ?_
    refine Tw.lp (v := .bool (!(rightB s2 n2 d2))) rfl rfl (run_un rfl (by kernel_rfl) fun w => un_not w) ?_
    refine Tw.lm (v := .bool (!(rightB s2 n2 d2))) rfl rfl ?_
    refine wpL_done (fun W4 hW4 => ?_)
    refine (show Code.wp _ _ _ _ _ from ?_)
    cases h2 : (rightB s2 n2 d2) with
    | false =>
      refine wp_cond_true rfl ?_
      refine wp_seq ?_
      refine wp_region_L (W0 := w) [(g4, .cells (frcC false 0 0) 34 (0, 0)), (g2, .cells (frcC s2 n2 d2) 34 (0, 0)), (g1, .cells (frcC s1 n1 d1) 34 (0, 0))] (hW4) ?_
      refine Tw.lm (v := .agg (frcC false 0 0)) rfl rfl ?_
      refine wpL_s [(g4, .cells (frcC false 0 0) 34 (0, 0)), (g2, .cells (frcC s2 n2 d2) 34 (0, 0)), (g1, .cells (frcC s1 n1 d1) 34 (0, 0))] rfl rfl (st_all (by simp only [frcC_size]) (by exact frc_onec) rfl (by kernel_rfl) (by kernel_rfl) (.head _) Bg4 (by simp only [frcC_size]; kernel_rfl) (List.forall_mem_cons.2 ⟨.inl rfl, (List.forall_mem_cons.2 ⟨.inr ⟨(.tail _ (.head _)), (by first | assumption | exact Ne.symm (by assumption))⟩, (List.forall_mem_cons.2 ⟨.inr ⟨(.tail _ (.tail _ (.head _))), (by first | assumption | exact Ne.symm (by assumption))⟩, (List.forall_mem_nil _)⟩)⟩)⟩)) ?_
      refine Tw.lm (v := .int .i64 2) rfl rfl ?_
      refine wpL_done (fun W5 hW5 => ?_)
      refine (show Code.wp _ _ _ _ _ from ?_)
      refine wp_ret ?_
      try simp only [inBlock_ret, then_ret]
      refine bodyPost_ret (v := .tuple #[.agg (frcC false 0 0), .int .i64 2]) ?_ rfl ?_
      · exact (res_cell_tmp (p := 4) (q := 5) rfl rfl (hW5.2 _ (.head _)) Tryz.underlying34 rfl (by simp only [frcC_size]; kernel_rfl))
      · exact ⟨(ret_v (by rw [hV, h1, h2]; rfl)), hW5.1⟩
    | true =>
      refine wp_cond_false rfl ?_
      refine wp_skip ?_
      refine (show Code.wp _ _ _ _ _ from ?_)
      refine wp_seq ?_
      refine wp_region_V (W0 := w) [(g4, .cells (frcC false 0 0) 34 (0, 0)), (g2, .cells (frcC s2 n2 d2) 34 (0, 0)), (g1, .cells (frcC s1 n1 d1) 34 (0, 0))] (by kernel_rfl) (hW4) ?_
      refine vm (i := 0) (v := .pointer (some ⟨g1, 1, none⟩)) rfl rfl rfl ?_
      refine vv (i := 1) (v := .agg (fa 8 (dg n1))) rfl rfl rfl (yb_fnum (s := s1) (n := n1) (d := d1) rfl (by kernel_rfl) (.tail _ (.tail _ (.head _))) Tryz.underlying23 rfl (by kernel_rfl)) ?_
      refine vm (i := 3) (v := .pointer (some ⟨g1, 9, none⟩)) rfl rfl rfl ?_
      refine vv (i := 4) (v := .agg (fa 8 (dg d1))) rfl rfl rfl (yb_fden (s := s1) (n := n1) (d := d1) rfl (by kernel_rfl) (.tail _ (.tail _ (.head _))) Tryz.underlying23 rfl (by kernel_rfl)) ?_
      refine vm (i := 6) (v := .pointer (some ⟨g2, 1, none⟩)) rfl rfl rfl ?_
      refine vv (i := 7) (v := .agg (fa 8 (dg n2))) rfl rfl rfl (yb_fnum (s := s2) (n := n2) (d := d2) rfl (by kernel_rfl) (.tail _ (.head _)) Tryz.underlying23 rfl (by kernel_rfl)) ?_
      refine vm (i := 9) (v := .pointer (some ⟨g2, 9, none⟩)) rfl rfl rfl ?_
      refine vv (i := 10) (v := .agg (fa 8 (dg d2))) rfl rfl rfl (yb_fden (s := s2) (n := n2) (d := d2) rfl (by kernel_rfl) (.tail _ (.head _)) Tryz.underlying23 rfl (by kernel_rfl)) ?_
      refine wpV_c (i := 2) (AnsG w [(g4, .cells (frcC false 0 0) 34 (0, 0)), (g2, .cells (frcC s2 n2 d2) 34 (0, 0)), (g1, .cells (frcC s1 n1 d1) 34 (0, 0))] (cd n1)) rfl rfl (by kernel_rfl) (by kernel_rfl) (fun _ => (by kernel_rfl)) (fun W hW => (rdigits_any n1 hn1 W).mono fun e w2 h => Ans.g h hW) (fun _ _ h => ansG_sub h) (fun _ => by simp only [List.setIfInBounds_toArray, List.set_cons_succ, List.set_cons_zero] <;> rfl) ?_
      rintro v6 _ ⟨q6, d6, T6, rfl, C6, H6, F6, J6, rfl⟩
      obtain ⟨dj7_0, dj7_1, dj7_2⟩ : Dk g4 T6 ∧ Dk g2 T6 ∧ Dk g1 T6 := by simpa only [dj_app_l, dj_app_r, dj_cons_l, dj_cons_r, dj_nil_l, dj_nil_r, dk_app, dk_cons, dk_nil, and_true, true_and, and_assoc] using (show Dj [(g4, .cells (frcC false 0 0) 34 (0, 0)), (g2, .cells (frcC s2 n2 d2) 34 (0, 0)), (g1, .cells (frcC s1 n1 d1) 34 (0, 0))] T6 from J6)
      refine wpV_c (i := 5) (AnsG w ((g4, .cells (frcC false 0 0) 34 (0, 0)) :: (g2, .cells (frcC s2 n2 d2) 34 (0, 0)) :: (g1, .cells (frcC s1 n1 d1) 34 (0, 0)) :: T6) (cd d1)) rfl rfl (by kernel_rfl) (by kernel_rfl) (fun _ => (by kernel_rfl)) (fun W hW => (rdigits_any d1 hd1 W).mono fun e w2 h => Ans.g h hW) (fun _ _ h => ansG_sub h) (fun _ => by simp only [List.setIfInBounds_toArray, List.set_cons_succ, List.set_cons_zero] <;> rfl) ?_
      rintro v8 _ ⟨q8, d8, T8, rfl, C8, H8, F8, J8, rfl⟩
      obtain ⟨dj9_0, dj9_1, dj9_2, dj9_3⟩ : Dk g4 T8 ∧ Dk g2 T8 ∧ Dk g1 T8 ∧ Dj T6 T8 := by simpa only [dj_app_l, dj_app_r, dj_cons_l, dj_cons_r, dj_nil_l, dj_nil_r, dk_app, dk_cons, dk_nil, and_true, true_and, and_assoc] using (show Dj ((g4, .cells (frcC false 0 0) 34 (0, 0)) :: (g2, .cells (frcC s2 n2 d2) 34 (0, 0)) :: (g1, .cells (frcC s1 n1 d1) 34 (0, 0)) :: T6) T8 from J8)
      refine wpV_c (i := 8) (AnsG w ((g4, .cells (frcC false 0 0) 34 (0, 0)) :: (g2, .cells (frcC s2 n2 d2) 34 (0, 0)) :: (g1, .cells (frcC s1 n1 d1) 34 (0, 0)) :: (T6 ++ T8)) (cd n2)) rfl rfl (by kernel_rfl) (by kernel_rfl) (fun _ => (by kernel_rfl)) (fun W hW => (rdigits_any n2 hn2 W).mono fun e w2 h => Ans.g h hW) (fun _ _ h => ansG_sub h) (fun _ => by simp only [List.setIfInBounds_toArray, List.set_cons_succ, List.set_cons_zero] <;> rfl) ?_
      rintro v10 _ ⟨q10, d10, T10, rfl, C10, H10, F10, J10, rfl⟩
      obtain ⟨dj11_0, dj11_1, dj11_2, dj11_3, dj11_4⟩ : Dk g4 T10 ∧ Dk g2 T10 ∧ Dk g1 T10 ∧ Dj T6 T10 ∧ Dj T8 T10 := by simpa only [dj_app_l, dj_app_r, dj_cons_l, dj_cons_r, dj_nil_l, dj_nil_r, dk_app, dk_cons, dk_nil, and_true, true_and, and_assoc] using (show Dj ((g4, .cells (frcC false 0 0) 34 (0, 0)) :: (g2, .cells (frcC s2 n2 d2) 34 (0, 0)) :: (g1, .cells (frcC s1 n1 d1) 34 (0, 0)) :: (T6 ++ T8)) T10 from J10)
      refine wpV_c (i := 11) (AnsG w ((g4, .cells (frcC false 0 0) 34 (0, 0)) :: (g2, .cells (frcC s2 n2 d2) 34 (0, 0)) :: (g1, .cells (frcC s1 n1 d1) 34 (0, 0)) :: ((T6 ++ T8) ++ T10)) (cd d2)) rfl rfl (by kernel_rfl) (by kernel_rfl) (fun _ => (by kernel_rfl)) (fun W hW => (rdigits_any d2 hd2 W).mono fun e w2 h => Ans.g h hW) (fun _ _ h => ansG_sub h) (fun _ => by simp only [List.setIfInBounds_toArray, List.set_cons_succ, List.set_cons_zero] <;> rfl) ?_
      rintro v12 _ ⟨q12, d12, T12, rfl, C12, H12, F12, J12, rfl⟩
      obtain ⟨dj13_0, dj13_1, dj13_2, dj13_3, dj13_4, dj13_5⟩ : Dk g4 T12 ∧ Dk g2 T12 ∧ Dk g1 T12 ∧ Dj T6 T12 ∧ Dj T8 T12 ∧ Dj T10 T12 := by simpa only [dj_app_l, dj_app_r, dj_cons_l, dj_cons_r, dj_nil_l, dj_nil_r, dk_app, dk_cons, dk_nil, and_true, true_and, and_assoc] using (show Dj ((g4, .cells (frcC false 0 0) 34 (0, 0)) :: (g2, .cells (frcC s2 n2 d2) 34 (0, 0)) :: (g1, .cells (frcC s1 n1 d1) 34 (0, 0)) :: ((T6 ++ T8) ++ T10)) T12 from J12)
      refine vm (i := 12) (v := .slice q6 ((cd n1).length) d6) rfl rfl rfl ?_
      refine vm (i := 13) (v := .slice q8 ((cd d1).length) d8) rfl rfl rfl ?_
      refine vm (i := 14) (v := .slice q10 ((cd n2).length) d10) rfl rfl rfl ?_
      refine vm (i := 15) (v := .slice q12 ((cd d2).length) d12) rfl rfl rfl ?_
      refine wpV_done (by kernel_rfl) (fun W6 hW6 => ?_) _
      refine (show Code.wp _ _ _ _ _ from ?_)
      refine wp_seq ?_
      refine wp_region_L (W0 := w) ((g4, .cells (frcC false 0 0) 34 (0, 0)) :: (g2, .cells (frcC s2 n2 d2) 34 (0, 0)) :: (g1, .cells (frcC s1 n1 d1) 34 (0, 0)) :: (((T6 ++ T8) ++ T10) ++ T12)) (hW6) ?_
      refine Tw.lm (v := .slice q6 ((cd n1).length) d6) rfl rfl ?_
      refine Tw.lm (v := .slice q12 ((cd d2).length) d12) rfl rfl ?_
      have ln14 : (cd n1).length ≤ 16 := cd_16 hn1
      have ln15 : (cd d2).length ≤ 16 := cd_16 hd2
      refine wpL_c (f := 44) (args := #[.slice q6 ((cd n1).length) d6, .slice q12 ((cd d2).length) d12]) (AnsG w ((g4, .cells (frcC false 0 0) 34 (0, 0)) :: (g2, .cells (frcC s2 n2 d2) 34 (0, 0)) :: (g1, .cells (frcC s1 n1 d1) 34 (0, 0)) :: (((T6 ++ T8) ++ T10) ++ T12)) (cd (n1 * d2))) rfl (by kernel_rfl) (fun _ => (by kernel_rfl)) (fun W hW => (rmul_any n1 d2 q6 q12 d6 d12 (by omega) (by omega) W ((H6.mono (fun q hq => by first | exact hq | (simp only [List.mem_cons, List.mem_append, List.nil_append, List.not_mem_nil, or_assoc, or_false, false_or] at hq ⊢ <;> grind))) W hW) ((H12.mono (fun q hq => by first | exact hq | (simp only [List.mem_cons, List.mem_append, List.nil_append, List.not_mem_nil, or_assoc, or_false, false_or] at hq ⊢ <;> grind))) W hW)).mono fun e w2 h => Ans.g h hW) (fun _ => by simp only [List.setIfInBounds_toArray, List.set_cons_succ, List.set_cons_zero] <;> rfl) ?_
      rintro v16 _ ⟨q16, d16, T16, rfl, C16, H16, F16, J16, rfl⟩
      obtain ⟨dj17_0, dj17_1, dj17_2, dj17_3, dj17_4, dj17_5, dj17_6⟩ : Dk g4 T16 ∧ Dk g2 T16 ∧ Dk g1 T16 ∧ Dj T6 T16 ∧ Dj T8 T16 ∧ Dj T10 T16 ∧ Dj T12 T16 := by simpa only [dj_app_l, dj_app_r, dj_cons_l, dj_cons_r, dj_nil_l, dj_nil_r, dk_app, dk_cons, dk_nil, and_true, true_and, and_assoc] using (show Dj ((g4, .cells (frcC false 0 0) 34 (0, 0)) :: (g2, .cells (frcC s2 n2 d2) 34 (0, 0)) :: (g1, .cells (frcC s1 n1 d1) 34 (0, 0)) :: (((T6 ++ T8) ++ T10) ++ T12)) T16 from J16)
      have ln18 : (cd (n1 * d2)).length ≤ 32 := Nat.le_trans (cd_mul_len n1 d2) (by have := cd_16 hn1; have := cd_16 hd2; omega)
      refine Tw.lm (v := .slice q10 ((cd n2).length) d10) rfl rfl ?_
      refine Tw.lm (v := .slice q8 ((cd d1).length) d8) rfl rfl ?_
      have ln19 : (cd n2).length ≤ 16 := cd_16 hn2
      have ln20 : (cd d1).length ≤ 16 := cd_16 hd1
      refine wpL_c (f := 44) (args := #[.slice q10 ((cd n2).length) d10, .slice q8 ((cd d1).length) d8]) (AnsG w ((g4, .cells (frcC false 0 0) 34 (0, 0)) :: (g2, .cells (frcC s2 n2 d2) 34 (0, 0)) :: (g1, .cells (frcC s1 n1 d1) 34 (0, 0)) :: ((((T6 ++ T8) ++ T10) ++ T12) ++ T16)) (cd (n2 * d1))) rfl (by kernel_rfl) (fun _ => (by kernel_rfl)) (fun W hW => (rmul_any n2 d1 q10 q8 d10 d8 (by omega) (by omega) W ((H10.mono (fun q hq => by first | exact hq | (simp only [List.mem_cons, List.mem_append, List.nil_append, List.not_mem_nil, or_assoc, or_false, false_or] at hq ⊢ <;> grind))) W hW) ((H8.mono (fun q hq => by first | exact hq | (simp only [List.mem_cons, List.mem_append, List.nil_append, List.not_mem_nil, or_assoc, or_false, false_or] at hq ⊢ <;> grind))) W hW)).mono fun e w2 h => Ans.g h hW) (fun _ => by simp only [List.setIfInBounds_toArray, List.set_cons_succ, List.set_cons_zero] <;> rfl) ?_
      rintro v21 _ ⟨q21, d21, T21, rfl, C21, H21, F21, J21, rfl⟩
      obtain ⟨dj22_0, dj22_1, dj22_2, dj22_3, dj22_4, dj22_5, dj22_6, dj22_7⟩ : Dk g4 T21 ∧ Dk g2 T21 ∧ Dk g1 T21 ∧ Dj T6 T21 ∧ Dj T8 T21 ∧ Dj T10 T21 ∧ Dj T12 T21 ∧ Dj T16 T21 := by simpa only [dj_app_l, dj_app_r, dj_cons_l, dj_cons_r, dj_nil_l, dj_nil_r, dk_app, dk_cons, dk_nil, and_true, true_and, and_assoc] using (show Dj ((g4, .cells (frcC false 0 0) 34 (0, 0)) :: (g2, .cells (frcC s2 n2 d2) 34 (0, 0)) :: (g1, .cells (frcC s1 n1 d1) 34 (0, 0)) :: ((((T6 ++ T8) ++ T10) ++ T12) ++ T16)) T21 from J21)
      have ln23 : (cd (n2 * d1)).length ≤ 32 := Nat.le_trans (cd_mul_len n2 d1) (by have := cd_16 hn2; have := cd_16 hd1; omega)
      refine Tw.lm (v := .slice q8 ((cd d1).length) d8) rfl rfl ?_
      refine Tw.lm (v := .slice q12 ((cd d2).length) d12) rfl rfl ?_
      refine wpL_c (f := 44) (args := #[.slice q8 ((cd d1).length) d8, .slice q12 ((cd d2).length) d12]) (AnsG w ((g4, .cells (frcC false 0 0) 34 (0, 0)) :: (g2, .cells (frcC s2 n2 d2) 34 (0, 0)) :: (g1, .cells (frcC s1 n1 d1) 34 (0, 0)) :: (((((T6 ++ T8) ++ T10) ++ T12) ++ T16) ++ T21)) (cd (d1 * d2))) rfl (by kernel_rfl) (fun _ => (by kernel_rfl)) (fun W hW => (rmul_any d1 d2 q8 q12 d8 d12 (by omega) (by omega) W ((H8.mono (fun q hq => by first | exact hq | (simp only [List.mem_cons, List.mem_append, List.nil_append, List.not_mem_nil, or_assoc, or_false, false_or] at hq ⊢ <;> grind))) W hW) ((H12.mono (fun q hq => by first | exact hq | (simp only [List.mem_cons, List.mem_append, List.nil_append, List.not_mem_nil, or_assoc, or_false, false_or] at hq ⊢ <;> grind))) W hW)).mono fun e w2 h => Ans.g h hW) (fun _ => by simp only [List.setIfInBounds_toArray, List.set_cons_succ, List.set_cons_zero] <;> rfl) ?_
      rintro v24 _ ⟨q24, d24, T24, rfl, C24, H24, F24, J24, rfl⟩
      obtain ⟨dj25_0, dj25_1, dj25_2, dj25_3, dj25_4, dj25_5, dj25_6, dj25_7, dj25_8⟩ : Dk g4 T24 ∧ Dk g2 T24 ∧ Dk g1 T24 ∧ Dj T6 T24 ∧ Dj T8 T24 ∧ Dj T10 T24 ∧ Dj T12 T24 ∧ Dj T16 T24 ∧ Dj T21 T24 := by simpa only [dj_app_l, dj_app_r, dj_cons_l, dj_cons_r, dj_nil_l, dj_nil_r, dk_app, dk_cons, dk_nil, and_true, true_and, and_assoc] using (show Dj ((g4, .cells (frcC false 0 0) 34 (0, 0)) :: (g2, .cells (frcC s2 n2 d2) 34 (0, 0)) :: (g1, .cells (frcC s1 n1 d1) 34 (0, 0)) :: (((((T6 ++ T8) ++ T10) ++ T12) ++ T16) ++ T21)) T24 from J24)
      have ln26 : (cd (d1 * d2)).length ≤ 32 := Nat.le_trans (cd_mul_len d1 d2) (by have := cd_16 hd1; have := cd_16 hd2; omega)
      refine Tw.lm (v := .slice q16 ((cd (n1 * d2)).length) d16) rfl rfl ?_
      refine Tw.lm (v := .slice q21 ((cd (n2 * d1)).length) d21) rfl rfl ?_
      refine Tw.lm (v := .slice q24 ((cd (d1 * d2)).length) d24) rfl rfl ?_
      refine wpL_done (fun W7 hW7 => ?_)
      refine (show Code.wp _ _ _ _ _ from ?_)
      refine wp_seq ?_
      refine wp_seq ?_
      refine wp_region_L (W0 := w) ((g4, .cells (frcC false 0 0) 34 (0, 0)) :: (g2, .cells (frcC s2 n2 d2) 34 (0, 0)) :: (g1, .cells (frcC s1 n1 d1) 34 (0, 0)) :: ((((((T6 ++ T8) ++ T10) ++ T12) ++ T16) ++ T21) ++ T24)) (hW7) ?_
      refine Tw.lm (v := .pointer (some ⟨g1, 0, none⟩)) rfl rfl ?_
      obtain ⟨qs1, hqs1⟩ : ∃ b, b = s1 := ⟨_, rfl⟩
      refine Tw.lv (v := .bool qs1) rfl rfl (yb_cell (off := 0) rfl (by kernel_rfl) (.tail _ (.tail _ (.head _))) Tryz.underlying4 rfl (frc_negq hqs1)) ?_
      refine Tw.lm (v := .pointer (some ⟨g2, 0, none⟩)) rfl rfl ?_
      obtain ⟨qs2, hqs2⟩ : ∃ b, b = s2 := ⟨_, rfl⟩
      refine Tw.lv (v := .bool qs2) rfl rfl (yb_cell (off := 0) rfl (by kernel_rfl) (.tail _ (.head _)) Tryz.underlying4 rfl (frc_negq hqs2)) ?_
      cases h3 : qs1 with
      | false =>
        cases h4 : qs2 with
        | false =>
          refine Tw.lm (v := .bool true) rfl rfl ?_
          refine wpL_done (fun W8 hW8 => ?_)
          refine (show Code.wp _ _ _ _ _ from ?_)
          refine wp_cond_true rfl ?_
          refine wp_seq ?_
          refine wp_region_V (W0 := w) ((g4, .cells (frcC false 0 0) 34 (0, 0)) :: (g2, .cells (frcC s2 n2 d2) 34 (0, 0)) :: (g1, .cells (frcC s1 n1 d1) 34 (0, 0)) :: ((((((T6 ++ T8) ++ T10) ++ T12) ++ T16) ++ T21) ++ T24)) (by kernel_rfl) (hW8) ?_
          refine vm (i := 0) (v := .pointer (some ⟨g1, 0, none⟩)) rfl rfl rfl ?_
          refine vv (i := 1) (v := .bool false) rfl rfl rfl (yb_cell (off := 0) rfl (by kernel_rfl) (.tail _ (.tail _ (.head _))) Tryz.underlying4 rfl (frc_negq (h3.symm.trans hqs1))) ?_
          refine vm (i := 2) (v := .slice q16 ((cd (n1 * d2)).length) d16) rfl rfl rfl ?_
          refine vm (i := 3) (v := .slice q21 ((cd (n2 * d1)).length) d21) rfl rfl rfl ?_
          refine vm (i := 5) (v := .slice q24 ((cd (d1 * d2)).length) d24) rfl rfl rfl ?_
          refine wpV_c (i := 4) (AnsG w ((g4, .cells (frcC false 0 0) 34 (0, 0)) :: (g2, .cells (frcC s2 n2 d2) 34 (0, 0)) :: (g1, .cells (frcC s1 n1 d1) 34 (0, 0)) :: ((((((T6 ++ T8) ++ T10) ++ T12) ++ T16) ++ T21) ++ T24)) (cd ((n1 * d2) + (n2 * d1)))) rfl rfl (by kernel_rfl) (by kernel_rfl) (fun _ => (by kernel_rfl)) (fun W hW => (radd_any (n1 * d2) (n2 * d1) q16 q21 d16 d21 (by omega) (by omega) W ((H16.mono (fun q hq => by first | exact hq | (simp only [List.mem_cons, List.mem_append, List.nil_append, List.not_mem_nil, or_assoc, or_false, false_or] at hq ⊢ <;> grind))) W hW) ((H21.mono (fun q hq => by first | exact hq | (simp only [List.mem_cons, List.mem_append, List.nil_append, List.not_mem_nil, or_assoc, or_false, false_or] at hq ⊢ <;> grind))) W hW)).mono fun e w2 h => Ans.g h hW) (fun _ _ h => ansG_sub h) (fun _ => by simp only [List.setIfInBounds_toArray, List.set_cons_succ, List.set_cons_zero] <;> rfl) ?_
          rintro v27 _ ⟨q27, d27, T27, rfl, C27, H27, F27, J27, rfl⟩
          obtain ⟨dj28_0, dj28_1, dj28_2, dj28_3, dj28_4, dj28_5, dj28_6, dj28_7, dj28_8, dj28_9⟩ : Dk g4 T27 ∧ Dk g2 T27 ∧ Dk g1 T27 ∧ Dj T6 T27 ∧ Dj T8 T27 ∧ Dj T10 T27 ∧ Dj T12 T27 ∧ Dj T16 T27 ∧ Dj T21 T27 ∧ Dj T24 T27 := by simpa only [dj_app_l, dj_app_r, dj_cons_l, dj_cons_r, dj_nil_l, dj_nil_r, dk_app, dk_cons, dk_nil, and_true, true_and, and_assoc] using (show Dj ((g4, .cells (frcC false 0 0) 34 (0, 0)) :: (g2, .cells (frcC s2 n2 d2) 34 (0, 0)) :: (g1, .cells (frcC s1 n1 d1) 34 (0, 0)) :: ((((((T6 ++ T8) ++ T10) ++ T12) ++ T16) ++ T21) ++ T24)) T27 from J27)
          have ln29 : (cd ((n1 * d2) + (n2 * d1))).length ≤ 33 := cd_add_len ln18 ln23
          obtain ⟨sv30, nv30, dv30, ev30, hpv30⟩ := packV_shape false (((n1 * d2) + (n2 * d1)) / Nat.gcd ((n1 * d2) + (n2 * d1)) (d1 * d2)) ((d1 * d2) / Nat.gcd ((n1 * d2) + (n2 * d1)) (d1 * d2))
          refine vv (i := 6) (v := .tuple #[.agg (frcC sv30 nv30 dv30), .int .i64 ev30]) rfl rfl rfl (yb_call (f := 45) (args := #[.bool false, .slice q27 ((cd ((n1 * d2) + (n2 * d1))).length) d27, .slice q24 ((cd (d1 * d2)).length) d24]) (fun _ => by kernel_rfl) fun W hW => hpv30 ▸ make0_any false ((n1 * d2) + (n2 * d1)) (d1 * d2) q27 q24 d27 d24 (Nat.mul_pos (right_den h1) (right_den h2)) (by omega) (by omega) C27 C24 W ((H27.mono (fun q hq => by first | exact hq | (simp only [List.mem_cons, List.mem_append, List.nil_append, List.not_mem_nil, or_assoc, or_false, false_or] at hq ⊢ <;> grind))) W hW) ((H24.mono (fun q hq => by first | exact hq | (simp only [List.mem_cons, List.mem_append, List.nil_append, List.not_mem_nil, or_assoc, or_false, false_or] at hq ⊢ <;> grind))) W hW)) ?_
          refine vm (i := 7) (v := .agg (frcC sv30 nv30 dv30)) rfl rfl rfl ?_
          refine vm (i := 8) (v := .int .i64 ev30) rfl rfl rfl ?_
          refine wpV_s ((g4, .cells (frcC sv30 nv30 dv30) 34 (0, 0)) :: (g2, .cells (frcC s2 n2 d2) 34 (0, 0)) :: (g1, .cells (frcC s1 n1 d1) 34 (0, 0)) :: (((((((T6 ++ T8) ++ T10) ++ T12) ++ T16) ++ T21) ++ T24) ++ T27)) (i := 9) rfl (by kernel_rfl) rfl rfl rfl (st_all (by simp only [frcC_size]) (by exact frc_onec) rfl (by kernel_rfl) (by kernel_rfl) (.head _) Bg4 (by simp only [frcC_size]; kernel_rfl) (List.forall_mem_cons.2 ⟨.inl rfl, (List.forall_mem_cons.2 ⟨.inr ⟨(.tail _ (.head _)), (by first | assumption | exact Ne.symm (by assumption))⟩, (List.forall_mem_cons.2 ⟨.inr ⟨(.tail _ (.tail _ (.head _))), (by first | assumption | exact Ne.symm (by assumption))⟩, (fun p hp => .inr ⟨(.tail _ (.tail _ (.tail _ hp))), ((show Dk g4 (((((((T6 ++ T8) ++ T10) ++ T12) ++ T16) ++ T21) ++ T24) ++ T27) from (by (try simp only [dj_app_l, dj_app_r, dj_cons_l, dj_cons_r, dj_nil_l, dj_nil_r, dk_app, dk_cons, dk_nil, and_true, true_and, and_assoc]); repeat' (first | trivial | assumption | exact Dj.symm (by assumption) | exact Ne.symm (by assumption) | apply And.intro))) _ hp)⟩)⟩)⟩)⟩)) ?_
          refine vm (i := 10) (v := .int .i64 ev30) rfl rfl rfl ?_
          refine wpV_done (by kernel_rfl) (fun W9 hW9 => ?_) _
          refine (show Code.wp _ _ _ _ _ from ?_)
          refine wp_ret ?_
          try simp only [inBlock_ret, then_ret]
          refine bodyPost_ret (v := .tuple #[.agg (frcC sv30 nv30 dv30), .int .i64 ev30]) ?_ rfl ?_
          · exact (res_cell_tmp (p := 4) (q := 5) rfl rfl (hW9.2 _ (.head _)) Tryz.underlying34 rfl (by simp only [frcC_size]; kernel_rfl))
          · exact ⟨(ret_v (hpv30.symm.trans (by have e1 : s1 = false := hqs1.symm.trans h3; have e2 : s2 = false := hqs2.symm.trans h4; subst e1 e2; rw [hV, if_pos (by rw [h1, h2]; rfl), ← add_norm h1 h2, show psS false false (n1 * d2) (n2 * d1) = false from rfl, show psN false false (n1 * d2) (n2 * d1) = n1 * d2 + n2 * d1 from rfl]))), hW9.1⟩
        | true =>
          refine Tw.lm (v := .bool false) rfl rfl ?_
          refine wpL_done (fun W10 hW10 => ?_)
          refine (show Code.wp _ _ _ _ _ from ?_)
          refine wp_cond_false rfl ?_
          refine wp_skip ?_
          refine (show Code.wp _ _ _ _ _ from ?_)
          refine wp_seq ?_
          refine wp_seq ?_
          refine wp_region_L (W0 := w) ((g4, .cells (frcC false 0 0) 34 (0, 0)) :: (g2, .cells (frcC s2 n2 d2) 34 (0, 0)) :: (g1, .cells (frcC s1 n1 d1) 34 (0, 0)) :: ((((((T6 ++ T8) ++ T10) ++ T12) ++ T16) ++ T21) ++ T24)) (hW10) ?_
          refine Tw.lm (v := .slice q16 ((cd (n1 * d2)).length) d16) rfl rfl ?_
          refine Tw.lm (v := .slice q21 ((cd (n2 * d1)).length) d21) rfl rfl ?_
          refine Tw.lv (v := .bool (decide ((n1 * d2) < (n2 * d1)))) rfl rfl (yb_call (f := 47) (args := #[.slice q16 ((cd (n1 * d2)).length) d16, .slice q21 ((cd (n2 * d1)).length) d21]) (fun _ => by kernel_rfl) fun W hW => less_any (n1 * d2) (n2 * d1) q16 q21 d16 d21 (by omega) W ((H16.mono (fun q hq => by first | exact hq | (simp only [List.mem_cons, List.mem_append, List.nil_append, List.not_mem_nil, or_assoc, or_false, false_or] at hq ⊢ <;> grind))) W hW) ((H21.mono (fun q hq => by first | exact hq | (simp only [List.mem_cons, List.mem_append, List.nil_append, List.not_mem_nil, or_assoc, or_false, false_or] at hq ⊢ <;> grind))) W hW)) ?_
          refine wpL_done (fun W11 hW11 => ?_)
          refine (show Code.wp _ _ _ _ _ from ?_)
          cases hd5 : (decide ((n1 * d2) < (n2 * d1))) with
          | false =>
            have h5 : ¬ ((n1 * d2) < (n2 * d1)) := of_decide_eq_false hd5
            clear hd5
            refine wp_cond_false rfl ?_
            refine wp_skip ?_
            refine (show Code.wp _ _ _ _ _ from ?_)
            refine wp_seq ?_
            refine wp_region_V (W0 := w) ((g4, .cells (frcC false 0 0) 34 (0, 0)) :: (g2, .cells (frcC s2 n2 d2) 34 (0, 0)) :: (g1, .cells (frcC s1 n1 d1) 34 (0, 0)) :: ((((((T6 ++ T8) ++ T10) ++ T12) ++ T16) ++ T21) ++ T24)) (by kernel_rfl) (hW11) ?_
            refine vm (i := 0) (v := .pointer (some ⟨g1, 0, none⟩)) rfl rfl rfl ?_
            refine vv (i := 1) (v := .bool false) rfl rfl rfl (yb_cell (off := 0) rfl (by kernel_rfl) (.tail _ (.tail _ (.head _))) Tryz.underlying4 rfl (frc_negq (h3.symm.trans hqs1))) ?_
            refine vm (i := 2) (v := .slice q16 ((cd (n1 * d2)).length) d16) rfl rfl rfl ?_
            refine vm (i := 3) (v := .slice q21 ((cd (n2 * d1)).length) d21) rfl rfl rfl ?_
            refine vm (i := 5) (v := .slice q24 ((cd (d1 * d2)).length) d24) rfl rfl rfl ?_
            refine wpV_c (i := 4) (AnsG w ((g4, .cells (frcC false 0 0) 34 (0, 0)) :: (g2, .cells (frcC s2 n2 d2) 34 (0, 0)) :: (g1, .cells (frcC s1 n1 d1) 34 (0, 0)) :: ((((((T6 ++ T8) ++ T10) ++ T12) ++ T16) ++ T21) ++ T24)) (cd ((n1 * d2) - (n2 * d1)))) rfl rfl (by kernel_rfl) (by kernel_rfl) (fun _ => (by kernel_rfl)) (fun W hW => (sub_any (n1 * d2) (n2 * d1) q16 q21 d16 d21 (by omega) (by omega) W ((H16.mono (fun q hq => by first | exact hq | (simp only [List.mem_cons, List.mem_append, List.nil_append, List.not_mem_nil, or_assoc, or_false, false_or] at hq ⊢ <;> grind))) W hW) ((H21.mono (fun q hq => by first | exact hq | (simp only [List.mem_cons, List.mem_append, List.nil_append, List.not_mem_nil, or_assoc, or_false, false_or] at hq ⊢ <;> grind))) W hW)).mono fun e w2 h => Ans.g h hW) (fun _ _ h => ansG_sub h) (fun _ => by simp only [List.setIfInBounds_toArray, List.set_cons_succ, List.set_cons_zero] <;> rfl) ?_
            rintro v31 _ ⟨q31, d31, T31, rfl, C31, H31, F31, J31, rfl⟩
            obtain ⟨dj32_0, dj32_1, dj32_2, dj32_3, dj32_4, dj32_5, dj32_6, dj32_7, dj32_8, dj32_9⟩ : Dk g4 T31 ∧ Dk g2 T31 ∧ Dk g1 T31 ∧ Dj T6 T31 ∧ Dj T8 T31 ∧ Dj T10 T31 ∧ Dj T12 T31 ∧ Dj T16 T31 ∧ Dj T21 T31 ∧ Dj T24 T31 := by simpa only [dj_app_l, dj_app_r, dj_cons_l, dj_cons_r, dj_nil_l, dj_nil_r, dk_app, dk_cons, dk_nil, and_true, true_and, and_assoc] using (show Dj ((g4, .cells (frcC false 0 0) 34 (0, 0)) :: (g2, .cells (frcC s2 n2 d2) 34 (0, 0)) :: (g1, .cells (frcC s1 n1 d1) 34 (0, 0)) :: ((((((T6 ++ T8) ++ T10) ++ T12) ++ T16) ++ T21) ++ T24)) T31 from J31)
            have ln33 : (cd ((n1 * d2) - (n2 * d1))).length ≤ 32 := cd_le.2 (Nat.lt_of_le_of_lt (Nat.sub_le _ _) (cd_le.1 ln18))
            obtain ⟨sv34, nv34, dv34, ev34, hpv34⟩ := packV_shape false (((n1 * d2) - (n2 * d1)) / Nat.gcd ((n1 * d2) - (n2 * d1)) (d1 * d2)) ((d1 * d2) / Nat.gcd ((n1 * d2) - (n2 * d1)) (d1 * d2))
            refine vv (i := 6) (v := .tuple #[.agg (frcC sv34 nv34 dv34), .int .i64 ev34]) rfl rfl rfl (yb_call (f := 45) (args := #[.bool false, .slice q31 ((cd ((n1 * d2) - (n2 * d1))).length) d31, .slice q24 ((cd (d1 * d2)).length) d24]) (fun _ => by kernel_rfl) fun W hW => hpv34 ▸ make0_any false ((n1 * d2) - (n2 * d1)) (d1 * d2) q31 q24 d31 d24 (Nat.mul_pos (right_den h1) (right_den h2)) (by omega) (by omega) C31 C24 W ((H31.mono (fun q hq => by first | exact hq | (simp only [List.mem_cons, List.mem_append, List.nil_append, List.not_mem_nil, or_assoc, or_false, false_or] at hq ⊢ <;> grind))) W hW) ((H24.mono (fun q hq => by first | exact hq | (simp only [List.mem_cons, List.mem_append, List.nil_append, List.not_mem_nil, or_assoc, or_false, false_or] at hq ⊢ <;> grind))) W hW)) ?_
            refine vm (i := 7) (v := .agg (frcC sv34 nv34 dv34)) rfl rfl rfl ?_
            refine vm (i := 8) (v := .int .i64 ev34) rfl rfl rfl ?_
            refine wpV_s ((g4, .cells (frcC sv34 nv34 dv34) 34 (0, 0)) :: (g2, .cells (frcC s2 n2 d2) 34 (0, 0)) :: (g1, .cells (frcC s1 n1 d1) 34 (0, 0)) :: (((((((T6 ++ T8) ++ T10) ++ T12) ++ T16) ++ T21) ++ T24) ++ T31)) (i := 9) rfl (by kernel_rfl) rfl rfl rfl (st_all (by simp only [frcC_size]) (by exact frc_onec) rfl (by kernel_rfl) (by kernel_rfl) (.head _) Bg4 (by simp only [frcC_size]; kernel_rfl) (List.forall_mem_cons.2 ⟨.inl rfl, (List.forall_mem_cons.2 ⟨.inr ⟨(.tail _ (.head _)), (by first | assumption | exact Ne.symm (by assumption))⟩, (List.forall_mem_cons.2 ⟨.inr ⟨(.tail _ (.tail _ (.head _))), (by first | assumption | exact Ne.symm (by assumption))⟩, (fun p hp => .inr ⟨(.tail _ (.tail _ (.tail _ hp))), ((show Dk g4 (((((((T6 ++ T8) ++ T10) ++ T12) ++ T16) ++ T21) ++ T24) ++ T31) from (by (try simp only [dj_app_l, dj_app_r, dj_cons_l, dj_cons_r, dj_nil_l, dj_nil_r, dk_app, dk_cons, dk_nil, and_true, true_and, and_assoc]); repeat' (first | trivial | assumption | exact Dj.symm (by assumption) | exact Ne.symm (by assumption) | apply And.intro))) _ hp)⟩)⟩)⟩)⟩)) ?_
            refine vm (i := 10) (v := .int .i64 ev34) rfl rfl rfl ?_
            refine wpV_done (by kernel_rfl) (fun W12 hW12 => ?_) _
            refine (show Code.wp _ _ _ _ _ from ?_)
            refine wp_ret ?_
            try simp only [inBlock_ret, then_ret]
            refine bodyPost_ret (v := .tuple #[.agg (frcC sv34 nv34 dv34), .int .i64 ev34]) ?_ rfl ?_
            · exact (res_cell_tmp (p := 4) (q := 5) rfl rfl (hW12.2 _ (.head _)) Tryz.underlying34 rfl (by simp only [frcC_size]; kernel_rfl))
            · exact ⟨(ret_v (hpv34.symm.trans (by have e1 : s1 = false := hqs1.symm.trans h3; have e2 : s2 = true := hqs2.symm.trans h4; subst e1 e2; rw [hV, if_pos (by rw [h1, h2]; rfl), ← add_norm h1 h2, show psS false true (n1 * d2) (n2 * d1) = false from (by unfold psS; rw [if_neg (by decide), if_neg h5]), show psN false true (n1 * d2) (n2 * d1) = n1 * d2 - n2 * d1 from (by unfold psN; rw [if_neg (by decide), if_neg h5])]))), hW12.1⟩
          | true =>
            have h5 : (n1 * d2) < (n2 * d1) := of_decide_eq_true hd5
            clear hd5
            refine wp_cond_true rfl ?_
            refine wp_seq ?_
            refine wp_region_V (W0 := w) ((g4, .cells (frcC false 0 0) 34 (0, 0)) :: (g2, .cells (frcC s2 n2 d2) 34 (0, 0)) :: (g1, .cells (frcC s1 n1 d1) 34 (0, 0)) :: ((((((T6 ++ T8) ++ T10) ++ T12) ++ T16) ++ T21) ++ T24)) (by kernel_rfl) (hW11) ?_
            refine vm (i := 0) (v := .pointer (some ⟨g2, 0, none⟩)) rfl rfl rfl ?_
            refine vv (i := 1) (v := .bool true) rfl rfl rfl (yb_cell (off := 0) rfl (by kernel_rfl) (.tail _ (.head _)) Tryz.underlying4 rfl (frc_negq (h4.symm.trans hqs2))) ?_
            refine vm (i := 2) (v := .slice q21 ((cd (n2 * d1)).length) d21) rfl rfl rfl ?_
            refine vm (i := 3) (v := .slice q16 ((cd (n1 * d2)).length) d16) rfl rfl rfl ?_
            refine vm (i := 5) (v := .slice q24 ((cd (d1 * d2)).length) d24) rfl rfl rfl ?_
            refine wpV_c (i := 4) (AnsG w ((g4, .cells (frcC false 0 0) 34 (0, 0)) :: (g2, .cells (frcC s2 n2 d2) 34 (0, 0)) :: (g1, .cells (frcC s1 n1 d1) 34 (0, 0)) :: ((((((T6 ++ T8) ++ T10) ++ T12) ++ T16) ++ T21) ++ T24)) (cd ((n2 * d1) - (n1 * d2)))) rfl rfl (by kernel_rfl) (by kernel_rfl) (fun _ => (by kernel_rfl)) (fun W hW => (sub_any (n2 * d1) (n1 * d2) q21 q16 d21 d16 (by omega) (by omega) W ((H21.mono (fun q hq => by first | exact hq | (simp only [List.mem_cons, List.mem_append, List.nil_append, List.not_mem_nil, or_assoc, or_false, false_or] at hq ⊢ <;> grind))) W hW) ((H16.mono (fun q hq => by first | exact hq | (simp only [List.mem_cons, List.mem_append, List.nil_append, List.not_mem_nil, or_assoc, or_false, false_or] at hq ⊢ <;> grind))) W hW)).mono fun e w2 h => Ans.g h hW) (fun _ _ h => ansG_sub h) (fun _ => by simp only [List.setIfInBounds_toArray, List.set_cons_succ, List.set_cons_zero] <;> rfl) ?_
            rintro v35 _ ⟨q35, d35, T35, rfl, C35, H35, F35, J35, rfl⟩
            obtain ⟨dj36_0, dj36_1, dj36_2, dj36_3, dj36_4, dj36_5, dj36_6, dj36_7, dj36_8, dj36_9⟩ : Dk g4 T35 ∧ Dk g2 T35 ∧ Dk g1 T35 ∧ Dj T6 T35 ∧ Dj T8 T35 ∧ Dj T10 T35 ∧ Dj T12 T35 ∧ Dj T16 T35 ∧ Dj T21 T35 ∧ Dj T24 T35 := by simpa only [dj_app_l, dj_app_r, dj_cons_l, dj_cons_r, dj_nil_l, dj_nil_r, dk_app, dk_cons, dk_nil, and_true, true_and, and_assoc] using (show Dj ((g4, .cells (frcC false 0 0) 34 (0, 0)) :: (g2, .cells (frcC s2 n2 d2) 34 (0, 0)) :: (g1, .cells (frcC s1 n1 d1) 34 (0, 0)) :: ((((((T6 ++ T8) ++ T10) ++ T12) ++ T16) ++ T21) ++ T24)) T35 from J35)
            have ln37 : (cd ((n2 * d1) - (n1 * d2))).length ≤ 32 := cd_le.2 (Nat.lt_of_le_of_lt (Nat.sub_le _ _) (cd_le.1 ln23))
            obtain ⟨sv38, nv38, dv38, ev38, hpv38⟩ := packV_shape true (((n2 * d1) - (n1 * d2)) / Nat.gcd ((n2 * d1) - (n1 * d2)) (d1 * d2)) ((d1 * d2) / Nat.gcd ((n2 * d1) - (n1 * d2)) (d1 * d2))
            refine vv (i := 6) (v := .tuple #[.agg (frcC sv38 nv38 dv38), .int .i64 ev38]) rfl rfl rfl (yb_call (f := 45) (args := #[.bool true, .slice q35 ((cd ((n2 * d1) - (n1 * d2))).length) d35, .slice q24 ((cd (d1 * d2)).length) d24]) (fun _ => by kernel_rfl) fun W hW => hpv38 ▸ make0_any true ((n2 * d1) - (n1 * d2)) (d1 * d2) q35 q24 d35 d24 (Nat.mul_pos (right_den h1) (right_den h2)) (by omega) (by omega) C35 C24 W ((H35.mono (fun q hq => by first | exact hq | (simp only [List.mem_cons, List.mem_append, List.nil_append, List.not_mem_nil, or_assoc, or_false, false_or] at hq ⊢ <;> grind))) W hW) ((H24.mono (fun q hq => by first | exact hq | (simp only [List.mem_cons, List.mem_append, List.nil_append, List.not_mem_nil, or_assoc, or_false, false_or] at hq ⊢ <;> grind))) W hW)) ?_
            refine vm (i := 7) (v := .agg (frcC sv38 nv38 dv38)) rfl rfl rfl ?_
            refine vm (i := 8) (v := .int .i64 ev38) rfl rfl rfl ?_
            refine wpV_s ((g4, .cells (frcC sv38 nv38 dv38) 34 (0, 0)) :: (g2, .cells (frcC s2 n2 d2) 34 (0, 0)) :: (g1, .cells (frcC s1 n1 d1) 34 (0, 0)) :: (((((((T6 ++ T8) ++ T10) ++ T12) ++ T16) ++ T21) ++ T24) ++ T35)) (i := 9) rfl (by kernel_rfl) rfl rfl rfl (st_all (by simp only [frcC_size]) (by exact frc_onec) rfl (by kernel_rfl) (by kernel_rfl) (.head _) Bg4 (by simp only [frcC_size]; kernel_rfl) (List.forall_mem_cons.2 ⟨.inl rfl, (List.forall_mem_cons.2 ⟨.inr ⟨(.tail _ (.head _)), (by first | assumption | exact Ne.symm (by assumption))⟩, (List.forall_mem_cons.2 ⟨.inr ⟨(.tail _ (.tail _ (.head _))), (by first | assumption | exact Ne.symm (by assumption))⟩, (fun p hp => .inr ⟨(.tail _ (.tail _ (.tail _ hp))), ((show Dk g4 (((((((T6 ++ T8) ++ T10) ++ T12) ++ T16) ++ T21) ++ T24) ++ T35) from (by (try simp only [dj_app_l, dj_app_r, dj_cons_l, dj_cons_r, dj_nil_l, dj_nil_r, dk_app, dk_cons, dk_nil, and_true, true_and, and_assoc]); repeat' (first | trivial | assumption | exact Dj.symm (by assumption) | exact Ne.symm (by assumption) | apply And.intro))) _ hp)⟩)⟩)⟩)⟩)) ?_
            refine vm (i := 10) (v := .int .i64 ev38) rfl rfl rfl ?_
            refine wpV_done (by kernel_rfl) (fun W13 hW13 => ?_) _
            refine (show Code.wp _ _ _ _ _ from ?_)
            refine wp_ret ?_
            try simp only [inBlock_ret, then_ret]
            refine bodyPost_ret (v := .tuple #[.agg (frcC sv38 nv38 dv38), .int .i64 ev38]) ?_ rfl ?_
            · exact (res_cell_tmp (p := 4) (q := 5) rfl rfl (hW13.2 _ (.head _)) Tryz.underlying34 rfl (by simp only [frcC_size]; kernel_rfl))
            · exact ⟨(ret_v (hpv38.symm.trans (by have e1 : s1 = false := hqs1.symm.trans h3; have e2 : s2 = true := hqs2.symm.trans h4; subst e1 e2; rw [hV, if_pos (by rw [h1, h2]; rfl), ← add_norm h1 h2, show psS false true (n1 * d2) (n2 * d1) = true from (by unfold psS; rw [if_neg (by decide), if_pos h5]), show psN false true (n1 * d2) (n2 * d1) = n2 * d1 - n1 * d2 from (by unfold psN; rw [if_neg (by decide), if_pos h5])]))), hW13.1⟩
      | true =>
        cases h6 : qs2 with
        | false =>
          refine Tw.lm (v := .bool false) rfl rfl ?_
          refine wpL_done (fun W14 hW14 => ?_)
          refine (show Code.wp _ _ _ _ _ from ?_)
          refine wp_cond_false rfl ?_
          refine wp_skip ?_
          refine (show Code.wp _ _ _ _ _ from ?_)
          refine wp_seq ?_
          refine wp_seq ?_
          refine wp_region_L (W0 := w) ((g4, .cells (frcC false 0 0) 34 (0, 0)) :: (g2, .cells (frcC s2 n2 d2) 34 (0, 0)) :: (g1, .cells (frcC s1 n1 d1) 34 (0, 0)) :: ((((((T6 ++ T8) ++ T10) ++ T12) ++ T16) ++ T21) ++ T24)) (hW14) ?_
          refine Tw.lm (v := .slice q16 ((cd (n1 * d2)).length) d16) rfl rfl ?_
          refine Tw.lm (v := .slice q21 ((cd (n2 * d1)).length) d21) rfl rfl ?_
          refine Tw.lv (v := .bool (decide ((n1 * d2) < (n2 * d1)))) rfl rfl (yb_call (f := 47) (args := #[.slice q16 ((cd (n1 * d2)).length) d16, .slice q21 ((cd (n2 * d1)).length) d21]) (fun _ => by kernel_rfl) fun W hW => less_any (n1 * d2) (n2 * d1) q16 q21 d16 d21 (by omega) W ((H16.mono (fun q hq => by first | exact hq | (simp only [List.mem_cons, List.mem_append, List.nil_append, List.not_mem_nil, or_assoc, or_false, false_or] at hq ⊢ <;> grind))) W hW) ((H21.mono (fun q hq => by first | exact hq | (simp only [List.mem_cons, List.mem_append, List.nil_append, List.not_mem_nil, or_assoc, or_false, false_or] at hq ⊢ <;> grind))) W hW)) ?_
          refine wpL_done (fun W15 hW15 => ?_)
          refine (show Code.wp _ _ _ _ _ from ?_)
          cases hd7 : (decide ((n1 * d2) < (n2 * d1))) with
          | false =>
            have h7 : ¬ ((n1 * d2) < (n2 * d1)) := of_decide_eq_false hd7
            clear hd7
            refine wp_cond_false rfl ?_
            refine wp_skip ?_
            refine (show Code.wp _ _ _ _ _ from ?_)
            refine wp_seq ?_
            refine wp_region_V (W0 := w) ((g4, .cells (frcC false 0 0) 34 (0, 0)) :: (g2, .cells (frcC s2 n2 d2) 34 (0, 0)) :: (g1, .cells (frcC s1 n1 d1) 34 (0, 0)) :: ((((((T6 ++ T8) ++ T10) ++ T12) ++ T16) ++ T21) ++ T24)) (by kernel_rfl) (hW15) ?_
            refine vm (i := 0) (v := .pointer (some ⟨g1, 0, none⟩)) rfl rfl rfl ?_
            refine vv (i := 1) (v := .bool true) rfl rfl rfl (yb_cell (off := 0) rfl (by kernel_rfl) (.tail _ (.tail _ (.head _))) Tryz.underlying4 rfl (frc_negq (h3.symm.trans hqs1))) ?_
            refine vm (i := 2) (v := .slice q16 ((cd (n1 * d2)).length) d16) rfl rfl rfl ?_
            refine vm (i := 3) (v := .slice q21 ((cd (n2 * d1)).length) d21) rfl rfl rfl ?_
            refine vm (i := 5) (v := .slice q24 ((cd (d1 * d2)).length) d24) rfl rfl rfl ?_
            refine wpV_c (i := 4) (AnsG w ((g4, .cells (frcC false 0 0) 34 (0, 0)) :: (g2, .cells (frcC s2 n2 d2) 34 (0, 0)) :: (g1, .cells (frcC s1 n1 d1) 34 (0, 0)) :: ((((((T6 ++ T8) ++ T10) ++ T12) ++ T16) ++ T21) ++ T24)) (cd ((n1 * d2) - (n2 * d1)))) rfl rfl (by kernel_rfl) (by kernel_rfl) (fun _ => (by kernel_rfl)) (fun W hW => (sub_any (n1 * d2) (n2 * d1) q16 q21 d16 d21 (by omega) (by omega) W ((H16.mono (fun q hq => by first | exact hq | (simp only [List.mem_cons, List.mem_append, List.nil_append, List.not_mem_nil, or_assoc, or_false, false_or] at hq ⊢ <;> grind))) W hW) ((H21.mono (fun q hq => by first | exact hq | (simp only [List.mem_cons, List.mem_append, List.nil_append, List.not_mem_nil, or_assoc, or_false, false_or] at hq ⊢ <;> grind))) W hW)).mono fun e w2 h => Ans.g h hW) (fun _ _ h => ansG_sub h) (fun _ => by simp only [List.setIfInBounds_toArray, List.set_cons_succ, List.set_cons_zero] <;> rfl) ?_
            rintro v39 _ ⟨q39, d39, T39, rfl, C39, H39, F39, J39, rfl⟩
            obtain ⟨dj40_0, dj40_1, dj40_2, dj40_3, dj40_4, dj40_5, dj40_6, dj40_7, dj40_8, dj40_9⟩ : Dk g4 T39 ∧ Dk g2 T39 ∧ Dk g1 T39 ∧ Dj T6 T39 ∧ Dj T8 T39 ∧ Dj T10 T39 ∧ Dj T12 T39 ∧ Dj T16 T39 ∧ Dj T21 T39 ∧ Dj T24 T39 := by simpa only [dj_app_l, dj_app_r, dj_cons_l, dj_cons_r, dj_nil_l, dj_nil_r, dk_app, dk_cons, dk_nil, and_true, true_and, and_assoc] using (show Dj ((g4, .cells (frcC false 0 0) 34 (0, 0)) :: (g2, .cells (frcC s2 n2 d2) 34 (0, 0)) :: (g1, .cells (frcC s1 n1 d1) 34 (0, 0)) :: ((((((T6 ++ T8) ++ T10) ++ T12) ++ T16) ++ T21) ++ T24)) T39 from J39)
            have ln41 : (cd ((n1 * d2) - (n2 * d1))).length ≤ 32 := cd_le.2 (Nat.lt_of_le_of_lt (Nat.sub_le _ _) (cd_le.1 ln18))
            obtain ⟨sv42, nv42, dv42, ev42, hpv42⟩ := packV_shape true (((n1 * d2) - (n2 * d1)) / Nat.gcd ((n1 * d2) - (n2 * d1)) (d1 * d2)) ((d1 * d2) / Nat.gcd ((n1 * d2) - (n2 * d1)) (d1 * d2))
            refine vv (i := 6) (v := .tuple #[.agg (frcC sv42 nv42 dv42), .int .i64 ev42]) rfl rfl rfl (yb_call (f := 45) (args := #[.bool true, .slice q39 ((cd ((n1 * d2) - (n2 * d1))).length) d39, .slice q24 ((cd (d1 * d2)).length) d24]) (fun _ => by kernel_rfl) fun W hW => hpv42 ▸ make0_any true ((n1 * d2) - (n2 * d1)) (d1 * d2) q39 q24 d39 d24 (Nat.mul_pos (right_den h1) (right_den h2)) (by omega) (by omega) C39 C24 W ((H39.mono (fun q hq => by first | exact hq | (simp only [List.mem_cons, List.mem_append, List.nil_append, List.not_mem_nil, or_assoc, or_false, false_or] at hq ⊢ <;> grind))) W hW) ((H24.mono (fun q hq => by first | exact hq | (simp only [List.mem_cons, List.mem_append, List.nil_append, List.not_mem_nil, or_assoc, or_false, false_or] at hq ⊢ <;> grind))) W hW)) ?_
            refine vm (i := 7) (v := .agg (frcC sv42 nv42 dv42)) rfl rfl rfl ?_
            refine vm (i := 8) (v := .int .i64 ev42) rfl rfl rfl ?_
            refine wpV_s ((g4, .cells (frcC sv42 nv42 dv42) 34 (0, 0)) :: (g2, .cells (frcC s2 n2 d2) 34 (0, 0)) :: (g1, .cells (frcC s1 n1 d1) 34 (0, 0)) :: (((((((T6 ++ T8) ++ T10) ++ T12) ++ T16) ++ T21) ++ T24) ++ T39)) (i := 9) rfl (by kernel_rfl) rfl rfl rfl (st_all (by simp only [frcC_size]) (by exact frc_onec) rfl (by kernel_rfl) (by kernel_rfl) (.head _) Bg4 (by simp only [frcC_size]; kernel_rfl) (List.forall_mem_cons.2 ⟨.inl rfl, (List.forall_mem_cons.2 ⟨.inr ⟨(.tail _ (.head _)), (by first | assumption | exact Ne.symm (by assumption))⟩, (List.forall_mem_cons.2 ⟨.inr ⟨(.tail _ (.tail _ (.head _))), (by first | assumption | exact Ne.symm (by assumption))⟩, (fun p hp => .inr ⟨(.tail _ (.tail _ (.tail _ hp))), ((show Dk g4 (((((((T6 ++ T8) ++ T10) ++ T12) ++ T16) ++ T21) ++ T24) ++ T39) from (by (try simp only [dj_app_l, dj_app_r, dj_cons_l, dj_cons_r, dj_nil_l, dj_nil_r, dk_app, dk_cons, dk_nil, and_true, true_and, and_assoc]); repeat' (first | trivial | assumption | exact Dj.symm (by assumption) | exact Ne.symm (by assumption) | apply And.intro))) _ hp)⟩)⟩)⟩)⟩)) ?_
            refine vm (i := 10) (v := .int .i64 ev42) rfl rfl rfl ?_
            refine wpV_done (by kernel_rfl) (fun W16 hW16 => ?_) _
            refine (show Code.wp _ _ _ _ _ from ?_)
            refine wp_ret ?_
            try simp only [inBlock_ret, then_ret]
            refine bodyPost_ret (v := .tuple #[.agg (frcC sv42 nv42 dv42), .int .i64 ev42]) ?_ rfl ?_
            · exact (res_cell_tmp (p := 4) (q := 5) rfl rfl (hW16.2 _ (.head _)) Tryz.underlying34 rfl (by simp only [frcC_size]; kernel_rfl))
            · exact ⟨(ret_v (hpv42.symm.trans (by have e1 : s1 = true := hqs1.symm.trans h3; have e2 : s2 = false := hqs2.symm.trans h6; subst e1 e2; rw [hV, if_pos (by rw [h1, h2]; rfl), ← add_norm h1 h2, show psS true false (n1 * d2) (n2 * d1) = true from (by unfold psS; rw [if_neg (by decide), if_neg h7]), show psN true false (n1 * d2) (n2 * d1) = n1 * d2 - n2 * d1 from (by unfold psN; rw [if_neg (by decide), if_neg h7])]))), hW16.1⟩
          | true =>
            have h7 : (n1 * d2) < (n2 * d1) := of_decide_eq_true hd7
            clear hd7
            refine wp_cond_true rfl ?_
            refine wp_seq ?_
            refine wp_region_V (W0 := w) ((g4, .cells (frcC false 0 0) 34 (0, 0)) :: (g2, .cells (frcC s2 n2 d2) 34 (0, 0)) :: (g1, .cells (frcC s1 n1 d1) 34 (0, 0)) :: ((((((T6 ++ T8) ++ T10) ++ T12) ++ T16) ++ T21) ++ T24)) (by kernel_rfl) (hW15) ?_
            refine vm (i := 0) (v := .pointer (some ⟨g2, 0, none⟩)) rfl rfl rfl ?_
            refine vv (i := 1) (v := .bool false) rfl rfl rfl (yb_cell (off := 0) rfl (by kernel_rfl) (.tail _ (.head _)) Tryz.underlying4 rfl (frc_negq (h6.symm.trans hqs2))) ?_
            refine vm (i := 2) (v := .slice q21 ((cd (n2 * d1)).length) d21) rfl rfl rfl ?_
            refine vm (i := 3) (v := .slice q16 ((cd (n1 * d2)).length) d16) rfl rfl rfl ?_
            refine vm (i := 5) (v := .slice q24 ((cd (d1 * d2)).length) d24) rfl rfl rfl ?_
            refine wpV_c (i := 4) (AnsG w ((g4, .cells (frcC false 0 0) 34 (0, 0)) :: (g2, .cells (frcC s2 n2 d2) 34 (0, 0)) :: (g1, .cells (frcC s1 n1 d1) 34 (0, 0)) :: ((((((T6 ++ T8) ++ T10) ++ T12) ++ T16) ++ T21) ++ T24)) (cd ((n2 * d1) - (n1 * d2)))) rfl rfl (by kernel_rfl) (by kernel_rfl) (fun _ => (by kernel_rfl)) (fun W hW => (sub_any (n2 * d1) (n1 * d2) q21 q16 d21 d16 (by omega) (by omega) W ((H21.mono (fun q hq => by first | exact hq | (simp only [List.mem_cons, List.mem_append, List.nil_append, List.not_mem_nil, or_assoc, or_false, false_or] at hq ⊢ <;> grind))) W hW) ((H16.mono (fun q hq => by first | exact hq | (simp only [List.mem_cons, List.mem_append, List.nil_append, List.not_mem_nil, or_assoc, or_false, false_or] at hq ⊢ <;> grind))) W hW)).mono fun e w2 h => Ans.g h hW) (fun _ _ h => ansG_sub h) (fun _ => by simp only [List.setIfInBounds_toArray, List.set_cons_succ, List.set_cons_zero] <;> rfl) ?_
            rintro v43 _ ⟨q43, d43, T43, rfl, C43, H43, F43, J43, rfl⟩
            obtain ⟨dj44_0, dj44_1, dj44_2, dj44_3, dj44_4, dj44_5, dj44_6, dj44_7, dj44_8, dj44_9⟩ : Dk g4 T43 ∧ Dk g2 T43 ∧ Dk g1 T43 ∧ Dj T6 T43 ∧ Dj T8 T43 ∧ Dj T10 T43 ∧ Dj T12 T43 ∧ Dj T16 T43 ∧ Dj T21 T43 ∧ Dj T24 T43 := by simpa only [dj_app_l, dj_app_r, dj_cons_l, dj_cons_r, dj_nil_l, dj_nil_r, dk_app, dk_cons, dk_nil, and_true, true_and, and_assoc] using (show Dj ((g4, .cells (frcC false 0 0) 34 (0, 0)) :: (g2, .cells (frcC s2 n2 d2) 34 (0, 0)) :: (g1, .cells (frcC s1 n1 d1) 34 (0, 0)) :: ((((((T6 ++ T8) ++ T10) ++ T12) ++ T16) ++ T21) ++ T24)) T43 from J43)
            have ln45 : (cd ((n2 * d1) - (n1 * d2))).length ≤ 32 := cd_le.2 (Nat.lt_of_le_of_lt (Nat.sub_le _ _) (cd_le.1 ln23))
            obtain ⟨sv46, nv46, dv46, ev46, hpv46⟩ := packV_shape false (((n2 * d1) - (n1 * d2)) / Nat.gcd ((n2 * d1) - (n1 * d2)) (d1 * d2)) ((d1 * d2) / Nat.gcd ((n2 * d1) - (n1 * d2)) (d1 * d2))
            refine vv (i := 6) (v := .tuple #[.agg (frcC sv46 nv46 dv46), .int .i64 ev46]) rfl rfl rfl (yb_call (f := 45) (args := #[.bool false, .slice q43 ((cd ((n2 * d1) - (n1 * d2))).length) d43, .slice q24 ((cd (d1 * d2)).length) d24]) (fun _ => by kernel_rfl) fun W hW => hpv46 ▸ make0_any false ((n2 * d1) - (n1 * d2)) (d1 * d2) q43 q24 d43 d24 (Nat.mul_pos (right_den h1) (right_den h2)) (by omega) (by omega) C43 C24 W ((H43.mono (fun q hq => by first | exact hq | (simp only [List.mem_cons, List.mem_append, List.nil_append, List.not_mem_nil, or_assoc, or_false, false_or] at hq ⊢ <;> grind))) W hW) ((H24.mono (fun q hq => by first | exact hq | (simp only [List.mem_cons, List.mem_append, List.nil_append, List.not_mem_nil, or_assoc, or_false, false_or] at hq ⊢ <;> grind))) W hW)) ?_
            refine vm (i := 7) (v := .agg (frcC sv46 nv46 dv46)) rfl rfl rfl ?_
            refine vm (i := 8) (v := .int .i64 ev46) rfl rfl rfl ?_
            refine wpV_s ((g4, .cells (frcC sv46 nv46 dv46) 34 (0, 0)) :: (g2, .cells (frcC s2 n2 d2) 34 (0, 0)) :: (g1, .cells (frcC s1 n1 d1) 34 (0, 0)) :: (((((((T6 ++ T8) ++ T10) ++ T12) ++ T16) ++ T21) ++ T24) ++ T43)) (i := 9) rfl (by kernel_rfl) rfl rfl rfl (st_all (by simp only [frcC_size]) (by exact frc_onec) rfl (by kernel_rfl) (by kernel_rfl) (.head _) Bg4 (by simp only [frcC_size]; kernel_rfl) (List.forall_mem_cons.2 ⟨.inl rfl, (List.forall_mem_cons.2 ⟨.inr ⟨(.tail _ (.head _)), (by first | assumption | exact Ne.symm (by assumption))⟩, (List.forall_mem_cons.2 ⟨.inr ⟨(.tail _ (.tail _ (.head _))), (by first | assumption | exact Ne.symm (by assumption))⟩, (fun p hp => .inr ⟨(.tail _ (.tail _ (.tail _ hp))), ((show Dk g4 (((((((T6 ++ T8) ++ T10) ++ T12) ++ T16) ++ T21) ++ T24) ++ T43) from (by (try simp only [dj_app_l, dj_app_r, dj_cons_l, dj_cons_r, dj_nil_l, dj_nil_r, dk_app, dk_cons, dk_nil, and_true, true_and, and_assoc]); repeat' (first | trivial | assumption | exact Dj.symm (by assumption) | exact Ne.symm (by assumption) | apply And.intro))) _ hp)⟩)⟩)⟩)⟩)) ?_
            refine vm (i := 10) (v := .int .i64 ev46) rfl rfl rfl ?_
            refine wpV_done (by kernel_rfl) (fun W17 hW17 => ?_) _
            refine (show Code.wp _ _ _ _ _ from ?_)
            refine wp_ret ?_
            try simp only [inBlock_ret, then_ret]
            refine bodyPost_ret (v := .tuple #[.agg (frcC sv46 nv46 dv46), .int .i64 ev46]) ?_ rfl ?_
            · exact (res_cell_tmp (p := 4) (q := 5) rfl rfl (hW17.2 _ (.head _)) Tryz.underlying34 rfl (by simp only [frcC_size]; kernel_rfl))
            · exact ⟨(ret_v (hpv46.symm.trans (by have e1 : s1 = true := hqs1.symm.trans h3; have e2 : s2 = false := hqs2.symm.trans h6; subst e1 e2; rw [hV, if_pos (by rw [h1, h2]; rfl), ← add_norm h1 h2, show psS true false (n1 * d2) (n2 * d1) = false from (by unfold psS; rw [if_neg (by decide), if_pos h7]), show psN true false (n1 * d2) (n2 * d1) = n2 * d1 - n1 * d2 from (by unfold psN; rw [if_neg (by decide), if_pos h7])]))), hW17.1⟩
        | true =>
          refine Tw.lm (v := .bool true) rfl rfl ?_
          refine wpL_done (fun W18 hW18 => ?_)
          refine (show Code.wp _ _ _ _ _ from ?_)
          refine wp_cond_true rfl ?_
          refine wp_seq ?_
          refine wp_region_V (W0 := w) ((g4, .cells (frcC false 0 0) 34 (0, 0)) :: (g2, .cells (frcC s2 n2 d2) 34 (0, 0)) :: (g1, .cells (frcC s1 n1 d1) 34 (0, 0)) :: ((((((T6 ++ T8) ++ T10) ++ T12) ++ T16) ++ T21) ++ T24)) (by kernel_rfl) (hW18) ?_
          refine vm (i := 0) (v := .pointer (some ⟨g1, 0, none⟩)) rfl rfl rfl ?_
          refine vv (i := 1) (v := .bool true) rfl rfl rfl (yb_cell (off := 0) rfl (by kernel_rfl) (.tail _ (.tail _ (.head _))) Tryz.underlying4 rfl (frc_negq (h3.symm.trans hqs1))) ?_
          refine vm (i := 2) (v := .slice q16 ((cd (n1 * d2)).length) d16) rfl rfl rfl ?_
          refine vm (i := 3) (v := .slice q21 ((cd (n2 * d1)).length) d21) rfl rfl rfl ?_
          refine vm (i := 5) (v := .slice q24 ((cd (d1 * d2)).length) d24) rfl rfl rfl ?_
          refine wpV_c (i := 4) (AnsG w ((g4, .cells (frcC false 0 0) 34 (0, 0)) :: (g2, .cells (frcC s2 n2 d2) 34 (0, 0)) :: (g1, .cells (frcC s1 n1 d1) 34 (0, 0)) :: ((((((T6 ++ T8) ++ T10) ++ T12) ++ T16) ++ T21) ++ T24)) (cd ((n1 * d2) + (n2 * d1)))) rfl rfl (by kernel_rfl) (by kernel_rfl) (fun _ => (by kernel_rfl)) (fun W hW => (radd_any (n1 * d2) (n2 * d1) q16 q21 d16 d21 (by omega) (by omega) W ((H16.mono (fun q hq => by first | exact hq | (simp only [List.mem_cons, List.mem_append, List.nil_append, List.not_mem_nil, or_assoc, or_false, false_or] at hq ⊢ <;> grind))) W hW) ((H21.mono (fun q hq => by first | exact hq | (simp only [List.mem_cons, List.mem_append, List.nil_append, List.not_mem_nil, or_assoc, or_false, false_or] at hq ⊢ <;> grind))) W hW)).mono fun e w2 h => Ans.g h hW) (fun _ _ h => ansG_sub h) (fun _ => by simp only [List.setIfInBounds_toArray, List.set_cons_succ, List.set_cons_zero] <;> rfl) ?_
          rintro v47 _ ⟨q47, d47, T47, rfl, C47, H47, F47, J47, rfl⟩
          obtain ⟨dj48_0, dj48_1, dj48_2, dj48_3, dj48_4, dj48_5, dj48_6, dj48_7, dj48_8, dj48_9⟩ : Dk g4 T47 ∧ Dk g2 T47 ∧ Dk g1 T47 ∧ Dj T6 T47 ∧ Dj T8 T47 ∧ Dj T10 T47 ∧ Dj T12 T47 ∧ Dj T16 T47 ∧ Dj T21 T47 ∧ Dj T24 T47 := by simpa only [dj_app_l, dj_app_r, dj_cons_l, dj_cons_r, dj_nil_l, dj_nil_r, dk_app, dk_cons, dk_nil, and_true, true_and, and_assoc] using (show Dj ((g4, .cells (frcC false 0 0) 34 (0, 0)) :: (g2, .cells (frcC s2 n2 d2) 34 (0, 0)) :: (g1, .cells (frcC s1 n1 d1) 34 (0, 0)) :: ((((((T6 ++ T8) ++ T10) ++ T12) ++ T16) ++ T21) ++ T24)) T47 from J47)
          have ln49 : (cd ((n1 * d2) + (n2 * d1))).length ≤ 33 := cd_add_len ln18 ln23
          obtain ⟨sv50, nv50, dv50, ev50, hpv50⟩ := packV_shape true (((n1 * d2) + (n2 * d1)) / Nat.gcd ((n1 * d2) + (n2 * d1)) (d1 * d2)) ((d1 * d2) / Nat.gcd ((n1 * d2) + (n2 * d1)) (d1 * d2))
          refine vv (i := 6) (v := .tuple #[.agg (frcC sv50 nv50 dv50), .int .i64 ev50]) rfl rfl rfl (yb_call (f := 45) (args := #[.bool true, .slice q47 ((cd ((n1 * d2) + (n2 * d1))).length) d47, .slice q24 ((cd (d1 * d2)).length) d24]) (fun _ => by kernel_rfl) fun W hW => hpv50 ▸ make0_any true ((n1 * d2) + (n2 * d1)) (d1 * d2) q47 q24 d47 d24 (Nat.mul_pos (right_den h1) (right_den h2)) (by omega) (by omega) C47 C24 W ((H47.mono (fun q hq => by first | exact hq | (simp only [List.mem_cons, List.mem_append, List.nil_append, List.not_mem_nil, or_assoc, or_false, false_or] at hq ⊢ <;> grind))) W hW) ((H24.mono (fun q hq => by first | exact hq | (simp only [List.mem_cons, List.mem_append, List.nil_append, List.not_mem_nil, or_assoc, or_false, false_or] at hq ⊢ <;> grind))) W hW)) ?_
          refine vm (i := 7) (v := .agg (frcC sv50 nv50 dv50)) rfl rfl rfl ?_
          refine vm (i := 8) (v := .int .i64 ev50) rfl rfl rfl ?_
          refine wpV_s ((g4, .cells (frcC sv50 nv50 dv50) 34 (0, 0)) :: (g2, .cells (frcC s2 n2 d2) 34 (0, 0)) :: (g1, .cells (frcC s1 n1 d1) 34 (0, 0)) :: (((((((T6 ++ T8) ++ T10) ++ T12) ++ T16) ++ T21) ++ T24) ++ T47)) (i := 9) rfl (by kernel_rfl) rfl rfl rfl (st_all (by simp only [frcC_size]) (by exact frc_onec) rfl (by kernel_rfl) (by kernel_rfl) (.head _) Bg4 (by simp only [frcC_size]; kernel_rfl) (List.forall_mem_cons.2 ⟨.inl rfl, (List.forall_mem_cons.2 ⟨.inr ⟨(.tail _ (.head _)), (by first | assumption | exact Ne.symm (by assumption))⟩, (List.forall_mem_cons.2 ⟨.inr ⟨(.tail _ (.tail _ (.head _))), (by first | assumption | exact Ne.symm (by assumption))⟩, (fun p hp => .inr ⟨(.tail _ (.tail _ (.tail _ hp))), ((show Dk g4 (((((((T6 ++ T8) ++ T10) ++ T12) ++ T16) ++ T21) ++ T24) ++ T47) from (by (try simp only [dj_app_l, dj_app_r, dj_cons_l, dj_cons_r, dj_nil_l, dj_nil_r, dk_app, dk_cons, dk_nil, and_true, true_and, and_assoc]); repeat' (first | trivial | assumption | exact Dj.symm (by assumption) | exact Ne.symm (by assumption) | apply And.intro))) _ hp)⟩)⟩)⟩)⟩)) ?_
          refine vm (i := 10) (v := .int .i64 ev50) rfl rfl rfl ?_
          refine wpV_done (by kernel_rfl) (fun W19 hW19 => ?_) _
          refine (show Code.wp _ _ _ _ _ from ?_)
          refine wp_ret ?_
          try simp only [inBlock_ret, then_ret]
          refine bodyPost_ret (v := .tuple #[.agg (frcC sv50 nv50 dv50), .int .i64 ev50]) ?_ rfl ?_
          · exact (res_cell_tmp (p := 4) (q := 5) rfl rfl (hW19.2 _ (.head _)) Tryz.underlying34 rfl (by simp only [frcC_size]; kernel_rfl))
          · exact ⟨(ret_v (hpv50.symm.trans (by have e1 : s1 = true := hqs1.symm.trans h3; have e2 : s2 = true := hqs2.symm.trans h6; subst e1 e2; rw [hV, if_pos (by rw [h1, h2]; rfl), ← add_norm h1 h2, show psS true true (n1 * d2) (n2 * d1) = true from rfl, show psN true true (n1 * d2) (n2 * d1) = n1 * d2 + n2 * d1 from rfl]))), hW19.1⟩
end Go.Proofs.YtalmflgkbmnghaaGreatDoor
