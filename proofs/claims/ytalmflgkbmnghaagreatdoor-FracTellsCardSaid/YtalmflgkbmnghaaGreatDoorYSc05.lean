import Derived.Test.YtalmflgkbmnghaaGreatDoorYSc04
/- Part of the proof: YL. -/
set_option linter.unusedVariables false
set_option linter.unusedSimpArgs false
set_option linter.unusedSectionVars false
namespace Go.Proofs.YtalmflgkbmnghaaGreatDoor
open Go Go.RowKit Tw
set_option linter.unusedSimpArgs false
set_option linter.unusedVariables false
open Tf (dg R R_pos R_le R_succ dg_of_lt setd setd_eq)
variable [ShLZ]
theorem packV_shape8 (s : Bool) (n d : Nat) : ∃ s' n' d' e, packV s n d = .tuple #[.agg (frcC s' n' d'), .int .i64 e] ∧ n' < R 8 ∧ d' < R 8 := by
  unfold packV; split
  · rename_i h; exact ⟨_, _, _, _, rfl, h.1, h.2⟩
  · exact ⟨_, _, _, _, rfl, R_pos 8, R_pos 8⟩
theorem if_shape8 {c : Prop} [Decidable c] {s : Bool} {n d : Nat} : ∃ s' n' d' e, (if c then packV s n d else argV) = .tuple #[.agg (frcC s' n' d'), .int .i64 e] ∧ n' < R 8 ∧ d' < R 8 := by
  split
  · exact packV_shape8 s n d
  · exact ⟨false, 0, 0, 2, rfl, R_pos 8, R_pos 8⟩
theorem sub_same {s1 s2 : Bool} {n1 d1 n2 d2 : Nat} : (if (rightB s1 n1 d1 && rightB (if n2 = 0 then s2 else !s2) n2 d2) = true then addV s1 n1 d1 (if n2 = 0 then s2 else !s2) n2 d2 else argV) = (if (rightB s1 n1 d1 && rightB s2 n2 d2) = true then addV s1 n1 d1 (!s2) n2 d2 else argV) := by
  by_cases h : n2 = 0
  · subst h
    rw [if_pos rfl, addV_zero s1 n1 d1 s2 (!s2) d2]
  · rw [if_neg h, right_flip h]
theorem cross_eq {s1 s2 : Bool} {n1 d1 n2 d2 : Nat} (h1 : rightB s1 n1 d1 = true) (h2 : rightB s2 n2 d2 = true) (h : n1 * d2 = n2 * d1) : n1 = n2 ∧ d1 = d2 := by
  obtain ⟨x, _, e2, e3, e4⟩ := right_rat h1
  obtain ⟨y, _, f2, f3, f4⟩ := right_rat h2
  have hx : Nat.gcd n1 d1 = 1 := by rw [← e3, ← e2]; exact x.reduced
  have hy : Nat.gcd n2 d2 = 1 := by rw [← f3, ← f2]; exact y.reduced
  have p1 := right_den h1
  have p2 := right_den h2
  have a1 : d1 ∣ d2 := Nat.Coprime.dvd_of_dvd_mul_left (Nat.Coprime.symm hx) ⟨n2, by rw [h, Nat.mul_comm]⟩
  have a2 : d2 ∣ d1 := Nat.Coprime.dvd_of_dvd_mul_left (Nat.Coprime.symm hy) ⟨n1, by rw [← h, Nat.mul_comm]⟩
  have e : d1 = d2 := Nat.dvd_antisymm a1 a2
  subst e
  exact ⟨Nat.eq_of_mul_eq_mul_right p1 h, rfl⟩
set_option maxRecDepth 100000 in
set_option maxHeartbeats 20000000 in
theorem RSub_any (s1 s2 : Bool) (n1 d1 n2 d2 : Nat) (hn1 : n1 < R 8) (hd1 : d1 < R 8) (hn2 : n2 < R 8) (hd2 : d2 < R 8) (w : World) : Calls Tryz.prog 21 #[.agg (frcC s1 n1 d1), .agg (frcC s2 n2 d2)] w fun e w' => e = .returned (if (rightB s1 n1 d1 && rightB s2 n2 d2) = true then addV s1 n1 d1 (!s2) n2 d2 else argV) ∧ Below w.heap.size w w' := by
  obtain ⟨V, hV⟩ : ∃ V : Value, V = (if (rightB s1 n1 d1 && rightB s2 n2 d2) = true then addV s1 n1 d1 (!s2) n2 d2 else argV) := ⟨_, rfl⟩
  rw [← hV]
  go_enter Tryz.func21, Tryz.ntmps21
  refine wp_seq ?_
  refine wp_region_L (W0 := w) [] (KS.start w) ?_
  refine wpL_new (fun g => .pointer (some ⟨g, 0, none⟩)) (obi := .cells (frcC s1 n1 d1) 34 (0, 0)) rfl rfl (fun _ => by kernel_rfl) (fun _ => by simp only [List.setIfInBounds_toArray, List.set_cons_succ, List.set_cons_zero] <;> rfl) fun g1 Bg1 Fg1 => ?_
  refine wpL_new (fun g => .pointer (some ⟨g, 0, none⟩)) (obi := .cells (frcC s2 n2 d2) 34 (0, 0)) rfl rfl (fun _ => by kernel_rfl) (fun _ => by simp only [List.setIfInBounds_toArray, List.set_cons_succ, List.set_cons_zero] <;> rfl) fun g2 Bg2 Fg2 => ?_
  obtain dj3_0 : g1 ≠ g2 := by simpa only [dj_app_l, dj_app_r, dj_cons_l, dj_cons_r, dj_nil_l, dj_nil_r, dk_app, dk_cons, dk_nil, and_true, true_and, and_assoc] using (show Dk g2 [(g1, .cells (frcC s1 n1 d1) 34 (0, 0))] from Fg2)
  refine wpL_new (fun g => .pointer (some ⟨g, 0, none⟩)) (obi := .cells (frcC false 0 0) 34 (0, 0)) rfl rfl (fun _ => by kernel_rfl) (fun _ => by simp only [List.setIfInBounds_toArray, List.set_cons_succ, List.set_cons_zero] <;> rfl) fun g4 Bg4 Fg4 => ?_
  obtain ⟨dj5_0, dj5_1⟩ : g2 ≠ g4 ∧ g1 ≠ g4 := by simpa only [dj_app_l, dj_app_r, dj_cons_l, dj_cons_r, dj_nil_l, dj_nil_r, dk_app, dk_cons, dk_nil, and_true, true_and, and_assoc] using (show Dk g4 [(g2, .cells (frcC s2 n2 d2) 34 (0, 0)), (g1, .cells (frcC s1 n1 d1) 34 (0, 0))] from Fg4)
  refine Tw.lm (v := .int .i64 0) rfl rfl ?_
  refine wpL_done (fun W1 hW1 => ?_)
  refine (show Code.wp _ _ _ _ _ from ?_)
  refine wp_seq ?_
  refine wp_region_V (W0 := w) [(g4, .cells (frcC false 0 0) 34 (0, 0)), (g2, .cells (frcC s2 n2 d2) 34 (0, 0)), (g1, .cells (frcC s1 n1 d1) 34 (0, 0))] (by kernel_rfl) (hW1) ?_
  refine vv (i := 0) (v := .agg (frcC s1 n1 d1)) rfl rfl rfl (yb_all rfl (by kernel_rfl) (.tail _ (.tail _ (.head _))) Tryz.underlying34 rfl (by simp only [frcC_size]; kernel_rfl)) ?_
  refine vv (i := 1) (v := .agg (frcC s2 n2 d2)) rfl rfl rfl (yb_all rfl (by kernel_rfl) (.tail _ (.head _)) Tryz.underlying34 rfl (by simp only [frcC_size]; kernel_rfl)) ?_
  refine vv (i := 2) (v := .agg (frcC (if n2 = 0 then s2 else !s2) n2 d2)) rfl rfl rfl (yb_call (f := 52) (args := #[.agg (frcC s2 n2 d2)]) (fun _ => by kernel_rfl) fun W hW => rneg_any s2 n2 d2 hn2 W) ?_
  obtain ⟨sv6, nv6, dv6, ev6, hpv6, ln6, ld6⟩ : ∃ s2 n2 d2 e, V = .tuple #[.agg (frcC s2 n2 d2), .int .i64 e] ∧ n2 < R 8 ∧ d2 < R 8 := by rw [hV]; exact if_shape8
  refine vv (i := 3) (v := .tuple #[.agg (frcC sv6 nv6 dv6), .int .i64 ev6]) rfl rfl rfl (yb_call (f := 16) (args := #[.agg (frcC s1 n1 d1), .agg (frcC (if n2 = 0 then s2 else !s2) n2 d2)]) (fun _ => by kernel_rfl) fun W hW => (by have h := RAdd_any s1 (if n2 = 0 then s2 else !s2) n1 d1 n2 d2 hn1 hd1 hn2 hd2 W; rw [sub_same, ← hV, hpv6] at h; exact h)) ?_
  refine vm (i := 4) (v := .agg (frcC sv6 nv6 dv6)) rfl rfl rfl ?_
  refine vm (i := 5) (v := .int .i64 ev6) rfl rfl rfl ?_
  refine wpV_s [(g4, .cells (frcC sv6 nv6 dv6) 34 (0, 0)), (g2, .cells (frcC s2 n2 d2) 34 (0, 0)), (g1, .cells (frcC s1 n1 d1) 34 (0, 0))] (i := 6) rfl (by kernel_rfl) rfl rfl rfl (st_all (by simp only [frcC_size]) (by exact frc_onec) rfl (by kernel_rfl) (by kernel_rfl) (.head _) Bg4 (by simp only [frcC_size]; kernel_rfl) (List.forall_mem_cons.2 ⟨.inl rfl, (List.forall_mem_cons.2 ⟨.inr ⟨(.tail _ (.head _)), (by first | assumption | exact Ne.symm (by assumption))⟩, (List.forall_mem_cons.2 ⟨.inr ⟨(.tail _ (.tail _ (.head _))), (by first | assumption | exact Ne.symm (by assumption))⟩, (List.forall_mem_nil _)⟩)⟩)⟩)) ?_
  refine vm (i := 7) (v := .int .i64 ev6) rfl rfl rfl ?_
  refine wpV_done (by kernel_rfl) (fun W2 hW2 => ?_) _
  refine (show Code.wp _ _ _ _ _ from ?_)
  refine wp_ret ?_
  try simp only [inBlock_ret, then_ret]
  refine bodyPost_ret (v := .tuple #[.agg (frcC sv6 nv6 dv6), .int .i64 ev6]) ?_ rfl ?_
  · exact (res_cell_tmp (p := 4) (q := 5) rfl rfl (hW2.2 _ (.head _)) Tryz.underlying34 rfl (by simp only [frcC_size]; kernel_rfl))
  · exact ⟨(ret_v hpv6.symm), hW2.1⟩
set_option maxRecDepth 100000 in
set_option maxHeartbeats 20000000 in
theorem RMul_any (s1 s2 : Bool) (n1 d1 n2 d2 : Nat) (hn1 : n1 < R 8) (hd1 : d1 < R 8) (hn2 : n2 < R 8) (hd2 : d2 < R 8) (w : World) : Calls Tryz.prog 23 #[.agg (frcC s1 n1 d1), .agg (frcC s2 n2 d2)] w fun e w' => e = .returned (if (rightB s1 n1 d1 && rightB s2 n2 d2) = true then mulV s1 n1 d1 s2 n2 d2 else argV) ∧ Below w.heap.size w w' := by
  obtain ⟨V, hV⟩ : ∃ V : Value, V = (if (rightB s1 n1 d1 && rightB s2 n2 d2) = true then mulV s1 n1 d1 s2 n2 d2 else argV) := ⟨_, rfl⟩
  rw [← hV]
  go_enter Tryz.func23, Tryz.ntmps23
  refine wp_seq ?_
  refine wp_region_L (W0 := w) [] (KS.start w) ?_
  refine wpL_new (fun g => .pointer (some ⟨g, 0, none⟩)) (obi := .cells (frcC s1 n1 d1) 34 (0, 0)) rfl rfl (fun _ => by kernel_rfl) (fun _ => by simp only [List.setIfInBounds_toArray, List.set_cons_succ, List.set_cons_zero] <;> rfl) fun g1 Bg1 Fg1 => ?_
  refine wpL_new (fun g => .pointer (some ⟨g, 0, none⟩)) (obi := .cells (frcC s2 n2 d2) 34 (0, 0)) rfl rfl (fun _ => by kernel_rfl) (fun _ => by simp only [List.setIfInBounds_toArray, List.set_cons_succ, List.set_cons_zero] <;> rfl) fun g2 Bg2 Fg2 => ?_
  obtain dj3_0 : g1 ≠ g2 := by simpa only [dj_app_l, dj_app_r, dj_cons_l, dj_cons_r, dj_nil_l, dj_nil_r, dk_app, dk_cons, dk_nil, and_true, true_and, and_assoc] using (show Dk g2 [(g1, .cells (frcC s1 n1 d1) 34 (0, 0))] from Fg2)
  refine wpL_new (fun g => .pointer (some ⟨g, 0, none⟩)) (obi := .cells (frcC false 0 0) 34 (0, 0)) rfl rfl (fun _ => by kernel_rfl) (fun _ => by simp only [List.setIfInBounds_toArray, List.set_cons_succ, List.set_cons_zero] <;> rfl) fun g4 Bg4 Fg4 => ?_
  obtain ⟨dj5_0, dj5_1⟩ : g2 ≠ g4 ∧ g1 ≠ g4 := by simpa only [dj_app_l, dj_app_r, dj_cons_l, dj_cons_r, dj_nil_l, dj_nil_r, dk_app, dk_cons, dk_nil, and_true, true_and, and_assoc] using (show Dk g4 [(g2, .cells (frcC s2 n2 d2) 34 (0, 0)), (g1, .cells (frcC s1 n1 d1) 34 (0, 0))] from Fg4)
  refine Tw.lm (v := .int .i64 0) rfl rfl ?_
  refine wpL_done (fun W1 hW1 => ?_)
  refine (show Code.wp _ _ _ _ _ from ?_)
  refine wp_seq ?_
  refine wp_seq ?_
  refine wp_region_L (W0 := w) [(g4, .cells (frcC false 0 0) 34 (0, 0)), (g2, .cells (frcC s2 n2 d2) 34 (0, 0)), (g1, .cells (frcC s1 n1 d1) 34 (0, 0))] (hW1) ?_
  refine Tw.lv (v := .agg (frcC s1 n1 d1)) rfl rfl (yb_all rfl (by kernel_rfl) (.tail _ (.tail _ (.head _))) Tryz.underlying34 rfl (by simp only [frcC_size]; kernel_rfl)) ?_
  refine Tw.lv (v := .bool (rightB s1 n1 d1)) rfl rfl (yb_call (f := 18) (args := #[.agg (frcC s1 n1 d1)]) (fun _ => by kernel_rfl) fun W hW => rright_any s1 n1 d1 hn1 hd1 W) ?_
  refine Tw.lp (v := .bool (!(rightB s1 n1 d1))) rfl rfl (run_un rfl (by kernel_rfl) fun w => un_not w) ?_
  refine Tw.lm (v := .bool (!(rightB s1 n1 d1))) rfl rfl ?_
  cases h1 : (rightB s1 n1 d1) with
  | false =>
    refine Tw.ln rfl ?_
    refine Tw.ln rfl ?_
    refine Tw.ln rfl ?_
    refine Tw.lm (v := .bool true) rfl rfl ?_
    refine wpL_done (fun W2 hW2 => ?_)
    refine (show Code.wp _ _ _ _ _ from ?_)
    refine wp_cond_true rfl ?_
    refine wp_seq ?_
    refine wp_region_L (W0 := w) [(g4, .cells (frcC false 0 0) 34 (0, 0)), (g2, .cells (frcC s2 n2 d2) 34 (0, 0)), (g1, .cells (frcC s1 n1 d1) 34 (0, 0))] (hW2) ?_
    refine Tw.lm (v := .agg (frcC false 0 0)) rfl rfl ?_
    refine wpL_s [(g4, .cells (frcC false 0 0) 34 (0, 0)), (g2, .cells (frcC s2 n2 d2) 34 (0, 0)), (g1, .cells (frcC s1 n1 d1) 34 (0, 0))] rfl rfl (st_all (by simp only [frcC_size]) (by exact frc_onec) rfl (by kernel_rfl) (by kernel_rfl) (.head _) Bg4 (by simp only [frcC_size]; kernel_rfl) (List.forall_mem_cons.2 ⟨.inl rfl, (List.forall_mem_cons.2 ⟨.inr ⟨(.tail _ (.head _)), (by first | assumption | exact Ne.symm (by assumption))⟩, (List.forall_mem_cons.2 ⟨.inr ⟨(.tail _ (.tail _ (.head _))), (by first | assumption | exact Ne.symm (by assumption))⟩, (List.forall_mem_nil _)⟩)⟩)⟩)) ?_
    refine Tw.lm (v := .int .i64 2) rfl rfl ?_
    refine wpL_done (fun W3 hW3 => ?_)
    refine (show Code.wp _ _ _ _ _ from ?_)
    refine wp_ret ?_
    try simp only [inBlock_ret, then_ret]
    refine bodyPost_ret (v := .tuple #[.agg (frcC false 0 0), .int .i64 2]) ?_ rfl ?_
    · exact (res_cell_tmp (p := 4) (q := 5) rfl rfl (hW3.2 _ (.head _)) Tryz.underlying34 rfl (by simp only [frcC_size]; kernel_rfl))
    · exact ⟨(ret_v (by rw [hV, h1]; rfl)), hW3.1⟩
  | true =>
    refine Tw.lv (v := .agg (frcC s2 n2 d2)) rfl rfl (yb_all rfl (by kernel_rfl) (.tail _ (.head _)) Tryz.underlying34 rfl (by simp only [frcC_size]; kernel_rfl)) ?_
    refine Tw.lv (v := .bool (rightB s2 n2 d2)) rfl rfl (yb_call (f := 18) (args := #[.agg (frcC s2 n2 d2)]) (fun _ => by kernel_rfl) fun W hW => rright_any s2 n2 d2 hn2 hd2 W) ?_
    refine Tw.lp (v := .bool (!(rightB s2 n2 d2))) rfl rfl (run_un rfl (by kernel_rfl) fun w => un_not w) ?_
    refine Tw.lm (v := .bool (!(rightB s2 n2 d2))) rfl rfl ?_
    refine wpL_done (fun W4 hW4 => ?_)
    refine (show Code.wp _ _ _ _ _ from ?_)
    cases h2 : (rightB s2 n2 d2) with
    | false =>
      refine wp_cond_true rfl ?_
      refine wp_seq ?_
      refine wp_region_L (W0 := w) [(g4, .cells (frcC false 0 0) 34 (0, 0)), (g2, .cells (frcC s2 n2 d2) 34 (0, 0)), (g1, .cells (frcC s1 n1 d1) 34 (0, 0))] (hW4) ?_
      refine Tw.lm (v := .agg (frcC false 0 0)) rfl rfl ?_
      refine wpL_s [(g4, .cells (frcC false 0 0) 34 (0, 0)), (g2, .cells (frcC s2 n2 d2) 34 (0, 0)), (g1, .cells (frcC s1 n1 d1) 34 (0, 0))] rfl rfl (st_all (by simp only [frcC_size]) (by exact frc_onec) rfl (by kernel_rfl) (by kernel_rfl) (.head _) Bg4 (by simp only [frcC_size]; kernel_rfl) (List.forall_mem_cons.2 ⟨.inl rfl, (List.forall_mem_cons.2 ⟨.inr ⟨(.tail _ (.head _)), (by first | assumption | exact Ne.symm (by assumption))⟩, (List.forall_mem_cons.2 ⟨.inr ⟨(.tail _ (.tail _ (.head _))), (by first | assumption | exact Ne.symm (by assumption))⟩, (List.forall_mem_nil _)⟩)⟩)⟩)) ?_
      refine Tw.lm (v := .int .i64 2) rfl rfl ?_
      refine wpL_done (fun W5 hW5 => ?_)
      refine (show Code.wp _ _ _ _ _ from ?_)
      refine wp_ret ?_
      try simp only [inBlock_ret, then_ret]
      refine bodyPost_ret (v := .tuple #[.agg (frcC false 0 0), .int .i64 2]) ?_ rfl ?_
      · exact (res_cell_tmp (p := 4) (q := 5) rfl rfl (hW5.2 _ (.head _)) Tryz.underlying34 rfl (by simp only [frcC_size]; kernel_rfl))
      · exact ⟨(ret_v (by rw [hV, h1, h2]; rfl)), hW5.1⟩
    | true =>
      refine wp_cond_false rfl ?_
      refine wp_skip ?_
      refine (show Code.wp _ _ _ _ _ from ?_)
      refine wp_seq ?_
      refine wp_region_V (W0 := w) [(g4, .cells (frcC false 0 0) 34 (0, 0)), (g2, .cells (frcC s2 n2 d2) 34 (0, 0)), (g1, .cells (frcC s1 n1 d1) 34 (0, 0))] (by kernel_rfl) (hW4) ?_
      refine vm (i := 0) (v := .pointer (some ⟨g1, 0, none⟩)) rfl rfl rfl ?_
      obtain ⟨qs1, hqs1⟩ : ∃ b, b = s1 := ⟨_, rfl⟩
      refine vv (i := 1) (v := .bool qs1) rfl rfl rfl (yb_cell (off := 0) rfl (by kernel_rfl) (.tail _ (.tail _ (.head _))) Tryz.underlying4 rfl (frc_negq hqs1)) ?_
      refine vm (i := 2) (v := .pointer (some ⟨g2, 0, none⟩)) rfl rfl rfl ?_
      obtain ⟨qs2, hqs2⟩ : ∃ b, b = s2 := ⟨_, rfl⟩
      refine vv (i := 3) (v := .bool qs2) rfl rfl rfl (yb_cell (off := 0) rfl (by kernel_rfl) (.tail _ (.head _)) Tryz.underlying4 rfl (frc_negq hqs2)) ?_
      cases h3 : qs1 with
      | false =>
        cases h4 : qs2 with
        | false =>
          refine vm (i := 4) (v := .bool false) rfl rfl rfl ?_
          refine vm (i := 5) (v := .pointer (some ⟨g1, 1, none⟩)) rfl rfl rfl ?_
          refine vv (i := 6) (v := .agg (fa 8 (dg n1))) rfl rfl rfl (yb_fnum (s := s1) (n := n1) (d := d1) rfl (by kernel_rfl) (.tail _ (.tail _ (.head _))) Tryz.underlying23 rfl (by kernel_rfl)) ?_
          refine vm (i := 8) (v := .pointer (some ⟨g2, 1, none⟩)) rfl rfl rfl ?_
          refine vv (i := 9) (v := .agg (fa 8 (dg n2))) rfl rfl rfl (yb_fnum (s := s2) (n := n2) (d := d2) rfl (by kernel_rfl) (.tail _ (.head _)) Tryz.underlying23 rfl (by kernel_rfl)) ?_
          refine vm (i := 12) (v := .pointer (some ⟨g1, 9, none⟩)) rfl rfl rfl ?_
          refine vv (i := 13) (v := .agg (fa 8 (dg d1))) rfl rfl rfl (yb_fden (s := s1) (n := n1) (d := d1) rfl (by kernel_rfl) (.tail _ (.tail _ (.head _))) Tryz.underlying23 rfl (by kernel_rfl)) ?_
          refine vm (i := 15) (v := .pointer (some ⟨g2, 9, none⟩)) rfl rfl rfl ?_
          refine vv (i := 16) (v := .agg (fa 8 (dg d2))) rfl rfl rfl (yb_fden (s := s2) (n := n2) (d := d2) rfl (by kernel_rfl) (.tail _ (.head _)) Tryz.underlying23 rfl (by kernel_rfl)) ?_
          refine wpV_c (i := 7) (AnsG w [(g4, .cells (frcC false 0 0) 34 (0, 0)), (g2, .cells (frcC s2 n2 d2) 34 (0, 0)), (g1, .cells (frcC s1 n1 d1) 34 (0, 0))] (cd n1)) rfl rfl (by kernel_rfl) (by kernel_rfl) (fun _ => (by kernel_rfl)) (fun W hW => (rdigits_any n1 hn1 W).mono fun e w2 h => Ans.g h hW) (fun _ _ h => ansG_sub h) (fun _ => by simp only [List.setIfInBounds_toArray, List.set_cons_succ, List.set_cons_zero] <;> rfl) ?_
          rintro v6 _ ⟨q6, d6, T6, rfl, C6, H6, F6, J6, rfl⟩
          obtain ⟨dj7_0, dj7_1, dj7_2⟩ : Dk g4 T6 ∧ Dk g2 T6 ∧ Dk g1 T6 := by simpa only [dj_app_l, dj_app_r, dj_cons_l, dj_cons_r, dj_nil_l, dj_nil_r, dk_app, dk_cons, dk_nil, and_true, true_and, and_assoc] using (show Dj [(g4, .cells (frcC false 0 0) 34 (0, 0)), (g2, .cells (frcC s2 n2 d2) 34 (0, 0)), (g1, .cells (frcC s1 n1 d1) 34 (0, 0))] T6 from J6)
          refine wpV_c (i := 10) (AnsG w ((g4, .cells (frcC false 0 0) 34 (0, 0)) :: (g2, .cells (frcC s2 n2 d2) 34 (0, 0)) :: (g1, .cells (frcC s1 n1 d1) 34 (0, 0)) :: T6) (cd n2)) rfl rfl (by kernel_rfl) (by kernel_rfl) (fun _ => (by kernel_rfl)) (fun W hW => (rdigits_any n2 hn2 W).mono fun e w2 h => Ans.g h hW) (fun _ _ h => ansG_sub h) (fun _ => by simp only [List.setIfInBounds_toArray, List.set_cons_succ, List.set_cons_zero] <;> rfl) ?_
          rintro v8 _ ⟨q8, d8, T8, rfl, C8, H8, F8, J8, rfl⟩
          obtain ⟨dj9_0, dj9_1, dj9_2, dj9_3⟩ : Dk g4 T8 ∧ Dk g2 T8 ∧ Dk g1 T8 ∧ Dj T6 T8 := by simpa only [dj_app_l, dj_app_r, dj_cons_l, dj_cons_r, dj_nil_l, dj_nil_r, dk_app, dk_cons, dk_nil, and_true, true_and, and_assoc] using (show Dj ((g4, .cells (frcC false 0 0) 34 (0, 0)) :: (g2, .cells (frcC s2 n2 d2) 34 (0, 0)) :: (g1, .cells (frcC s1 n1 d1) 34 (0, 0)) :: T6) T8 from J8)
          have ln10 : (cd n1).length ≤ 16 := cd_16 hn1
          have ln11 : (cd n2).length ≤ 16 := cd_16 hn2
          refine wpV_c (i := 11) (AnsG w ((g4, .cells (frcC false 0 0) 34 (0, 0)) :: (g2, .cells (frcC s2 n2 d2) 34 (0, 0)) :: (g1, .cells (frcC s1 n1 d1) 34 (0, 0)) :: (T6 ++ T8)) (cd (n1 * n2))) rfl rfl (by kernel_rfl) (by kernel_rfl) (fun _ => (by kernel_rfl)) (fun W hW => (rmul_any n1 n2 q6 q8 d6 d8 (by omega) (by omega) W ((H6.mono (fun q hq => by first | exact hq | (simp only [List.mem_cons, List.mem_append, List.nil_append, List.not_mem_nil, or_assoc, or_false, false_or] at hq ⊢ <;> grind))) W hW) ((H8.mono (fun q hq => by first | exact hq | (simp only [List.mem_cons, List.mem_append, List.nil_append, List.not_mem_nil, or_assoc, or_false, false_or] at hq ⊢ <;> grind))) W hW)).mono fun e w2 h => Ans.g h hW) (fun _ _ h => ansG_sub h) (fun _ => by simp only [List.setIfInBounds_toArray, List.set_cons_succ, List.set_cons_zero] <;> rfl) ?_
          rintro v12 _ ⟨q12, d12, T12, rfl, C12, H12, F12, J12, rfl⟩
          obtain ⟨dj13_0, dj13_1, dj13_2, dj13_3, dj13_4⟩ : Dk g4 T12 ∧ Dk g2 T12 ∧ Dk g1 T12 ∧ Dj T6 T12 ∧ Dj T8 T12 := by simpa only [dj_app_l, dj_app_r, dj_cons_l, dj_cons_r, dj_nil_l, dj_nil_r, dk_app, dk_cons, dk_nil, and_true, true_and, and_assoc] using (show Dj ((g4, .cells (frcC false 0 0) 34 (0, 0)) :: (g2, .cells (frcC s2 n2 d2) 34 (0, 0)) :: (g1, .cells (frcC s1 n1 d1) 34 (0, 0)) :: (T6 ++ T8)) T12 from J12)
          have ln14 : (cd (n1 * n2)).length ≤ 32 := Nat.le_trans (cd_mul_len n1 n2) (by have := cd_16 hn1; have := cd_16 hn2; omega)
          refine wpV_c (i := 14) (AnsG w ((g4, .cells (frcC false 0 0) 34 (0, 0)) :: (g2, .cells (frcC s2 n2 d2) 34 (0, 0)) :: (g1, .cells (frcC s1 n1 d1) 34 (0, 0)) :: ((T6 ++ T8) ++ T12)) (cd d1)) rfl rfl (by kernel_rfl) (by kernel_rfl) (fun _ => (by kernel_rfl)) (fun W hW => (rdigits_any d1 hd1 W).mono fun e w2 h => Ans.g h hW) (fun _ _ h => ansG_sub h) (fun _ => by simp only [List.setIfInBounds_toArray, List.set_cons_succ, List.set_cons_zero] <;> rfl) ?_
          rintro v15 _ ⟨q15, d15, T15, rfl, C15, H15, F15, J15, rfl⟩
          obtain ⟨dj16_0, dj16_1, dj16_2, dj16_3, dj16_4, dj16_5⟩ : Dk g4 T15 ∧ Dk g2 T15 ∧ Dk g1 T15 ∧ Dj T6 T15 ∧ Dj T8 T15 ∧ Dj T12 T15 := by simpa only [dj_app_l, dj_app_r, dj_cons_l, dj_cons_r, dj_nil_l, dj_nil_r, dk_app, dk_cons, dk_nil, and_true, true_and, and_assoc] using (show Dj ((g4, .cells (frcC false 0 0) 34 (0, 0)) :: (g2, .cells (frcC s2 n2 d2) 34 (0, 0)) :: (g1, .cells (frcC s1 n1 d1) 34 (0, 0)) :: ((T6 ++ T8) ++ T12)) T15 from J15)
          refine wpV_c (i := 17) (AnsG w ((g4, .cells (frcC false 0 0) 34 (0, 0)) :: (g2, .cells (frcC s2 n2 d2) 34 (0, 0)) :: (g1, .cells (frcC s1 n1 d1) 34 (0, 0)) :: (((T6 ++ T8) ++ T12) ++ T15)) (cd d2)) rfl rfl (by kernel_rfl) (by kernel_rfl) (fun _ => (by kernel_rfl)) (fun W hW => (rdigits_any d2 hd2 W).mono fun e w2 h => Ans.g h hW) (fun _ _ h => ansG_sub h) (fun _ => by simp only [List.setIfInBounds_toArray, List.set_cons_succ, List.set_cons_zero] <;> rfl) ?_
          rintro v17 _ ⟨q17, d17, T17, rfl, C17, H17, F17, J17, rfl⟩
          obtain ⟨dj18_0, dj18_1, dj18_2, dj18_3, dj18_4, dj18_5, dj18_6⟩ : Dk g4 T17 ∧ Dk g2 T17 ∧ Dk g1 T17 ∧ Dj T6 T17 ∧ Dj T8 T17 ∧ Dj T12 T17 ∧ Dj T15 T17 := by simpa only [dj_app_l, dj_app_r, dj_cons_l, dj_cons_r, dj_nil_l, dj_nil_r, dk_app, dk_cons, dk_nil, and_true, true_and, and_assoc] using (show Dj ((g4, .cells (frcC false 0 0) 34 (0, 0)) :: (g2, .cells (frcC s2 n2 d2) 34 (0, 0)) :: (g1, .cells (frcC s1 n1 d1) 34 (0, 0)) :: (((T6 ++ T8) ++ T12) ++ T15)) T17 from J17)
          have ln19 : (cd d1).length ≤ 16 := cd_16 hd1
          have ln20 : (cd d2).length ≤ 16 := cd_16 hd2
          refine wpV_c (i := 18) (AnsG w ((g4, .cells (frcC false 0 0) 34 (0, 0)) :: (g2, .cells (frcC s2 n2 d2) 34 (0, 0)) :: (g1, .cells (frcC s1 n1 d1) 34 (0, 0)) :: ((((T6 ++ T8) ++ T12) ++ T15) ++ T17)) (cd (d1 * d2))) rfl rfl (by kernel_rfl) (by kernel_rfl) (fun _ => (by kernel_rfl)) (fun W hW => (rmul_any d1 d2 q15 q17 d15 d17 (by omega) (by omega) W ((H15.mono (fun q hq => by first | exact hq | (simp only [List.mem_cons, List.mem_append, List.nil_append, List.not_mem_nil, or_assoc, or_false, false_or] at hq ⊢ <;> grind))) W hW) ((H17.mono (fun q hq => by first | exact hq | (simp only [List.mem_cons, List.mem_append, List.nil_append, List.not_mem_nil, or_assoc, or_false, false_or] at hq ⊢ <;> grind))) W hW)).mono fun e w2 h => Ans.g h hW) (fun _ _ h => ansG_sub h) (fun _ => by simp only [List.setIfInBounds_toArray, List.set_cons_succ, List.set_cons_zero] <;> rfl) ?_
          rintro v21 _ ⟨q21, d21, T21, rfl, C21, H21, F21, J21, rfl⟩
          obtain ⟨dj22_0, dj22_1, dj22_2, dj22_3, dj22_4, dj22_5, dj22_6, dj22_7⟩ : Dk g4 T21 ∧ Dk g2 T21 ∧ Dk g1 T21 ∧ Dj T6 T21 ∧ Dj T8 T21 ∧ Dj T12 T21 ∧ Dj T15 T21 ∧ Dj T17 T21 := by simpa only [dj_app_l, dj_app_r, dj_cons_l, dj_cons_r, dj_nil_l, dj_nil_r, dk_app, dk_cons, dk_nil, and_true, true_and, and_assoc] using (show Dj ((g4, .cells (frcC false 0 0) 34 (0, 0)) :: (g2, .cells (frcC s2 n2 d2) 34 (0, 0)) :: (g1, .cells (frcC s1 n1 d1) 34 (0, 0)) :: ((((T6 ++ T8) ++ T12) ++ T15) ++ T17)) T21 from J21)
          have ln23 : (cd (d1 * d2)).length ≤ 32 := Nat.le_trans (cd_mul_len d1 d2) (by have := cd_16 hd1; have := cd_16 hd2; omega)
          obtain ⟨sv24, nv24, dv24, ev24, hpv24⟩ := packV_shape false ((n1 * n2) / Nat.gcd (n1 * n2) (d1 * d2)) ((d1 * d2) / Nat.gcd (n1 * n2) (d1 * d2))
          refine vv (i := 19) (v := .tuple #[.agg (frcC sv24 nv24 dv24), .int .i64 ev24]) rfl rfl rfl (yb_call (f := 45) (args := #[.bool false, .slice q12 ((cd (n1 * n2)).length) d12, .slice q21 ((cd (d1 * d2)).length) d21]) (fun _ => by kernel_rfl) fun W hW => hpv24 ▸ make0_any false (n1 * n2) (d1 * d2) q12 q21 d12 d21 (Nat.mul_pos (right_den h1) (right_den h2)) (by omega) (by omega) C12 C21 W ((H12.mono (fun q hq => by first | exact hq | (simp only [List.mem_cons, List.mem_append, List.nil_append, List.not_mem_nil, or_assoc, or_false, false_or] at hq ⊢ <;> grind))) W hW) ((H21.mono (fun q hq => by first | exact hq | (simp only [List.mem_cons, List.mem_append, List.nil_append, List.not_mem_nil, or_assoc, or_false, false_or] at hq ⊢ <;> grind))) W hW)) ?_
          refine vm (i := 20) (v := .agg (frcC sv24 nv24 dv24)) rfl rfl rfl ?_
          refine vm (i := 21) (v := .int .i64 ev24) rfl rfl rfl ?_
          refine wpV_s ((g4, .cells (frcC sv24 nv24 dv24) 34 (0, 0)) :: (g2, .cells (frcC s2 n2 d2) 34 (0, 0)) :: (g1, .cells (frcC s1 n1 d1) 34 (0, 0)) :: (((((T6 ++ T8) ++ T12) ++ T15) ++ T17) ++ T21)) (i := 22) rfl (by kernel_rfl) rfl rfl rfl (st_all (by simp only [frcC_size]) (by exact frc_onec) rfl (by kernel_rfl) (by kernel_rfl) (.head _) Bg4 (by simp only [frcC_size]; kernel_rfl) (List.forall_mem_cons.2 ⟨.inl rfl, (List.forall_mem_cons.2 ⟨.inr ⟨(.tail _ (.head _)), (by first | assumption | exact Ne.symm (by assumption))⟩, (List.forall_mem_cons.2 ⟨.inr ⟨(.tail _ (.tail _ (.head _))), (by first | assumption | exact Ne.symm (by assumption))⟩, (fun p hp => .inr ⟨(.tail _ (.tail _ (.tail _ hp))), ((show Dk g4 (((((T6 ++ T8) ++ T12) ++ T15) ++ T17) ++ T21) from (by (try simp only [dj_app_l, dj_app_r, dj_cons_l, dj_cons_r, dj_nil_l, dj_nil_r, dk_app, dk_cons, dk_nil, and_true, true_and, and_assoc]); repeat' (first | trivial | assumption | exact Dj.symm (by assumption) | exact Ne.symm (by assumption) | apply And.intro))) _ hp)⟩)⟩)⟩)⟩)) ?_
          refine vm (i := 23) (v := .int .i64 ev24) rfl rfl rfl ?_
          refine wpV_done (by kernel_rfl) (fun W6 hW6 => ?_) _
          refine (show Code.wp _ _ _ _ _ from ?_)
          refine wp_ret ?_
          try simp only [inBlock_ret, then_ret]
          refine bodyPost_ret (v := .tuple #[.agg (frcC sv24 nv24 dv24), .int .i64 ev24]) ?_ rfl ?_
          · exact (res_cell_tmp (p := 4) (q := 5) rfl rfl (hW6.2 _ (.head _)) Tryz.underlying34 rfl (by simp only [frcC_size]; kernel_rfl))
          · exact ⟨(ret_v (hpv24.symm.trans (by have e1 : s1 = false := hqs1.symm.trans h3; have e2 : s2 = false := hqs2.symm.trans h4; subst e1 e2; rw [hV, if_pos (by rw [h1, h2]; rfl), ← mul_norm h1 h2]; rfl))), hW6.1⟩
        | true =>
          refine vm (i := 4) (v := .bool true) rfl rfl rfl ?_
          refine vm (i := 5) (v := .pointer (some ⟨g1, 1, none⟩)) rfl rfl rfl ?_
          refine vv (i := 6) (v := .agg (fa 8 (dg n1))) rfl rfl rfl (yb_fnum (s := s1) (n := n1) (d := d1) rfl (by kernel_rfl) (.tail _ (.tail _ (.head _))) Tryz.underlying23 rfl (by kernel_rfl)) ?_
          refine vm (i := 8) (v := .pointer (some ⟨g2, 1, none⟩)) rfl rfl rfl ?_
          refine vv (i := 9) (v := .agg (fa 8 (dg n2))) rfl rfl rfl (yb_fnum (s := s2) (n := n2) (d := d2) rfl (by kernel_rfl) (.tail _ (.head _)) Tryz.underlying23 rfl (by kernel_rfl)) ?_
          refine vm (i := 12) (v := .pointer (some ⟨g1, 9, none⟩)) rfl rfl rfl ?_
          refine vv (i := 13) (v := .agg (fa 8 (dg d1))) rfl rfl rfl (yb_fden (s := s1) (n := n1) (d := d1) rfl (by kernel_rfl) (.tail _ (.tail _ (.head _))) Tryz.underlying23 rfl (by kernel_rfl)) ?_
          refine vm (i := 15) (v := .pointer (some ⟨g2, 9, none⟩)) rfl rfl rfl ?_
          refine vv (i := 16) (v := .agg (fa 8 (dg d2))) rfl rfl rfl (yb_fden (s := s2) (n := n2) (d := d2) rfl (by kernel_rfl) (.tail _ (.head _)) Tryz.underlying23 rfl (by kernel_rfl)) ?_
          refine wpV_c (i := 7) (AnsG w [(g4, .cells (frcC false 0 0) 34 (0, 0)), (g2, .cells (frcC s2 n2 d2) 34 (0, 0)), (g1, .cells (frcC s1 n1 d1) 34 (0, 0))] (cd n1)) rfl rfl (by kernel_rfl) (by kernel_rfl) (fun _ => (by kernel_rfl)) (fun W hW => (rdigits_any n1 hn1 W).mono fun e w2 h => Ans.g h hW) (fun _ _ h => ansG_sub h) (fun _ => by simp only [List.setIfInBounds_toArray, List.set_cons_succ, List.set_cons_zero] <;> rfl) ?_
          rintro v25 _ ⟨q25, d25, T25, rfl, C25, H25, F25, J25, rfl⟩
          obtain ⟨dj26_0, dj26_1, dj26_2⟩ : Dk g4 T25 ∧ Dk g2 T25 ∧ Dk g1 T25 := by simpa only [dj_app_l, dj_app_r, dj_cons_l, dj_cons_r, dj_nil_l, dj_nil_r, dk_app, dk_cons, dk_nil, and_true, true_and, and_assoc] using (show Dj [(g4, .cells (frcC false 0 0) 34 (0, 0)), (g2, .cells (frcC s2 n2 d2) 34 (0, 0)), (g1, .cells (frcC s1 n1 d1) 34 (0, 0))] T25 from J25)
          refine wpV_c (i := 10) (AnsG w ((g4, .cells (frcC false 0 0) 34 (0, 0)) :: (g2, .cells (frcC s2 n2 d2) 34 (0, 0)) :: (g1, .cells (frcC s1 n1 d1) 34 (0, 0)) :: T25) (cd n2)) rfl rfl (by kernel_rfl) (by kernel_rfl) (fun _ => (by kernel_rfl)) (fun W hW => (rdigits_any n2 hn2 W).mono fun e w2 h => Ans.g h hW) (fun _ _ h => ansG_sub h) (fun _ => by simp only [List.setIfInBounds_toArray, List.set_cons_succ, List.set_cons_zero] <;> rfl) ?_
          rintro v27 _ ⟨q27, d27, T27, rfl, C27, H27, F27, J27, rfl⟩
          obtain ⟨dj28_0, dj28_1, dj28_2, dj28_3⟩ : Dk g4 T27 ∧ Dk g2 T27 ∧ Dk g1 T27 ∧ Dj T25 T27 := by simpa only [dj_app_l, dj_app_r, dj_cons_l, dj_cons_r, dj_nil_l, dj_nil_r, dk_app, dk_cons, dk_nil, and_true, true_and, and_assoc] using (show Dj ((g4, .cells (frcC false 0 0) 34 (0, 0)) :: (g2, .cells (frcC s2 n2 d2) 34 (0, 0)) :: (g1, .cells (frcC s1 n1 d1) 34 (0, 0)) :: T25) T27 from J27)
          have ln29 : (cd n1).length ≤ 16 := cd_16 hn1
          have ln30 : (cd n2).length ≤ 16 := cd_16 hn2
          refine wpV_c (i := 11) (AnsG w ((g4, .cells (frcC false 0 0) 34 (0, 0)) :: (g2, .cells (frcC s2 n2 d2) 34 (0, 0)) :: (g1, .cells (frcC s1 n1 d1) 34 (0, 0)) :: (T25 ++ T27)) (cd (n1 * n2))) rfl rfl (by kernel_rfl) (by kernel_rfl) (fun _ => (by kernel_rfl)) (fun W hW => (rmul_any n1 n2 q25 q27 d25 d27 (by omega) (by omega) W ((H25.mono (fun q hq => by first | exact hq | (simp only [List.mem_cons, List.mem_append, List.nil_append, List.not_mem_nil, or_assoc, or_false, false_or] at hq ⊢ <;> grind))) W hW) ((H27.mono (fun q hq => by first | exact hq | (simp only [List.mem_cons, List.mem_append, List.nil_append, List.not_mem_nil, or_assoc, or_false, false_or] at hq ⊢ <;> grind))) W hW)).mono fun e w2 h => Ans.g h hW) (fun _ _ h => ansG_sub h) (fun _ => by simp only [List.setIfInBounds_toArray, List.set_cons_succ, List.set_cons_zero] <;> rfl) ?_
          rintro v31 _ ⟨q31, d31, T31, rfl, C31, H31, F31, J31, rfl⟩
          obtain ⟨dj32_0, dj32_1, dj32_2, dj32_3, dj32_4⟩ : Dk g4 T31 ∧ Dk g2 T31 ∧ Dk g1 T31 ∧ Dj T25 T31 ∧ Dj T27 T31 := by simpa only [dj_app_l, dj_app_r, dj_cons_l, dj_cons_r, dj_nil_l, dj_nil_r, dk_app, dk_cons, dk_nil, and_true, true_and, and_assoc] using (show Dj ((g4, .cells (frcC false 0 0) 34 (0, 0)) :: (g2, .cells (frcC s2 n2 d2) 34 (0, 0)) :: (g1, .cells (frcC s1 n1 d1) 34 (0, 0)) :: (T25 ++ T27)) T31 from J31)
          have ln33 : (cd (n1 * n2)).length ≤ 32 := Nat.le_trans (cd_mul_len n1 n2) (by have := cd_16 hn1; have := cd_16 hn2; omega)
          refine wpV_c (i := 14) (AnsG w ((g4, .cells (frcC false 0 0) 34 (0, 0)) :: (g2, .cells (frcC s2 n2 d2) 34 (0, 0)) :: (g1, .cells (frcC s1 n1 d1) 34 (0, 0)) :: ((T25 ++ T27) ++ T31)) (cd d1)) rfl rfl (by kernel_rfl) (by kernel_rfl) (fun _ => (by kernel_rfl)) (fun W hW => (rdigits_any d1 hd1 W).mono fun e w2 h => Ans.g h hW) (fun _ _ h => ansG_sub h) (fun _ => by simp only [List.setIfInBounds_toArray, List.set_cons_succ, List.set_cons_zero] <;> rfl) ?_
          rintro v34 _ ⟨q34, d34, T34, rfl, C34, H34, F34, J34, rfl⟩
          obtain ⟨dj35_0, dj35_1, dj35_2, dj35_3, dj35_4, dj35_5⟩ : Dk g4 T34 ∧ Dk g2 T34 ∧ Dk g1 T34 ∧ Dj T25 T34 ∧ Dj T27 T34 ∧ Dj T31 T34 := by simpa only [dj_app_l, dj_app_r, dj_cons_l, dj_cons_r, dj_nil_l, dj_nil_r, dk_app, dk_cons, dk_nil, and_true, true_and, and_assoc] using (show Dj ((g4, .cells (frcC false 0 0) 34 (0, 0)) :: (g2, .cells (frcC s2 n2 d2) 34 (0, 0)) :: (g1, .cells (frcC s1 n1 d1) 34 (0, 0)) :: ((T25 ++ T27) ++ T31)) T34 from J34)
          refine wpV_c (i := 17) (AnsG w ((g4, .cells (frcC false 0 0) 34 (0, 0)) :: (g2, .cells (frcC s2 n2 d2) 34 (0, 0)) :: (g1, .cells (frcC s1 n1 d1) 34 (0, 0)) :: (((T25 ++ T27) ++ T31) ++ T34)) (cd d2)) rfl rfl (by kernel_rfl) (by kernel_rfl) (fun _ => (by kernel_rfl)) (fun W hW => (rdigits_any d2 hd2 W).mono fun e w2 h => Ans.g h hW) (fun _ _ h => ansG_sub h) (fun _ => by simp only [List.setIfInBounds_toArray, List.set_cons_succ, List.set_cons_zero] <;> rfl) ?_
          rintro v36 _ ⟨q36, d36, T36, rfl, C36, H36, F36, J36, rfl⟩
          obtain ⟨dj37_0, dj37_1, dj37_2, dj37_3, dj37_4, dj37_5, dj37_6⟩ : Dk g4 T36 ∧ Dk g2 T36 ∧ Dk g1 T36 ∧ Dj T25 T36 ∧ Dj T27 T36 ∧ Dj T31 T36 ∧ Dj T34 T36 := by simpa only [dj_app_l, dj_app_r, dj_cons_l, dj_cons_r, dj_nil_l, dj_nil_r, dk_app, dk_cons, dk_nil, and_true, true_and, and_assoc] using (show Dj ((g4, .cells (frcC false 0 0) 34 (0, 0)) :: (g2, .cells (frcC s2 n2 d2) 34 (0, 0)) :: (g1, .cells (frcC s1 n1 d1) 34 (0, 0)) :: (((T25 ++ T27) ++ T31) ++ T34)) T36 from J36)
          have ln38 : (cd d1).length ≤ 16 := cd_16 hd1
          have ln39 : (cd d2).length ≤ 16 := cd_16 hd2
          refine wpV_c (i := 18) (AnsG w ((g4, .cells (frcC false 0 0) 34 (0, 0)) :: (g2, .cells (frcC s2 n2 d2) 34 (0, 0)) :: (g1, .cells (frcC s1 n1 d1) 34 (0, 0)) :: ((((T25 ++ T27) ++ T31) ++ T34) ++ T36)) (cd (d1 * d2))) rfl rfl (by kernel_rfl) (by kernel_rfl) (fun _ => (by kernel_rfl)) (fun W hW => (rmul_any d1 d2 q34 q36 d34 d36 (by omega) (by omega) W ((H34.mono (fun q hq => by first | exact hq | (simp only [List.mem_cons, List.mem_append, List.nil_append, List.not_mem_nil, or_assoc, or_false, false_or] at hq ⊢ <;> grind))) W hW) ((H36.mono (fun q hq => by first | exact hq | (simp only [List.mem_cons, List.mem_append, List.nil_append, List.not_mem_nil, or_assoc, or_false, false_or] at hq ⊢ <;> grind))) W hW)).mono fun e w2 h => Ans.g h hW) (fun _ _ h => ansG_sub h) (fun _ => by simp only [List.setIfInBounds_toArray, List.set_cons_succ, List.set_cons_zero] <;> rfl) ?_
          rintro v40 _ ⟨q40, d40, T40, rfl, C40, H40, F40, J40, rfl⟩
          obtain ⟨dj41_0, dj41_1, dj41_2, dj41_3, dj41_4, dj41_5, dj41_6, dj41_7⟩ : Dk g4 T40 ∧ Dk g2 T40 ∧ Dk g1 T40 ∧ Dj T25 T40 ∧ Dj T27 T40 ∧ Dj T31 T40 ∧ Dj T34 T40 ∧ Dj T36 T40 := by simpa only [dj_app_l, dj_app_r, dj_cons_l, dj_cons_r, dj_nil_l, dj_nil_r, dk_app, dk_cons, dk_nil, and_true, true_and, and_assoc] using (show Dj ((g4, .cells (frcC false 0 0) 34 (0, 0)) :: (g2, .cells (frcC s2 n2 d2) 34 (0, 0)) :: (g1, .cells (frcC s1 n1 d1) 34 (0, 0)) :: ((((T25 ++ T27) ++ T31) ++ T34) ++ T36)) T40 from J40)
          have ln42 : (cd (d1 * d2)).length ≤ 32 := Nat.le_trans (cd_mul_len d1 d2) (by have := cd_16 hd1; have := cd_16 hd2; omega)
          obtain ⟨sv43, nv43, dv43, ev43, hpv43⟩ := packV_shape true ((n1 * n2) / Nat.gcd (n1 * n2) (d1 * d2)) ((d1 * d2) / Nat.gcd (n1 * n2) (d1 * d2))
          refine vv (i := 19) (v := .tuple #[.agg (frcC sv43 nv43 dv43), .int .i64 ev43]) rfl rfl rfl (yb_call (f := 45) (args := #[.bool true, .slice q31 ((cd (n1 * n2)).length) d31, .slice q40 ((cd (d1 * d2)).length) d40]) (fun _ => by kernel_rfl) fun W hW => hpv43 ▸ make0_any true (n1 * n2) (d1 * d2) q31 q40 d31 d40 (Nat.mul_pos (right_den h1) (right_den h2)) (by omega) (by omega) C31 C40 W ((H31.mono (fun q hq => by first | exact hq | (simp only [List.mem_cons, List.mem_append, List.nil_append, List.not_mem_nil, or_assoc, or_false, false_or] at hq ⊢ <;> grind))) W hW) ((H40.mono (fun q hq => by first | exact hq | (simp only [List.mem_cons, List.mem_append, List.nil_append, List.not_mem_nil, or_assoc, or_false, false_or] at hq ⊢ <;> grind))) W hW)) ?_
          refine vm (i := 20) (v := .agg (frcC sv43 nv43 dv43)) rfl rfl rfl ?_
          refine vm (i := 21) (v := .int .i64 ev43) rfl rfl rfl ?_
          refine wpV_s ((g4, .cells (frcC sv43 nv43 dv43) 34 (0, 0)) :: (g2, .cells (frcC s2 n2 d2) 34 (0, 0)) :: (g1, .cells (frcC s1 n1 d1) 34 (0, 0)) :: (((((T25 ++ T27) ++ T31) ++ T34) ++ T36) ++ T40)) (i := 22) rfl (by kernel_rfl) rfl rfl rfl (st_all (by simp only [frcC_size]) (by exact frc_onec) rfl (by kernel_rfl) (by kernel_rfl) (.head _) Bg4 (by simp only [frcC_size]; kernel_rfl) (List.forall_mem_cons.2 ⟨.inl rfl, (List.forall_mem_cons.2 ⟨.inr ⟨(.tail _ (.head _)), (by first | assumption | exact Ne.symm (by assumption))⟩, (List.forall_mem_cons.2 ⟨.inr ⟨(.tail _ (.tail _ (.head _))), (by first | assumption | exact Ne.symm (by assumption))⟩, (fun p hp => .inr ⟨(.tail _ (.tail _ (.tail _ hp))), ((show Dk g4 (((((T25 ++ T27) ++ T31) ++ T34) ++ T36) ++ T40) from (by (try simp only [dj_app_l, dj_app_r, dj_cons_l, dj_cons_r, dj_nil_l, dj_nil_r, dk_app, dk_cons, dk_nil, and_true, true_and, and_assoc]); repeat' (first | trivial | assumption | exact Dj.symm (by assumption) | exact Ne.symm (by assumption) | apply And.intro))) _ hp)⟩)⟩)⟩)⟩)) ?_
          refine vm (i := 23) (v := .int .i64 ev43) rfl rfl rfl ?_
          refine wpV_done (by kernel_rfl) (fun W7 hW7 => ?_) _
          refine (show Code.wp _ _ _ _ _ from ?_)
          refine wp_ret ?_
          try simp only [inBlock_ret, then_ret]
          refine bodyPost_ret (v := .tuple #[.agg (frcC sv43 nv43 dv43), .int .i64 ev43]) ?_ rfl ?_
          · exact (res_cell_tmp (p := 4) (q := 5) rfl rfl (hW7.2 _ (.head _)) Tryz.underlying34 rfl (by simp only [frcC_size]; kernel_rfl))
          · exact ⟨(ret_v (hpv43.symm.trans (by have e1 : s1 = false := hqs1.symm.trans h3; have e2 : s2 = true := hqs2.symm.trans h4; subst e1 e2; rw [hV, if_pos (by rw [h1, h2]; rfl), ← mul_norm h1 h2]; rfl))), hW7.1⟩
      | true =>
        cases h5 : qs2 with
        | false =>
          refine vm (i := 4) (v := .bool true) rfl rfl rfl ?_
          refine vm (i := 5) (v := .pointer (some ⟨g1, 1, none⟩)) rfl rfl rfl ?_
          refine vv (i := 6) (v := .agg (fa 8 (dg n1))) rfl rfl rfl (yb_fnum (s := s1) (n := n1) (d := d1) rfl (by kernel_rfl) (.tail _ (.tail _ (.head _))) Tryz.underlying23 rfl (by kernel_rfl)) ?_
          refine vm (i := 8) (v := .pointer (some ⟨g2, 1, none⟩)) rfl rfl rfl ?_
          refine vv (i := 9) (v := .agg (fa 8 (dg n2))) rfl rfl rfl (yb_fnum (s := s2) (n := n2) (d := d2) rfl (by kernel_rfl) (.tail _ (.head _)) Tryz.underlying23 rfl (by kernel_rfl)) ?_
          refine vm (i := 12) (v := .pointer (some ⟨g1, 9, none⟩)) rfl rfl rfl ?_
          refine vv (i := 13) (v := .agg (fa 8 (dg d1))) rfl rfl rfl (yb_fden (s := s1) (n := n1) (d := d1) rfl (by kernel_rfl) (.tail _ (.tail _ (.head _))) Tryz.underlying23 rfl (by kernel_rfl)) ?_
          refine vm (i := 15) (v := .pointer (some ⟨g2, 9, none⟩)) rfl rfl rfl ?_
          refine vv (i := 16) (v := .agg (fa 8 (dg d2))) rfl rfl rfl (yb_fden (s := s2) (n := n2) (d := d2) rfl (by kernel_rfl) (.tail _ (.head _)) Tryz.underlying23 rfl (by kernel_rfl)) ?_
          refine wpV_c (i := 7) (AnsG w [(g4, .cells (frcC false 0 0) 34 (0, 0)), (g2, .cells (frcC s2 n2 d2) 34 (0, 0)), (g1, .cells (frcC s1 n1 d1) 34 (0, 0))] (cd n1)) rfl rfl (by kernel_rfl) (by kernel_rfl) (fun _ => (by kernel_rfl)) (fun W hW => (rdigits_any n1 hn1 W).mono fun e w2 h => Ans.g h hW) (fun _ _ h => ansG_sub h) (fun _ => by simp only [List.setIfInBounds_toArray, List.set_cons_succ, List.set_cons_zero] <;> rfl) ?_
          rintro v44 _ ⟨q44, d44, T44, rfl, C44, H44, F44, J44, rfl⟩
          obtain ⟨dj45_0, dj45_1, dj45_2⟩ : Dk g4 T44 ∧ Dk g2 T44 ∧ Dk g1 T44 := by simpa only [dj_app_l, dj_app_r, dj_cons_l, dj_cons_r, dj_nil_l, dj_nil_r, dk_app, dk_cons, dk_nil, and_true, true_and, and_assoc] using (show Dj [(g4, .cells (frcC false 0 0) 34 (0, 0)), (g2, .cells (frcC s2 n2 d2) 34 (0, 0)), (g1, .cells (frcC s1 n1 d1) 34 (0, 0))] T44 from J44)
          refine wpV_c (i := 10) (AnsG w ((g4, .cells (frcC false 0 0) 34 (0, 0)) :: (g2, .cells (frcC s2 n2 d2) 34 (0, 0)) :: (g1, .cells (frcC s1 n1 d1) 34 (0, 0)) :: T44) (cd n2)) rfl rfl (by kernel_rfl) (by kernel_rfl) (fun _ => (by kernel_rfl)) (fun W hW => (rdigits_any n2 hn2 W).mono fun e w2 h => Ans.g h hW) (fun _ _ h => ansG_sub h) (fun _ => by simp only [List.setIfInBounds_toArray, List.set_cons_succ, List.set_cons_zero] <;> rfl) ?_
          rintro v46 _ ⟨q46, d46, T46, rfl, C46, H46, F46, J46, rfl⟩
          obtain ⟨dj47_0, dj47_1, dj47_2, dj47_3⟩ : Dk g4 T46 ∧ Dk g2 T46 ∧ Dk g1 T46 ∧ Dj T44 T46 := by simpa only [dj_app_l, dj_app_r, dj_cons_l, dj_cons_r, dj_nil_l, dj_nil_r, dk_app, dk_cons, dk_nil, and_true, true_and, and_assoc] using (show Dj ((g4, .cells (frcC false 0 0) 34 (0, 0)) :: (g2, .cells (frcC s2 n2 d2) 34 (0, 0)) :: (g1, .cells (frcC s1 n1 d1) 34 (0, 0)) :: T44) T46 from J46)
          have ln48 : (cd n1).length ≤ 16 := cd_16 hn1
          have ln49 : (cd n2).length ≤ 16 := cd_16 hn2
          refine wpV_c (i := 11) (AnsG w ((g4, .cells (frcC false 0 0) 34 (0, 0)) :: (g2, .cells (frcC s2 n2 d2) 34 (0, 0)) :: (g1, .cells (frcC s1 n1 d1) 34 (0, 0)) :: (T44 ++ T46)) (cd (n1 * n2))) rfl rfl (by kernel_rfl) (by kernel_rfl) (fun _ => (by kernel_rfl)) (fun W hW => (rmul_any n1 n2 q44 q46 d44 d46 (by omega) (by omega) W ((H44.mono (fun q hq => by first | exact hq | (simp only [List.mem_cons, List.mem_append, List.nil_append, List.not_mem_nil, or_assoc, or_false, false_or] at hq ⊢ <;> grind))) W hW) ((H46.mono (fun q hq => by first | exact hq | (simp only [List.mem_cons, List.mem_append, List.nil_append, List.not_mem_nil, or_assoc, or_false, false_or] at hq ⊢ <;> grind))) W hW)).mono fun e w2 h => Ans.g h hW) (fun _ _ h => ansG_sub h) (fun _ => by simp only [List.setIfInBounds_toArray, List.set_cons_succ, List.set_cons_zero] <;> rfl) ?_
          rintro v50 _ ⟨q50, d50, T50, rfl, C50, H50, F50, J50, rfl⟩
          obtain ⟨dj51_0, dj51_1, dj51_2, dj51_3, dj51_4⟩ : Dk g4 T50 ∧ Dk g2 T50 ∧ Dk g1 T50 ∧ Dj T44 T50 ∧ Dj T46 T50 := by simpa only [dj_app_l, dj_app_r, dj_cons_l, dj_cons_r, dj_nil_l, dj_nil_r, dk_app, dk_cons, dk_nil, and_true, true_and, and_assoc] using (show Dj ((g4, .cells (frcC false 0 0) 34 (0, 0)) :: (g2, .cells (frcC s2 n2 d2) 34 (0, 0)) :: (g1, .cells (frcC s1 n1 d1) 34 (0, 0)) :: (T44 ++ T46)) T50 from J50)
          have ln52 : (cd (n1 * n2)).length ≤ 32 := Nat.le_trans (cd_mul_len n1 n2) (by have := cd_16 hn1; have := cd_16 hn2; omega)
          refine wpV_c (i := 14) (AnsG w ((g4, .cells (frcC false 0 0) 34 (0, 0)) :: (g2, .cells (frcC s2 n2 d2) 34 (0, 0)) :: (g1, .cells (frcC s1 n1 d1) 34 (0, 0)) :: ((T44 ++ T46) ++ T50)) (cd d1)) rfl rfl (by kernel_rfl) (by kernel_rfl) (fun _ => (by kernel_rfl)) (fun W hW => (rdigits_any d1 hd1 W).mono fun e w2 h => Ans.g h hW) (fun _ _ h => ansG_sub h) (fun _ => by simp only [List.setIfInBounds_toArray, List.set_cons_succ, List.set_cons_zero] <;> rfl) ?_
          rintro v53 _ ⟨q53, d53, T53, rfl, C53, H53, F53, J53, rfl⟩
          obtain ⟨dj54_0, dj54_1, dj54_2, dj54_3, dj54_4, dj54_5⟩ : Dk g4 T53 ∧ Dk g2 T53 ∧ Dk g1 T53 ∧ Dj T44 T53 ∧ Dj T46 T53 ∧ Dj T50 T53 := by simpa only [dj_app_l, dj_app_r, dj_cons_l, dj_cons_r, dj_nil_l, dj_nil_r, dk_app, dk_cons, dk_nil, and_true, true_and, and_assoc] using (show Dj ((g4, .cells (frcC false 0 0) 34 (0, 0)) :: (g2, .cells (frcC s2 n2 d2) 34 (0, 0)) :: (g1, .cells (frcC s1 n1 d1) 34 (0, 0)) :: ((T44 ++ T46) ++ T50)) T53 from J53)
          refine wpV_c (i := 17) (AnsG w ((g4, .cells (frcC false 0 0) 34 (0, 0)) :: (g2, .cells (frcC s2 n2 d2) 34 (0, 0)) :: (g1, .cells (frcC s1 n1 d1) 34 (0, 0)) :: (((T44 ++ T46) ++ T50) ++ T53)) (cd d2)) rfl rfl (by kernel_rfl) (by kernel_rfl) (fun _ => (by kernel_rfl)) (fun W hW => (rdigits_any d2 hd2 W).mono fun e w2 h => Ans.g h hW) (fun _ _ h => ansG_sub h) (fun _ => by simp only [List.setIfInBounds_toArray, List.set_cons_succ, List.set_cons_zero] <;> rfl) ?_
          rintro v55 _ ⟨q55, d55, T55, rfl, C55, H55, F55, J55, rfl⟩
          obtain ⟨dj56_0, dj56_1, dj56_2, dj56_3, dj56_4, dj56_5, dj56_6⟩ : Dk g4 T55 ∧ Dk g2 T55 ∧ Dk g1 T55 ∧ Dj T44 T55 ∧ Dj T46 T55 ∧ Dj T50 T55 ∧ Dj T53 T55 := by simpa only [dj_app_l, dj_app_r, dj_cons_l, dj_cons_r, dj_nil_l, dj_nil_r, dk_app, dk_cons, dk_nil, and_true, true_and, and_assoc] using (show Dj ((g4, .cells (frcC false 0 0) 34 (0, 0)) :: (g2, .cells (frcC s2 n2 d2) 34 (0, 0)) :: (g1, .cells (frcC s1 n1 d1) 34 (0, 0)) :: (((T44 ++ T46) ++ T50) ++ T53)) T55 from J55)
          have ln57 : (cd d1).length ≤ 16 := cd_16 hd1
          have ln58 : (cd d2).length ≤ 16 := cd_16 hd2
          refine wpV_c (i := 18) (AnsG w ((g4, .cells (frcC false 0 0) 34 (0, 0)) :: (g2, .cells (frcC s2 n2 d2) 34 (0, 0)) :: (g1, .cells (frcC s1 n1 d1) 34 (0, 0)) :: ((((T44 ++ T46) ++ T50) ++ T53) ++ T55)) (cd (d1 * d2))) rfl rfl (by kernel_rfl) (by kernel_rfl) (fun _ => (by kernel_rfl)) (fun W hW => (rmul_any d1 d2 q53 q55 d53 d55 (by omega) (by omega) W ((H53.mono (fun q hq => by first | exact hq | (simp only [List.mem_cons, List.mem_append, List.nil_append, List.not_mem_nil, or_assoc, or_false, false_or] at hq ⊢ <;> grind))) W hW) ((H55.mono (fun q hq => by first | exact hq | (simp only [List.mem_cons, List.mem_append, List.nil_append, List.not_mem_nil, or_assoc, or_false, false_or] at hq ⊢ <;> grind))) W hW)).mono fun e w2 h => Ans.g h hW) (fun _ _ h => ansG_sub h) (fun _ => by simp only [List.setIfInBounds_toArray, List.set_cons_succ, List.set_cons_zero] <;> rfl) ?_
          rintro v59 _ ⟨q59, d59, T59, rfl, C59, H59, F59, J59, rfl⟩
          obtain ⟨dj60_0, dj60_1, dj60_2, dj60_3, dj60_4, dj60_5, dj60_6, dj60_7⟩ : Dk g4 T59 ∧ Dk g2 T59 ∧ Dk g1 T59 ∧ Dj T44 T59 ∧ Dj T46 T59 ∧ Dj T50 T59 ∧ Dj T53 T59 ∧ Dj T55 T59 := by simpa only [dj_app_l, dj_app_r, dj_cons_l, dj_cons_r, dj_nil_l, dj_nil_r, dk_app, dk_cons, dk_nil, and_true, true_and, and_assoc] using (show Dj ((g4, .cells (frcC false 0 0) 34 (0, 0)) :: (g2, .cells (frcC s2 n2 d2) 34 (0, 0)) :: (g1, .cells (frcC s1 n1 d1) 34 (0, 0)) :: ((((T44 ++ T46) ++ T50) ++ T53) ++ T55)) T59 from J59)
          have ln61 : (cd (d1 * d2)).length ≤ 32 := Nat.le_trans (cd_mul_len d1 d2) (by have := cd_16 hd1; have := cd_16 hd2; omega)
          obtain ⟨sv62, nv62, dv62, ev62, hpv62⟩ := packV_shape true ((n1 * n2) / Nat.gcd (n1 * n2) (d1 * d2)) ((d1 * d2) / Nat.gcd (n1 * n2) (d1 * d2))
          refine vv (i := 19) (v := .tuple #[.agg (frcC sv62 nv62 dv62), .int .i64 ev62]) rfl rfl rfl (yb_call (f := 45) (args := #[.bool true, .slice q50 ((cd (n1 * n2)).length) d50, .slice q59 ((cd (d1 * d2)).length) d59]) (fun _ => by kernel_rfl) fun W hW => hpv62 ▸ make0_any true (n1 * n2) (d1 * d2) q50 q59 d50 d59 (Nat.mul_pos (right_den h1) (right_den h2)) (by omega) (by omega) C50 C59 W ((H50.mono (fun q hq => by first | exact hq | (simp only [List.mem_cons, List.mem_append, List.nil_append, List.not_mem_nil, or_assoc, or_false, false_or] at hq ⊢ <;> grind))) W hW) ((H59.mono (fun q hq => by first | exact hq | (simp only [List.mem_cons, List.mem_append, List.nil_append, List.not_mem_nil, or_assoc, or_false, false_or] at hq ⊢ <;> grind))) W hW)) ?_
          refine vm (i := 20) (v := .agg (frcC sv62 nv62 dv62)) rfl rfl rfl ?_
          refine vm (i := 21) (v := .int .i64 ev62) rfl rfl rfl ?_
          refine wpV_s ((g4, .cells (frcC sv62 nv62 dv62) 34 (0, 0)) :: (g2, .cells (frcC s2 n2 d2) 34 (0, 0)) :: (g1, .cells (frcC s1 n1 d1) 34 (0, 0)) :: (((((T44 ++ T46) ++ T50) ++ T53) ++ T55) ++ T59)) (i := 22) rfl (by kernel_rfl) rfl rfl rfl (st_all (by simp only [frcC_size]) (by exact frc_onec) rfl (by kernel_rfl) (by kernel_rfl) (.head _) Bg4 (by simp only [frcC_size]; kernel_rfl) (List.forall_mem_cons.2 ⟨.inl rfl, (List.forall_mem_cons.2 ⟨.inr ⟨(.tail _ (.head _)), (by first | assumption | exact Ne.symm (by assumption))⟩, (List.forall_mem_cons.2 ⟨.inr ⟨(.tail _ (.tail _ (.head _))), (by first | assumption | exact Ne.symm (by assumption))⟩, (fun p hp => .inr ⟨(.tail _ (.tail _ (.tail _ hp))), ((show Dk g4 (((((T44 ++ T46) ++ T50) ++ T53) ++ T55) ++ T59) from (by (try simp only [dj_app_l, dj_app_r, dj_cons_l, dj_cons_r, dj_nil_l, dj_nil_r, dk_app, dk_cons, dk_nil, and_true, true_and, and_assoc]); repeat' (first | trivial | assumption | exact Dj.symm (by assumption) | exact Ne.symm (by assumption) | apply And.intro))) _ hp)⟩)⟩)⟩)⟩)) ?_
          refine vm (i := 23) (v := .int .i64 ev62) rfl rfl rfl ?_
          refine wpV_done (by kernel_rfl) (fun W8 hW8 => ?_) _
          refine (show Code.wp _ _ _ _ _ from ?_)
          refine wp_ret ?_
          try simp only [inBlock_ret, then_ret]
          refine bodyPost_ret (v := .tuple #[.agg (frcC sv62 nv62 dv62), .int .i64 ev62]) ?_ rfl ?_
          · exact (res_cell_tmp (p := 4) (q := 5) rfl rfl (hW8.2 _ (.head _)) Tryz.underlying34 rfl (by simp only [frcC_size]; kernel_rfl))
          · exact ⟨(ret_v (hpv62.symm.trans (by have e1 : s1 = true := hqs1.symm.trans h3; have e2 : s2 = false := hqs2.symm.trans h5; subst e1 e2; rw [hV, if_pos (by rw [h1, h2]; rfl), ← mul_norm h1 h2]; rfl))), hW8.1⟩
        | true =>
          refine vm (i := 4) (v := .bool false) rfl rfl rfl ?_
          refine vm (i := 5) (v := .pointer (some ⟨g1, 1, none⟩)) rfl rfl rfl ?_
          refine vv (i := 6) (v := .agg (fa 8 (dg n1))) rfl rfl rfl (yb_fnum (s := s1) (n := n1) (d := d1) rfl (by kernel_rfl) (.tail _ (.tail _ (.head _))) Tryz.underlying23 rfl (by kernel_rfl)) ?_
          refine vm (i := 8) (v := .pointer (some ⟨g2, 1, none⟩)) rfl rfl rfl ?_
          refine vv (i := 9) (v := .agg (fa 8 (dg n2))) rfl rfl rfl (yb_fnum (s := s2) (n := n2) (d := d2) rfl (by kernel_rfl) (.tail _ (.head _)) Tryz.underlying23 rfl (by kernel_rfl)) ?_
          refine vm (i := 12) (v := .pointer (some ⟨g1, 9, none⟩)) rfl rfl rfl ?_
          refine vv (i := 13) (v := .agg (fa 8 (dg d1))) rfl rfl rfl (yb_fden (s := s1) (n := n1) (d := d1) rfl (by kernel_rfl) (.tail _ (.tail _ (.head _))) Tryz.underlying23 rfl (by kernel_rfl)) ?_
          refine vm (i := 15) (v := .pointer (some ⟨g2, 9, none⟩)) rfl rfl rfl ?_
          refine vv (i := 16) (v := .agg (fa 8 (dg d2))) rfl rfl rfl (yb_fden (s := s2) (n := n2) (d := d2) rfl (by kernel_rfl) (.tail _ (.head _)) Tryz.underlying23 rfl (by kernel_rfl)) ?_
          refine wpV_c (i := 7) (AnsG w [(g4, .cells (frcC false 0 0) 34 (0, 0)), (g2, .cells (frcC s2 n2 d2) 34 (0, 0)), (g1, .cells (frcC s1 n1 d1) 34 (0, 0))] (cd n1)) rfl rfl (by kernel_rfl) (by kernel_rfl) (fun _ => (by kernel_rfl)) (fun W hW => (rdigits_any n1 hn1 W).mono fun e w2 h => Ans.g h hW) (fun _ _ h => ansG_sub h) (fun _ => by simp only [List.setIfInBounds_toArray, List.set_cons_succ, List.set_cons_zero] <;> rfl) ?_
          rintro v63 _ ⟨q63, d63, T63, rfl, C63, H63, F63, J63, rfl⟩
          obtain ⟨dj64_0, dj64_1, dj64_2⟩ : Dk g4 T63 ∧ Dk g2 T63 ∧ Dk g1 T63 := by simpa only [dj_app_l, dj_app_r, dj_cons_l, dj_cons_r, dj_nil_l, dj_nil_r, dk_app, dk_cons, dk_nil, and_true, true_and, and_assoc] using (show Dj [(g4, .cells (frcC false 0 0) 34 (0, 0)), (g2, .cells (frcC s2 n2 d2) 34 (0, 0)), (g1, .cells (frcC s1 n1 d1) 34 (0, 0))] T63 from J63)
          refine wpV_c (i := 10) (AnsG w ((g4, .cells (frcC false 0 0) 34 (0, 0)) :: (g2, .cells (frcC s2 n2 d2) 34 (0, 0)) :: (g1, .cells (frcC s1 n1 d1) 34 (0, 0)) :: T63) (cd n2)) rfl rfl (by kernel_rfl) (by kernel_rfl) (fun _ => (by kernel_rfl)) (fun W hW => (rdigits_any n2 hn2 W).mono fun e w2 h => Ans.g h hW) (fun _ _ h => ansG_sub h) (fun _ => by simp only [List.setIfInBounds_toArray, List.set_cons_succ, List.set_cons_zero] <;> rfl) ?_
          rintro v65 _ ⟨q65, d65, T65, rfl, C65, H65, F65, J65, rfl⟩
          obtain ⟨dj66_0, dj66_1, dj66_2, dj66_3⟩ : Dk g4 T65 ∧ Dk g2 T65 ∧ Dk g1 T65 ∧ Dj T63 T65 := by simpa only [dj_app_l, dj_app_r, dj_cons_l, dj_cons_r, dj_nil_l, dj_nil_r, dk_app, dk_cons, dk_nil, and_true, true_and, and_assoc] using (show Dj ((g4, .cells (frcC false 0 0) 34 (0, 0)) :: (g2, .cells (frcC s2 n2 d2) 34 (0, 0)) :: (g1, .cells (frcC s1 n1 d1) 34 (0, 0)) :: T63) T65 from J65)
          have ln67 : (cd n1).length ≤ 16 := cd_16 hn1
          have ln68 : (cd n2).length ≤ 16 := cd_16 hn2
          refine wpV_c (i := 11) (AnsG w ((g4, .cells (frcC false 0 0) 34 (0, 0)) :: (g2, .cells (frcC s2 n2 d2) 34 (0, 0)) :: (g1, .cells (frcC s1 n1 d1) 34 (0, 0)) :: (T63 ++ T65)) (cd (n1 * n2))) rfl rfl (by kernel_rfl) (by kernel_rfl) (fun _ => (by kernel_rfl)) (fun W hW => (rmul_any n1 n2 q63 q65 d63 d65 (by omega) (by omega) W ((H63.mono (fun q hq => by first | exact hq | (simp only [List.mem_cons, List.mem_append, List.nil_append, List.not_mem_nil, or_assoc, or_false, false_or] at hq ⊢ <;> grind))) W hW) ((H65.mono (fun q hq => by first | exact hq | (simp only [List.mem_cons, List.mem_append, List.nil_append, List.not_mem_nil, or_assoc, or_false, false_or] at hq ⊢ <;> grind))) W hW)).mono fun e w2 h => Ans.g h hW) (fun _ _ h => ansG_sub h) (fun _ => by simp only [List.setIfInBounds_toArray, List.set_cons_succ, List.set_cons_zero] <;> rfl) ?_
          rintro v69 _ ⟨q69, d69, T69, rfl, C69, H69, F69, J69, rfl⟩
          obtain ⟨dj70_0, dj70_1, dj70_2, dj70_3, dj70_4⟩ : Dk g4 T69 ∧ Dk g2 T69 ∧ Dk g1 T69 ∧ Dj T63 T69 ∧ Dj T65 T69 := by simpa only [dj_app_l, dj_app_r, dj_cons_l, dj_cons_r, dj_nil_l, dj_nil_r, dk_app, dk_cons, dk_nil, and_true, true_and, and_assoc] using (show Dj ((g4, .cells (frcC false 0 0) 34 (0, 0)) :: (g2, .cells (frcC s2 n2 d2) 34 (0, 0)) :: (g1, .cells (frcC s1 n1 d1) 34 (0, 0)) :: (T63 ++ T65)) T69 from J69)
          have ln71 : (cd (n1 * n2)).length ≤ 32 := Nat.le_trans (cd_mul_len n1 n2) (by have := cd_16 hn1; have := cd_16 hn2; omega)
          refine wpV_c (i := 14) (AnsG w ((g4, .cells (frcC false 0 0) 34 (0, 0)) :: (g2, .cells (frcC s2 n2 d2) 34 (0, 0)) :: (g1, .cells (frcC s1 n1 d1) 34 (0, 0)) :: ((T63 ++ T65) ++ T69)) (cd d1)) rfl rfl (by kernel_rfl) (by kernel_rfl) (fun _ => (by kernel_rfl)) (fun W hW => (rdigits_any d1 hd1 W).mono fun e w2 h => Ans.g h hW) (fun _ _ h => ansG_sub h) (fun _ => by simp only [List.setIfInBounds_toArray, List.set_cons_succ, List.set_cons_zero] <;> rfl) ?_
          rintro v72 _ ⟨q72, d72, T72, rfl, C72, H72, F72, J72, rfl⟩
          obtain ⟨dj73_0, dj73_1, dj73_2, dj73_3, dj73_4, dj73_5⟩ : Dk g4 T72 ∧ Dk g2 T72 ∧ Dk g1 T72 ∧ Dj T63 T72 ∧ Dj T65 T72 ∧ Dj T69 T72 := by simpa only [dj_app_l, dj_app_r, dj_cons_l, dj_cons_r, dj_nil_l, dj_nil_r, dk_app, dk_cons, dk_nil, and_true, true_and, and_assoc] using (show Dj ((g4, .cells (frcC false 0 0) 34 (0, 0)) :: (g2, .cells (frcC s2 n2 d2) 34 (0, 0)) :: (g1, .cells (frcC s1 n1 d1) 34 (0, 0)) :: ((T63 ++ T65) ++ T69)) T72 from J72)
          refine wpV_c (i := 17) (AnsG w ((g4, .cells (frcC false 0 0) 34 (0, 0)) :: (g2, .cells (frcC s2 n2 d2) 34 (0, 0)) :: (g1, .cells (frcC s1 n1 d1) 34 (0, 0)) :: (((T63 ++ T65) ++ T69) ++ T72)) (cd d2)) rfl rfl (by kernel_rfl) (by kernel_rfl) (fun _ => (by kernel_rfl)) (fun W hW => (rdigits_any d2 hd2 W).mono fun e w2 h => Ans.g h hW) (fun _ _ h => ansG_sub h) (fun _ => by simp only [List.setIfInBounds_toArray, List.set_cons_succ, List.set_cons_zero] <;> rfl) ?_
          rintro v74 _ ⟨q74, d74, T74, rfl, C74, H74, F74, J74, rfl⟩
          obtain ⟨dj75_0, dj75_1, dj75_2, dj75_3, dj75_4, dj75_5, dj75_6⟩ : Dk g4 T74 ∧ Dk g2 T74 ∧ Dk g1 T74 ∧ Dj T63 T74 ∧ Dj T65 T74 ∧ Dj T69 T74 ∧ Dj T72 T74 := by simpa only [dj_app_l, dj_app_r, dj_cons_l, dj_cons_r, dj_nil_l, dj_nil_r, dk_app, dk_cons, dk_nil, and_true, true_and, and_assoc] using (show Dj ((g4, .cells (frcC false 0 0) 34 (0, 0)) :: (g2, .cells (frcC s2 n2 d2) 34 (0, 0)) :: (g1, .cells (frcC s1 n1 d1) 34 (0, 0)) :: (((T63 ++ T65) ++ T69) ++ T72)) T74 from J74)
          have ln76 : (cd d1).length ≤ 16 := cd_16 hd1
          have ln77 : (cd d2).length ≤ 16 := cd_16 hd2
          refine wpV_c (i := 18) (AnsG w ((g4, .cells (frcC false 0 0) 34 (0, 0)) :: (g2, .cells (frcC s2 n2 d2) 34 (0, 0)) :: (g1, .cells (frcC s1 n1 d1) 34 (0, 0)) :: ((((T63 ++ T65) ++ T69) ++ T72) ++ T74)) (cd (d1 * d2))) rfl rfl (by kernel_rfl) (by kernel_rfl) (fun _ => (by kernel_rfl)) (fun W hW => (rmul_any d1 d2 q72 q74 d72 d74 (by omega) (by omega) W ((H72.mono (fun q hq => by first | exact hq | (simp only [List.mem_cons, List.mem_append, List.nil_append, List.not_mem_nil, or_assoc, or_false, false_or] at hq ⊢ <;> grind))) W hW) ((H74.mono (fun q hq => by first | exact hq | (simp only [List.mem_cons, List.mem_append, List.nil_append, List.not_mem_nil, or_assoc, or_false, false_or] at hq ⊢ <;> grind))) W hW)).mono fun e w2 h => Ans.g h hW) (fun _ _ h => ansG_sub h) (fun _ => by simp only [List.setIfInBounds_toArray, List.set_cons_succ, List.set_cons_zero] <;> rfl) ?_
          rintro v78 _ ⟨q78, d78, T78, rfl, C78, H78, F78, J78, rfl⟩
          obtain ⟨dj79_0, dj79_1, dj79_2, dj79_3, dj79_4, dj79_5, dj79_6, dj79_7⟩ : Dk g4 T78 ∧ Dk g2 T78 ∧ Dk g1 T78 ∧ Dj T63 T78 ∧ Dj T65 T78 ∧ Dj T69 T78 ∧ Dj T72 T78 ∧ Dj T74 T78 := by simpa only [dj_app_l, dj_app_r, dj_cons_l, dj_cons_r, dj_nil_l, dj_nil_r, dk_app, dk_cons, dk_nil, and_true, true_and, and_assoc] using (show Dj ((g4, .cells (frcC false 0 0) 34 (0, 0)) :: (g2, .cells (frcC s2 n2 d2) 34 (0, 0)) :: (g1, .cells (frcC s1 n1 d1) 34 (0, 0)) :: ((((T63 ++ T65) ++ T69) ++ T72) ++ T74)) T78 from J78)
          have ln80 : (cd (d1 * d2)).length ≤ 32 := Nat.le_trans (cd_mul_len d1 d2) (by have := cd_16 hd1; have := cd_16 hd2; omega)
          obtain ⟨sv81, nv81, dv81, ev81, hpv81⟩ := packV_shape false ((n1 * n2) / Nat.gcd (n1 * n2) (d1 * d2)) ((d1 * d2) / Nat.gcd (n1 * n2) (d1 * d2))
          refine vv (i := 19) (v := .tuple #[.agg (frcC sv81 nv81 dv81), .int .i64 ev81]) rfl rfl rfl (yb_call (f := 45) (args := #[.bool false, .slice q69 ((cd (n1 * n2)).length) d69, .slice q78 ((cd (d1 * d2)).length) d78]) (fun _ => by kernel_rfl) fun W hW => hpv81 ▸ make0_any false (n1 * n2) (d1 * d2) q69 q78 d69 d78 (Nat.mul_pos (right_den h1) (right_den h2)) (by omega) (by omega) C69 C78 W ((H69.mono (fun q hq => by first | exact hq | (simp only [List.mem_cons, List.mem_append, List.nil_append, List.not_mem_nil, or_assoc, or_false, false_or] at hq ⊢ <;> grind))) W hW) ((H78.mono (fun q hq => by first | exact hq | (simp only [List.mem_cons, List.mem_append, List.nil_append, List.not_mem_nil, or_assoc, or_false, false_or] at hq ⊢ <;> grind))) W hW)) ?_
          refine vm (i := 20) (v := .agg (frcC sv81 nv81 dv81)) rfl rfl rfl ?_
          refine vm (i := 21) (v := .int .i64 ev81) rfl rfl rfl ?_
          refine wpV_s ((g4, .cells (frcC sv81 nv81 dv81) 34 (0, 0)) :: (g2, .cells (frcC s2 n2 d2) 34 (0, 0)) :: (g1, .cells (frcC s1 n1 d1) 34 (0, 0)) :: (((((T63 ++ T65) ++ T69) ++ T72) ++ T74) ++ T78)) (i := 22) rfl (by kernel_rfl) rfl rfl rfl (st_all (by simp only [frcC_size]) (by exact frc_onec) rfl (by kernel_rfl) (by kernel_rfl) (.head _) Bg4 (by simp only [frcC_size]; kernel_rfl) (List.forall_mem_cons.2 ⟨.inl rfl, (List.forall_mem_cons.2 ⟨.inr ⟨(.tail _ (.head _)), (by first | assumption | exact Ne.symm (by assumption))⟩, (List.forall_mem_cons.2 ⟨.inr ⟨(.tail _ (.tail _ (.head _))), (by first | assumption | exact Ne.symm (by assumption))⟩, (fun p hp => .inr ⟨(.tail _ (.tail _ (.tail _ hp))), ((show Dk g4 (((((T63 ++ T65) ++ T69) ++ T72) ++ T74) ++ T78) from (by (try simp only [dj_app_l, dj_app_r, dj_cons_l, dj_cons_r, dj_nil_l, dj_nil_r, dk_app, dk_cons, dk_nil, and_true, true_and, and_assoc]); repeat' (first | trivial | assumption | exact Dj.symm (by assumption) | exact Ne.symm (by assumption) | apply And.intro))) _ hp)⟩)⟩)⟩)⟩)) ?_
          refine vm (i := 23) (v := .int .i64 ev81) rfl rfl rfl ?_
          refine wpV_done (by kernel_rfl) (fun W9 hW9 => ?_) _
          refine (show Code.wp _ _ _ _ _ from ?_)
          refine wp_ret ?_
          try simp only [inBlock_ret, then_ret]
          refine bodyPost_ret (v := .tuple #[.agg (frcC sv81 nv81 dv81), .int .i64 ev81]) ?_ rfl ?_
          · exact (res_cell_tmp (p := 4) (q := 5) rfl rfl (hW9.2 _ (.head _)) Tryz.underlying34 rfl (by simp only [frcC_size]; kernel_rfl))
          · exact ⟨(ret_v (hpv81.symm.trans (by have e1 : s1 = true := hqs1.symm.trans h3; have e2 : s2 = true := hqs2.symm.trans h5; subst e1 e2; rw [hV, if_pos (by rw [h1, h2]; rfl), ← mul_norm h1 h2]; rfl))), hW9.1⟩
set_option maxRecDepth 100000 in
set_option maxHeartbeats 20000000 in
theorem RDiv_any (s1 s2 : Bool) (n1 d1 n2 d2 : Nat) (hn1 : n1 < R 8) (hd1 : d1 < R 8) (hn2 : n2 < R 8) (hd2 : d2 < R 8) (w : World) : Calls Tryz.prog 25 #[.agg (frcC s1 n1 d1), .agg (frcC s2 n2 d2)] w fun e w' => e = .returned (if rightB s1 n1 d1 = true ∧ rightB s2 n2 d2 = true ∧ n2 ≠ 0 then mulV s1 n1 d1 s2 d2 n2 else argV) ∧ Below w.heap.size w w' := by
  obtain ⟨V, hV⟩ : ∃ V : Value, V = (if rightB s1 n1 d1 = true ∧ rightB s2 n2 d2 = true ∧ n2 ≠ 0 then mulV s1 n1 d1 s2 d2 n2 else argV) := ⟨_, rfl⟩
  rw [← hV]
  go_enter Tryz.func25, Tryz.ntmps25
  refine wp_seq ?_
  refine wp_region_L (W0 := w) [] (KS.start w) ?_
  refine wpL_new (fun g => .pointer (some ⟨g, 0, none⟩)) (obi := .cells (frcC s1 n1 d1) 34 (0, 0)) rfl rfl (fun _ => by kernel_rfl) (fun _ => by simp only [List.setIfInBounds_toArray, List.set_cons_succ, List.set_cons_zero] <;> rfl) fun g1 Bg1 Fg1 => ?_
  refine wpL_new (fun g => .pointer (some ⟨g, 0, none⟩)) (obi := .cells (frcC s2 n2 d2) 34 (0, 0)) rfl rfl (fun _ => by kernel_rfl) (fun _ => by simp only [List.setIfInBounds_toArray, List.set_cons_succ, List.set_cons_zero] <;> rfl) fun g2 Bg2 Fg2 => ?_
  obtain dj3_0 : g1 ≠ g2 := by simpa only [dj_app_l, dj_app_r, dj_cons_l, dj_cons_r, dj_nil_l, dj_nil_r, dk_app, dk_cons, dk_nil, and_true, true_and, and_assoc] using (show Dk g2 [(g1, .cells (frcC s1 n1 d1) 34 (0, 0))] from Fg2)
  refine wpL_new (fun g => .pointer (some ⟨g, 0, none⟩)) (obi := .cells (frcC false 0 0) 34 (0, 0)) rfl rfl (fun _ => by kernel_rfl) (fun _ => by simp only [List.setIfInBounds_toArray, List.set_cons_succ, List.set_cons_zero] <;> rfl) fun g4 Bg4 Fg4 => ?_
  obtain ⟨dj5_0, dj5_1⟩ : g2 ≠ g4 ∧ g1 ≠ g4 := by simpa only [dj_app_l, dj_app_r, dj_cons_l, dj_cons_r, dj_nil_l, dj_nil_r, dk_app, dk_cons, dk_nil, and_true, true_and, and_assoc] using (show Dk g4 [(g2, .cells (frcC s2 n2 d2) 34 (0, 0)), (g1, .cells (frcC s1 n1 d1) 34 (0, 0))] from Fg4)
  refine Tw.lm (v := .int .i64 0) rfl rfl ?_
  refine wpL_done (fun W1 hW1 => ?_)
  refine (show Code.wp _ _ _ _ _ from ?_)
  refine wp_seq ?_
  refine wp_seq ?_
  refine wp_region_L (W0 := w) [(g4, .cells (frcC false 0 0) 34 (0, 0)), (g2, .cells (frcC s2 n2 d2) 34 (0, 0)), (g1, .cells (frcC s1 n1 d1) 34 (0, 0))] (hW1) ?_
  refine Tw.lv (v := .agg (frcC s1 n1 d1)) rfl rfl (yb_all rfl (by kernel_rfl) (.tail _ (.tail _ (.head _))) Tryz.underlying34 rfl (by simp only [frcC_size]; kernel_rfl)) ?_
  refine Tw.lv (v := .bool (rightB s1 n1 d1)) rfl rfl (yb_call (f := 18) (args := #[.agg (frcC s1 n1 d1)]) (fun _ => by kernel_rfl) fun W hW => rright_any s1 n1 d1 hn1 hd1 W) ?_
  refine Tw.lp (v := .bool (!(rightB s1 n1 d1))) rfl rfl (run_un rfl (by kernel_rfl) fun w => un_not w) ?_
  refine Tw.lm (v := .bool (!(rightB s1 n1 d1))) rfl rfl ?_
  cases h1 : (rightB s1 n1 d1) with
  | false =>
    refine Tw.ln rfl ?_
    refine Tw.ln rfl ?_
    refine Tw.ln rfl ?_
    refine Tw.lm (v := .bool true) rfl rfl ?_
    refine Tw.lm (v := .bool true) rfl rfl ?_
    refine Tw.ln rfl ?_
    refine Tw.ln rfl ?_
    refine Tw.ln rfl ?_
    refine Tw.ln rfl ?_
    refine Tw.ln rfl ?_
    refine Tw.lm (v := .bool true) rfl rfl ?_
    refine wpL_done (fun W2 hW2 => ?_)
    refine (show Code.wp _ _ _ _ _ from ?_)
    refine wp_cond_true rfl ?_
    refine wp_seq ?_
    refine wp_region_L (W0 := w) [(g4, .cells (frcC false 0 0) 34 (0, 0)), (g2, .cells (frcC s2 n2 d2) 34 (0, 0)), (g1, .cells (frcC s1 n1 d1) 34 (0, 0))] (hW2) ?_
    refine Tw.lm (v := .agg (frcC false 0 0)) rfl rfl ?_
    refine wpL_s [(g4, .cells (frcC false 0 0) 34 (0, 0)), (g2, .cells (frcC s2 n2 d2) 34 (0, 0)), (g1, .cells (frcC s1 n1 d1) 34 (0, 0))] rfl rfl (st_all (by simp only [frcC_size]) (by exact frc_onec) rfl (by kernel_rfl) (by kernel_rfl) (.head _) Bg4 (by simp only [frcC_size]; kernel_rfl) (List.forall_mem_cons.2 ⟨.inl rfl, (List.forall_mem_cons.2 ⟨.inr ⟨(.tail _ (.head _)), (by first | assumption | exact Ne.symm (by assumption))⟩, (List.forall_mem_cons.2 ⟨.inr ⟨(.tail _ (.tail _ (.head _))), (by first | assumption | exact Ne.symm (by assumption))⟩, (List.forall_mem_nil _)⟩)⟩)⟩)) ?_
    refine Tw.lm (v := .int .i64 2) rfl rfl ?_
    refine wpL_done (fun W3 hW3 => ?_)
    refine (show Code.wp _ _ _ _ _ from ?_)
    refine wp_ret ?_
    try simp only [inBlock_ret, then_ret]
    refine bodyPost_ret (v := .tuple #[.agg (frcC false 0 0), .int .i64 2]) ?_ rfl ?_
    · exact (res_cell_tmp (p := 4) (q := 5) rfl rfl (hW3.2 _ (.head _)) Tryz.underlying34 rfl (by simp only [frcC_size]; kernel_rfl))
    · exact ⟨(ret_v (by rw [hV, if_neg (fun h => by rw [h1] at h; cases h.1)]; rfl)), hW3.1⟩
  | true =>
    refine Tw.lv (v := .agg (frcC s2 n2 d2)) rfl rfl (yb_all rfl (by kernel_rfl) (.tail _ (.head _)) Tryz.underlying34 rfl (by simp only [frcC_size]; kernel_rfl)) ?_
    refine Tw.lv (v := .bool (rightB s2 n2 d2)) rfl rfl (yb_call (f := 18) (args := #[.agg (frcC s2 n2 d2)]) (fun _ => by kernel_rfl) fun W hW => rright_any s2 n2 d2 hn2 hd2 W) ?_
    refine Tw.lp (v := .bool (!(rightB s2 n2 d2))) rfl rfl (run_un rfl (by kernel_rfl) fun w => un_not w) ?_
    refine Tw.lm (v := .bool (!(rightB s2 n2 d2))) rfl rfl ?_
    refine Tw.lm (v := .bool (!(rightB s2 n2 d2))) rfl rfl ?_
    cases h2 : (rightB s2 n2 d2) with
    | false =>
      refine Tw.ln rfl ?_
      refine Tw.ln rfl ?_
      refine Tw.ln rfl ?_
      refine Tw.ln rfl ?_
      refine Tw.ln rfl ?_
      refine Tw.lm (v := .bool true) rfl rfl ?_
      refine wpL_done (fun W4 hW4 => ?_)
      refine (show Code.wp _ _ _ _ _ from ?_)
      refine wp_cond_true rfl ?_
      refine wp_seq ?_
      refine wp_region_L (W0 := w) [(g4, .cells (frcC false 0 0) 34 (0, 0)), (g2, .cells (frcC s2 n2 d2) 34 (0, 0)), (g1, .cells (frcC s1 n1 d1) 34 (0, 0))] (hW4) ?_
      refine Tw.lm (v := .agg (frcC false 0 0)) rfl rfl ?_
      refine wpL_s [(g4, .cells (frcC false 0 0) 34 (0, 0)), (g2, .cells (frcC s2 n2 d2) 34 (0, 0)), (g1, .cells (frcC s1 n1 d1) 34 (0, 0))] rfl rfl (st_all (by simp only [frcC_size]) (by exact frc_onec) rfl (by kernel_rfl) (by kernel_rfl) (.head _) Bg4 (by simp only [frcC_size]; kernel_rfl) (List.forall_mem_cons.2 ⟨.inl rfl, (List.forall_mem_cons.2 ⟨.inr ⟨(.tail _ (.head _)), (by first | assumption | exact Ne.symm (by assumption))⟩, (List.forall_mem_cons.2 ⟨.inr ⟨(.tail _ (.tail _ (.head _))), (by first | assumption | exact Ne.symm (by assumption))⟩, (List.forall_mem_nil _)⟩)⟩)⟩)) ?_
      refine Tw.lm (v := .int .i64 2) rfl rfl ?_
      refine wpL_done (fun W5 hW5 => ?_)
      refine (show Code.wp _ _ _ _ _ from ?_)
      refine wp_ret ?_
      try simp only [inBlock_ret, then_ret]
      refine bodyPost_ret (v := .tuple #[.agg (frcC false 0 0), .int .i64 2]) ?_ rfl ?_
      · exact (res_cell_tmp (p := 4) (q := 5) rfl rfl (hW5.2 _ (.head _)) Tryz.underlying34 rfl (by simp only [frcC_size]; kernel_rfl))
      · exact ⟨(ret_v (by rw [hV, if_neg (fun h => by rw [h2] at h; cases h.2.1)]; rfl)), hW5.1⟩
    | true =>
      refine Tw.lm (v := .pointer (some ⟨g2, 1, none⟩)) rfl rfl ?_
      refine Tw.lv (v := .agg (fa 8 (dg n2))) rfl rfl (yb_fnum (s := s2) (n := n2) (d := d2) rfl (by kernel_rfl) (.tail _ (.head _)) Tryz.underlying23 rfl (by kernel_rfl)) ?_
      refine wpL_c (f := 43) (args := #[.agg (fa 8 (dg n2))]) (AnsG w [(g4, .cells (frcC false 0 0) 34 (0, 0)), (g2, .cells (frcC s2 n2 d2) 34 (0, 0)), (g1, .cells (frcC s1 n1 d1) 34 (0, 0))] (cd n2)) rfl (by kernel_rfl) (fun _ => (by kernel_rfl)) (fun W hW => (rdigits_any n2 hn2 W).mono fun e w2 h => Ans.g h hW) (fun _ => by simp only [List.setIfInBounds_toArray, List.set_cons_succ, List.set_cons_zero] <;> rfl) ?_
      rintro v6 _ ⟨q6, d6, T6, rfl, C6, H6, F6, J6, rfl⟩
      obtain ⟨dj7_0, dj7_1, dj7_2⟩ : Dk g4 T6 ∧ Dk g2 T6 ∧ Dk g1 T6 := by simpa only [dj_app_l, dj_app_r, dj_cons_l, dj_cons_r, dj_nil_l, dj_nil_r, dk_app, dk_cons, dk_nil, and_true, true_and, and_assoc] using (show Dj [(g4, .cells (frcC false 0 0) 34 (0, 0)), (g2, .cells (frcC s2 n2 d2) 34 (0, 0)), (g1, .cells (frcC s1 n1 d1) 34 (0, 0))] T6 from J6)
      refine Tw.lp (v := .int .i64 ((((cd n2).length) : Nat) : Int)) rfl rfl (run_lenL (p := q6) (cap := d6) (n := ((cd n2).length)) rfl Tryz.underlying32 (by kernel_rfl)) ?_
      refine Tw.lp (v := .bool (decide (((cd n2).length) = 0))) rfl rfl (run_bin rfl (vx := (.int .i64 ((((cd n2).length) : Nat) : Int))) (vy := (.int .i64 ((0 : Nat) : Int))) (by kernel_rfl) (by kernel_rfl) fun w => bn_eql rfl w) ?_
      refine Tw.lm (v := .bool (decide (((cd n2).length) = 0))) rfl rfl ?_
      refine wpL_done (fun W6 hW6 => ?_)
      refine (show Code.wp _ _ _ _ _ from ?_)
      cases hd3 : (decide (((cd n2).length) = 0)) with
      | false =>
        have h3 : ¬ (((cd n2).length) = 0) := of_decide_eq_false hd3
        clear hd3
        refine wp_cond_false rfl ?_
        refine wp_skip ?_
        refine (show Code.wp _ _ _ _ _ from ?_)
        refine wp_seq ?_
        refine wp_region_V (W0 := w) ((g4, .cells (frcC false 0 0) 34 (0, 0)) :: (g2, .cells (frcC s2 n2 d2) 34 (0, 0)) :: (g1, .cells (frcC s1 n1 d1) 34 (0, 0)) :: T6) (by kernel_rfl) (hW6) ?_
        refine vm (i := 0) (v := .pointer (some ⟨g1, 0, none⟩)) rfl rfl rfl ?_
        obtain ⟨qs1, hqs1⟩ : ∃ b, b = s1 := ⟨_, rfl⟩
        refine vv (i := 1) (v := .bool qs1) rfl rfl rfl (yb_cell (off := 0) rfl (by kernel_rfl) (.tail _ (.tail _ (.head _))) Tryz.underlying4 rfl (frc_negq hqs1)) ?_
        refine vm (i := 2) (v := .pointer (some ⟨g2, 0, none⟩)) rfl rfl rfl ?_
        obtain ⟨qs2, hqs2⟩ : ∃ b, b = s2 := ⟨_, rfl⟩
        refine vv (i := 3) (v := .bool qs2) rfl rfl rfl (yb_cell (off := 0) rfl (by kernel_rfl) (.tail _ (.head _)) Tryz.underlying4 rfl (frc_negq hqs2)) ?_
        cases h4 : qs1 with
        | false =>
          cases h5 : qs2 with
          | false =>
            refine vm (i := 4) (v := .bool false) rfl rfl rfl ?_
            refine vm (i := 5) (v := .pointer (some ⟨g1, 1, none⟩)) rfl rfl rfl ?_
            refine vv (i := 6) (v := .agg (fa 8 (dg n1))) rfl rfl rfl (yb_fnum (s := s1) (n := n1) (d := d1) rfl (by kernel_rfl) (.tail _ (.tail _ (.head _))) Tryz.underlying23 rfl (by kernel_rfl)) ?_
            refine vm (i := 8) (v := .pointer (some ⟨g2, 9, none⟩)) rfl rfl rfl ?_
            refine vv (i := 9) (v := .agg (fa 8 (dg d2))) rfl rfl rfl (yb_fden (s := s2) (n := n2) (d := d2) rfl (by kernel_rfl) (.tail _ (.head _)) Tryz.underlying23 rfl (by kernel_rfl)) ?_
            refine vm (i := 12) (v := .pointer (some ⟨g1, 9, none⟩)) rfl rfl rfl ?_
            refine vv (i := 13) (v := .agg (fa 8 (dg d1))) rfl rfl rfl (yb_fden (s := s1) (n := n1) (d := d1) rfl (by kernel_rfl) (.tail _ (.tail _ (.head _))) Tryz.underlying23 rfl (by kernel_rfl)) ?_
            refine vm (i := 15) (v := .pointer (some ⟨g2, 1, none⟩)) rfl rfl rfl ?_
            refine vv (i := 16) (v := .agg (fa 8 (dg n2))) rfl rfl rfl (yb_fnum (s := s2) (n := n2) (d := d2) rfl (by kernel_rfl) (.tail _ (.head _)) Tryz.underlying23 rfl (by kernel_rfl)) ?_
            refine wpV_c (i := 7) (AnsG w ((g4, .cells (frcC false 0 0) 34 (0, 0)) :: (g2, .cells (frcC s2 n2 d2) 34 (0, 0)) :: (g1, .cells (frcC s1 n1 d1) 34 (0, 0)) :: T6) (cd n1)) rfl rfl (by kernel_rfl) (by kernel_rfl) (fun _ => (by kernel_rfl)) (fun W hW => (rdigits_any n1 hn1 W).mono fun e w2 h => Ans.g h hW) (fun _ _ h => ansG_sub h) (fun _ => by simp only [List.setIfInBounds_toArray, List.set_cons_succ, List.set_cons_zero] <;> rfl) ?_
            rintro v8 _ ⟨q8, d8, T8, rfl, C8, H8, F8, J8, rfl⟩
            obtain ⟨dj9_0, dj9_1, dj9_2, dj9_3⟩ : Dk g4 T8 ∧ Dk g2 T8 ∧ Dk g1 T8 ∧ Dj T6 T8 := by simpa only [dj_app_l, dj_app_r, dj_cons_l, dj_cons_r, dj_nil_l, dj_nil_r, dk_app, dk_cons, dk_nil, and_true, true_and, and_assoc] using (show Dj ((g4, .cells (frcC false 0 0) 34 (0, 0)) :: (g2, .cells (frcC s2 n2 d2) 34 (0, 0)) :: (g1, .cells (frcC s1 n1 d1) 34 (0, 0)) :: T6) T8 from J8)
            refine wpV_c (i := 10) (AnsG w ((g4, .cells (frcC false 0 0) 34 (0, 0)) :: (g2, .cells (frcC s2 n2 d2) 34 (0, 0)) :: (g1, .cells (frcC s1 n1 d1) 34 (0, 0)) :: (T6 ++ T8)) (cd d2)) rfl rfl (by kernel_rfl) (by kernel_rfl) (fun _ => (by kernel_rfl)) (fun W hW => (rdigits_any d2 hd2 W).mono fun e w2 h => Ans.g h hW) (fun _ _ h => ansG_sub h) (fun _ => by simp only [List.setIfInBounds_toArray, List.set_cons_succ, List.set_cons_zero] <;> rfl) ?_
            rintro v10 _ ⟨q10, d10, T10, rfl, C10, H10, F10, J10, rfl⟩
            obtain ⟨dj11_0, dj11_1, dj11_2, dj11_3, dj11_4⟩ : Dk g4 T10 ∧ Dk g2 T10 ∧ Dk g1 T10 ∧ Dj T6 T10 ∧ Dj T8 T10 := by simpa only [dj_app_l, dj_app_r, dj_cons_l, dj_cons_r, dj_nil_l, dj_nil_r, dk_app, dk_cons, dk_nil, and_true, true_and, and_assoc] using (show Dj ((g4, .cells (frcC false 0 0) 34 (0, 0)) :: (g2, .cells (frcC s2 n2 d2) 34 (0, 0)) :: (g1, .cells (frcC s1 n1 d1) 34 (0, 0)) :: (T6 ++ T8)) T10 from J10)
            have ln12 : (cd n1).length ≤ 16 := cd_16 hn1
            have ln13 : (cd d2).length ≤ 16 := cd_16 hd2
            refine wpV_c (i := 11) (AnsG w ((g4, .cells (frcC false 0 0) 34 (0, 0)) :: (g2, .cells (frcC s2 n2 d2) 34 (0, 0)) :: (g1, .cells (frcC s1 n1 d1) 34 (0, 0)) :: ((T6 ++ T8) ++ T10)) (cd (n1 * d2))) rfl rfl (by kernel_rfl) (by kernel_rfl) (fun _ => (by kernel_rfl)) (fun W hW => (rmul_any n1 d2 q8 q10 d8 d10 (by omega) (by omega) W ((H8.mono (fun q hq => by first | exact hq | (simp only [List.mem_cons, List.mem_append, List.nil_append, List.not_mem_nil, or_assoc, or_false, false_or] at hq ⊢ <;> grind))) W hW) ((H10.mono (fun q hq => by first | exact hq | (simp only [List.mem_cons, List.mem_append, List.nil_append, List.not_mem_nil, or_assoc, or_false, false_or] at hq ⊢ <;> grind))) W hW)).mono fun e w2 h => Ans.g h hW) (fun _ _ h => ansG_sub h) (fun _ => by simp only [List.setIfInBounds_toArray, List.set_cons_succ, List.set_cons_zero] <;> rfl) ?_
            rintro v14 _ ⟨q14, d14, T14, rfl, C14, H14, F14, J14, rfl⟩
            obtain ⟨dj15_0, dj15_1, dj15_2, dj15_3, dj15_4, dj15_5⟩ : Dk g4 T14 ∧ Dk g2 T14 ∧ Dk g1 T14 ∧ Dj T6 T14 ∧ Dj T8 T14 ∧ Dj T10 T14 := by simpa only [dj_app_l, dj_app_r, dj_cons_l, dj_cons_r, dj_nil_l, dj_nil_r, dk_app, dk_cons, dk_nil, and_true, true_and, and_assoc] using (show Dj ((g4, .cells (frcC false 0 0) 34 (0, 0)) :: (g2, .cells (frcC s2 n2 d2) 34 (0, 0)) :: (g1, .cells (frcC s1 n1 d1) 34 (0, 0)) :: ((T6 ++ T8) ++ T10)) T14 from J14)
            have ln16 : (cd (n1 * d2)).length ≤ 32 := Nat.le_trans (cd_mul_len n1 d2) (by have := cd_16 hn1; have := cd_16 hd2; omega)
            refine wpV_c (i := 14) (AnsG w ((g4, .cells (frcC false 0 0) 34 (0, 0)) :: (g2, .cells (frcC s2 n2 d2) 34 (0, 0)) :: (g1, .cells (frcC s1 n1 d1) 34 (0, 0)) :: (((T6 ++ T8) ++ T10) ++ T14)) (cd d1)) rfl rfl (by kernel_rfl) (by kernel_rfl) (fun _ => (by kernel_rfl)) (fun W hW => (rdigits_any d1 hd1 W).mono fun e w2 h => Ans.g h hW) (fun _ _ h => ansG_sub h) (fun _ => by simp only [List.setIfInBounds_toArray, List.set_cons_succ, List.set_cons_zero] <;> rfl) ?_
            rintro v17 _ ⟨q17, d17, T17, rfl, C17, H17, F17, J17, rfl⟩
            obtain ⟨dj18_0, dj18_1, dj18_2, dj18_3, dj18_4, dj18_5, dj18_6⟩ : Dk g4 T17 ∧ Dk g2 T17 ∧ Dk g1 T17 ∧ Dj T6 T17 ∧ Dj T8 T17 ∧ Dj T10 T17 ∧ Dj T14 T17 := by simpa only [dj_app_l, dj_app_r, dj_cons_l, dj_cons_r, dj_nil_l, dj_nil_r, dk_app, dk_cons, dk_nil, and_true, true_and, and_assoc] using (show Dj ((g4, .cells (frcC false 0 0) 34 (0, 0)) :: (g2, .cells (frcC s2 n2 d2) 34 (0, 0)) :: (g1, .cells (frcC s1 n1 d1) 34 (0, 0)) :: (((T6 ++ T8) ++ T10) ++ T14)) T17 from J17)
            refine wpV_c (i := 17) (AnsG w ((g4, .cells (frcC false 0 0) 34 (0, 0)) :: (g2, .cells (frcC s2 n2 d2) 34 (0, 0)) :: (g1, .cells (frcC s1 n1 d1) 34 (0, 0)) :: ((((T6 ++ T8) ++ T10) ++ T14) ++ T17)) (cd n2)) rfl rfl (by kernel_rfl) (by kernel_rfl) (fun _ => (by kernel_rfl)) (fun W hW => (rdigits_any n2 hn2 W).mono fun e w2 h => Ans.g h hW) (fun _ _ h => ansG_sub h) (fun _ => by simp only [List.setIfInBounds_toArray, List.set_cons_succ, List.set_cons_zero] <;> rfl) ?_
            rintro v19 _ ⟨q19, d19, T19, rfl, C19, H19, F19, J19, rfl⟩
            obtain ⟨dj20_0, dj20_1, dj20_2, dj20_3, dj20_4, dj20_5, dj20_6, dj20_7⟩ : Dk g4 T19 ∧ Dk g2 T19 ∧ Dk g1 T19 ∧ Dj T6 T19 ∧ Dj T8 T19 ∧ Dj T10 T19 ∧ Dj T14 T19 ∧ Dj T17 T19 := by simpa only [dj_app_l, dj_app_r, dj_cons_l, dj_cons_r, dj_nil_l, dj_nil_r, dk_app, dk_cons, dk_nil, and_true, true_and, and_assoc] using (show Dj ((g4, .cells (frcC false 0 0) 34 (0, 0)) :: (g2, .cells (frcC s2 n2 d2) 34 (0, 0)) :: (g1, .cells (frcC s1 n1 d1) 34 (0, 0)) :: ((((T6 ++ T8) ++ T10) ++ T14) ++ T17)) T19 from J19)
            have ln21 : (cd d1).length ≤ 16 := cd_16 hd1
            have ln22 : (cd n2).length ≤ 16 := cd_16 hn2
            refine wpV_c (i := 18) (AnsG w ((g4, .cells (frcC false 0 0) 34 (0, 0)) :: (g2, .cells (frcC s2 n2 d2) 34 (0, 0)) :: (g1, .cells (frcC s1 n1 d1) 34 (0, 0)) :: (((((T6 ++ T8) ++ T10) ++ T14) ++ T17) ++ T19)) (cd (d1 * n2))) rfl rfl (by kernel_rfl) (by kernel_rfl) (fun _ => (by kernel_rfl)) (fun W hW => (rmul_any d1 n2 q17 q19 d17 d19 (by omega) (by omega) W ((H17.mono (fun q hq => by first | exact hq | (simp only [List.mem_cons, List.mem_append, List.nil_append, List.not_mem_nil, or_assoc, or_false, false_or] at hq ⊢ <;> grind))) W hW) ((H19.mono (fun q hq => by first | exact hq | (simp only [List.mem_cons, List.mem_append, List.nil_append, List.not_mem_nil, or_assoc, or_false, false_or] at hq ⊢ <;> grind))) W hW)).mono fun e w2 h => Ans.g h hW) (fun _ _ h => ansG_sub h) (fun _ => by simp only [List.setIfInBounds_toArray, List.set_cons_succ, List.set_cons_zero] <;> rfl) ?_
            rintro v23 _ ⟨q23, d23, T23, rfl, C23, H23, F23, J23, rfl⟩
            obtain ⟨dj24_0, dj24_1, dj24_2, dj24_3, dj24_4, dj24_5, dj24_6, dj24_7, dj24_8⟩ : Dk g4 T23 ∧ Dk g2 T23 ∧ Dk g1 T23 ∧ Dj T6 T23 ∧ Dj T8 T23 ∧ Dj T10 T23 ∧ Dj T14 T23 ∧ Dj T17 T23 ∧ Dj T19 T23 := by simpa only [dj_app_l, dj_app_r, dj_cons_l, dj_cons_r, dj_nil_l, dj_nil_r, dk_app, dk_cons, dk_nil, and_true, true_and, and_assoc] using (show Dj ((g4, .cells (frcC false 0 0) 34 (0, 0)) :: (g2, .cells (frcC s2 n2 d2) 34 (0, 0)) :: (g1, .cells (frcC s1 n1 d1) 34 (0, 0)) :: (((((T6 ++ T8) ++ T10) ++ T14) ++ T17) ++ T19)) T23 from J23)
            have ln25 : (cd (d1 * n2)).length ≤ 32 := Nat.le_trans (cd_mul_len d1 n2) (by have := cd_16 hd1; have := cd_16 hn2; omega)
            obtain ⟨sv26, nv26, dv26, ev26, hpv26⟩ := packV_shape false ((n1 * d2) / Nat.gcd (n1 * d2) (d1 * n2)) ((d1 * n2) / Nat.gcd (n1 * d2) (d1 * n2))
            refine vv (i := 19) (v := .tuple #[.agg (frcC sv26 nv26 dv26), .int .i64 ev26]) rfl rfl rfl (yb_call (f := 45) (args := #[.bool false, .slice q14 ((cd (n1 * d2)).length) d14, .slice q23 ((cd (d1 * n2)).length) d23]) (fun _ => by kernel_rfl) fun W hW => hpv26 ▸ make0_any false (n1 * d2) (d1 * n2) q14 q23 d14 d23 (Nat.mul_pos (right_den h1) (Nat.pos_of_ne_zero (fun h => h3 (cd_len0.2 h)))) (by omega) (by omega) C14 C23 W ((H14.mono (fun q hq => by first | exact hq | (simp only [List.mem_cons, List.mem_append, List.nil_append, List.not_mem_nil, or_assoc, or_false, false_or] at hq ⊢ <;> grind))) W hW) ((H23.mono (fun q hq => by first | exact hq | (simp only [List.mem_cons, List.mem_append, List.nil_append, List.not_mem_nil, or_assoc, or_false, false_or] at hq ⊢ <;> grind))) W hW)) ?_
            refine vm (i := 20) (v := .agg (frcC sv26 nv26 dv26)) rfl rfl rfl ?_
            refine vm (i := 21) (v := .int .i64 ev26) rfl rfl rfl ?_
            refine wpV_s ((g4, .cells (frcC sv26 nv26 dv26) 34 (0, 0)) :: (g2, .cells (frcC s2 n2 d2) 34 (0, 0)) :: (g1, .cells (frcC s1 n1 d1) 34 (0, 0)) :: ((((((T6 ++ T8) ++ T10) ++ T14) ++ T17) ++ T19) ++ T23)) (i := 22) rfl (by kernel_rfl) rfl rfl rfl (st_all (by simp only [frcC_size]) (by exact frc_onec) rfl (by kernel_rfl) (by kernel_rfl) (.head _) Bg4 (by simp only [frcC_size]; kernel_rfl) (List.forall_mem_cons.2 ⟨.inl rfl, (List.forall_mem_cons.2 ⟨.inr ⟨(.tail _ (.head _)), (by first | assumption | exact Ne.symm (by assumption))⟩, (List.forall_mem_cons.2 ⟨.inr ⟨(.tail _ (.tail _ (.head _))), (by first | assumption | exact Ne.symm (by assumption))⟩, (fun p hp => .inr ⟨(.tail _ (.tail _ (.tail _ hp))), ((show Dk g4 ((((((T6 ++ T8) ++ T10) ++ T14) ++ T17) ++ T19) ++ T23) from (by (try simp only [dj_app_l, dj_app_r, dj_cons_l, dj_cons_r, dj_nil_l, dj_nil_r, dk_app, dk_cons, dk_nil, and_true, true_and, and_assoc]); repeat' (first | trivial | assumption | exact Dj.symm (by assumption) | exact Ne.symm (by assumption) | apply And.intro))) _ hp)⟩)⟩)⟩)⟩)) ?_
            refine vm (i := 23) (v := .int .i64 ev26) rfl rfl rfl ?_
            refine wpV_done (by kernel_rfl) (fun W7 hW7 => ?_) _
            refine (show Code.wp _ _ _ _ _ from ?_)
            refine wp_ret ?_
            try simp only [inBlock_ret, then_ret]
            refine bodyPost_ret (v := .tuple #[.agg (frcC sv26 nv26 dv26), .int .i64 ev26]) ?_ rfl ?_
            · exact (res_cell_tmp (p := 4) (q := 5) rfl rfl (hW7.2 _ (.head _)) Tryz.underlying34 rfl (by simp only [frcC_size]; kernel_rfl))
            · exact ⟨(ret_v (hpv26.symm.trans (by have e1 : s1 = false := hqs1.symm.trans h4; have e2 : s2 = false := hqs2.symm.trans h5; subst e1 e2; rw [hV, if_pos ⟨h1, h2, (fun h => h3 (cd_len0.2 h))⟩, ← div_norm h1 h2 (fun h => h3 (cd_len0.2 h))]; rfl))), hW7.1⟩
          | true =>
            refine vm (i := 4) (v := .bool true) rfl rfl rfl ?_
            refine vm (i := 5) (v := .pointer (some ⟨g1, 1, none⟩)) rfl rfl rfl ?_
            refine vv (i := 6) (v := .agg (fa 8 (dg n1))) rfl rfl rfl (yb_fnum (s := s1) (n := n1) (d := d1) rfl (by kernel_rfl) (.tail _ (.tail _ (.head _))) Tryz.underlying23 rfl (by kernel_rfl)) ?_
            refine vm (i := 8) (v := .pointer (some ⟨g2, 9, none⟩)) rfl rfl rfl ?_
            refine vv (i := 9) (v := .agg (fa 8 (dg d2))) rfl rfl rfl (yb_fden (s := s2) (n := n2) (d := d2) rfl (by kernel_rfl) (.tail _ (.head _)) Tryz.underlying23 rfl (by kernel_rfl)) ?_
            refine vm (i := 12) (v := .pointer (some ⟨g1, 9, none⟩)) rfl rfl rfl ?_
            refine vv (i := 13) (v := .agg (fa 8 (dg d1))) rfl rfl rfl (yb_fden (s := s1) (n := n1) (d := d1) rfl (by kernel_rfl) (.tail _ (.tail _ (.head _))) Tryz.underlying23 rfl (by kernel_rfl)) ?_
            refine vm (i := 15) (v := .pointer (some ⟨g2, 1, none⟩)) rfl rfl rfl ?_
            refine vv (i := 16) (v := .agg (fa 8 (dg n2))) rfl rfl rfl (yb_fnum (s := s2) (n := n2) (d := d2) rfl (by kernel_rfl) (.tail _ (.head _)) Tryz.underlying23 rfl (by kernel_rfl)) ?_
            refine wpV_c (i := 7) (AnsG w ((g4, .cells (frcC false 0 0) 34 (0, 0)) :: (g2, .cells (frcC s2 n2 d2) 34 (0, 0)) :: (g1, .cells (frcC s1 n1 d1) 34 (0, 0)) :: T6) (cd n1)) rfl rfl (by kernel_rfl) (by kernel_rfl) (fun _ => (by kernel_rfl)) (fun W hW => (rdigits_any n1 hn1 W).mono fun e w2 h => Ans.g h hW) (fun _ _ h => ansG_sub h) (fun _ => by simp only [List.setIfInBounds_toArray, List.set_cons_succ, List.set_cons_zero] <;> rfl) ?_
            rintro v27 _ ⟨q27, d27, T27, rfl, C27, H27, F27, J27, rfl⟩
            obtain ⟨dj28_0, dj28_1, dj28_2, dj28_3⟩ : Dk g4 T27 ∧ Dk g2 T27 ∧ Dk g1 T27 ∧ Dj T6 T27 := by simpa only [dj_app_l, dj_app_r, dj_cons_l, dj_cons_r, dj_nil_l, dj_nil_r, dk_app, dk_cons, dk_nil, and_true, true_and, and_assoc] using (show Dj ((g4, .cells (frcC false 0 0) 34 (0, 0)) :: (g2, .cells (frcC s2 n2 d2) 34 (0, 0)) :: (g1, .cells (frcC s1 n1 d1) 34 (0, 0)) :: T6) T27 from J27)
            refine wpV_c (i := 10) (AnsG w ((g4, .cells (frcC false 0 0) 34 (0, 0)) :: (g2, .cells (frcC s2 n2 d2) 34 (0, 0)) :: (g1, .cells (frcC s1 n1 d1) 34 (0, 0)) :: (T6 ++ T27)) (cd d2)) rfl rfl (by kernel_rfl) (by kernel_rfl) (fun _ => (by kernel_rfl)) (fun W hW => (rdigits_any d2 hd2 W).mono fun e w2 h => Ans.g h hW) (fun _ _ h => ansG_sub h) (fun _ => by simp only [List.setIfInBounds_toArray, List.set_cons_succ, List.set_cons_zero] <;> rfl) ?_
            rintro v29 _ ⟨q29, d29, T29, rfl, C29, H29, F29, J29, rfl⟩
            obtain ⟨dj30_0, dj30_1, dj30_2, dj30_3, dj30_4⟩ : Dk g4 T29 ∧ Dk g2 T29 ∧ Dk g1 T29 ∧ Dj T6 T29 ∧ Dj T27 T29 := by simpa only [dj_app_l, dj_app_r, dj_cons_l, dj_cons_r, dj_nil_l, dj_nil_r, dk_app, dk_cons, dk_nil, and_true, true_and, and_assoc] using (show Dj ((g4, .cells (frcC false 0 0) 34 (0, 0)) :: (g2, .cells (frcC s2 n2 d2) 34 (0, 0)) :: (g1, .cells (frcC s1 n1 d1) 34 (0, 0)) :: (T6 ++ T27)) T29 from J29)
            have ln31 : (cd n1).length ≤ 16 := cd_16 hn1
            have ln32 : (cd d2).length ≤ 16 := cd_16 hd2
            refine wpV_c (i := 11) (AnsG w ((g4, .cells (frcC false 0 0) 34 (0, 0)) :: (g2, .cells (frcC s2 n2 d2) 34 (0, 0)) :: (g1, .cells (frcC s1 n1 d1) 34 (0, 0)) :: ((T6 ++ T27) ++ T29)) (cd (n1 * d2))) rfl rfl (by kernel_rfl) (by kernel_rfl) (fun _ => (by kernel_rfl)) (fun W hW => (rmul_any n1 d2 q27 q29 d27 d29 (by omega) (by omega) W ((H27.mono (fun q hq => by first | exact hq | (simp only [List.mem_cons, List.mem_append, List.nil_append, List.not_mem_nil, or_assoc, or_false, false_or] at hq ⊢ <;> grind))) W hW) ((H29.mono (fun q hq => by first | exact hq | (simp only [List.mem_cons, List.mem_append, List.nil_append, List.not_mem_nil, or_assoc, or_false, false_or] at hq ⊢ <;> grind))) W hW)).mono fun e w2 h => Ans.g h hW) (fun _ _ h => ansG_sub h) (fun _ => by simp only [List.setIfInBounds_toArray, List.set_cons_succ, List.set_cons_zero] <;> rfl) ?_
            rintro v33 _ ⟨q33, d33, T33, rfl, C33, H33, F33, J33, rfl⟩
            obtain ⟨dj34_0, dj34_1, dj34_2, dj34_3, dj34_4, dj34_5⟩ : Dk g4 T33 ∧ Dk g2 T33 ∧ Dk g1 T33 ∧ Dj T6 T33 ∧ Dj T27 T33 ∧ Dj T29 T33 := by simpa only [dj_app_l, dj_app_r, dj_cons_l, dj_cons_r, dj_nil_l, dj_nil_r, dk_app, dk_cons, dk_nil, and_true, true_and, and_assoc] using (show Dj ((g4, .cells (frcC false 0 0) 34 (0, 0)) :: (g2, .cells (frcC s2 n2 d2) 34 (0, 0)) :: (g1, .cells (frcC s1 n1 d1) 34 (0, 0)) :: ((T6 ++ T27) ++ T29)) T33 from J33)
            have ln35 : (cd (n1 * d2)).length ≤ 32 := Nat.le_trans (cd_mul_len n1 d2) (by have := cd_16 hn1; have := cd_16 hd2; omega)
            refine wpV_c (i := 14) (AnsG w ((g4, .cells (frcC false 0 0) 34 (0, 0)) :: (g2, .cells (frcC s2 n2 d2) 34 (0, 0)) :: (g1, .cells (frcC s1 n1 d1) 34 (0, 0)) :: (((T6 ++ T27) ++ T29) ++ T33)) (cd d1)) rfl rfl (by kernel_rfl) (by kernel_rfl) (fun _ => (by kernel_rfl)) (fun W hW => (rdigits_any d1 hd1 W).mono fun e w2 h => Ans.g h hW) (fun _ _ h => ansG_sub h) (fun _ => by simp only [List.setIfInBounds_toArray, List.set_cons_succ, List.set_cons_zero] <;> rfl) ?_
            rintro v36 _ ⟨q36, d36, T36, rfl, C36, H36, F36, J36, rfl⟩
            obtain ⟨dj37_0, dj37_1, dj37_2, dj37_3, dj37_4, dj37_5, dj37_6⟩ : Dk g4 T36 ∧ Dk g2 T36 ∧ Dk g1 T36 ∧ Dj T6 T36 ∧ Dj T27 T36 ∧ Dj T29 T36 ∧ Dj T33 T36 := by simpa only [dj_app_l, dj_app_r, dj_cons_l, dj_cons_r, dj_nil_l, dj_nil_r, dk_app, dk_cons, dk_nil, and_true, true_and, and_assoc] using (show Dj ((g4, .cells (frcC false 0 0) 34 (0, 0)) :: (g2, .cells (frcC s2 n2 d2) 34 (0, 0)) :: (g1, .cells (frcC s1 n1 d1) 34 (0, 0)) :: (((T6 ++ T27) ++ T29) ++ T33)) T36 from J36)
            refine wpV_c (i := 17) (AnsG w ((g4, .cells (frcC false 0 0) 34 (0, 0)) :: (g2, .cells (frcC s2 n2 d2) 34 (0, 0)) :: (g1, .cells (frcC s1 n1 d1) 34 (0, 0)) :: ((((T6 ++ T27) ++ T29) ++ T33) ++ T36)) (cd n2)) rfl rfl (by kernel_rfl) (by kernel_rfl) (fun _ => (by kernel_rfl)) (fun W hW => (rdigits_any n2 hn2 W).mono fun e w2 h => Ans.g h hW) (fun _ _ h => ansG_sub h) (fun _ => by simp only [List.setIfInBounds_toArray, List.set_cons_succ, List.set_cons_zero] <;> rfl) ?_
            rintro v38 _ ⟨q38, d38, T38, rfl, C38, H38, F38, J38, rfl⟩
            obtain ⟨dj39_0, dj39_1, dj39_2, dj39_3, dj39_4, dj39_5, dj39_6, dj39_7⟩ : Dk g4 T38 ∧ Dk g2 T38 ∧ Dk g1 T38 ∧ Dj T6 T38 ∧ Dj T27 T38 ∧ Dj T29 T38 ∧ Dj T33 T38 ∧ Dj T36 T38 := by simpa only [dj_app_l, dj_app_r, dj_cons_l, dj_cons_r, dj_nil_l, dj_nil_r, dk_app, dk_cons, dk_nil, and_true, true_and, and_assoc] using (show Dj ((g4, .cells (frcC false 0 0) 34 (0, 0)) :: (g2, .cells (frcC s2 n2 d2) 34 (0, 0)) :: (g1, .cells (frcC s1 n1 d1) 34 (0, 0)) :: ((((T6 ++ T27) ++ T29) ++ T33) ++ T36)) T38 from J38)
            have ln40 : (cd d1).length ≤ 16 := cd_16 hd1
            have ln41 : (cd n2).length ≤ 16 := cd_16 hn2
            refine wpV_c (i := 18) (AnsG w ((g4, .cells (frcC false 0 0) 34 (0, 0)) :: (g2, .cells (frcC s2 n2 d2) 34 (0, 0)) :: (g1, .cells (frcC s1 n1 d1) 34 (0, 0)) :: (((((T6 ++ T27) ++ T29) ++ T33) ++ T36) ++ T38)) (cd (d1 * n2))) rfl rfl (by kernel_rfl) (by kernel_rfl) (fun _ => (by kernel_rfl)) (fun W hW => (rmul_any d1 n2 q36 q38 d36 d38 (by omega) (by omega) W ((H36.mono (fun q hq => by first | exact hq | (simp only [List.mem_cons, List.mem_append, List.nil_append, List.not_mem_nil, or_assoc, or_false, false_or] at hq ⊢ <;> grind))) W hW) ((H38.mono (fun q hq => by first | exact hq | (simp only [List.mem_cons, List.mem_append, List.nil_append, List.not_mem_nil, or_assoc, or_false, false_or] at hq ⊢ <;> grind))) W hW)).mono fun e w2 h => Ans.g h hW) (fun _ _ h => ansG_sub h) (fun _ => by simp only [List.setIfInBounds_toArray, List.set_cons_succ, List.set_cons_zero] <;> rfl) ?_
            rintro v42 _ ⟨q42, d42, T42, rfl, C42, H42, F42, J42, rfl⟩
            obtain ⟨dj43_0, dj43_1, dj43_2, dj43_3, dj43_4, dj43_5, dj43_6, dj43_7, dj43_8⟩ : Dk g4 T42 ∧ Dk g2 T42 ∧ Dk g1 T42 ∧ Dj T6 T42 ∧ Dj T27 T42 ∧ Dj T29 T42 ∧ Dj T33 T42 ∧ Dj T36 T42 ∧ Dj T38 T42 := by simpa only [dj_app_l, dj_app_r, dj_cons_l, dj_cons_r, dj_nil_l, dj_nil_r, dk_app, dk_cons, dk_nil, and_true, true_and, and_assoc] using (show Dj ((g4, .cells (frcC false 0 0) 34 (0, 0)) :: (g2, .cells (frcC s2 n2 d2) 34 (0, 0)) :: (g1, .cells (frcC s1 n1 d1) 34 (0, 0)) :: (((((T6 ++ T27) ++ T29) ++ T33) ++ T36) ++ T38)) T42 from J42)
            have ln44 : (cd (d1 * n2)).length ≤ 32 := Nat.le_trans (cd_mul_len d1 n2) (by have := cd_16 hd1; have := cd_16 hn2; omega)
            obtain ⟨sv45, nv45, dv45, ev45, hpv45⟩ := packV_shape true ((n1 * d2) / Nat.gcd (n1 * d2) (d1 * n2)) ((d1 * n2) / Nat.gcd (n1 * d2) (d1 * n2))
            refine vv (i := 19) (v := .tuple #[.agg (frcC sv45 nv45 dv45), .int .i64 ev45]) rfl rfl rfl (yb_call (f := 45) (args := #[.bool true, .slice q33 ((cd (n1 * d2)).length) d33, .slice q42 ((cd (d1 * n2)).length) d42]) (fun _ => by kernel_rfl) fun W hW => hpv45 ▸ make0_any true (n1 * d2) (d1 * n2) q33 q42 d33 d42 (Nat.mul_pos (right_den h1) (Nat.pos_of_ne_zero (fun h => h3 (cd_len0.2 h)))) (by omega) (by omega) C33 C42 W ((H33.mono (fun q hq => by first | exact hq | (simp only [List.mem_cons, List.mem_append, List.nil_append, List.not_mem_nil, or_assoc, or_false, false_or] at hq ⊢ <;> grind))) W hW) ((H42.mono (fun q hq => by first | exact hq | (simp only [List.mem_cons, List.mem_append, List.nil_append, List.not_mem_nil, or_assoc, or_false, false_or] at hq ⊢ <;> grind))) W hW)) ?_
            refine vm (i := 20) (v := .agg (frcC sv45 nv45 dv45)) rfl rfl rfl ?_
            refine vm (i := 21) (v := .int .i64 ev45) rfl rfl rfl ?_
            refine wpV_s ((g4, .cells (frcC sv45 nv45 dv45) 34 (0, 0)) :: (g2, .cells (frcC s2 n2 d2) 34 (0, 0)) :: (g1, .cells (frcC s1 n1 d1) 34 (0, 0)) :: ((((((T6 ++ T27) ++ T29) ++ T33) ++ T36) ++ T38) ++ T42)) (i := 22) rfl (by kernel_rfl) rfl rfl rfl (st_all (by simp only [frcC_size]) (by exact frc_onec) rfl (by kernel_rfl) (by kernel_rfl) (.head _) Bg4 (by simp only [frcC_size]; kernel_rfl) (List.forall_mem_cons.2 ⟨.inl rfl, (List.forall_mem_cons.2 ⟨.inr ⟨(.tail _ (.head _)), (by first | assumption | exact Ne.symm (by assumption))⟩, (List.forall_mem_cons.2 ⟨.inr ⟨(.tail _ (.tail _ (.head _))), (by first | assumption | exact Ne.symm (by assumption))⟩, (fun p hp => .inr ⟨(.tail _ (.tail _ (.tail _ hp))), ((show Dk g4 ((((((T6 ++ T27) ++ T29) ++ T33) ++ T36) ++ T38) ++ T42) from (by (try simp only [dj_app_l, dj_app_r, dj_cons_l, dj_cons_r, dj_nil_l, dj_nil_r, dk_app, dk_cons, dk_nil, and_true, true_and, and_assoc]); repeat' (first | trivial | assumption | exact Dj.symm (by assumption) | exact Ne.symm (by assumption) | apply And.intro))) _ hp)⟩)⟩)⟩)⟩)) ?_
            refine vm (i := 23) (v := .int .i64 ev45) rfl rfl rfl ?_
            refine wpV_done (by kernel_rfl) (fun W8 hW8 => ?_) _
            refine (show Code.wp _ _ _ _ _ from ?_)
            refine wp_ret ?_
            try simp only [inBlock_ret, then_ret]
            refine bodyPost_ret (v := .tuple #[.agg (frcC sv45 nv45 dv45), .int .i64 ev45]) ?_ rfl ?_
            · exact (res_cell_tmp (p := 4) (q := 5) rfl rfl (hW8.2 _ (.head _)) Tryz.underlying34 rfl (by simp only [frcC_size]; kernel_rfl))
            · exact ⟨(ret_v (hpv45.symm.trans (by have e1 : s1 = false := hqs1.symm.trans h4; have e2 : s2 = true := hqs2.symm.trans h5; subst e1 e2; rw [hV, if_pos ⟨h1, h2, (fun h => h3 (cd_len0.2 h))⟩, ← div_norm h1 h2 (fun h => h3 (cd_len0.2 h))]; rfl))), hW8.1⟩
        | true =>
          cases h6 : qs2 with
          | false =>
            refine vm (i := 4) (v := .bool true) rfl rfl rfl ?_
            refine vm (i := 5) (v := .pointer (some ⟨g1, 1, none⟩)) rfl rfl rfl ?_
            refine vv (i := 6) (v := .agg (fa 8 (dg n1))) rfl rfl rfl (yb_fnum (s := s1) (n := n1) (d := d1) rfl (by kernel_rfl) (.tail _ (.tail _ (.head _))) Tryz.underlying23 rfl (by kernel_rfl)) ?_
            refine vm (i := 8) (v := .pointer (some ⟨g2, 9, none⟩)) rfl rfl rfl ?_
            refine vv (i := 9) (v := .agg (fa 8 (dg d2))) rfl rfl rfl (yb_fden (s := s2) (n := n2) (d := d2) rfl (by kernel_rfl) (.tail _ (.head _)) Tryz.underlying23 rfl (by kernel_rfl)) ?_
            refine vm (i := 12) (v := .pointer (some ⟨g1, 9, none⟩)) rfl rfl rfl ?_
            refine vv (i := 13) (v := .agg (fa 8 (dg d1))) rfl rfl rfl (yb_fden (s := s1) (n := n1) (d := d1) rfl (by kernel_rfl) (.tail _ (.tail _ (.head _))) Tryz.underlying23 rfl (by kernel_rfl)) ?_
            refine vm (i := 15) (v := .pointer (some ⟨g2, 1, none⟩)) rfl rfl rfl ?_
            refine vv (i := 16) (v := .agg (fa 8 (dg n2))) rfl rfl rfl (yb_fnum (s := s2) (n := n2) (d := d2) rfl (by kernel_rfl) (.tail _ (.head _)) Tryz.underlying23 rfl (by kernel_rfl)) ?_
            refine wpV_c (i := 7) (AnsG w ((g4, .cells (frcC false 0 0) 34 (0, 0)) :: (g2, .cells (frcC s2 n2 d2) 34 (0, 0)) :: (g1, .cells (frcC s1 n1 d1) 34 (0, 0)) :: T6) (cd n1)) rfl rfl (by kernel_rfl) (by kernel_rfl) (fun _ => (by kernel_rfl)) (fun W hW => (rdigits_any n1 hn1 W).mono fun e w2 h => Ans.g h hW) (fun _ _ h => ansG_sub h) (fun _ => by simp only [List.setIfInBounds_toArray, List.set_cons_succ, List.set_cons_zero] <;> rfl) ?_
            rintro v46 _ ⟨q46, d46, T46, rfl, C46, H46, F46, J46, rfl⟩
            obtain ⟨dj47_0, dj47_1, dj47_2, dj47_3⟩ : Dk g4 T46 ∧ Dk g2 T46 ∧ Dk g1 T46 ∧ Dj T6 T46 := by simpa only [dj_app_l, dj_app_r, dj_cons_l, dj_cons_r, dj_nil_l, dj_nil_r, dk_app, dk_cons, dk_nil, and_true, true_and, and_assoc] using (show Dj ((g4, .cells (frcC false 0 0) 34 (0, 0)) :: (g2, .cells (frcC s2 n2 d2) 34 (0, 0)) :: (g1, .cells (frcC s1 n1 d1) 34 (0, 0)) :: T6) T46 from J46)
            refine wpV_c (i := 10) (AnsG w ((g4, .cells (frcC false 0 0) 34 (0, 0)) :: (g2, .cells (frcC s2 n2 d2) 34 (0, 0)) :: (g1, .cells (frcC s1 n1 d1) 34 (0, 0)) :: (T6 ++ T46)) (cd d2)) rfl rfl (by kernel_rfl) (by kernel_rfl) (fun _ => (by kernel_rfl)) (fun W hW => (rdigits_any d2 hd2 W).mono fun e w2 h => Ans.g h hW) (fun _ _ h => ansG_sub h) (fun _ => by simp only [List.setIfInBounds_toArray, List.set_cons_succ, List.set_cons_zero] <;> rfl) ?_
            rintro v48 _ ⟨q48, d48, T48, rfl, C48, H48, F48, J48, rfl⟩
            obtain ⟨dj49_0, dj49_1, dj49_2, dj49_3, dj49_4⟩ : Dk g4 T48 ∧ Dk g2 T48 ∧ Dk g1 T48 ∧ Dj T6 T48 ∧ Dj T46 T48 := by simpa only [dj_app_l, dj_app_r, dj_cons_l, dj_cons_r, dj_nil_l, dj_nil_r, dk_app, dk_cons, dk_nil, and_true, true_and, and_assoc] using (show Dj ((g4, .cells (frcC false 0 0) 34 (0, 0)) :: (g2, .cells (frcC s2 n2 d2) 34 (0, 0)) :: (g1, .cells (frcC s1 n1 d1) 34 (0, 0)) :: (T6 ++ T46)) T48 from J48)
            have ln50 : (cd n1).length ≤ 16 := cd_16 hn1
            have ln51 : (cd d2).length ≤ 16 := cd_16 hd2
            refine wpV_c (i := 11) (AnsG w ((g4, .cells (frcC false 0 0) 34 (0, 0)) :: (g2, .cells (frcC s2 n2 d2) 34 (0, 0)) :: (g1, .cells (frcC s1 n1 d1) 34 (0, 0)) :: ((T6 ++ T46) ++ T48)) (cd (n1 * d2))) rfl rfl (by kernel_rfl) (by kernel_rfl) (fun _ => (by kernel_rfl)) (fun W hW => (rmul_any n1 d2 q46 q48 d46 d48 (by omega) (by omega) W ((H46.mono (fun q hq => by first | exact hq | (simp only [List.mem_cons, List.mem_append, List.nil_append, List.not_mem_nil, or_assoc, or_false, false_or] at hq ⊢ <;> grind))) W hW) ((H48.mono (fun q hq => by first | exact hq | (simp only [List.mem_cons, List.mem_append, List.nil_append, List.not_mem_nil, or_assoc, or_false, false_or] at hq ⊢ <;> grind))) W hW)).mono fun e w2 h => Ans.g h hW) (fun _ _ h => ansG_sub h) (fun _ => by simp only [List.setIfInBounds_toArray, List.set_cons_succ, List.set_cons_zero] <;> rfl) ?_
            rintro v52 _ ⟨q52, d52, T52, rfl, C52, H52, F52, J52, rfl⟩
            obtain ⟨dj53_0, dj53_1, dj53_2, dj53_3, dj53_4, dj53_5⟩ : Dk g4 T52 ∧ Dk g2 T52 ∧ Dk g1 T52 ∧ Dj T6 T52 ∧ Dj T46 T52 ∧ Dj T48 T52 := by simpa only [dj_app_l, dj_app_r, dj_cons_l, dj_cons_r, dj_nil_l, dj_nil_r, dk_app, dk_cons, dk_nil, and_true, true_and, and_assoc] using (show Dj ((g4, .cells (frcC false 0 0) 34 (0, 0)) :: (g2, .cells (frcC s2 n2 d2) 34 (0, 0)) :: (g1, .cells (frcC s1 n1 d1) 34 (0, 0)) :: ((T6 ++ T46) ++ T48)) T52 from J52)
            have ln54 : (cd (n1 * d2)).length ≤ 32 := Nat.le_trans (cd_mul_len n1 d2) (by have := cd_16 hn1; have := cd_16 hd2; omega)
            refine wpV_c (i := 14) (AnsG w ((g4, .cells (frcC false 0 0) 34 (0, 0)) :: (g2, .cells (frcC s2 n2 d2) 34 (0, 0)) :: (g1, .cells (frcC s1 n1 d1) 34 (0, 0)) :: (((T6 ++ T46) ++ T48) ++ T52)) (cd d1)) rfl rfl (by kernel_rfl) (by kernel_rfl) (fun _ => (by kernel_rfl)) (fun W hW => (rdigits_any d1 hd1 W).mono fun e w2 h => Ans.g h hW) (fun _ _ h => ansG_sub h) (fun _ => by simp only [List.setIfInBounds_toArray, List.set_cons_succ, List.set_cons_zero] <;> rfl) ?_
            rintro v55 _ ⟨q55, d55, T55, rfl, C55, H55, F55, J55, rfl⟩
            obtain ⟨dj56_0, dj56_1, dj56_2, dj56_3, dj56_4, dj56_5, dj56_6⟩ : Dk g4 T55 ∧ Dk g2 T55 ∧ Dk g1 T55 ∧ Dj T6 T55 ∧ Dj T46 T55 ∧ Dj T48 T55 ∧ Dj T52 T55 := by simpa only [dj_app_l, dj_app_r, dj_cons_l, dj_cons_r, dj_nil_l, dj_nil_r, dk_app, dk_cons, dk_nil, and_true, true_and, and_assoc] using (show Dj ((g4, .cells (frcC false 0 0) 34 (0, 0)) :: (g2, .cells (frcC s2 n2 d2) 34 (0, 0)) :: (g1, .cells (frcC s1 n1 d1) 34 (0, 0)) :: (((T6 ++ T46) ++ T48) ++ T52)) T55 from J55)
            refine wpV_c (i := 17) (AnsG w ((g4, .cells (frcC false 0 0) 34 (0, 0)) :: (g2, .cells (frcC s2 n2 d2) 34 (0, 0)) :: (g1, .cells (frcC s1 n1 d1) 34 (0, 0)) :: ((((T6 ++ T46) ++ T48) ++ T52) ++ T55)) (cd n2)) rfl rfl (by kernel_rfl) (by kernel_rfl) (fun _ => (by kernel_rfl)) (fun W hW => (rdigits_any n2 hn2 W).mono fun e w2 h => Ans.g h hW) (fun _ _ h => ansG_sub h) (fun _ => by simp only [List.setIfInBounds_toArray, List.set_cons_succ, List.set_cons_zero] <;> rfl) ?_
            rintro v57 _ ⟨q57, d57, T57, rfl, C57, H57, F57, J57, rfl⟩
            obtain ⟨dj58_0, dj58_1, dj58_2, dj58_3, dj58_4, dj58_5, dj58_6, dj58_7⟩ : Dk g4 T57 ∧ Dk g2 T57 ∧ Dk g1 T57 ∧ Dj T6 T57 ∧ Dj T46 T57 ∧ Dj T48 T57 ∧ Dj T52 T57 ∧ Dj T55 T57 := by simpa only [dj_app_l, dj_app_r, dj_cons_l, dj_cons_r, dj_nil_l, dj_nil_r, dk_app, dk_cons, dk_nil, and_true, true_and, and_assoc] using (show Dj ((g4, .cells (frcC false 0 0) 34 (0, 0)) :: (g2, .cells (frcC s2 n2 d2) 34 (0, 0)) :: (g1, .cells (frcC s1 n1 d1) 34 (0, 0)) :: ((((T6 ++ T46) ++ T48) ++ T52) ++ T55)) T57 from J57)
            have ln59 : (cd d1).length ≤ 16 := cd_16 hd1
            have ln60 : (cd n2).length ≤ 16 := cd_16 hn2
            refine wpV_c (i := 18) (AnsG w ((g4, .cells (frcC false 0 0) 34 (0, 0)) :: (g2, .cells (frcC s2 n2 d2) 34 (0, 0)) :: (g1, .cells (frcC s1 n1 d1) 34 (0, 0)) :: (((((T6 ++ T46) ++ T48) ++ T52) ++ T55) ++ T57)) (cd (d1 * n2))) rfl rfl (by kernel_rfl) (by kernel_rfl) (fun _ => (by kernel_rfl)) (fun W hW => (rmul_any d1 n2 q55 q57 d55 d57 (by omega) (by omega) W ((H55.mono (fun q hq => by first | exact hq | (simp only [List.mem_cons, List.mem_append, List.nil_append, List.not_mem_nil, or_assoc, or_false, false_or] at hq ⊢ <;> grind))) W hW) ((H57.mono (fun q hq => by first | exact hq | (simp only [List.mem_cons, List.mem_append, List.nil_append, List.not_mem_nil, or_assoc, or_false, false_or] at hq ⊢ <;> grind))) W hW)).mono fun e w2 h => Ans.g h hW) (fun _ _ h => ansG_sub h) (fun _ => by simp only [List.setIfInBounds_toArray, List.set_cons_succ, List.set_cons_zero] <;> rfl) ?_
            rintro v61 _ ⟨q61, d61, T61, rfl, C61, H61, F61, J61, rfl⟩
            obtain ⟨dj62_0, dj62_1, dj62_2, dj62_3, dj62_4, dj62_5, dj62_6, dj62_7, dj62_8⟩ : Dk g4 T61 ∧ Dk g2 T61 ∧ Dk g1 T61 ∧ Dj T6 T61 ∧ Dj T46 T61 ∧ Dj T48 T61 ∧ Dj T52 T61 ∧ Dj T55 T61 ∧ Dj T57 T61 := by simpa only [dj_app_l, dj_app_r, dj_cons_l, dj_cons_r, dj_nil_l, dj_nil_r, dk_app, dk_cons, dk_nil, and_true, true_and, and_assoc] using (show Dj ((g4, .cells (frcC false 0 0) 34 (0, 0)) :: (g2, .cells (frcC s2 n2 d2) 34 (0, 0)) :: (g1, .cells (frcC s1 n1 d1) 34 (0, 0)) :: (((((T6 ++ T46) ++ T48) ++ T52) ++ T55) ++ T57)) T61 from J61)
            have ln63 : (cd (d1 * n2)).length ≤ 32 := Nat.le_trans (cd_mul_len d1 n2) (by have := cd_16 hd1; have := cd_16 hn2; omega)
            obtain ⟨sv64, nv64, dv64, ev64, hpv64⟩ := packV_shape true ((n1 * d2) / Nat.gcd (n1 * d2) (d1 * n2)) ((d1 * n2) / Nat.gcd (n1 * d2) (d1 * n2))
            refine vv (i := 19) (v := .tuple #[.agg (frcC sv64 nv64 dv64), .int .i64 ev64]) rfl rfl rfl (yb_call (f := 45) (args := #[.bool true, .slice q52 ((cd (n1 * d2)).length) d52, .slice q61 ((cd (d1 * n2)).length) d61]) (fun _ => by kernel_rfl) fun W hW => hpv64 ▸ make0_any true (n1 * d2) (d1 * n2) q52 q61 d52 d61 (Nat.mul_pos (right_den h1) (Nat.pos_of_ne_zero (fun h => h3 (cd_len0.2 h)))) (by omega) (by omega) C52 C61 W ((H52.mono (fun q hq => by first | exact hq | (simp only [List.mem_cons, List.mem_append, List.nil_append, List.not_mem_nil, or_assoc, or_false, false_or] at hq ⊢ <;> grind))) W hW) ((H61.mono (fun q hq => by first | exact hq | (simp only [List.mem_cons, List.mem_append, List.nil_append, List.not_mem_nil, or_assoc, or_false, false_or] at hq ⊢ <;> grind))) W hW)) ?_
            refine vm (i := 20) (v := .agg (frcC sv64 nv64 dv64)) rfl rfl rfl ?_
            refine vm (i := 21) (v := .int .i64 ev64) rfl rfl rfl ?_
            refine wpV_s ((g4, .cells (frcC sv64 nv64 dv64) 34 (0, 0)) :: (g2, .cells (frcC s2 n2 d2) 34 (0, 0)) :: (g1, .cells (frcC s1 n1 d1) 34 (0, 0)) :: ((((((T6 ++ T46) ++ T48) ++ T52) ++ T55) ++ T57) ++ T61)) (i := 22) rfl (by kernel_rfl) rfl rfl rfl (st_all (by simp only [frcC_size]) (by exact frc_onec) rfl (by kernel_rfl) (by kernel_rfl) (.head _) Bg4 (by simp only [frcC_size]; kernel_rfl) (List.forall_mem_cons.2 ⟨.inl rfl, (List.forall_mem_cons.2 ⟨.inr ⟨(.tail _ (.head _)), (by first | assumption | exact Ne.symm (by assumption))⟩, (List.forall_mem_cons.2 ⟨.inr ⟨(.tail _ (.tail _ (.head _))), (by first | assumption | exact Ne.symm (by assumption))⟩, (fun p hp => .inr ⟨(.tail _ (.tail _ (.tail _ hp))), ((show Dk g4 ((((((T6 ++ T46) ++ T48) ++ T52) ++ T55) ++ T57) ++ T61) from (by (try simp only [dj_app_l, dj_app_r, dj_cons_l, dj_cons_r, dj_nil_l, dj_nil_r, dk_app, dk_cons, dk_nil, and_true, true_and, and_assoc]); repeat' (first | trivial | assumption | exact Dj.symm (by assumption) | exact Ne.symm (by assumption) | apply And.intro))) _ hp)⟩)⟩)⟩)⟩)) ?_
            refine vm (i := 23) (v := .int .i64 ev64) rfl rfl rfl ?_
            refine wpV_done (by kernel_rfl) (fun W9 hW9 => ?_) _
            refine (show Code.wp _ _ _ _ _ from ?_)
            refine wp_ret ?_
            try simp only [inBlock_ret, then_ret]
            refine bodyPost_ret (v := .tuple #[.agg (frcC sv64 nv64 dv64), .int .i64 ev64]) ?_ rfl ?_
            · exact (res_cell_tmp (p := 4) (q := 5) rfl rfl (hW9.2 _ (.head _)) Tryz.underlying34 rfl (by simp only [frcC_size]; kernel_rfl))
            · exact ⟨(ret_v (hpv64.symm.trans (by have e1 : s1 = true := hqs1.symm.trans h4; have e2 : s2 = false := hqs2.symm.trans h6; subst e1 e2; rw [hV, if_pos ⟨h1, h2, (fun h => h3 (cd_len0.2 h))⟩, ← div_norm h1 h2 (fun h => h3 (cd_len0.2 h))]; rfl))), hW9.1⟩
          | true =>
            refine vm (i := 4) (v := .bool false) rfl rfl rfl ?_
            refine vm (i := 5) (v := .pointer (some ⟨g1, 1, none⟩)) rfl rfl rfl ?_
            refine vv (i := 6) (v := .agg (fa 8 (dg n1))) rfl rfl rfl (yb_fnum (s := s1) (n := n1) (d := d1) rfl (by kernel_rfl) (.tail _ (.tail _ (.head _))) Tryz.underlying23 rfl (by kernel_rfl)) ?_
            refine vm (i := 8) (v := .pointer (some ⟨g2, 9, none⟩)) rfl rfl rfl ?_
            refine vv (i := 9) (v := .agg (fa 8 (dg d2))) rfl rfl rfl (yb_fden (s := s2) (n := n2) (d := d2) rfl (by kernel_rfl) (.tail _ (.head _)) Tryz.underlying23 rfl (by kernel_rfl)) ?_
            refine vm (i := 12) (v := .pointer (some ⟨g1, 9, none⟩)) rfl rfl rfl ?_
            refine vv (i := 13) (v := .agg (fa 8 (dg d1))) rfl rfl rfl (yb_fden (s := s1) (n := n1) (d := d1) rfl (by kernel_rfl) (.tail _ (.tail _ (.head _))) Tryz.underlying23 rfl (by kernel_rfl)) ?_
            refine vm (i := 15) (v := .pointer (some ⟨g2, 1, none⟩)) rfl rfl rfl ?_
            refine vv (i := 16) (v := .agg (fa 8 (dg n2))) rfl rfl rfl (yb_fnum (s := s2) (n := n2) (d := d2) rfl (by kernel_rfl) (.tail _ (.head _)) Tryz.underlying23 rfl (by kernel_rfl)) ?_
            refine wpV_c (i := 7) (AnsG w ((g4, .cells (frcC false 0 0) 34 (0, 0)) :: (g2, .cells (frcC s2 n2 d2) 34 (0, 0)) :: (g1, .cells (frcC s1 n1 d1) 34 (0, 0)) :: T6) (cd n1)) rfl rfl (by kernel_rfl) (by kernel_rfl) (fun _ => (by kernel_rfl)) (fun W hW => (rdigits_any n1 hn1 W).mono fun e w2 h => Ans.g h hW) (fun _ _ h => ansG_sub h) (fun _ => by simp only [List.setIfInBounds_toArray, List.set_cons_succ, List.set_cons_zero] <;> rfl) ?_
            rintro v65 _ ⟨q65, d65, T65, rfl, C65, H65, F65, J65, rfl⟩
            obtain ⟨dj66_0, dj66_1, dj66_2, dj66_3⟩ : Dk g4 T65 ∧ Dk g2 T65 ∧ Dk g1 T65 ∧ Dj T6 T65 := by simpa only [dj_app_l, dj_app_r, dj_cons_l, dj_cons_r, dj_nil_l, dj_nil_r, dk_app, dk_cons, dk_nil, and_true, true_and, and_assoc] using (show Dj ((g4, .cells (frcC false 0 0) 34 (0, 0)) :: (g2, .cells (frcC s2 n2 d2) 34 (0, 0)) :: (g1, .cells (frcC s1 n1 d1) 34 (0, 0)) :: T6) T65 from J65)
            refine wpV_c (i := 10) (AnsG w ((g4, .cells (frcC false 0 0) 34 (0, 0)) :: (g2, .cells (frcC s2 n2 d2) 34 (0, 0)) :: (g1, .cells (frcC s1 n1 d1) 34 (0, 0)) :: (T6 ++ T65)) (cd d2)) rfl rfl (by kernel_rfl) (by kernel_rfl) (fun _ => (by kernel_rfl)) (fun W hW => (rdigits_any d2 hd2 W).mono fun e w2 h => Ans.g h hW) (fun _ _ h => ansG_sub h) (fun _ => by simp only [List.setIfInBounds_toArray, List.set_cons_succ, List.set_cons_zero] <;> rfl) ?_
            rintro v67 _ ⟨q67, d67, T67, rfl, C67, H67, F67, J67, rfl⟩
            obtain ⟨dj68_0, dj68_1, dj68_2, dj68_3, dj68_4⟩ : Dk g4 T67 ∧ Dk g2 T67 ∧ Dk g1 T67 ∧ Dj T6 T67 ∧ Dj T65 T67 := by simpa only [dj_app_l, dj_app_r, dj_cons_l, dj_cons_r, dj_nil_l, dj_nil_r, dk_app, dk_cons, dk_nil, and_true, true_and, and_assoc] using (show Dj ((g4, .cells (frcC false 0 0) 34 (0, 0)) :: (g2, .cells (frcC s2 n2 d2) 34 (0, 0)) :: (g1, .cells (frcC s1 n1 d1) 34 (0, 0)) :: (T6 ++ T65)) T67 from J67)
            have ln69 : (cd n1).length ≤ 16 := cd_16 hn1
            have ln70 : (cd d2).length ≤ 16 := cd_16 hd2
            refine wpV_c (i := 11) (AnsG w ((g4, .cells (frcC false 0 0) 34 (0, 0)) :: (g2, .cells (frcC s2 n2 d2) 34 (0, 0)) :: (g1, .cells (frcC s1 n1 d1) 34 (0, 0)) :: ((T6 ++ T65) ++ T67)) (cd (n1 * d2))) rfl rfl (by kernel_rfl) (by kernel_rfl) (fun _ => (by kernel_rfl)) (fun W hW => (rmul_any n1 d2 q65 q67 d65 d67 (by omega) (by omega) W ((H65.mono (fun q hq => by first | exact hq | (simp only [List.mem_cons, List.mem_append, List.nil_append, List.not_mem_nil, or_assoc, or_false, false_or] at hq ⊢ <;> grind))) W hW) ((H67.mono (fun q hq => by first | exact hq | (simp only [List.mem_cons, List.mem_append, List.nil_append, List.not_mem_nil, or_assoc, or_false, false_or] at hq ⊢ <;> grind))) W hW)).mono fun e w2 h => Ans.g h hW) (fun _ _ h => ansG_sub h) (fun _ => by simp only [List.setIfInBounds_toArray, List.set_cons_succ, List.set_cons_zero] <;> rfl) ?_
            rintro v71 _ ⟨q71, d71, T71, rfl, C71, H71, F71, J71, rfl⟩
            obtain ⟨dj72_0, dj72_1, dj72_2, dj72_3, dj72_4, dj72_5⟩ : Dk g4 T71 ∧ Dk g2 T71 ∧ Dk g1 T71 ∧ Dj T6 T71 ∧ Dj T65 T71 ∧ Dj T67 T71 := by simpa only [dj_app_l, dj_app_r, dj_cons_l, dj_cons_r, dj_nil_l, dj_nil_r, dk_app, dk_cons, dk_nil, and_true, true_and, and_assoc] using (show Dj ((g4, .cells (frcC false 0 0) 34 (0, 0)) :: (g2, .cells (frcC s2 n2 d2) 34 (0, 0)) :: (g1, .cells (frcC s1 n1 d1) 34 (0, 0)) :: ((T6 ++ T65) ++ T67)) T71 from J71)
            have ln73 : (cd (n1 * d2)).length ≤ 32 := Nat.le_trans (cd_mul_len n1 d2) (by have := cd_16 hn1; have := cd_16 hd2; omega)
            refine wpV_c (i := 14) (AnsG w ((g4, .cells (frcC false 0 0) 34 (0, 0)) :: (g2, .cells (frcC s2 n2 d2) 34 (0, 0)) :: (g1, .cells (frcC s1 n1 d1) 34 (0, 0)) :: (((T6 ++ T65) ++ T67) ++ T71)) (cd d1)) rfl rfl (by kernel_rfl) (by kernel_rfl) (fun _ => (by kernel_rfl)) (fun W hW => (rdigits_any d1 hd1 W).mono fun e w2 h => Ans.g h hW) (fun _ _ h => ansG_sub h) (fun _ => by simp only [List.setIfInBounds_toArray, List.set_cons_succ, List.set_cons_zero] <;> rfl) ?_
            rintro v74 _ ⟨q74, d74, T74, rfl, C74, H74, F74, J74, rfl⟩
            obtain ⟨dj75_0, dj75_1, dj75_2, dj75_3, dj75_4, dj75_5, dj75_6⟩ : Dk g4 T74 ∧ Dk g2 T74 ∧ Dk g1 T74 ∧ Dj T6 T74 ∧ Dj T65 T74 ∧ Dj T67 T74 ∧ Dj T71 T74 := by simpa only [dj_app_l, dj_app_r, dj_cons_l, dj_cons_r, dj_nil_l, dj_nil_r, dk_app, dk_cons, dk_nil, and_true, true_and, and_assoc] using (show Dj ((g4, .cells (frcC false 0 0) 34 (0, 0)) :: (g2, .cells (frcC s2 n2 d2) 34 (0, 0)) :: (g1, .cells (frcC s1 n1 d1) 34 (0, 0)) :: (((T6 ++ T65) ++ T67) ++ T71)) T74 from J74)
            refine wpV_c (i := 17) (AnsG w ((g4, .cells (frcC false 0 0) 34 (0, 0)) :: (g2, .cells (frcC s2 n2 d2) 34 (0, 0)) :: (g1, .cells (frcC s1 n1 d1) 34 (0, 0)) :: ((((T6 ++ T65) ++ T67) ++ T71) ++ T74)) (cd n2)) rfl rfl (by kernel_rfl) (by kernel_rfl) (fun _ => (by kernel_rfl)) (fun W hW => (rdigits_any n2 hn2 W).mono fun e w2 h => Ans.g h hW) (fun _ _ h => ansG_sub h) (fun _ => by simp only [List.setIfInBounds_toArray, List.set_cons_succ, List.set_cons_zero] <;> rfl) ?_
            rintro v76 _ ⟨q76, d76, T76, rfl, C76, H76, F76, J76, rfl⟩
            obtain ⟨dj77_0, dj77_1, dj77_2, dj77_3, dj77_4, dj77_5, dj77_6, dj77_7⟩ : Dk g4 T76 ∧ Dk g2 T76 ∧ Dk g1 T76 ∧ Dj T6 T76 ∧ Dj T65 T76 ∧ Dj T67 T76 ∧ Dj T71 T76 ∧ Dj T74 T76 := by simpa only [dj_app_l, dj_app_r, dj_cons_l, dj_cons_r, dj_nil_l, dj_nil_r, dk_app, dk_cons, dk_nil, and_true, true_and, and_assoc] using (show Dj ((g4, .cells (frcC false 0 0) 34 (0, 0)) :: (g2, .cells (frcC s2 n2 d2) 34 (0, 0)) :: (g1, .cells (frcC s1 n1 d1) 34 (0, 0)) :: ((((T6 ++ T65) ++ T67) ++ T71) ++ T74)) T76 from J76)
            have ln78 : (cd d1).length ≤ 16 := cd_16 hd1
            have ln79 : (cd n2).length ≤ 16 := cd_16 hn2
            refine wpV_c (i := 18) (AnsG w ((g4, .cells (frcC false 0 0) 34 (0, 0)) :: (g2, .cells (frcC s2 n2 d2) 34 (0, 0)) :: (g1, .cells (frcC s1 n1 d1) 34 (0, 0)) :: (((((T6 ++ T65) ++ T67) ++ T71) ++ T74) ++ T76)) (cd (d1 * n2))) rfl rfl (by kernel_rfl) (by kernel_rfl) (fun _ => (by kernel_rfl)) (fun W hW => (rmul_any d1 n2 q74 q76 d74 d76 (by omega) (by omega) W ((H74.mono (fun q hq => by first | exact hq | (simp only [List.mem_cons, List.mem_append, List.nil_append, List.not_mem_nil, or_assoc, or_false, false_or] at hq ⊢ <;> grind))) W hW) ((H76.mono (fun q hq => by first | exact hq | (simp only [List.mem_cons, List.mem_append, List.nil_append, List.not_mem_nil, or_assoc, or_false, false_or] at hq ⊢ <;> grind))) W hW)).mono fun e w2 h => Ans.g h hW) (fun _ _ h => ansG_sub h) (fun _ => by simp only [List.setIfInBounds_toArray, List.set_cons_succ, List.set_cons_zero] <;> rfl) ?_
            rintro v80 _ ⟨q80, d80, T80, rfl, C80, H80, F80, J80, rfl⟩
            obtain ⟨dj81_0, dj81_1, dj81_2, dj81_3, dj81_4, dj81_5, dj81_6, dj81_7, dj81_8⟩ : Dk g4 T80 ∧ Dk g2 T80 ∧ Dk g1 T80 ∧ Dj T6 T80 ∧ Dj T65 T80 ∧ Dj T67 T80 ∧ Dj T71 T80 ∧ Dj T74 T80 ∧ Dj T76 T80 := by simpa only [dj_app_l, dj_app_r, dj_cons_l, dj_cons_r, dj_nil_l, dj_nil_r, dk_app, dk_cons, dk_nil, and_true, true_and, and_assoc] using (show Dj ((g4, .cells (frcC false 0 0) 34 (0, 0)) :: (g2, .cells (frcC s2 n2 d2) 34 (0, 0)) :: (g1, .cells (frcC s1 n1 d1) 34 (0, 0)) :: (((((T6 ++ T65) ++ T67) ++ T71) ++ T74) ++ T76)) T80 from J80)
            have ln82 : (cd (d1 * n2)).length ≤ 32 := Nat.le_trans (cd_mul_len d1 n2) (by have := cd_16 hd1; have := cd_16 hn2; omega)
            obtain ⟨sv83, nv83, dv83, ev83, hpv83⟩ := packV_shape false ((n1 * d2) / Nat.gcd (n1 * d2) (d1 * n2)) ((d1 * n2) / Nat.gcd (n1 * d2) (d1 * n2))
            refine vv (i := 19) (v := .tuple #[.agg (frcC sv83 nv83 dv83), .int .i64 ev83]) rfl rfl rfl (yb_call (f := 45) (args := #[.bool false, .slice q71 ((cd (n1 * d2)).length) d71, .slice q80 ((cd (d1 * n2)).length) d80]) (fun _ => by kernel_rfl) fun W hW => hpv83 ▸ make0_any false (n1 * d2) (d1 * n2) q71 q80 d71 d80 (Nat.mul_pos (right_den h1) (Nat.pos_of_ne_zero (fun h => h3 (cd_len0.2 h)))) (by omega) (by omega) C71 C80 W ((H71.mono (fun q hq => by first | exact hq | (simp only [List.mem_cons, List.mem_append, List.nil_append, List.not_mem_nil, or_assoc, or_false, false_or] at hq ⊢ <;> grind))) W hW) ((H80.mono (fun q hq => by first | exact hq | (simp only [List.mem_cons, List.mem_append, List.nil_append, List.not_mem_nil, or_assoc, or_false, false_or] at hq ⊢ <;> grind))) W hW)) ?_
            refine vm (i := 20) (v := .agg (frcC sv83 nv83 dv83)) rfl rfl rfl ?_
            refine vm (i := 21) (v := .int .i64 ev83) rfl rfl rfl ?_
            refine wpV_s ((g4, .cells (frcC sv83 nv83 dv83) 34 (0, 0)) :: (g2, .cells (frcC s2 n2 d2) 34 (0, 0)) :: (g1, .cells (frcC s1 n1 d1) 34 (0, 0)) :: ((((((T6 ++ T65) ++ T67) ++ T71) ++ T74) ++ T76) ++ T80)) (i := 22) rfl (by kernel_rfl) rfl rfl rfl (st_all (by simp only [frcC_size]) (by exact frc_onec) rfl (by kernel_rfl) (by kernel_rfl) (.head _) Bg4 (by simp only [frcC_size]; kernel_rfl) (List.forall_mem_cons.2 ⟨.inl rfl, (List.forall_mem_cons.2 ⟨.inr ⟨(.tail _ (.head _)), (by first | assumption | exact Ne.symm (by assumption))⟩, (List.forall_mem_cons.2 ⟨.inr ⟨(.tail _ (.tail _ (.head _))), (by first | assumption | exact Ne.symm (by assumption))⟩, (fun p hp => .inr ⟨(.tail _ (.tail _ (.tail _ hp))), ((show Dk g4 ((((((T6 ++ T65) ++ T67) ++ T71) ++ T74) ++ T76) ++ T80) from (by (try simp only [dj_app_l, dj_app_r, dj_cons_l, dj_cons_r, dj_nil_l, dj_nil_r, dk_app, dk_cons, dk_nil, and_true, true_and, and_assoc]); repeat' (first | trivial | assumption | exact Dj.symm (by assumption) | exact Ne.symm (by assumption) | apply And.intro))) _ hp)⟩)⟩)⟩)⟩)) ?_
            refine vm (i := 23) (v := .int .i64 ev83) rfl rfl rfl ?_
            refine wpV_done (by kernel_rfl) (fun W10 hW10 => ?_) _
            refine (show Code.wp _ _ _ _ _ from ?_)
            refine wp_ret ?_
            try simp only [inBlock_ret, then_ret]
            refine bodyPost_ret (v := .tuple #[.agg (frcC sv83 nv83 dv83), .int .i64 ev83]) ?_ rfl ?_
            · exact (res_cell_tmp (p := 4) (q := 5) rfl rfl (hW10.2 _ (.head _)) Tryz.underlying34 rfl (by simp only [frcC_size]; kernel_rfl))
            · exact ⟨(ret_v (hpv83.symm.trans (by have e1 : s1 = true := hqs1.symm.trans h4; have e2 : s2 = true := hqs2.symm.trans h6; subst e1 e2; rw [hV, if_pos ⟨h1, h2, (fun h => h3 (cd_len0.2 h))⟩, ← div_norm h1 h2 (fun h => h3 (cd_len0.2 h))]; rfl))), hW10.1⟩
      | true =>
        have h3 : ((cd n2).length) = 0 := of_decide_eq_true hd3
        clear hd3
        refine wp_cond_true rfl ?_
        refine wp_seq ?_
        refine wp_region_L (W0 := w) ((g4, .cells (frcC false 0 0) 34 (0, 0)) :: (g2, .cells (frcC s2 n2 d2) 34 (0, 0)) :: (g1, .cells (frcC s1 n1 d1) 34 (0, 0)) :: T6) (hW6) ?_
        refine Tw.lm (v := .agg (frcC false 0 0)) rfl rfl ?_
        refine wpL_s ((g4, .cells (frcC false 0 0) 34 (0, 0)) :: (g2, .cells (frcC s2 n2 d2) 34 (0, 0)) :: (g1, .cells (frcC s1 n1 d1) 34 (0, 0)) :: T6) rfl rfl (st_all (by simp only [frcC_size]) (by exact frc_onec) rfl (by kernel_rfl) (by kernel_rfl) (.head _) Bg4 (by simp only [frcC_size]; kernel_rfl) (List.forall_mem_cons.2 ⟨.inl rfl, (List.forall_mem_cons.2 ⟨.inr ⟨(.tail _ (.head _)), (by first | assumption | exact Ne.symm (by assumption))⟩, (List.forall_mem_cons.2 ⟨.inr ⟨(.tail _ (.tail _ (.head _))), (by first | assumption | exact Ne.symm (by assumption))⟩, (fun p hp => .inr ⟨(.tail _ (.tail _ (.tail _ hp))), ((show Dk g4 T6 from (by (try simp only [dj_app_l, dj_app_r, dj_cons_l, dj_cons_r, dj_nil_l, dj_nil_r, dk_app, dk_cons, dk_nil, and_true, true_and, and_assoc]); repeat' (first | trivial | assumption | exact Dj.symm (by assumption) | exact Ne.symm (by assumption) | apply And.intro))) _ hp)⟩)⟩)⟩)⟩)) ?_
        refine Tw.lm (v := .int .i64 2) rfl rfl ?_
        refine wpL_done (fun W11 hW11 => ?_)
        refine (show Code.wp _ _ _ _ _ from ?_)
        refine wp_ret ?_
        try simp only [inBlock_ret, then_ret]
        refine bodyPost_ret (v := .tuple #[.agg (frcC false 0 0), .int .i64 2]) ?_ rfl ?_
        · exact (res_cell_tmp (p := 4) (q := 5) rfl rfl (hW11.2 _ (.head _)) Tryz.underlying34 rfl (by simp only [frcC_size]; kernel_rfl))
        · exact ⟨(ret_v (by rw [hV, if_neg (fun h => h.2.2 (cd_len0.1 h3))]; rfl)), hW11.1⟩
end Go.Proofs.YtalmflgkbmnghaaGreatDoor
