import Derived.Test.YtalmflgkbmnghaaGreatDoorYSc07
import Derived.Test.YtalmflgkbmnghaaGreatDoorRT02
import Derived.Test.YtalmflgkbmnghaaGreatDoorRT00
import Derived.Test.YtalmflgkbmnghaaGreatDoorRT01
import Derived.Test.YtalmflgkbmnghaaGreatDoorYSc05
import Derived.Test.YtalmflgkbmnghaaGreatDoorYSc02
import Derived.Test.YtalmflgkbmnghaaGreatDoorYSc01
import Derived.Test.YtalmflgkbmnghaaGreatDoorRT04
import Derived.Test.YtalmflgkbmnghaaGreatDoorYSc00
/- Part of the proof: YC, YR, YM, Cp, Dw, YS, YSr, YSl. -/
set_option linter.unusedVariables false
set_option linter.unusedSimpArgs false
set_option linter.unusedSectionVars false
namespace Go.Proofs.YtalmflgkbmnghaaGreatDoor
open Go Go.RowKit Tw
open Tf (dg R R_pos R_le R_succ dg_of_lt setd setd_eq)
variable [ShLZ]
set_option maxRecDepth 100000 in
set_option maxHeartbeats 4000000 in
theorem pair_same (s : Bool) (n d : Nat) (k : Int) (hn : n < R 8) (hd : d < R 8) (w : World) : Calls Tryz.prog 19 #[.agg (frcC s n d), .int .i64 k, .agg (frcC s n d), .int .i64 k] w fun e w' => e = .returned (.bool true) ∧ Below w.heap.size w w' := by
  go_enter Tryz.func19, Tryz.ntmps19
  refine wp_seq ?_
  refine wp_region_L (W0 := w) [] (KS.start w) ?_
  refine wpL_new (fun g => .pointer (some ⟨g, 0, none⟩)) (obi := .cells (frcC s n d) 25 (0, 0)) rfl rfl (fun _ => by kernel_rfl) (fun _ => by simp only [List.setIfInBounds_toArray, List.set_cons_succ, List.set_cons_zero] <;> rfl) fun g1 Bg1 Fg1 => ?_
  refine wpL_new (fun g => .pointer (some ⟨g, 0, none⟩)) (obi := .cells (frcC s n d) 34 (0, 0)) rfl rfl (fun _ => by kernel_rfl) (fun _ => by simp only [List.setIfInBounds_toArray, List.set_cons_succ, List.set_cons_zero] <;> rfl) fun g2 Bg2 Fg2 => ?_
  obtain dj3_0 : g1 ≠ g2 := by simpa only [dj_app_l, dj_app_r, dj_cons_l, dj_cons_r, dj_nil_l, dj_nil_r, dk_app, dk_cons, dk_nil, and_true, true_and, and_assoc] using (show Dk g2 [(g1, .cells (frcC s n d) 25 (0, 0))] from Fg2)
  refine Tw.lm (v := .bool false) rfl rfl ?_
  refine wpL_done (fun W1 hW1 => ?_)
  refine (show Code.wp _ _ _ _ _ from ?_)
  refine wp_seq ?_
  refine wp_region_L (W0 := w) [(g2, .cells (frcC s n d) 34 (0, 0)), (g1, .cells (frcC s n d) 25 (0, 0))] (hW1) ?_
  refine Tw.lv (v := .agg (frcC s n d)) rfl rfl (yb_all rfl (by kernel_rfl) (.tail _ (.head _)) Tryz.underlying25 rfl (by simp only [frcC_size]; kernel_rfl)) ?_
  refine Tw.lv (v := .agg (frcC s n d)) rfl rfl (yb_all rfl (by kernel_rfl) (.head _) Tryz.underlying34 rfl (by simp only [frcC_size]; kernel_rfl)) ?_
  refine Tw.lp (v := .bool true) rfl rfl (run_bin rfl (vx := .agg (frcC s n d)) (vy := .agg (frcC s n d)) (by kernel_rfl) (by kernel_rfl) fun w => run_eql27s hn hd w) ?_
  refine Tw.lm (v := .bool true) rfl rfl ?_
  refine Tw.lm (v := .int .i64 k) rfl rfl ?_
  refine Tw.lm (v := .int .i64 k) rfl rfl ?_
  refine Tw.lp (v := .bool true) rfl rfl (run_bin rfl (vx := (.int .i64 k)) (vy := (.int .i64 k)) (by kernel_rfl) (by kernel_rfl) fun w => bi_eql (decide_eq_true rfl) w) ?_
  refine Tw.lm (v := .bool true) rfl rfl ?_
  refine Tw.lm (v := .bool true) rfl rfl ?_
  refine wpL_done (fun W2 hW2 => ?_)
  refine (show Code.wp _ _ _ _ _ from ?_)
  refine wp_ret ?_
  try simp only [inBlock_ret, then_ret]
  refine bodyPost_ret (v := .bool true) ?_ rfl ?_
  · kernel_rfl
  · exact ⟨rfl, hW2.1⟩
end Go.Proofs.YtalmflgkbmnghaaGreatDoor
namespace Go.Proofs.YtalmflgkbmnghaaGreatDoor
open Go Go.RowKit Tw
set_option linter.unusedSimpArgs false
set_option linter.unusedVariables false
open Tf (dg R R_pos R_le R_succ dg_of_lt setd setd_eq)
variable [ShLZ]
variable [ShSt]
theorem bb_neq {x y : Operand} {b : Bool} (w : World) : (do eqGuard .neq 4 x y (.bool b) (.bool b); binOp .neq 4 (.bool b) (.bool b) : Sem Value).run Tryz.prog w = .ok (.bool false) w := by
  cases b <;> kernel_rfl
theorem cmp_shape {c : Prop} [Decidable c] {a : Int} : ∃ x e, (if c then (Value.tuple #[.int .i64 a, .int .i64 0]) else .tuple #[.int .i64 0, .int .i64 2]) = .tuple #[.int .i64 x, .int .i64 e] := by
  split
  · exact ⟨_, _, rfl⟩
  · exact ⟨_, _, rfl⟩
theorem floor_shape {s : Bool} {n d : Nat} : ∃ x e, (if rightB s n d = true then floorV s n d else .tuple #[.int .i64 0, .int .i64 2]) = .tuple #[.int .i64 x, .int .i64 e] := by
  unfold floorV
  split
  · split
    · exact ⟨_, _, rfl⟩
    · exact ⟨_, _, rfl⟩
  · exact ⟨_, _, rfl⟩
theorem text_shape {s : Bool} {n d : Nat} : ∃ x e, (if rightB s n d = true then .tuple #[strV (textL s n d), .int .i64 0] else .tuple #[strV [], .int .i64 2]) = Value.tuple #[strV x, .int .i64 e] := by
  split
  · exact ⟨_, _, rfl⟩
  · exact ⟨_, _, rfl⟩
end Go.Proofs.YtalmflgkbmnghaaGreatDoor
namespace Go.Proofs.YtalmflgkbmnghaaGreatDoor
open Go Go.RowKit Tw
set_option linter.unusedSimpArgs false
set_option linter.unusedVariables false
open Tf (dg R R_pos R_le R_succ dg_of_lt setd setd_eq)
variable [ShLZ]
theorem cmp_np {n1 d1 n2 d2 : Nat} : cmpI true n1 d1 false n2 d2 = -1 := by unfold cmpI psS; simp
theorem cmp_pn {n1 d1 n2 d2 : Nat} : cmpI false n1 d1 true n2 d2 = 1 := by unfold cmpI psS; simp
theorem cmp_lt {s : Bool} {n1 d1 n2 d2 : Nat} (h : n1 * d2 < n2 * d1) : cmpI s n1 d1 s n2 d2 = if s = true then 1 else -1 := by
  have hne : ¬ (s = s ∧ n1 = n2 ∧ d1 = d2) := by rintro ⟨_, rfl, rfl⟩; omega
  unfold cmpI psS
  rw [if_neg hne]
  cases s <;> simp [h]
theorem cmp_gt {s : Bool} {n1 d1 n2 d2 : Nat} (h : n2 * d1 < n1 * d2) : cmpI s n1 d1 s n2 d2 = if s = true then -1 else 1 := by
  have hne : ¬ (s = s ∧ n1 = n2 ∧ d1 = d2) := by rintro ⟨_, rfl, rfl⟩; omega
  have h2 : ¬ n1 * d2 < n2 * d1 := by omega
  unfold cmpI psS
  rw [if_neg hne]
  cases s <;> simp [h2]
theorem cmp_eq {s : Bool} {n1 d1 n2 d2 : Nat} (h1 : rightB s n1 d1 = true) (h2 : rightB s n2 d2 = true) (h : ¬ n1 * d2 < n2 * d1) (h' : ¬ n2 * d1 < n1 * d2) : cmpI s n1 d1 s n2 d2 = 0 := by
  obtain ⟨e1, e2⟩ := cross_eq h1 h2 (by omega)
  unfold cmpI
  rw [if_pos ⟨rfl, e1, e2⟩]
set_option maxRecDepth 100000 in
set_option maxHeartbeats 20000000 in
theorem RCmp_any (s1 s2 : Bool) (n1 d1 n2 d2 : Nat) (hn1 : n1 < R 8) (hd1 : d1 < R 8) (hn2 : n2 < R 8) (hd2 : d2 < R 8) (w : World) : Calls Tryz.prog 27 #[.agg (frcC s1 n1 d1), .agg (frcC s2 n2 d2)] w fun e w' => e = .returned (if rightB s1 n1 d1 = true ∧ rightB s2 n2 d2 = true then .tuple #[.int .i64 (cmpI s1 n1 d1 s2 n2 d2), .int .i64 0] else .tuple #[.int .i64 0, .int .i64 2]) ∧ Below w.heap.size w w' := by
  obtain ⟨V, hV⟩ : ∃ V : Value, V = (if rightB s1 n1 d1 = true ∧ rightB s2 n2 d2 = true then .tuple #[.int .i64 (cmpI s1 n1 d1 s2 n2 d2), .int .i64 0] else .tuple #[.int .i64 0, .int .i64 2]) := ⟨_, rfl⟩
  rw [← hV]
  go_enter Tryz.func27, Tryz.ntmps27
  refine wp_seq ?_
  refine wp_region_L (W0 := w) [] (KS.start w) ?_
  refine wpL_new (fun g => .pointer (some ⟨g, 0, none⟩)) (obi := .cells (frcC s1 n1 d1) 34 (0, 0)) rfl rfl (fun _ => by kernel_rfl) (fun _ => by simp only [List.setIfInBounds_toArray, List.set_cons_succ, List.set_cons_zero] <;> rfl) fun g1 Bg1 Fg1 => ?_
  refine wpL_new (fun g => .pointer (some ⟨g, 0, none⟩)) (obi := .cells (frcC s2 n2 d2) 34 (0, 0)) rfl rfl (fun _ => by kernel_rfl) (fun _ => by simp only [List.setIfInBounds_toArray, List.set_cons_succ, List.set_cons_zero] <;> rfl) fun g2 Bg2 Fg2 => ?_
  obtain dj3_0 : g1 ≠ g2 := by simpa only [dj_app_l, dj_app_r, dj_cons_l, dj_cons_r, dj_nil_l, dj_nil_r, dk_app, dk_cons, dk_nil, and_true, true_and, and_assoc] using (show Dk g2 [(g1, .cells (frcC s1 n1 d1) 34 (0, 0))] from Fg2)
  refine Tw.lm (v := .int .i64 0) rfl rfl ?_
  refine Tw.lm (v := .int .i64 0) rfl rfl ?_
  refine wpL_done (fun W1 hW1 => ?_)
  refine (show Code.wp _ _ _ _ _ from ?_)
  refine wp_seq ?_
  refine wp_seq ?_
  refine wp_region_L (W0 := w) [(g2, .cells (frcC s2 n2 d2) 34 (0, 0)), (g1, .cells (frcC s1 n1 d1) 34 (0, 0))] (hW1) ?_
  refine Tw.lv (v := .agg (frcC s1 n1 d1)) rfl rfl (yb_all rfl (by kernel_rfl) (.tail _ (.head _)) Tryz.underlying34 rfl (by simp only [frcC_size]; kernel_rfl)) ?_
  refine Tw.lv (v := .bool (rightB s1 n1 d1)) rfl rfl (yb_call (f := 18) (args := #[.agg (frcC s1 n1 d1)]) (fun _ => by kernel_rfl) fun W hW => rright_any s1 n1 d1 hn1 hd1 W) ?_
  refine Tw.lp (v := .bool (!(rightB s1 n1 d1))) rfl rfl (run_un rfl (by kernel_rfl) fun w => un_not w) ?_
  refine Tw.lm (v := .bool (!(rightB s1 n1 d1))) rfl rfl ?_
  cases h1 : (rightB s1 n1 d1) with
  | false =>
    refine Tw.ln rfl ?_
    refine Tw.ln rfl ?_
    refine Tw.ln rfl ?_
    refine Tw.lm (v := .bool true) rfl rfl ?_
    refine wpL_done (fun W2 hW2 => ?_)
    refine (show Code.wp _ _ _ _ _ from ?_)
    refine wp_cond_true rfl ?_
    refine wp_seq ?_
    refine wp_region_L (W0 := w) [(g2, .cells (frcC s2 n2 d2) 34 (0, 0)), (g1, .cells (frcC s1 n1 d1) 34 (0, 0))] (hW2) ?_
    refine Tw.lm (v := .int .i64 0) rfl rfl ?_
    refine Tw.lm (v := .int .i64 2) rfl rfl ?_
    refine wpL_done (fun W3 hW3 => ?_)
    refine (show Code.wp _ _ _ _ _ from ?_)
    refine wp_ret ?_
    try simp only [inBlock_ret, then_ret]
    refine bodyPost_ret (v := .tuple #[.int .i64 0, .int .i64 2]) ?_ rfl ?_
    · kernel_rfl
    · exact ⟨(ret_v (by rw [hV, if_neg (fun h => by rw [h1] at h; cases h.1)])), hW3.1⟩
  | true =>
    refine Tw.lv (v := .agg (frcC s2 n2 d2)) rfl rfl (yb_all rfl (by kernel_rfl) (.head _) Tryz.underlying34 rfl (by simp only [frcC_size]; kernel_rfl)) ?_
    refine Tw.lv (v := .bool (rightB s2 n2 d2)) rfl rfl (yb_call (f := 18) (args := #[.agg (frcC s2 n2 d2)]) (fun _ => by kernel_rfl) fun W hW => rright_any s2 n2 d2 hn2 hd2 W) ?_
    refine Tw.lp (v := .bool (!(rightB s2 n2 d2))) rfl rfl (run_un rfl (by kernel_rfl) fun w => un_not w) ?_
    refine Tw.lm (v := .bool (!(rightB s2 n2 d2))) rfl rfl ?_
    refine wpL_done (fun W4 hW4 => ?_)
    refine (show Code.wp _ _ _ _ _ from ?_)
    cases h2 : (rightB s2 n2 d2) with
    | false =>
      refine wp_cond_true rfl ?_
      refine wp_seq ?_
      refine wp_region_L (W0 := w) [(g2, .cells (frcC s2 n2 d2) 34 (0, 0)), (g1, .cells (frcC s1 n1 d1) 34 (0, 0))] (hW4) ?_
      refine Tw.lm (v := .int .i64 0) rfl rfl ?_
      refine Tw.lm (v := .int .i64 2) rfl rfl ?_
      refine wpL_done (fun W5 hW5 => ?_)
      refine (show Code.wp _ _ _ _ _ from ?_)
      refine wp_ret ?_
      try simp only [inBlock_ret, then_ret]
      refine bodyPost_ret (v := .tuple #[.int .i64 0, .int .i64 2]) ?_ rfl ?_
      · kernel_rfl
      · exact ⟨(ret_v (by rw [hV, if_neg (fun h => by rw [h2] at h; cases h.2)])), hW5.1⟩
    | true =>
      refine wp_cond_false rfl ?_
      refine wp_skip ?_
      refine (show Code.wp _ _ _ _ _ from ?_)
      refine wp_seq ?_
      refine wp_region_V (W0 := w) [(g2, .cells (frcC s2 n2 d2) 34 (0, 0)), (g1, .cells (frcC s1 n1 d1) 34 (0, 0))] (by kernel_rfl) (hW4) ?_
      refine vm (i := 0) (v := .pointer (some ⟨g1, 1, none⟩)) rfl rfl rfl ?_
      refine vv (i := 1) (v := .agg (fa 8 (dg n1))) rfl rfl rfl (yb_fnum (s := s1) (n := n1) (d := d1) rfl (by kernel_rfl) (.tail _ (.head _)) Tryz.underlying23 rfl (by kernel_rfl)) ?_
      refine vm (i := 3) (v := .pointer (some ⟨g2, 9, none⟩)) rfl rfl rfl ?_
      refine vv (i := 4) (v := .agg (fa 8 (dg d2))) rfl rfl rfl (yb_fden (s := s2) (n := n2) (d := d2) rfl (by kernel_rfl) (.head _) Tryz.underlying23 rfl (by kernel_rfl)) ?_
      refine vm (i := 7) (v := .pointer (some ⟨g2, 1, none⟩)) rfl rfl rfl ?_
      refine vv (i := 8) (v := .agg (fa 8 (dg n2))) rfl rfl rfl (yb_fnum (s := s2) (n := n2) (d := d2) rfl (by kernel_rfl) (.head _) Tryz.underlying23 rfl (by kernel_rfl)) ?_
      refine vm (i := 10) (v := .pointer (some ⟨g1, 9, none⟩)) rfl rfl rfl ?_
      refine vv (i := 11) (v := .agg (fa 8 (dg d1))) rfl rfl rfl (yb_fden (s := s1) (n := n1) (d := d1) rfl (by kernel_rfl) (.tail _ (.head _)) Tryz.underlying23 rfl (by kernel_rfl)) ?_
      refine wpV_c (i := 2) (AnsG w [(g2, .cells (frcC s2 n2 d2) 34 (0, 0)), (g1, .cells (frcC s1 n1 d1) 34 (0, 0))] (cd n1)) rfl rfl (by kernel_rfl) (by kernel_rfl) (fun _ => (by kernel_rfl)) (fun W hW => (rdigits_any n1 hn1 W).mono fun e w2 h => Ans.g h hW) (fun _ _ h => ansG_sub h) (fun _ => by simp only [List.setIfInBounds_toArray, List.set_cons_succ, List.set_cons_zero] <;> rfl) ?_
      rintro v4 _ ⟨q4, d4, T4, rfl, C4, H4, F4, J4, rfl⟩
      obtain ⟨dj5_0, dj5_1⟩ : Dk g2 T4 ∧ Dk g1 T4 := by simpa only [dj_app_l, dj_app_r, dj_cons_l, dj_cons_r, dj_nil_l, dj_nil_r, dk_app, dk_cons, dk_nil, and_true, true_and, and_assoc] using (show Dj [(g2, .cells (frcC s2 n2 d2) 34 (0, 0)), (g1, .cells (frcC s1 n1 d1) 34 (0, 0))] T4 from J4)
      refine wpV_c (i := 5) (AnsG w ((g2, .cells (frcC s2 n2 d2) 34 (0, 0)) :: (g1, .cells (frcC s1 n1 d1) 34 (0, 0)) :: T4) (cd d2)) rfl rfl (by kernel_rfl) (by kernel_rfl) (fun _ => (by kernel_rfl)) (fun W hW => (rdigits_any d2 hd2 W).mono fun e w2 h => Ans.g h hW) (fun _ _ h => ansG_sub h) (fun _ => by simp only [List.setIfInBounds_toArray, List.set_cons_succ, List.set_cons_zero] <;> rfl) ?_
      rintro v6 _ ⟨q6, d6, T6, rfl, C6, H6, F6, J6, rfl⟩
      obtain ⟨dj7_0, dj7_1, dj7_2⟩ : Dk g2 T6 ∧ Dk g1 T6 ∧ Dj T4 T6 := by simpa only [dj_app_l, dj_app_r, dj_cons_l, dj_cons_r, dj_nil_l, dj_nil_r, dk_app, dk_cons, dk_nil, and_true, true_and, and_assoc] using (show Dj ((g2, .cells (frcC s2 n2 d2) 34 (0, 0)) :: (g1, .cells (frcC s1 n1 d1) 34 (0, 0)) :: T4) T6 from J6)
      have ln8 : (cd n1).length ≤ 16 := cd_16 hn1
      have ln9 : (cd d2).length ≤ 16 := cd_16 hd2
      refine wpV_c (i := 6) (AnsG w ((g2, .cells (frcC s2 n2 d2) 34 (0, 0)) :: (g1, .cells (frcC s1 n1 d1) 34 (0, 0)) :: (T4 ++ T6)) (cd (n1 * d2))) rfl rfl (by kernel_rfl) (by kernel_rfl) (fun _ => (by kernel_rfl)) (fun W hW => (rmul_any n1 d2 q4 q6 d4 d6 (by omega) (by omega) W ((H4.mono (fun q hq => by first | exact hq | (simp only [List.mem_cons, List.mem_append, List.nil_append, List.not_mem_nil, or_assoc, or_false, false_or] at hq ⊢ <;> grind))) W hW) ((H6.mono (fun q hq => by first | exact hq | (simp only [List.mem_cons, List.mem_append, List.nil_append, List.not_mem_nil, or_assoc, or_false, false_or] at hq ⊢ <;> grind))) W hW)).mono fun e w2 h => Ans.g h hW) (fun _ _ h => ansG_sub h) (fun _ => by simp only [List.setIfInBounds_toArray, List.set_cons_succ, List.set_cons_zero] <;> rfl) ?_
      rintro v10 _ ⟨q10, d10, T10, rfl, C10, H10, F10, J10, rfl⟩
      obtain ⟨dj11_0, dj11_1, dj11_2, dj11_3⟩ : Dk g2 T10 ∧ Dk g1 T10 ∧ Dj T4 T10 ∧ Dj T6 T10 := by simpa only [dj_app_l, dj_app_r, dj_cons_l, dj_cons_r, dj_nil_l, dj_nil_r, dk_app, dk_cons, dk_nil, and_true, true_and, and_assoc] using (show Dj ((g2, .cells (frcC s2 n2 d2) 34 (0, 0)) :: (g1, .cells (frcC s1 n1 d1) 34 (0, 0)) :: (T4 ++ T6)) T10 from J10)
      have ln12 : (cd (n1 * d2)).length ≤ 32 := Nat.le_trans (cd_mul_len n1 d2) (by have := cd_16 hn1; have := cd_16 hd2; omega)
      refine wpV_c (i := 9) (AnsG w ((g2, .cells (frcC s2 n2 d2) 34 (0, 0)) :: (g1, .cells (frcC s1 n1 d1) 34 (0, 0)) :: ((T4 ++ T6) ++ T10)) (cd n2)) rfl rfl (by kernel_rfl) (by kernel_rfl) (fun _ => (by kernel_rfl)) (fun W hW => (rdigits_any n2 hn2 W).mono fun e w2 h => Ans.g h hW) (fun _ _ h => ansG_sub h) (fun _ => by simp only [List.setIfInBounds_toArray, List.set_cons_succ, List.set_cons_zero] <;> rfl) ?_
      rintro v13 _ ⟨q13, d13, T13, rfl, C13, H13, F13, J13, rfl⟩
      obtain ⟨dj14_0, dj14_1, dj14_2, dj14_3, dj14_4⟩ : Dk g2 T13 ∧ Dk g1 T13 ∧ Dj T4 T13 ∧ Dj T6 T13 ∧ Dj T10 T13 := by simpa only [dj_app_l, dj_app_r, dj_cons_l, dj_cons_r, dj_nil_l, dj_nil_r, dk_app, dk_cons, dk_nil, and_true, true_and, and_assoc] using (show Dj ((g2, .cells (frcC s2 n2 d2) 34 (0, 0)) :: (g1, .cells (frcC s1 n1 d1) 34 (0, 0)) :: ((T4 ++ T6) ++ T10)) T13 from J13)
      refine wpV_c (i := 12) (AnsG w ((g2, .cells (frcC s2 n2 d2) 34 (0, 0)) :: (g1, .cells (frcC s1 n1 d1) 34 (0, 0)) :: (((T4 ++ T6) ++ T10) ++ T13)) (cd d1)) rfl rfl (by kernel_rfl) (by kernel_rfl) (fun _ => (by kernel_rfl)) (fun W hW => (rdigits_any d1 hd1 W).mono fun e w2 h => Ans.g h hW) (fun _ _ h => ansG_sub h) (fun _ => by simp only [List.setIfInBounds_toArray, List.set_cons_succ, List.set_cons_zero] <;> rfl) ?_
      rintro v15 _ ⟨q15, d15, T15, rfl, C15, H15, F15, J15, rfl⟩
      obtain ⟨dj16_0, dj16_1, dj16_2, dj16_3, dj16_4, dj16_5⟩ : Dk g2 T15 ∧ Dk g1 T15 ∧ Dj T4 T15 ∧ Dj T6 T15 ∧ Dj T10 T15 ∧ Dj T13 T15 := by simpa only [dj_app_l, dj_app_r, dj_cons_l, dj_cons_r, dj_nil_l, dj_nil_r, dk_app, dk_cons, dk_nil, and_true, true_and, and_assoc] using (show Dj ((g2, .cells (frcC s2 n2 d2) 34 (0, 0)) :: (g1, .cells (frcC s1 n1 d1) 34 (0, 0)) :: (((T4 ++ T6) ++ T10) ++ T13)) T15 from J15)
      have ln17 : (cd n2).length ≤ 16 := cd_16 hn2
      have ln18 : (cd d1).length ≤ 16 := cd_16 hd1
      refine wpV_c (i := 13) (AnsG w ((g2, .cells (frcC s2 n2 d2) 34 (0, 0)) :: (g1, .cells (frcC s1 n1 d1) 34 (0, 0)) :: ((((T4 ++ T6) ++ T10) ++ T13) ++ T15)) (cd (n2 * d1))) rfl rfl (by kernel_rfl) (by kernel_rfl) (fun _ => (by kernel_rfl)) (fun W hW => (rmul_any n2 d1 q13 q15 d13 d15 (by omega) (by omega) W ((H13.mono (fun q hq => by first | exact hq | (simp only [List.mem_cons, List.mem_append, List.nil_append, List.not_mem_nil, or_assoc, or_false, false_or] at hq ⊢ <;> grind))) W hW) ((H15.mono (fun q hq => by first | exact hq | (simp only [List.mem_cons, List.mem_append, List.nil_append, List.not_mem_nil, or_assoc, or_false, false_or] at hq ⊢ <;> grind))) W hW)).mono fun e w2 h => Ans.g h hW) (fun _ _ h => ansG_sub h) (fun _ => by simp only [List.setIfInBounds_toArray, List.set_cons_succ, List.set_cons_zero] <;> rfl) ?_
      rintro v19 _ ⟨q19, d19, T19, rfl, C19, H19, F19, J19, rfl⟩
      obtain ⟨dj20_0, dj20_1, dj20_2, dj20_3, dj20_4, dj20_5, dj20_6⟩ : Dk g2 T19 ∧ Dk g1 T19 ∧ Dj T4 T19 ∧ Dj T6 T19 ∧ Dj T10 T19 ∧ Dj T13 T19 ∧ Dj T15 T19 := by simpa only [dj_app_l, dj_app_r, dj_cons_l, dj_cons_r, dj_nil_l, dj_nil_r, dk_app, dk_cons, dk_nil, and_true, true_and, and_assoc] using (show Dj ((g2, .cells (frcC s2 n2 d2) 34 (0, 0)) :: (g1, .cells (frcC s1 n1 d1) 34 (0, 0)) :: ((((T4 ++ T6) ++ T10) ++ T13) ++ T15)) T19 from J19)
      have ln21 : (cd (n2 * d1)).length ≤ 32 := Nat.le_trans (cd_mul_len n2 d1) (by have := cd_16 hn2; have := cd_16 hd1; omega)
      refine vm (i := 14) (v := .slice q10 ((cd (n1 * d2)).length) d10) rfl rfl rfl ?_
      refine vm (i := 15) (v := .slice q19 ((cd (n2 * d1)).length) d19) rfl rfl rfl ?_
      refine wpV_done (by kernel_rfl) (fun W6 hW6 => ?_) _
      refine (show Code.wp _ _ _ _ _ from ?_)
      refine wp_seq ?_
      refine wp_seq ?_
      refine wp_region_L (W0 := w) ((g2, .cells (frcC s2 n2 d2) 34 (0, 0)) :: (g1, .cells (frcC s1 n1 d1) 34 (0, 0)) :: (((((T4 ++ T6) ++ T10) ++ T13) ++ T15) ++ T19)) (hW6) ?_
      refine Tw.lm (v := .pointer (some ⟨g1, 0, none⟩)) rfl rfl ?_
      obtain ⟨qs1, hqs1⟩ : ∃ b, b = s1 := ⟨_, rfl⟩
      refine Tw.lv (v := .bool qs1) rfl rfl (yb_cell (off := 0) rfl (by kernel_rfl) (.tail _ (.head _)) Tryz.underlying4 rfl (frc_negq hqs1)) ?_
      refine Tw.lm (v := .bool qs1) rfl rfl ?_
      cases h3 : qs1 with
      | false =>
        refine Tw.ln rfl ?_
        refine Tw.ln rfl ?_
        refine Tw.ln rfl ?_
        refine Tw.lm (v := .bool false) rfl rfl ?_
        refine wpL_done (fun W7 hW7 => ?_)
        refine (show Code.wp _ _ _ _ _ from ?_)
        refine wp_cond_false rfl ?_
        refine wp_skip ?_
        refine (show Code.wp _ _ _ _ _ from ?_)
        refine wp_seq ?_
        refine wp_seq ?_
        refine wp_region_L (W0 := w) ((g2, .cells (frcC s2 n2 d2) 34 (0, 0)) :: (g1, .cells (frcC s1 n1 d1) 34 (0, 0)) :: (((((T4 ++ T6) ++ T10) ++ T13) ++ T15) ++ T19)) (hW7) ?_
        refine Tw.lm (v := .pointer (some ⟨g2, 0, none⟩)) rfl rfl ?_
        obtain ⟨qs2, hqs2⟩ : ∃ b, b = s2 := ⟨_, rfl⟩
        refine Tw.lv (v := .bool qs2) rfl rfl (yb_cell (off := 0) rfl (by kernel_rfl) (.head _) Tryz.underlying4 rfl (frc_negq hqs2)) ?_
        refine Tw.lm (v := .bool qs2) rfl rfl ?_
        cases h4 : qs2 with
        | false =>
          refine Tw.ln rfl ?_
          refine Tw.ln rfl ?_
          refine Tw.ln rfl ?_
          refine Tw.lm (v := .bool false) rfl rfl ?_
          refine wpL_done (fun W8 hW8 => ?_)
          refine (show Code.wp _ _ _ _ _ from ?_)
          refine wp_cond_false rfl ?_
          refine wp_skip ?_
          refine (show Code.wp _ _ _ _ _ from ?_)
          refine wp_seq ?_
          refine wp_seq ?_
          refine wp_region_L (W0 := w) ((g2, .cells (frcC s2 n2 d2) 34 (0, 0)) :: (g1, .cells (frcC s1 n1 d1) 34 (0, 0)) :: (((((T4 ++ T6) ++ T10) ++ T13) ++ T15) ++ T19)) (hW8) ?_
          refine Tw.lm (v := .pointer (some ⟨g1, 0, none⟩)) rfl rfl ?_
          refine Tw.lv (v := .bool false) rfl rfl (yb_cell (off := 0) rfl (by kernel_rfl) (.tail _ (.head _)) Tryz.underlying4 rfl (frc_negq (h3.symm.trans hqs1))) ?_
          refine wpL_done (fun W9 hW9 => ?_)
          refine (show Code.wp _ _ _ _ _ from ?_)
          refine wp_cond_false rfl ?_
          refine wp_skip ?_
          refine (show Code.wp _ _ _ _ _ from ?_)
          refine wp_seq ?_
          refine wp_seq ?_
          refine wp_region_L (W0 := w) ((g2, .cells (frcC s2 n2 d2) 34 (0, 0)) :: (g1, .cells (frcC s1 n1 d1) 34 (0, 0)) :: (((((T4 ++ T6) ++ T10) ++ T13) ++ T15) ++ T19)) (hW9) ?_
          refine Tw.lm (v := .slice q10 ((cd (n1 * d2)).length) d10) rfl rfl ?_
          refine Tw.lm (v := .slice q19 ((cd (n2 * d1)).length) d19) rfl rfl ?_
          refine Tw.lv (v := .bool (decide ((n1 * d2) < (n2 * d1)))) rfl rfl (yb_call (f := 47) (args := #[.slice q10 ((cd (n1 * d2)).length) d10, .slice q19 ((cd (n2 * d1)).length) d19]) (fun _ => by kernel_rfl) fun W hW => less_any (n1 * d2) (n2 * d1) q10 q19 d10 d19 (by omega) W ((H10.mono (fun q hq => by first | exact hq | (simp only [List.mem_cons, List.mem_append, List.nil_append, List.not_mem_nil, or_assoc, or_false, false_or] at hq ⊢ <;> grind))) W hW) ((H19.mono (fun q hq => by first | exact hq | (simp only [List.mem_cons, List.mem_append, List.nil_append, List.not_mem_nil, or_assoc, or_false, false_or] at hq ⊢ <;> grind))) W hW)) ?_
          refine wpL_done (fun W10 hW10 => ?_)
          refine (show Code.wp _ _ _ _ _ from ?_)
          cases hd5 : (decide ((n1 * d2) < (n2 * d1))) with
          | false =>
            have h5 : ¬ ((n1 * d2) < (n2 * d1)) := of_decide_eq_false hd5
            clear hd5
            refine wp_cond_false rfl ?_
            refine wp_skip ?_
            refine (show Code.wp _ _ _ _ _ from ?_)
            refine wp_seq ?_
            refine wp_seq ?_
            refine wp_region_L (W0 := w) ((g2, .cells (frcC s2 n2 d2) 34 (0, 0)) :: (g1, .cells (frcC s1 n1 d1) 34 (0, 0)) :: (((((T4 ++ T6) ++ T10) ++ T13) ++ T15) ++ T19)) (hW10) ?_
            refine Tw.lm (v := .slice q19 ((cd (n2 * d1)).length) d19) rfl rfl ?_
            refine Tw.lm (v := .slice q10 ((cd (n1 * d2)).length) d10) rfl rfl ?_
            refine Tw.lv (v := .bool (decide ((n2 * d1) < (n1 * d2)))) rfl rfl (yb_call (f := 47) (args := #[.slice q19 ((cd (n2 * d1)).length) d19, .slice q10 ((cd (n1 * d2)).length) d10]) (fun _ => by kernel_rfl) fun W hW => less_any (n2 * d1) (n1 * d2) q19 q10 d19 d10 (by omega) W ((H19.mono (fun q hq => by first | exact hq | (simp only [List.mem_cons, List.mem_append, List.nil_append, List.not_mem_nil, or_assoc, or_false, false_or] at hq ⊢ <;> grind))) W hW) ((H10.mono (fun q hq => by first | exact hq | (simp only [List.mem_cons, List.mem_append, List.nil_append, List.not_mem_nil, or_assoc, or_false, false_or] at hq ⊢ <;> grind))) W hW)) ?_
            refine wpL_done (fun W11 hW11 => ?_)
            refine (show Code.wp _ _ _ _ _ from ?_)
            cases hd6 : (decide ((n2 * d1) < (n1 * d2))) with
            | false =>
              have h6 : ¬ ((n2 * d1) < (n1 * d2)) := of_decide_eq_false hd6
              clear hd6
              refine wp_cond_false rfl ?_
              refine wp_skip ?_
              refine (show Code.wp _ _ _ _ _ from ?_)
              refine wp_seq ?_
              refine wp_region_L (W0 := w) ((g2, .cells (frcC s2 n2 d2) 34 (0, 0)) :: (g1, .cells (frcC s1 n1 d1) 34 (0, 0)) :: (((((T4 ++ T6) ++ T10) ++ T13) ++ T15) ++ T19)) (hW11) ?_
              refine Tw.lm (v := .int .i64 0) rfl rfl ?_
              refine Tw.lm (v := .int .i64 0) rfl rfl ?_
              refine wpL_done (fun W12 hW12 => ?_)
              refine (show Code.wp _ _ _ _ _ from ?_)
              refine wp_ret ?_
              try simp only [inBlock_ret, then_ret]
              refine bodyPost_ret (v := .tuple #[.int .i64 0, .int .i64 0]) ?_ rfl ?_
              · kernel_rfl
              · exact ⟨(ret_v (by have e1 : s1 = false := hqs1.symm.trans h3; have e2 : s2 = false := hqs2.symm.trans h4; subst e1 e2; rw [hV, if_pos ⟨h1, h2⟩, (cmp_eq h1 h2 h5 h6)] <;> rfl)), hW12.1⟩
            | true =>
              have h6 : (n2 * d1) < (n1 * d2) := of_decide_eq_true hd6
              clear hd6
              refine wp_cond_true rfl ?_
              refine wp_seq ?_
              refine wp_region_L (W0 := w) ((g2, .cells (frcC s2 n2 d2) 34 (0, 0)) :: (g1, .cells (frcC s1 n1 d1) 34 (0, 0)) :: (((((T4 ++ T6) ++ T10) ++ T13) ++ T15) ++ T19)) (hW11) ?_
              refine Tw.lm (v := .int .i64 1) rfl rfl ?_
              refine Tw.lm (v := .int .i64 0) rfl rfl ?_
              refine wpL_done (fun W13 hW13 => ?_)
              refine (show Code.wp _ _ _ _ _ from ?_)
              refine wp_ret ?_
              try simp only [inBlock_ret, then_ret]
              refine bodyPost_ret (v := .tuple #[.int .i64 1, .int .i64 0]) ?_ rfl ?_
              · kernel_rfl
              · exact ⟨(ret_v (by have e1 : s1 = false := hqs1.symm.trans h3; have e2 : s2 = false := hqs2.symm.trans h4; subst e1 e2; rw [hV, if_pos ⟨h1, h2⟩, (cmp_gt h6)] <;> rfl)), hW13.1⟩
          | true =>
            have h5 : (n1 * d2) < (n2 * d1) := of_decide_eq_true hd5
            clear hd5
            refine wp_cond_true rfl ?_
            refine wp_seq ?_
            refine wp_region_L (W0 := w) ((g2, .cells (frcC s2 n2 d2) 34 (0, 0)) :: (g1, .cells (frcC s1 n1 d1) 34 (0, 0)) :: (((((T4 ++ T6) ++ T10) ++ T13) ++ T15) ++ T19)) (hW10) ?_
            refine Tw.lm (v := .int .i64 (-1)) rfl rfl ?_
            refine Tw.lm (v := .int .i64 0) rfl rfl ?_
            refine wpL_done (fun W14 hW14 => ?_)
            refine (show Code.wp _ _ _ _ _ from ?_)
            refine wp_ret ?_
            try simp only [inBlock_ret, then_ret]
            refine bodyPost_ret (v := .tuple #[.int .i64 (-1), .int .i64 0]) ?_ rfl ?_
            · kernel_rfl
            · exact ⟨(ret_v (by have e1 : s1 = false := hqs1.symm.trans h3; have e2 : s2 = false := hqs2.symm.trans h4; subst e1 e2; rw [hV, if_pos ⟨h1, h2⟩, (cmp_lt h5)] <;> rfl)), hW14.1⟩
        | true =>
          refine Tw.lm (v := .pointer (some ⟨g1, 0, none⟩)) rfl rfl ?_
          refine Tw.lv (v := .bool false) rfl rfl (yb_cell (off := 0) rfl (by kernel_rfl) (.tail _ (.head _)) Tryz.underlying4 rfl (frc_negq (h3.symm.trans hqs1))) ?_
          refine Tw.lm (v := .bool true) rfl rfl ?_
          refine Tw.lm (v := .bool true) rfl rfl ?_
          refine wpL_done (fun W15 hW15 => ?_)
          refine (show Code.wp _ _ _ _ _ from ?_)
          refine wp_cond_true rfl ?_
          refine wp_seq ?_
          refine wp_region_L (W0 := w) ((g2, .cells (frcC s2 n2 d2) 34 (0, 0)) :: (g1, .cells (frcC s1 n1 d1) 34 (0, 0)) :: (((((T4 ++ T6) ++ T10) ++ T13) ++ T15) ++ T19)) (hW15) ?_
          refine Tw.lm (v := .int .i64 1) rfl rfl ?_
          refine Tw.lm (v := .int .i64 0) rfl rfl ?_
          refine wpL_done (fun W16 hW16 => ?_)
          refine (show Code.wp _ _ _ _ _ from ?_)
          refine wp_ret ?_
          try simp only [inBlock_ret, then_ret]
          refine bodyPost_ret (v := .tuple #[.int .i64 1, .int .i64 0]) ?_ rfl ?_
          · kernel_rfl
          · exact ⟨(ret_v (by have e1 : s1 = false := hqs1.symm.trans h3; have e2 : s2 = true := hqs2.symm.trans h4; subst e1 e2; rw [hV, if_pos ⟨h1, h2⟩, cmp_pn] <;> rfl)), hW16.1⟩
      | true =>
        refine Tw.lm (v := .pointer (some ⟨g2, 0, none⟩)) rfl rfl ?_
        obtain ⟨qs2, hqs2⟩ : ∃ b, b = s2 := ⟨_, rfl⟩
        refine Tw.lv (v := .bool qs2) rfl rfl (yb_cell (off := 0) rfl (by kernel_rfl) (.head _) Tryz.underlying4 rfl (frc_negq hqs2)) ?_
        refine Tw.lp (v := .bool (!qs2)) rfl rfl (run_un rfl (by kernel_rfl) fun w => un_not w) ?_
        refine Tw.lm (v := .bool (!qs2)) rfl rfl ?_
        refine wpL_done (fun W17 hW17 => ?_)
        refine (show Code.wp _ _ _ _ _ from ?_)
        cases h7 : qs2 with
        | false =>
          refine wp_cond_true rfl ?_
          refine wp_seq ?_
          refine wp_region_L (W0 := w) ((g2, .cells (frcC s2 n2 d2) 34 (0, 0)) :: (g1, .cells (frcC s1 n1 d1) 34 (0, 0)) :: (((((T4 ++ T6) ++ T10) ++ T13) ++ T15) ++ T19)) (hW17) ?_
          refine Tw.lm (v := .int .i64 (-1)) rfl rfl ?_
          refine Tw.lm (v := .int .i64 0) rfl rfl ?_
          refine wpL_done (fun W18 hW18 => ?_)
          refine (show Code.wp _ _ _ _ _ from ?_)
          refine wp_ret ?_
          try simp only [inBlock_ret, then_ret]
          refine bodyPost_ret (v := .tuple #[.int .i64 (-1), .int .i64 0]) ?_ rfl ?_
          · kernel_rfl
          · exact ⟨(ret_v (by have e1 : s1 = true := hqs1.symm.trans h3; have e2 : s2 = false := hqs2.symm.trans h7; subst e1 e2; rw [hV, if_pos ⟨h1, h2⟩, cmp_np] <;> rfl)), hW18.1⟩
        | true =>
          refine wp_cond_false rfl ?_
          refine wp_skip ?_
          refine (show Code.wp _ _ _ _ _ from ?_)
          refine wp_seq ?_
          refine wp_seq ?_
          refine wp_region_L (W0 := w) ((g2, .cells (frcC s2 n2 d2) 34 (0, 0)) :: (g1, .cells (frcC s1 n1 d1) 34 (0, 0)) :: (((((T4 ++ T6) ++ T10) ++ T13) ++ T15) ++ T19)) (hW17) ?_
          refine Tw.lm (v := .pointer (some ⟨g2, 0, none⟩)) rfl rfl ?_
          refine Tw.lv (v := .bool true) rfl rfl (yb_cell (off := 0) rfl (by kernel_rfl) (.head _) Tryz.underlying4 rfl (frc_negq (h7.symm.trans hqs2))) ?_
          refine Tw.lm (v := .bool true) rfl rfl ?_
          refine Tw.lm (v := .pointer (some ⟨g1, 0, none⟩)) rfl rfl ?_
          refine Tw.lv (v := .bool true) rfl rfl (yb_cell (off := 0) rfl (by kernel_rfl) (.tail _ (.head _)) Tryz.underlying4 rfl (frc_negq (h3.symm.trans hqs1))) ?_
          refine Tw.lm (v := .bool false) rfl rfl ?_
          refine Tw.lm (v := .bool false) rfl rfl ?_
          refine wpL_done (fun W19 hW19 => ?_)
          refine (show Code.wp _ _ _ _ _ from ?_)
          refine wp_cond_false rfl ?_
          refine wp_skip ?_
          refine (show Code.wp _ _ _ _ _ from ?_)
          refine wp_seq ?_
          refine wp_seq ?_
          refine wp_region_L (W0 := w) ((g2, .cells (frcC s2 n2 d2) 34 (0, 0)) :: (g1, .cells (frcC s1 n1 d1) 34 (0, 0)) :: (((((T4 ++ T6) ++ T10) ++ T13) ++ T15) ++ T19)) (hW19) ?_
          refine Tw.lm (v := .pointer (some ⟨g1, 0, none⟩)) rfl rfl ?_
          refine Tw.lv (v := .bool true) rfl rfl (yb_cell (off := 0) rfl (by kernel_rfl) (.tail _ (.head _)) Tryz.underlying4 rfl (frc_negq (h3.symm.trans hqs1))) ?_
          refine wpL_done (fun W20 hW20 => ?_)
          refine (show Code.wp _ _ _ _ _ from ?_)
          refine wp_cond_true rfl ?_
          refine wp_region_L (W0 := w) ((g2, .cells (frcC s2 n2 d2) 34 (0, 0)) :: (g1, .cells (frcC s1 n1 d1) 34 (0, 0)) :: (((((T4 ++ T6) ++ T10) ++ T13) ++ T15) ++ T19)) (hW20) ?_
          refine Tw.lm (v := .slice q19 ((cd (n2 * d1)).length) d19) rfl rfl ?_
          refine Tw.lm (v := .slice q10 ((cd (n1 * d2)).length) d10) rfl rfl ?_
          refine Tw.lm (v := .slice q19 ((cd (n2 * d1)).length) d19) rfl rfl ?_
          refine Tw.lm (v := .slice q10 ((cd (n1 * d2)).length) d10) rfl rfl ?_
          refine wpL_done (fun W21 hW21 => ?_)
          refine (show Code.wp _ _ _ _ _ from ?_)
          refine wp_seq ?_
          refine wp_seq ?_
          refine wp_region_L (W0 := w) ((g2, .cells (frcC s2 n2 d2) 34 (0, 0)) :: (g1, .cells (frcC s1 n1 d1) 34 (0, 0)) :: (((((T4 ++ T6) ++ T10) ++ T13) ++ T15) ++ T19)) (hW21) ?_
          refine Tw.lm (v := .slice q19 ((cd (n2 * d1)).length) d19) rfl rfl ?_
          refine Tw.lm (v := .slice q10 ((cd (n1 * d2)).length) d10) rfl rfl ?_
          refine Tw.lv (v := .bool (decide ((n2 * d1) < (n1 * d2)))) rfl rfl (yb_call (f := 47) (args := #[.slice q19 ((cd (n2 * d1)).length) d19, .slice q10 ((cd (n1 * d2)).length) d10]) (fun _ => by kernel_rfl) fun W hW => less_any (n2 * d1) (n1 * d2) q19 q10 d19 d10 (by omega) W ((H19.mono (fun q hq => by first | exact hq | (simp only [List.mem_cons, List.mem_append, List.nil_append, List.not_mem_nil, or_assoc, or_false, false_or] at hq ⊢ <;> grind))) W hW) ((H10.mono (fun q hq => by first | exact hq | (simp only [List.mem_cons, List.mem_append, List.nil_append, List.not_mem_nil, or_assoc, or_false, false_or] at hq ⊢ <;> grind))) W hW)) ?_
          refine wpL_done (fun W22 hW22 => ?_)
          refine (show Code.wp _ _ _ _ _ from ?_)
          cases hd8 : (decide ((n2 * d1) < (n1 * d2))) with
          | false =>
            have h8 : ¬ ((n2 * d1) < (n1 * d2)) := of_decide_eq_false hd8
            clear hd8
            refine wp_cond_false rfl ?_
            refine wp_skip ?_
            refine (show Code.wp _ _ _ _ _ from ?_)
            refine wp_seq ?_
            refine wp_seq ?_
            refine wp_region_L (W0 := w) ((g2, .cells (frcC s2 n2 d2) 34 (0, 0)) :: (g1, .cells (frcC s1 n1 d1) 34 (0, 0)) :: (((((T4 ++ T6) ++ T10) ++ T13) ++ T15) ++ T19)) (hW22) ?_
            refine Tw.lm (v := .slice q10 ((cd (n1 * d2)).length) d10) rfl rfl ?_
            refine Tw.lm (v := .slice q19 ((cd (n2 * d1)).length) d19) rfl rfl ?_
            refine Tw.lv (v := .bool (decide ((n1 * d2) < (n2 * d1)))) rfl rfl (yb_call (f := 47) (args := #[.slice q10 ((cd (n1 * d2)).length) d10, .slice q19 ((cd (n2 * d1)).length) d19]) (fun _ => by kernel_rfl) fun W hW => less_any (n1 * d2) (n2 * d1) q10 q19 d10 d19 (by omega) W ((H10.mono (fun q hq => by first | exact hq | (simp only [List.mem_cons, List.mem_append, List.nil_append, List.not_mem_nil, or_assoc, or_false, false_or] at hq ⊢ <;> grind))) W hW) ((H19.mono (fun q hq => by first | exact hq | (simp only [List.mem_cons, List.mem_append, List.nil_append, List.not_mem_nil, or_assoc, or_false, false_or] at hq ⊢ <;> grind))) W hW)) ?_
            refine wpL_done (fun W23 hW23 => ?_)
            refine (show Code.wp _ _ _ _ _ from ?_)
            cases hd9 : (decide ((n1 * d2) < (n2 * d1))) with
            | false =>
              have h9 : ¬ ((n1 * d2) < (n2 * d1)) := of_decide_eq_false hd9
              clear hd9
              refine wp_cond_false rfl ?_
              refine wp_skip ?_
              refine (show Code.wp _ _ _ _ _ from ?_)
              refine wp_seq ?_
              refine wp_region_L (W0 := w) ((g2, .cells (frcC s2 n2 d2) 34 (0, 0)) :: (g1, .cells (frcC s1 n1 d1) 34 (0, 0)) :: (((((T4 ++ T6) ++ T10) ++ T13) ++ T15) ++ T19)) (hW23) ?_
              refine Tw.lm (v := .int .i64 0) rfl rfl ?_
              refine Tw.lm (v := .int .i64 0) rfl rfl ?_
              refine wpL_done (fun W24 hW24 => ?_)
              refine (show Code.wp _ _ _ _ _ from ?_)
              refine wp_ret ?_
              try simp only [inBlock_ret, then_ret]
              refine bodyPost_ret (v := .tuple #[.int .i64 0, .int .i64 0]) ?_ rfl ?_
              · kernel_rfl
              · exact ⟨(ret_v (by have e1 : s1 = true := hqs1.symm.trans h3; have e2 : s2 = true := hqs2.symm.trans h7; subst e1 e2; rw [hV, if_pos ⟨h1, h2⟩, (cmp_eq h1 h2 h9 h8)] <;> rfl)), hW24.1⟩
            | true =>
              have h9 : (n1 * d2) < (n2 * d1) := of_decide_eq_true hd9
              clear hd9
              refine wp_cond_true rfl ?_
              refine wp_seq ?_
              refine wp_region_L (W0 := w) ((g2, .cells (frcC s2 n2 d2) 34 (0, 0)) :: (g1, .cells (frcC s1 n1 d1) 34 (0, 0)) :: (((((T4 ++ T6) ++ T10) ++ T13) ++ T15) ++ T19)) (hW23) ?_
              refine Tw.lm (v := .int .i64 1) rfl rfl ?_
              refine Tw.lm (v := .int .i64 0) rfl rfl ?_
              refine wpL_done (fun W25 hW25 => ?_)
              refine (show Code.wp _ _ _ _ _ from ?_)
              refine wp_ret ?_
              try simp only [inBlock_ret, then_ret]
              refine bodyPost_ret (v := .tuple #[.int .i64 1, .int .i64 0]) ?_ rfl ?_
              · kernel_rfl
              · exact ⟨(ret_v (by have e1 : s1 = true := hqs1.symm.trans h3; have e2 : s2 = true := hqs2.symm.trans h7; subst e1 e2; rw [hV, if_pos ⟨h1, h2⟩, (cmp_lt h9)] <;> rfl)), hW25.1⟩
          | true =>
            have h8 : (n2 * d1) < (n1 * d2) := of_decide_eq_true hd8
            clear hd8
            refine wp_cond_true rfl ?_
            refine wp_seq ?_
            refine wp_region_L (W0 := w) ((g2, .cells (frcC s2 n2 d2) 34 (0, 0)) :: (g1, .cells (frcC s1 n1 d1) 34 (0, 0)) :: (((((T4 ++ T6) ++ T10) ++ T13) ++ T15) ++ T19)) (hW22) ?_
            refine Tw.lm (v := .int .i64 (-1)) rfl rfl ?_
            refine Tw.lm (v := .int .i64 0) rfl rfl ?_
            refine wpL_done (fun W26 hW26 => ?_)
            refine (show Code.wp _ _ _ _ _ from ?_)
            refine wp_ret ?_
            try simp only [inBlock_ret, then_ret]
            refine bodyPost_ret (v := .tuple #[.int .i64 (-1), .int .i64 0]) ?_ rfl ?_
            · kernel_rfl
            · exact ⟨(ret_v (by have e1 : s1 = true := hqs1.symm.trans h3; have e2 : s2 = true := hqs2.symm.trans h7; subst e1 e2; rw [hV, if_pos ⟨h1, h2⟩, (cmp_gt h8)] <;> rfl)), hW26.1⟩
end Go.Proofs.YtalmflgkbmnghaaGreatDoor
namespace Go.Proofs.YtalmflgkbmnghaaGreatDoor
open Go.RowKit Tf
variable [ShLZ]
set_option maxRecDepth 100000 in
set_option maxHeartbeats 2000000 in
theorem Cmp_walk (s1 s2 S : Bool) (n1 d1 n2 d2 u v N : Nat) (hn1 : n1 < R 8) (hd1 : d1 < R 8) (hn2 : n2 < R 8) (hd2 : d2 < R 8) (r1 r2 : Bool) (RV : Value)
    (HR1 : Hid (∀ W, Calls Tryz.prog 17 #[.agg (frcC s1 n1 d1)] W fun e w' => e = .returned (.bool r1) ∧ Below W.heap.size W w'))
    (HR2 : Hid (∀ W, Calls Tryz.prog 17 #[.agg (frcC s2 n2 d2)] W fun e w' => e = .returned (.bool r2) ∧ Below W.heap.size W w'))
    (Cu : Hid (∀ W, Calls Tryz.prog 55 #[num n1, num d2] W fun e w' => e = .returned (wid u) ∧ Below W.heap.size W w'))
    (Cv : Hid (∀ W, Calls Tryz.prog 55 #[num n2, num d1] W fun e w' => e = .returned (wid v) ∧ Below W.heap.size W w'))
    (Cps : Hid (∀ W, Calls Tryz.prog 54 #[.bool s1, wid u, .bool (!s2), wid v] W fun e w' => e = .returned (.tuple #[.bool S, wid N]) ∧ Below W.heap.size W w'))
    (HV1 : Hid (¬ (r1 = true ∧ r2 = true) → RV = .tuple #[.int .i64 0, .int .i64 2])) (HV2 : Hid (r1 = true → r2 = true → (s1 = s2 ∧ n1 = n2 ∧ d1 = d2) → RV = .tuple #[.int .i64 0, .int .i64 0]))
    (HV3 : Hid (r1 = true → r2 = true → ¬ (s1 = s2 ∧ n1 = n2 ∧ d1 = d2) → RV = .tuple #[.int .i64 (if S = true then -1 else 1), .int .i64 0])) (w : World) :
    Calls Tryz.prog 26 #[frc s1 n1 d1, frc s2 n2 d2] w fun e w' => e = .returned RV ∧ Below w.heap.size w w' := by
  unfold frc
  go_enter Tryz.func26, Tryz.ntmps26
  go_upto_region 1 with (fail)
  have hK := KS.two w (.cells (frcC s1 n1 d1) 25) (.cells (frcC s2 n2 d2) 25)
  obtain ⟨W, hW⟩ : ∃ W, W = (w.alloc (.cells (frcC s1 n1 d1) 25)).alloc (.cells (frcC s2 n2 d2) 25) := ⟨_, rfl⟩
  rw [← hW] at hK
  rw [← hW]
  clear hW
  have HK := Lib.hid hK
  clear hK
  by_cases hr1 : r1 = false
  · subst hr1
    have HV := Lib.hid (HV1.out (by simp))
    clear HV1 HV2 HV3
    go_wp2_with (first
      | (refine wpList_ldf rfl rfl rfl (HK.out.2 _ (.head _)) Tryz.underlying25 rfl size27 ?_)
      | (refine wpList_guard rfl ?_; refine wpList_ldf rfl rfl rfl (HK1.out.2 _ (.tail _ (.head _))) Tryz.underlying25 rfl size27 ?_)
      | ((go_at_call 17); (with_reducible refine (HR1.out _).mono ?_); rintro e w1 ⟨rfl, hb1⟩; have HK1 := Lib.hid (HK.out.below hb1); clear hb1)
      | ((go_at_call 17); (with_reducible refine (HR2.out _).mono ?_); rintro e w2 ⟨rfl, hb1⟩; have HK2 := Lib.hid (HK1.out.below hb1); clear hb1)
      | (refine wpList_ldf rfl rfl rfl (HK2.out.2 _ (.head _)) Tryz.underlying25 rfl size27 ?_)
      | (refine wpList_ldf rfl rfl rfl (HK2.out.2 _ (.tail _ (.head _))) Tryz.underlying25 rfl size27 ?_))
    exact bodyPost_ret (res_tmp_tmp rfl) rfl ⟨by rw [HV.out]; rfl, HK1.out.1⟩
  by_cases hr2 : r2 = false
  · have hr1' : r1 = true := by simpa using hr1
    subst hr1' hr2
    have HV := Lib.hid (HV1.out (by simp))
    clear HV1 HV2 HV3 hr1
    go_wp2_with (first
      | (refine wpList_ldf rfl rfl rfl (HK.out.2 _ (.head _)) Tryz.underlying25 rfl size27 ?_)
      | (refine wpList_guard rfl ?_; refine wpList_ldf rfl rfl rfl (HK1.out.2 _ (.tail _ (.head _))) Tryz.underlying25 rfl size27 ?_)
      | ((go_at_call 17); (with_reducible refine (HR1.out _).mono ?_); rintro e w1 ⟨rfl, hb1⟩; have HK1 := Lib.hid (HK.out.below hb1); clear hb1)
      | ((go_at_call 17); (with_reducible refine (HR2.out _).mono ?_); rintro e w2 ⟨rfl, hb1⟩; have HK2 := Lib.hid (HK1.out.below hb1); clear hb1)
      | (refine wpList_ldf rfl rfl rfl (HK2.out.2 _ (.head _)) Tryz.underlying25 rfl size27 ?_)
      | (refine wpList_ldf rfl rfl rfl (HK2.out.2 _ (.tail _ (.head _))) Tryz.underlying25 rfl size27 ?_))
    exact bodyPost_ret (res_tmp_tmp rfl) rfl ⟨by rw [HV.out]; rfl, HK2.out.1⟩
  have hr1' : r1 = true := by simpa using hr1
  have hr2' : r2 = true := by simpa using hr2
  subst hr1' hr2'
  clear hr1 hr2
  by_cases he : s1 = s2 ∧ n1 = n2 ∧ d1 = d2
  · have HV := Lib.hid (HV2.out rfl rfl he)
    clear HV1 HV2 HV3
    have hde : decide (s1 = s2 ∧ n1 = n2 ∧ d1 = d2) = true := decide_eq_true he
    obtain ⟨rfl, rfl, rfl⟩ := he
    clear hde
    go_wp2_with (first
      | (refine wpList_ldf rfl rfl rfl (HK.out.2 _ (.head _)) Tryz.underlying25 rfl size27 ?_)
      | (refine wpList_guard rfl ?_; refine wpList_ldf rfl rfl rfl (HK1.out.2 _ (.tail _ (.head _))) Tryz.underlying25 rfl size27 ?_)
      | ((go_at_call 17); (with_reducible refine (HR1.out _).mono ?_); rintro e w1 ⟨rfl, hb1⟩; have HK1 := Lib.hid (HK.out.below hb1); clear hb1)
      | ((go_at_call 17); (with_reducible refine (HR2.out _).mono ?_); rintro e w2 ⟨rfl, hb1⟩; have HK2 := Lib.hid (HK1.out.below hb1); clear hb1)
      | (refine wpList_ldf rfl rfl rfl (HK2.out.2 _ (.head _)) Tryz.underlying25 rfl size27 ?_)
      | (refine wpList_ldf rfl rfl rfl (HK2.out.2 _ (.tail _ (.head _))) Tryz.underlying25 rfl size27 ?_))
    exact bodyPost_ret (res_tmp_tmp rfl) rfl ⟨by rw [HV.out]; rfl, HK2.out.1⟩
  · have HV := Lib.hid (HV3.out rfl rfl he)
    clear HV1 HV2 HV3
    go_wp2_with (first
      | (refine wpList_ldf rfl rfl rfl (HK.out.2 _ (.head _)) Tryz.underlying25 rfl size27 ?_)
      | (refine wpList_guard rfl ?_; refine wpList_ldf rfl rfl rfl (HK1.out.2 _ (.tail _ (.head _))) Tryz.underlying25 rfl size27 ?_)
      | ((go_at_call 17); (with_reducible refine (HR1.out _).mono ?_); rintro e w1 ⟨rfl, hb1⟩; have HK1 := Lib.hid (HK.out.below hb1); clear hb1)
      | ((go_at_call 17); (with_reducible refine (HR2.out _).mono ?_); rintro e w2 ⟨rfl, hb1⟩; have HK2 := Lib.hid (HK1.out.below hb1); clear hb1)
      | (refine wpList_ldf rfl rfl rfl (HK2.out.2 _ (.head _)) Tryz.underlying25 rfl size27 ?_)
      | (refine wpList_ldf rfl rfl rfl (HK2.out.2 _ (.tail _ (.head _))) Tryz.underlying25 rfl size27 ?_))
    refine wp_region_U (W0 := w) [(w.heap.size, .cells (frcC (s1) (n1) (d1)) 25 (0, 0)), (w.heap.size + 1, .cells (frcC (s2) (n2) (d2)) 25 (0, 0))] (by kernel_rfl) (HK2.out) ?_
    refine wpU_pY (i := 0) (v := .pointer (some ⟨w.heap.size, 0, none⟩)) rfl rfl (by kernel_rfl) (by kernel_rfl) rfl (fun _ => by kernel_rfl) (by simp only [List.setIfInBounds_toArray, List.set_cons_succ, List.set_cons_zero] <;> rfl) ?_
    refine wpU_vY (i := 1) (v := .bool s1) rfl rfl (by kernel_rfl) (by kernel_rfl) rfl (yb_ldb rfl (by kernel_rfl) (.head _)) (by simp only [List.setIfInBounds_toArray, List.set_cons_succ, List.set_cons_zero] <;> rfl) ?_
    refine wpU_pY (i := 2) (v := .pointer (some ⟨w.heap.size, 1, none⟩)) rfl rfl (by kernel_rfl) (by kernel_rfl) rfl (fun _ => by kernel_rfl) (by simp only [List.setIfInBounds_toArray, List.set_cons_succ, List.set_cons_zero] <;> rfl) ?_
    refine wpU_vY (i := 3) (v := num (n1)) rfl rfl (by kernel_rfl) (by kernel_rfl) rfl (yb_load rfl (by kernel_rfl) (.head _) Tryz.underlying23 rfl size25 (by simp) (frc_num (s1) (n1) (d1))) (by simp only [List.setIfInBounds_toArray, List.set_cons_succ, List.set_cons_zero] <;> rfl) ?_
    refine wpU_pY (i := 4) (v := .pointer (some ⟨w.heap.size + 1, 9, none⟩)) rfl rfl (by kernel_rfl) (by kernel_rfl) rfl (fun _ => by kernel_rfl) (by simp only [List.setIfInBounds_toArray, List.set_cons_succ, List.set_cons_zero] <;> rfl) ?_
    refine wpU_vY (i := 5) (v := num (d2)) rfl rfl (by kernel_rfl) (by kernel_rfl) rfl (yb_load rfl (by kernel_rfl) (.tail _ (.head _)) Tryz.underlying23 rfl size25 (by simp) (frc_den (s2) (n2) (d2))) (by simp only [List.setIfInBounds_toArray, List.set_cons_succ, List.set_cons_zero] <;> rfl) ?_
    refine wpU_vY (i := 6) (v := wid u) rfl rfl (by kernel_rfl) (by kernel_rfl) rfl (yb_call (f := 55) (args := #[num n1, num d2]) (fun _ => by kernel_rfl) fun W hW => Cu.out W) (by simp only [List.setIfInBounds_toArray, List.set_cons_succ, List.set_cons_zero] <;> rfl) ?_
    refine wpU_pY (i := 7) (v := .pointer (some ⟨w.heap.size + 1, 0, none⟩)) rfl rfl (by kernel_rfl) (by kernel_rfl) rfl (fun _ => by kernel_rfl) (by simp only [List.setIfInBounds_toArray, List.set_cons_succ, List.set_cons_zero] <;> rfl) ?_
    refine wpU_vY (i := 8) (v := .bool s2) rfl rfl (by kernel_rfl) (by kernel_rfl) rfl (yb_ldb rfl (by kernel_rfl) (.tail _ (.head _))) (by simp only [List.setIfInBounds_toArray, List.set_cons_succ, List.set_cons_zero] <;> rfl) ?_
    refine wpU_pY (i := 9) (v := .bool (!s2)) rfl rfl (by kernel_rfl) (by kernel_rfl) rfl (fun _ => by kernel_rfl) (by simp only [List.setIfInBounds_toArray, List.set_cons_succ, List.set_cons_zero] <;> rfl) ?_
    refine wpU_pY (i := 10) (v := .pointer (some ⟨w.heap.size + 1, 1, none⟩)) rfl rfl (by kernel_rfl) (by kernel_rfl) rfl (fun _ => by kernel_rfl) (by simp only [List.setIfInBounds_toArray, List.set_cons_succ, List.set_cons_zero] <;> rfl) ?_
    refine wpU_vY (i := 11) (v := num (n2)) rfl rfl (by kernel_rfl) (by kernel_rfl) rfl (yb_load rfl (by kernel_rfl) (.tail _ (.head _)) Tryz.underlying23 rfl size25 (by simp) (frc_num (s2) (n2) (d2))) (by simp only [List.setIfInBounds_toArray, List.set_cons_succ, List.set_cons_zero] <;> rfl) ?_
    refine wpU_pY (i := 12) (v := .pointer (some ⟨w.heap.size, 9, none⟩)) rfl rfl (by kernel_rfl) (by kernel_rfl) rfl (fun _ => by kernel_rfl) (by simp only [List.setIfInBounds_toArray, List.set_cons_succ, List.set_cons_zero] <;> rfl) ?_
    refine wpU_vY (i := 13) (v := num (d1)) rfl rfl (by kernel_rfl) (by kernel_rfl) rfl (yb_load rfl (by kernel_rfl) (.head _) Tryz.underlying23 rfl size25 (by simp) (frc_den (s1) (n1) (d1))) (by simp only [List.setIfInBounds_toArray, List.set_cons_succ, List.set_cons_zero] <;> rfl) ?_
    refine wpU_vY (i := 14) (v := wid v) rfl rfl (by kernel_rfl) (by kernel_rfl) rfl (yb_call (f := 55) (args := #[num n2, num d1]) (fun _ => by kernel_rfl) fun W hW => Cv.out W) (by simp only [List.setIfInBounds_toArray, List.set_cons_succ, List.set_cons_zero] <;> rfl) ?_
    refine wpU_vY (i := 15) (v := .tuple #[.bool S, wid N]) rfl rfl (by kernel_rfl) (by kernel_rfl) rfl (yb_call (f := 54) (args := #[.bool s1, wid u, .bool (!s2), wid v]) (fun _ => by kernel_rfl) fun W hW => Cps.out W) (by simp only [List.setIfInBounds_toArray, List.set_cons_succ, List.set_cons_zero] <;> rfl) ?_
    refine wpU_pY (i := 16) (v := .tuple #[.bool S, wid N]) rfl rfl (by kernel_rfl) (by kernel_rfl) rfl (fun _ => by kernel_rfl) (by simp only [List.setIfInBounds_toArray, List.set_cons_succ, List.set_cons_zero] <;> rfl) ?_
    refine wpU_pY (i := 17) (v := .bool S) rfl rfl (by kernel_rfl) (by kernel_rfl) rfl (fun _ => by kernel_rfl) (by simp only [List.setIfInBounds_toArray, List.set_cons_succ, List.set_cons_zero] <;> rfl) ?_
    refine wpU_pY (i := 18) (v := wid N) rfl rfl (by kernel_rfl) (by kernel_rfl) rfl (fun _ => by kernel_rfl) (by simp only [List.setIfInBounds_toArray, List.set_cons_succ, List.set_cons_zero] <;> rfl) ?_
    refine wpU_newY (i := 19) (obi := .cells (fa 18 (fun _ => 0)) 76 (0, 0)) rfl rfl rfl (by kernel_rfl) (fun _ _ => rfl) (fun _ => by simp only [List.setIfInBounds_toArray, List.set_cons_succ, List.set_cons_zero] <;> rfl) fun gn Bgn Fgn => ?_
    simp only [List.forall_mem_cons] at Fgn
    refine wpU_pY (i := 20) (v := .bool S) rfl rfl (by kernel_rfl) (by kernel_rfl) rfl (fun _ => by kernel_rfl) (by simp only [List.setIfInBounds_toArray, List.set_cons_succ, List.set_cons_zero] <;> rfl) ?_
    refine wpU_sY [(gn, .cells (fa 18 (dg N)) 76 (0, 0)), (w.heap.size, .cells (frcC (s1) (n1) (d1)) 25 (0, 0)), (w.heap.size + 1, .cells (frcC (s2) (n2) (d2)) 25 (0, 0))] (i := 21) rfl (by kernel_rfl) rfl rfl rfl
      (st_a rfl rfl rfl (.head _) (by omega) size65 (by intro p hp; simp only [List.mem_cons, List.not_mem_nil, or_false] at hp; rcases hp with rfl | rfl | rfl; exact .inl rfl; exact .inr ⟨by simp, by simp only; omega⟩; exact .inr ⟨by simp, by simp only; omega⟩)) ?_
    refine wpU_done (by kernel_rfl) (fun W4 hW4 => ?_) _
    cases S
    all_goals
      go_wp2_with fail
      exact bodyPost_ret (res_tmp_tmp rfl) rfl ⟨by rw [HV.out]; rfl, hW4.1⟩
theorem Cmp_any (s1 s2 : Bool) (n1 d1 n2 d2 : Nat) (hn1 : n1 < R 8) (hd1 : d1 < R 8) (hn2 : n2 < R 8) (hd2 : d2 < R 8) (w : World) :
    Calls Tryz.prog 26 #[frc s1 n1 d1, frc s2 n2 d2] w fun e w' => e = .returned (if rightB s1 n1 d1 = true ∧ rightB s2 n2 d2 = true then .tuple #[.int .i64 (cmpI s1 n1 d1 s2 n2 d2), .int .i64 0] else .tuple #[.int .i64 0, .int .i64 2]) ∧ Below w.heap.size w w' := by
  have hu := mul_lt16 hn1 hd2
  have hv := mul_lt16 hn2 hd1
  exact Cmp_walk s1 s2 (psS s1 (!s2) (n1 * d2) (n2 * d1)) n1 d1 n2 d2 (n1 * d2) (n2 * d1) (psN s1 (!s2) (n1 * d2) (n2 * d1)) hn1 hd1 hn2 hd2 _ _ _ (fun W => right_any s1 n1 d1 hn1 hd1 W) (fun W => right_any s2 n2 d2 hn2 hd2 W)
    (fun W => times_any n1 d2 hn1 hd2 W) (fun W => times_any n2 d1 hn2 hd1 W) (fun W => plusSigned_any s1 (!s2) (n1 * d2) (n2 * d1) (lt_R_of_le (two_R16 hu hv) (by omega)) W)
    (fun h => if_neg h) (fun h1 h2 h => by rw [if_pos ⟨h1, h2⟩, cmpI, if_pos h]) (fun h1 h2 h => by rw [if_pos ⟨h1, h2⟩, cmpI, if_neg h]) w
end Go.Proofs.YtalmflgkbmnghaaGreatDoor
namespace Tw
open Go Go.RowKit Go.Proofs.YtalmflgkbmnghaaGreatDoor
section
variable {P : Program} {md : Region.Mode} {ops : Array Oper} {Q R : Exit → Act → World → Prop} {W0 : Base}
theorem wpV_mono (hQ : ∀ a w, R .normal a w → Q .normal a w) : ∀ (n : Nat) (listed : Array Bool) (a : Act) (K : List (Nat × Obj)), wpV P md ops R W0 n listed a K → wpV P md ops Q W0 n listed a K
  | 0, _, _, _, h => ⟨h.1, fun w hw => hQ _ _ (h.2 w hw)⟩
  | n + 1, listed, a, K, h => by
    refine ⟨fun hr w hw => hQ _ _ (h.1 hr w hw), fun i hi => ?_⟩
    obtain ⟨o, ho, hc⟩ := h.2 i hi
    refine ⟨o, ho, ?_⟩
    rcases hc with ⟨v, hy, hu⟩ | ⟨obj, mk, hal, hu⟩ | ⟨hst, K2, hs2, hu⟩ | ⟨G, hst, hg2, hu⟩
    · exact .inl ⟨v, hy, wpV_mono hQ n _ _ _ hu⟩
    · exact .inr (.inl ⟨obj, mk, hal, fun g hg hf => wpV_mono hQ n _ _ _ (hu g hg hf)⟩)
    · exact .inr (.inr (.inl ⟨hst, K2, hs2, wpV_mono hQ n _ _ _ hu⟩))
    · exact .inr (.inr (.inr ⟨G, hst, hg2, fun v K' hG => wpV_mono hQ n _ _ _ (hu v K' hG)⟩))
theorem wpV_joins (R : Act → World → Prop) {n : Nat} {listed : Array Bool} {a : Act} {K : List (Nat × Obj)} (h : wpV P md ops (fun _ a w => R a w) W0 n listed a K) (hR : ∀ a w, R a w → Q .normal a w) : wpV P md ops Q W0 n listed a K :=
  wpV_mono hR n listed a K h
theorem wpV_s1 {i n : Nat} {listed : Array Bool} {a : Act} {K : List (Nat × Obj)} (hr : Region.ready md ops listed = [i]) (h : StepV P md ops Q W0 n listed a K i) : wpV P md ops Q W0 (n + 1) listed a K :=
  ⟨fun h0 => (by rw [hr] at h0; cases h0), fun k hk => by
    rw [hr] at hk
    cases List.mem_singleton.1 hk
    exact h⟩
theorem wpV_s3 {i j m n : Nat} {listed : Array Bool} {a : Act} {K : List (Nat × Obj)} (hr : Region.ready md ops listed = [i, j, m]) (h : StepV P md ops Q W0 n listed a K i) (h' : StepV P md ops Q W0 n listed a K j) (h'' : StepV P md ops Q W0 n listed a K m) : wpV P md ops Q W0 (n + 1) listed a K :=
  ⟨fun h0 => (by rw [hr] at h0; cases h0), fun k hk => by
    rw [hr] at hk
    rcases List.mem_cons.1 hk with rfl | hk
    · exact h
    · rcases List.mem_cons.1 hk with rfl | hk
      · exact h'
      · cases List.mem_singleton.1 hk
        exact h''⟩
theorem stepV_new {i : Nat} {oi : Oper} {d : Nat} {obi : Obj} {n : Nat} {listed : Array Bool} {tm : Array Value} {df : List Deferred} {K : List (Nat × Obj)} {T : Nat → Array Value} (mk : Nat → Value)
    (hi : ops[i]? = some oi) (hdi : oi.dst = some d) (hgi : oi.guard = none) (hai : ∀ w, (execOp (Act.eval ⟨tm, df⟩) oi).run P w = .ok (.value (mk w.heap.size)) (w.alloc obi))
    (hT : ∀ g, (tm.setIfInBounds d (mk g)) = T g)
    (h : ∀ g, W0.B ≤ g → (∀ p ∈ K, p.1 ≠ g) → wpV P md ops Q W0 n (listed.setIfInBounds i true) ⟨T g, df⟩ ((g, obi) :: K)) : StepV P md ops Q W0 n listed ⟨tm, df⟩ K i := by
  refine stepV_alloc mk hi (wanted_no hgi) hai fun g hg hf => ?_
  rw [hdi]
  simp only [Act.put]
  rw [hT g]
  exact h g hg hf
end
end Tw
namespace Go.Proofs.YtalmflgkbmnghaaGreatDoor
open Go Go.RowKit Tw
set_option linter.unusedSimpArgs false
set_option linter.unusedVariables false
open Tf (dg R R_pos R_le R_succ dg_of_lt setd setd_eq)
variable [ShLZ]
variable [ShSt]
theorem ltext_any (s : Bool) (n d : Nat) (hn : n < R 8) (hd : d < R 8) (w : World) (hE : Env w) : Calls Tryz.prog 30 #[.agg (frcC s n d)] w fun e w' => e = .returned (if rightB s n d = true then .tuple #[strV (textL s n d), .int .i64 0] else .tuple #[strV [], .int .i64 2]) ∧ Below w.heap.size w w' := text_any s n d hn hd w hE
set_option maxRecDepth 100000 in
set_option maxHeartbeats 40000000 in
theorem ltells_any (s1 s2 : Bool) (n1 d1 n2 d2 : Nat) (hn1 : n1 < R 8) (hd1 : d1 < R 8) (hn2 : n2 < R 8) (hd2 : d2 < R 8) (w : World) (hE : Env w) : Calls Tryz.prog 7 #[.agg (frcC s1 n1 d1), .agg (frcC s2 n2 d2)] w fun e w' => e = .returned (.bool true) ∧ Below w.heap.size w w' := by
  have HE := Lib.hid hE
  clear hE
  go_enter Tryz.func7, Tryz.ntmps7
  refine wp_seq ?_
  refine wp_region_L (W0 := w) [] (KS.start w) ?_
  refine wpL_new (fun g => .pointer (some ⟨g, 0, none⟩)) (obi := .cells (frcC s1 n1 d1) 25 (0, 0)) rfl rfl (fun _ => by kernel_rfl) (fun _ => by simp only [List.setIfInBounds_toArray, List.set_cons_succ, List.set_cons_zero] <;> rfl) fun g1 Bg1 Fg1 => ?_
  refine wpL_new (fun g => .pointer (some ⟨g, 0, none⟩)) (obi := .cells (frcC s2 n2 d2) 25 (0, 0)) rfl rfl (fun _ => by kernel_rfl) (fun _ => by simp only [List.setIfInBounds_toArray, List.set_cons_succ, List.set_cons_zero] <;> rfl) fun g2 Bg2 Fg2 => ?_
  obtain dj3_0 : g1 ≠ g2 := by simpa only [dj_app_l, dj_app_r, dj_cons_l, dj_cons_r, dj_nil_l, dj_nil_r, dk_app, dk_cons, dk_nil, and_true, true_and, and_assoc] using (show Dk g2 [(g1, .cells (frcC s1 n1 d1) 25 (0, 0))] from Fg2)
  refine Tw.lm (v := .bool false) rfl rfl ?_
  refine wpL_done (fun W1 hW1 => ?_)
  refine (show Code.wp _ _ _ _ _ from ?_)
  refine wp_seq ?_
  refine wp_region_V (W0 := w) [(g2, .cells (frcC s2 n2 d2) 25 (0, 0)), (g1, .cells (frcC s1 n1 d1) 25 (0, 0))] (by kernel_rfl) (hW1) ?_
  refine wpV_joins (fun az wz => ∃ (ga4 ga5 : Nat), ((w : Base).B ≤ ga4) ∧ ((w : Base).B ≤ ga5) ∧ (ga4 ≠ ga5) ∧ (g2 ≠ ga4) ∧ (g1 ≠ ga4) ∧ (g2 ≠ ga5) ∧ (g1 ≠ ga5) ∧ JoinR (fun zq => List.toArray ((.agg (frcC s1 n1 d1)) :: (.agg (frcC s2 n2 d2)) :: (.pointer (some ⟨g1, 0, none⟩)) :: (.pointer (some ⟨g2, 0, none⟩)) :: (.bool false) :: (.pointer (some ⟨ga4, 0, none⟩)) :: (.pointer (some ⟨ga5, 0, none⟩)) :: undef :: undef :: undef :: undef :: undef :: undef :: undef :: undef :: undef :: undef :: undef :: undef :: undef :: undef :: (.agg (frcC s1 n1 d1)) :: (.agg (frcC s2 n2 d2)) :: undef :: undef :: undef :: undef :: undef :: undef :: undef :: undef :: undef :: undef :: undef :: undef :: undef :: undef :: undef :: undef :: undef :: undef :: undef :: undef :: undef :: undef :: undef :: undef :: undef :: undef :: undef :: undef :: undef :: undef :: undef :: undef :: undef :: undef :: undef :: undef :: undef :: undef :: undef :: undef :: undef :: undef :: undef :: undef :: undef :: undef :: undef :: undef :: undef :: undef :: undef :: undef :: undef :: undef :: undef :: undef :: undef :: undef :: undef :: undef :: undef :: undef :: undef :: undef :: undef :: undef :: undef :: undef :: undef :: undef :: undef :: undef :: undef :: undef :: undef :: undef :: undef :: undef :: undef :: undef :: undef :: undef :: undef :: undef :: undef :: undef :: undef :: undef :: undef :: undef :: undef :: undef :: undef :: undef :: undef :: undef :: undef :: undef :: undef :: undef :: undef :: undef :: undef :: undef :: undef :: undef :: undef :: undef :: undef :: undef :: undef :: undef :: undef :: undef :: undef :: undef :: undef :: undef :: undef :: undef :: undef :: undef :: undef :: undef :: undef :: undef :: undef :: undef :: undef :: undef :: undef :: undef :: undef :: undef :: undef :: undef :: undef :: undef :: undef :: [])) w [(ga5, .cells (frcC s2 n2 d2) 34 (0, 0)), (ga4, .cells (frcC s1 n1 d1) 34 (0, 0)), (g2, .cells (frcC s2 n2 d2) 25 (0, 0)), (g1, .cells (frcC s1 n1 d1) 25 (0, 0))] az wz) ?_ ?_
  · refine vv (i := 0) (v := .agg (frcC s1 n1 d1)) rfl rfl rfl (yb_all rfl (by kernel_rfl) (.tail _ (.head _)) Tryz.underlying25 rfl (by simp only [frcC_size]; kernel_rfl)) ?_
    refine wpV_s3 (i := 1) (j := 2) (m := 3) (by kernel_rfl) ?_ ?_ ?_
    · refine stepV_v (i := 1) (v := .agg (frcC s2 n2 d2)) rfl rfl (by kernel_rfl) rfl (yb_all rfl (by kernel_rfl) (.head _) Tryz.underlying25 rfl (by simp only [frcC_size]; kernel_rfl)) (by simp only [List.setIfInBounds_toArray, List.set_cons_succ, List.set_cons_zero] <;> rfl) ?_
      refine wpV_2 (i := 2) (j := 3) (by kernel_rfl) ?_ ?_
      · refine stepV_new (fun g => .pointer (some ⟨g, 0, none⟩)) (obi := .cells (frcC false 0 0) 34 (0, 0)) rfl rfl rfl (fun _ => by kernel_rfl) (fun _ => by simp only [List.setIfInBounds_toArray, List.set_cons_succ, List.set_cons_zero] <;> rfl) fun gb6 Bgb6 Fgb6 => ?_
        obtain ⟨dj7_0, dj7_1⟩ : g2 ≠ gb6 ∧ g1 ≠ gb6 := by simpa only [dj_app_l, dj_app_r, dj_cons_l, dj_cons_r, dj_nil_l, dj_nil_r, dk_app, dk_cons, dk_nil, and_true, true_and, and_assoc] using (show Dk gb6 [(g2, .cells (frcC s2 n2 d2) 25 (0, 0)), (g1, .cells (frcC s1 n1 d1) 25 (0, 0))] from Fgb6)
        refine wpV_s1 (i := 3) (by kernel_rfl) ?_
        · refine stepV_new (fun g => .pointer (some ⟨g, 0, none⟩)) (obi := .cells (frcC false 0 0) 34 (0, 0)) rfl rfl rfl (fun _ => by kernel_rfl) (fun _ => by simp only [List.setIfInBounds_toArray, List.set_cons_succ, List.set_cons_zero] <;> rfl) fun gb8 Bgb8 Fgb8 => ?_
          obtain ⟨dj9_0, dj9_1, dj9_2⟩ : gb6 ≠ gb8 ∧ g2 ≠ gb8 ∧ g1 ≠ gb8 := by simpa only [dj_app_l, dj_app_r, dj_cons_l, dj_cons_r, dj_nil_l, dj_nil_r, dk_app, dk_cons, dk_nil, and_true, true_and, and_assoc] using (show Dk gb8 [(gb6, .cells (frcC false 0 0) 34 (0, 0)), (g2, .cells (frcC s2 n2 d2) 25 (0, 0)), (g1, .cells (frcC s1 n1 d1) 25 (0, 0))] from Fgb8)
          refine wpV_s1 (i := 4) (by kernel_rfl) ?_
          · refine stepV_s [(gb8, .cells (frcC false 0 0) 34 (0, 0)), (gb6, .cells (frcC s1 n1 d1) 34 (0, 0)), (g2, .cells (frcC s2 n2 d2) 25 (0, 0)), (g1, .cells (frcC s1 n1 d1) 25 (0, 0))] (i := 4) rfl rfl rfl rfl (st_all (by simp only [frcC_size]) (by exact frc_onec) rfl (by kernel_rfl) (by kernel_rfl) (.tail _ (.head _)) Bgb6 (by simp only [frcC_size]; kernel_rfl) (List.forall_mem_cons.2 ⟨.inr ⟨(.head _), (by first | assumption | exact Ne.symm (by assumption))⟩, (List.forall_mem_cons.2 ⟨.inl rfl, (List.forall_mem_cons.2 ⟨.inr ⟨(.tail _ (.tail _ (.head _))), (by first | assumption | exact Ne.symm (by assumption))⟩, (List.forall_mem_cons.2 ⟨.inr ⟨(.tail _ (.tail _ (.tail _ (.head _)))), (by first | assumption | exact Ne.symm (by assumption))⟩, (List.forall_mem_nil _)⟩)⟩)⟩)⟩)) ?_
            refine wpV_s1 (i := 5) (by kernel_rfl) ?_
            · refine stepV_s [(gb8, .cells (frcC s2 n2 d2) 34 (0, 0)), (gb6, .cells (frcC s1 n1 d1) 34 (0, 0)), (g2, .cells (frcC s2 n2 d2) 25 (0, 0)), (g1, .cells (frcC s1 n1 d1) 25 (0, 0))] (i := 5) rfl rfl rfl rfl (st_all (by simp only [frcC_size]) (by exact frc_onec) rfl (by kernel_rfl) (by kernel_rfl) (.head _) Bgb8 (by simp only [frcC_size]; kernel_rfl) (List.forall_mem_cons.2 ⟨.inl rfl, (List.forall_mem_cons.2 ⟨.inr ⟨(.tail _ (.head _)), (by first | assumption | exact Ne.symm (by assumption))⟩, (List.forall_mem_cons.2 ⟨.inr ⟨(.tail _ (.tail _ (.head _))), (by first | assumption | exact Ne.symm (by assumption))⟩, (List.forall_mem_cons.2 ⟨.inr ⟨(.tail _ (.tail _ (.tail _ (.head _)))), (by first | assumption | exact Ne.symm (by assumption))⟩, (List.forall_mem_nil _)⟩)⟩)⟩)⟩)) ?_
              refine wpV_done (by kernel_rfl) (fun W2 hW2 => ?_) _
              exact ⟨gb6, gb8, (by first | assumption | exact Ne.symm (by assumption)), (by first | assumption | exact Ne.symm (by assumption)), (by first | assumption | exact Ne.symm (by assumption)), (by first | assumption | exact Ne.symm (by assumption)), (by first | assumption | exact Ne.symm (by assumption)), (by first | assumption | exact Ne.symm (by assumption)), (by first | assumption | exact Ne.symm (by assumption)), join_mk (by kernel_rfl) (hW2.sub (fun p hp => by simp only [List.mem_cons, List.mem_append, List.nil_append, List.not_mem_nil, or_assoc, or_false, false_or] at hp ⊢; grind))⟩
      · refine stepV_new (fun g => .pointer (some ⟨g, 0, none⟩)) (obi := .cells (frcC false 0 0) 34 (0, 0)) rfl rfl rfl (fun _ => by kernel_rfl) (fun _ => by simp only [List.setIfInBounds_toArray, List.set_cons_succ, List.set_cons_zero] <;> rfl) fun gb10 Bgb10 Fgb10 => ?_
        obtain ⟨dj11_0, dj11_1⟩ : g2 ≠ gb10 ∧ g1 ≠ gb10 := by simpa only [dj_app_l, dj_app_r, dj_cons_l, dj_cons_r, dj_nil_l, dj_nil_r, dk_app, dk_cons, dk_nil, and_true, true_and, and_assoc] using (show Dk gb10 [(g2, .cells (frcC s2 n2 d2) 25 (0, 0)), (g1, .cells (frcC s1 n1 d1) 25 (0, 0))] from Fgb10)
        refine wpV_s1 (i := 2) (by kernel_rfl) ?_
        · refine stepV_new (fun g => .pointer (some ⟨g, 0, none⟩)) (obi := .cells (frcC false 0 0) 34 (0, 0)) rfl rfl rfl (fun _ => by kernel_rfl) (fun _ => by simp only [List.setIfInBounds_toArray, List.set_cons_succ, List.set_cons_zero] <;> rfl) fun gb12 Bgb12 Fgb12 => ?_
          obtain ⟨dj13_0, dj13_1, dj13_2⟩ : gb10 ≠ gb12 ∧ g2 ≠ gb12 ∧ g1 ≠ gb12 := by simpa only [dj_app_l, dj_app_r, dj_cons_l, dj_cons_r, dj_nil_l, dj_nil_r, dk_app, dk_cons, dk_nil, and_true, true_and, and_assoc] using (show Dk gb12 [(gb10, .cells (frcC false 0 0) 34 (0, 0)), (g2, .cells (frcC s2 n2 d2) 25 (0, 0)), (g1, .cells (frcC s1 n1 d1) 25 (0, 0))] from Fgb12)
          refine wpV_s1 (i := 4) (by kernel_rfl) ?_
          · refine stepV_s [(gb12, .cells (frcC s1 n1 d1) 34 (0, 0)), (gb10, .cells (frcC false 0 0) 34 (0, 0)), (g2, .cells (frcC s2 n2 d2) 25 (0, 0)), (g1, .cells (frcC s1 n1 d1) 25 (0, 0))] (i := 4) rfl rfl rfl rfl (st_all (by simp only [frcC_size]) (by exact frc_onec) rfl (by kernel_rfl) (by kernel_rfl) (.head _) Bgb12 (by simp only [frcC_size]; kernel_rfl) (List.forall_mem_cons.2 ⟨.inl rfl, (List.forall_mem_cons.2 ⟨.inr ⟨(.tail _ (.head _)), (by first | assumption | exact Ne.symm (by assumption))⟩, (List.forall_mem_cons.2 ⟨.inr ⟨(.tail _ (.tail _ (.head _))), (by first | assumption | exact Ne.symm (by assumption))⟩, (List.forall_mem_cons.2 ⟨.inr ⟨(.tail _ (.tail _ (.tail _ (.head _)))), (by first | assumption | exact Ne.symm (by assumption))⟩, (List.forall_mem_nil _)⟩)⟩)⟩)⟩)) ?_
            refine wpV_s1 (i := 5) (by kernel_rfl) ?_
            · refine stepV_s [(gb12, .cells (frcC s1 n1 d1) 34 (0, 0)), (gb10, .cells (frcC s2 n2 d2) 34 (0, 0)), (g2, .cells (frcC s2 n2 d2) 25 (0, 0)), (g1, .cells (frcC s1 n1 d1) 25 (0, 0))] (i := 5) rfl rfl rfl rfl (st_all (by simp only [frcC_size]) (by exact frc_onec) rfl (by kernel_rfl) (by kernel_rfl) (.tail _ (.head _)) Bgb10 (by simp only [frcC_size]; kernel_rfl) (List.forall_mem_cons.2 ⟨.inr ⟨(.head _), (by first | assumption | exact Ne.symm (by assumption))⟩, (List.forall_mem_cons.2 ⟨.inl rfl, (List.forall_mem_cons.2 ⟨.inr ⟨(.tail _ (.tail _ (.head _))), (by first | assumption | exact Ne.symm (by assumption))⟩, (List.forall_mem_cons.2 ⟨.inr ⟨(.tail _ (.tail _ (.tail _ (.head _)))), (by first | assumption | exact Ne.symm (by assumption))⟩, (List.forall_mem_nil _)⟩)⟩)⟩)⟩)) ?_
              refine wpV_done (by kernel_rfl) (fun W3 hW3 => ?_) _
              exact ⟨gb12, gb10, (by first | assumption | exact Ne.symm (by assumption)), (by first | assumption | exact Ne.symm (by assumption)), (by first | assumption | exact Ne.symm (by assumption)), (by first | assumption | exact Ne.symm (by assumption)), (by first | assumption | exact Ne.symm (by assumption)), (by first | assumption | exact Ne.symm (by assumption)), (by first | assumption | exact Ne.symm (by assumption)), join_mk (by kernel_rfl) (hW3.sub (fun p hp => by simp only [List.mem_cons, List.mem_append, List.nil_append, List.not_mem_nil, or_assoc, or_false, false_or] at hp ⊢; grind))⟩
    · refine stepV_new (fun g => .pointer (some ⟨g, 0, none⟩)) (obi := .cells (frcC false 0 0) 34 (0, 0)) rfl rfl rfl (fun _ => by kernel_rfl) (fun _ => by simp only [List.setIfInBounds_toArray, List.set_cons_succ, List.set_cons_zero] <;> rfl) fun gb14 Bgb14 Fgb14 => ?_
      obtain ⟨dj15_0, dj15_1⟩ : g2 ≠ gb14 ∧ g1 ≠ gb14 := by simpa only [dj_app_l, dj_app_r, dj_cons_l, dj_cons_r, dj_nil_l, dj_nil_r, dk_app, dk_cons, dk_nil, and_true, true_and, and_assoc] using (show Dk gb14 [(g2, .cells (frcC s2 n2 d2) 25 (0, 0)), (g1, .cells (frcC s1 n1 d1) 25 (0, 0))] from Fgb14)
      refine wpV_2 (i := 1) (j := 3) (by kernel_rfl) ?_ ?_
      · refine stepV_v (i := 1) (v := .agg (frcC s2 n2 d2)) rfl rfl (by kernel_rfl) rfl (yb_all rfl (by kernel_rfl) (.tail _ (.head _)) Tryz.underlying25 rfl (by simp only [frcC_size]; kernel_rfl)) (by simp only [List.setIfInBounds_toArray, List.set_cons_succ, List.set_cons_zero] <;> rfl) ?_
        refine wpV_s1 (i := 3) (by kernel_rfl) ?_
        · refine stepV_new (fun g => .pointer (some ⟨g, 0, none⟩)) (obi := .cells (frcC false 0 0) 34 (0, 0)) rfl rfl rfl (fun _ => by kernel_rfl) (fun _ => by simp only [List.setIfInBounds_toArray, List.set_cons_succ, List.set_cons_zero] <;> rfl) fun gb16 Bgb16 Fgb16 => ?_
          obtain ⟨dj17_0, dj17_1, dj17_2⟩ : gb14 ≠ gb16 ∧ g2 ≠ gb16 ∧ g1 ≠ gb16 := by simpa only [dj_app_l, dj_app_r, dj_cons_l, dj_cons_r, dj_nil_l, dj_nil_r, dk_app, dk_cons, dk_nil, and_true, true_and, and_assoc] using (show Dk gb16 [(gb14, .cells (frcC false 0 0) 34 (0, 0)), (g2, .cells (frcC s2 n2 d2) 25 (0, 0)), (g1, .cells (frcC s1 n1 d1) 25 (0, 0))] from Fgb16)
          refine wpV_s1 (i := 4) (by kernel_rfl) ?_
          · refine stepV_s [(gb16, .cells (frcC false 0 0) 34 (0, 0)), (gb14, .cells (frcC s1 n1 d1) 34 (0, 0)), (g2, .cells (frcC s2 n2 d2) 25 (0, 0)), (g1, .cells (frcC s1 n1 d1) 25 (0, 0))] (i := 4) rfl rfl rfl rfl (st_all (by simp only [frcC_size]) (by exact frc_onec) rfl (by kernel_rfl) (by kernel_rfl) (.tail _ (.head _)) Bgb14 (by simp only [frcC_size]; kernel_rfl) (List.forall_mem_cons.2 ⟨.inr ⟨(.head _), (by first | assumption | exact Ne.symm (by assumption))⟩, (List.forall_mem_cons.2 ⟨.inl rfl, (List.forall_mem_cons.2 ⟨.inr ⟨(.tail _ (.tail _ (.head _))), (by first | assumption | exact Ne.symm (by assumption))⟩, (List.forall_mem_cons.2 ⟨.inr ⟨(.tail _ (.tail _ (.tail _ (.head _)))), (by first | assumption | exact Ne.symm (by assumption))⟩, (List.forall_mem_nil _)⟩)⟩)⟩)⟩)) ?_
            refine wpV_s1 (i := 5) (by kernel_rfl) ?_
            · refine stepV_s [(gb16, .cells (frcC s2 n2 d2) 34 (0, 0)), (gb14, .cells (frcC s1 n1 d1) 34 (0, 0)), (g2, .cells (frcC s2 n2 d2) 25 (0, 0)), (g1, .cells (frcC s1 n1 d1) 25 (0, 0))] (i := 5) rfl rfl rfl rfl (st_all (by simp only [frcC_size]) (by exact frc_onec) rfl (by kernel_rfl) (by kernel_rfl) (.head _) Bgb16 (by simp only [frcC_size]; kernel_rfl) (List.forall_mem_cons.2 ⟨.inl rfl, (List.forall_mem_cons.2 ⟨.inr ⟨(.tail _ (.head _)), (by first | assumption | exact Ne.symm (by assumption))⟩, (List.forall_mem_cons.2 ⟨.inr ⟨(.tail _ (.tail _ (.head _))), (by first | assumption | exact Ne.symm (by assumption))⟩, (List.forall_mem_cons.2 ⟨.inr ⟨(.tail _ (.tail _ (.tail _ (.head _)))), (by first | assumption | exact Ne.symm (by assumption))⟩, (List.forall_mem_nil _)⟩)⟩)⟩)⟩)) ?_
              refine wpV_done (by kernel_rfl) (fun W4 hW4 => ?_) _
              exact ⟨gb14, gb16, (by first | assumption | exact Ne.symm (by assumption)), (by first | assumption | exact Ne.symm (by assumption)), (by first | assumption | exact Ne.symm (by assumption)), (by first | assumption | exact Ne.symm (by assumption)), (by first | assumption | exact Ne.symm (by assumption)), (by first | assumption | exact Ne.symm (by assumption)), (by first | assumption | exact Ne.symm (by assumption)), join_mk (by kernel_rfl) (hW4.sub (fun p hp => by simp only [List.mem_cons, List.mem_append, List.nil_append, List.not_mem_nil, or_assoc, or_false, false_or] at hp ⊢; grind))⟩
      · refine stepV_new (fun g => .pointer (some ⟨g, 0, none⟩)) (obi := .cells (frcC false 0 0) 34 (0, 0)) rfl rfl rfl (fun _ => by kernel_rfl) (fun _ => by simp only [List.setIfInBounds_toArray, List.set_cons_succ, List.set_cons_zero] <;> rfl) fun gb18 Bgb18 Fgb18 => ?_
        obtain ⟨dj19_0, dj19_1, dj19_2⟩ : gb14 ≠ gb18 ∧ g2 ≠ gb18 ∧ g1 ≠ gb18 := by simpa only [dj_app_l, dj_app_r, dj_cons_l, dj_cons_r, dj_nil_l, dj_nil_r, dk_app, dk_cons, dk_nil, and_true, true_and, and_assoc] using (show Dk gb18 [(gb14, .cells (frcC false 0 0) 34 (0, 0)), (g2, .cells (frcC s2 n2 d2) 25 (0, 0)), (g1, .cells (frcC s1 n1 d1) 25 (0, 0))] from Fgb18)
        refine wpV_2 (i := 1) (j := 4) (by kernel_rfl) ?_ ?_
        · refine stepV_v (i := 1) (v := .agg (frcC s2 n2 d2)) rfl rfl (by kernel_rfl) rfl (yb_all rfl (by kernel_rfl) (.tail _ (.tail _ (.head _))) Tryz.underlying25 rfl (by simp only [frcC_size]; kernel_rfl)) (by simp only [List.setIfInBounds_toArray, List.set_cons_succ, List.set_cons_zero] <;> rfl) ?_
          refine wpV_s1 (i := 4) (by kernel_rfl) ?_
          · refine stepV_s [(gb18, .cells (frcC false 0 0) 34 (0, 0)), (gb14, .cells (frcC s1 n1 d1) 34 (0, 0)), (g2, .cells (frcC s2 n2 d2) 25 (0, 0)), (g1, .cells (frcC s1 n1 d1) 25 (0, 0))] (i := 4) rfl rfl rfl rfl (st_all (by simp only [frcC_size]) (by exact frc_onec) rfl (by kernel_rfl) (by kernel_rfl) (.tail _ (.head _)) Bgb14 (by simp only [frcC_size]; kernel_rfl) (List.forall_mem_cons.2 ⟨.inr ⟨(.head _), (by first | assumption | exact Ne.symm (by assumption))⟩, (List.forall_mem_cons.2 ⟨.inl rfl, (List.forall_mem_cons.2 ⟨.inr ⟨(.tail _ (.tail _ (.head _))), (by first | assumption | exact Ne.symm (by assumption))⟩, (List.forall_mem_cons.2 ⟨.inr ⟨(.tail _ (.tail _ (.tail _ (.head _)))), (by first | assumption | exact Ne.symm (by assumption))⟩, (List.forall_mem_nil _)⟩)⟩)⟩)⟩)) ?_
            refine wpV_s1 (i := 5) (by kernel_rfl) ?_
            · refine stepV_s [(gb18, .cells (frcC s2 n2 d2) 34 (0, 0)), (gb14, .cells (frcC s1 n1 d1) 34 (0, 0)), (g2, .cells (frcC s2 n2 d2) 25 (0, 0)), (g1, .cells (frcC s1 n1 d1) 25 (0, 0))] (i := 5) rfl rfl rfl rfl (st_all (by simp only [frcC_size]) (by exact frc_onec) rfl (by kernel_rfl) (by kernel_rfl) (.head _) Bgb18 (by simp only [frcC_size]; kernel_rfl) (List.forall_mem_cons.2 ⟨.inl rfl, (List.forall_mem_cons.2 ⟨.inr ⟨(.tail _ (.head _)), (by first | assumption | exact Ne.symm (by assumption))⟩, (List.forall_mem_cons.2 ⟨.inr ⟨(.tail _ (.tail _ (.head _))), (by first | assumption | exact Ne.symm (by assumption))⟩, (List.forall_mem_cons.2 ⟨.inr ⟨(.tail _ (.tail _ (.tail _ (.head _)))), (by first | assumption | exact Ne.symm (by assumption))⟩, (List.forall_mem_nil _)⟩)⟩)⟩)⟩)) ?_
              refine wpV_done (by kernel_rfl) (fun W5 hW5 => ?_) _
              exact ⟨gb14, gb18, (by first | assumption | exact Ne.symm (by assumption)), (by first | assumption | exact Ne.symm (by assumption)), (by first | assumption | exact Ne.symm (by assumption)), (by first | assumption | exact Ne.symm (by assumption)), (by first | assumption | exact Ne.symm (by assumption)), (by first | assumption | exact Ne.symm (by assumption)), (by first | assumption | exact Ne.symm (by assumption)), join_mk (by kernel_rfl) (hW5.sub (fun p hp => by simp only [List.mem_cons, List.mem_append, List.nil_append, List.not_mem_nil, or_assoc, or_false, false_or] at hp ⊢; grind))⟩
        · refine stepV_s [(gb18, .cells (frcC false 0 0) 34 (0, 0)), (gb14, .cells (frcC s1 n1 d1) 34 (0, 0)), (g2, .cells (frcC s2 n2 d2) 25 (0, 0)), (g1, .cells (frcC s1 n1 d1) 25 (0, 0))] (i := 4) rfl rfl rfl rfl (st_all (by simp only [frcC_size]) (by exact frc_onec) rfl (by kernel_rfl) (by kernel_rfl) (.tail _ (.head _)) Bgb14 (by simp only [frcC_size]; kernel_rfl) (List.forall_mem_cons.2 ⟨.inr ⟨(.head _), (by first | assumption | exact Ne.symm (by assumption))⟩, (List.forall_mem_cons.2 ⟨.inl rfl, (List.forall_mem_cons.2 ⟨.inr ⟨(.tail _ (.tail _ (.head _))), (by first | assumption | exact Ne.symm (by assumption))⟩, (List.forall_mem_cons.2 ⟨.inr ⟨(.tail _ (.tail _ (.tail _ (.head _)))), (by first | assumption | exact Ne.symm (by assumption))⟩, (List.forall_mem_nil _)⟩)⟩)⟩)⟩)) ?_
          refine wpV_s1 (i := 1) (by kernel_rfl) ?_
          · refine stepV_v (i := 1) (v := .agg (frcC s2 n2 d2)) rfl rfl (by kernel_rfl) rfl (yb_all rfl (by kernel_rfl) (.tail _ (.tail _ (.head _))) Tryz.underlying25 rfl (by simp only [frcC_size]; kernel_rfl)) (by simp only [List.setIfInBounds_toArray, List.set_cons_succ, List.set_cons_zero] <;> rfl) ?_
            refine wpV_s1 (i := 5) (by kernel_rfl) ?_
            · refine stepV_s [(gb18, .cells (frcC s2 n2 d2) 34 (0, 0)), (gb14, .cells (frcC s1 n1 d1) 34 (0, 0)), (g2, .cells (frcC s2 n2 d2) 25 (0, 0)), (g1, .cells (frcC s1 n1 d1) 25 (0, 0))] (i := 5) rfl rfl rfl rfl (st_all (by simp only [frcC_size]) (by exact frc_onec) rfl (by kernel_rfl) (by kernel_rfl) (.head _) Bgb18 (by simp only [frcC_size]; kernel_rfl) (List.forall_mem_cons.2 ⟨.inl rfl, (List.forall_mem_cons.2 ⟨.inr ⟨(.tail _ (.head _)), (by first | assumption | exact Ne.symm (by assumption))⟩, (List.forall_mem_cons.2 ⟨.inr ⟨(.tail _ (.tail _ (.head _))), (by first | assumption | exact Ne.symm (by assumption))⟩, (List.forall_mem_cons.2 ⟨.inr ⟨(.tail _ (.tail _ (.tail _ (.head _)))), (by first | assumption | exact Ne.symm (by assumption))⟩, (List.forall_mem_nil _)⟩)⟩)⟩)⟩)) ?_
              refine wpV_done (by kernel_rfl) (fun W6 hW6 => ?_) _
              exact ⟨gb14, gb18, (by first | assumption | exact Ne.symm (by assumption)), (by first | assumption | exact Ne.symm (by assumption)), (by first | assumption | exact Ne.symm (by assumption)), (by first | assumption | exact Ne.symm (by assumption)), (by first | assumption | exact Ne.symm (by assumption)), (by first | assumption | exact Ne.symm (by assumption)), (by first | assumption | exact Ne.symm (by assumption)), join_mk (by kernel_rfl) (hW6.sub (fun p hp => by simp only [List.mem_cons, List.mem_append, List.nil_append, List.not_mem_nil, or_assoc, or_false, false_or] at hp ⊢; grind))⟩
    · refine stepV_new (fun g => .pointer (some ⟨g, 0, none⟩)) (obi := .cells (frcC false 0 0) 34 (0, 0)) rfl rfl rfl (fun _ => by kernel_rfl) (fun _ => by simp only [List.setIfInBounds_toArray, List.set_cons_succ, List.set_cons_zero] <;> rfl) fun gb20 Bgb20 Fgb20 => ?_
      obtain ⟨dj21_0, dj21_1⟩ : g2 ≠ gb20 ∧ g1 ≠ gb20 := by simpa only [dj_app_l, dj_app_r, dj_cons_l, dj_cons_r, dj_nil_l, dj_nil_r, dk_app, dk_cons, dk_nil, and_true, true_and, and_assoc] using (show Dk gb20 [(g2, .cells (frcC s2 n2 d2) 25 (0, 0)), (g1, .cells (frcC s1 n1 d1) 25 (0, 0))] from Fgb20)
      refine wpV_2 (i := 1) (j := 2) (by kernel_rfl) ?_ ?_
      · refine stepV_v (i := 1) (v := .agg (frcC s2 n2 d2)) rfl rfl (by kernel_rfl) rfl (yb_all rfl (by kernel_rfl) (.tail _ (.head _)) Tryz.underlying25 rfl (by simp only [frcC_size]; kernel_rfl)) (by simp only [List.setIfInBounds_toArray, List.set_cons_succ, List.set_cons_zero] <;> rfl) ?_
        refine wpV_s1 (i := 2) (by kernel_rfl) ?_
        · refine stepV_new (fun g => .pointer (some ⟨g, 0, none⟩)) (obi := .cells (frcC false 0 0) 34 (0, 0)) rfl rfl rfl (fun _ => by kernel_rfl) (fun _ => by simp only [List.setIfInBounds_toArray, List.set_cons_succ, List.set_cons_zero] <;> rfl) fun gb22 Bgb22 Fgb22 => ?_
          obtain ⟨dj23_0, dj23_1, dj23_2⟩ : gb20 ≠ gb22 ∧ g2 ≠ gb22 ∧ g1 ≠ gb22 := by simpa only [dj_app_l, dj_app_r, dj_cons_l, dj_cons_r, dj_nil_l, dj_nil_r, dk_app, dk_cons, dk_nil, and_true, true_and, and_assoc] using (show Dk gb22 [(gb20, .cells (frcC false 0 0) 34 (0, 0)), (g2, .cells (frcC s2 n2 d2) 25 (0, 0)), (g1, .cells (frcC s1 n1 d1) 25 (0, 0))] from Fgb22)
          refine wpV_s1 (i := 4) (by kernel_rfl) ?_
          · refine stepV_s [(gb22, .cells (frcC s1 n1 d1) 34 (0, 0)), (gb20, .cells (frcC false 0 0) 34 (0, 0)), (g2, .cells (frcC s2 n2 d2) 25 (0, 0)), (g1, .cells (frcC s1 n1 d1) 25 (0, 0))] (i := 4) rfl rfl rfl rfl (st_all (by simp only [frcC_size]) (by exact frc_onec) rfl (by kernel_rfl) (by kernel_rfl) (.head _) Bgb22 (by simp only [frcC_size]; kernel_rfl) (List.forall_mem_cons.2 ⟨.inl rfl, (List.forall_mem_cons.2 ⟨.inr ⟨(.tail _ (.head _)), (by first | assumption | exact Ne.symm (by assumption))⟩, (List.forall_mem_cons.2 ⟨.inr ⟨(.tail _ (.tail _ (.head _))), (by first | assumption | exact Ne.symm (by assumption))⟩, (List.forall_mem_cons.2 ⟨.inr ⟨(.tail _ (.tail _ (.tail _ (.head _)))), (by first | assumption | exact Ne.symm (by assumption))⟩, (List.forall_mem_nil _)⟩)⟩)⟩)⟩)) ?_
            refine wpV_s1 (i := 5) (by kernel_rfl) ?_
            · refine stepV_s [(gb22, .cells (frcC s1 n1 d1) 34 (0, 0)), (gb20, .cells (frcC s2 n2 d2) 34 (0, 0)), (g2, .cells (frcC s2 n2 d2) 25 (0, 0)), (g1, .cells (frcC s1 n1 d1) 25 (0, 0))] (i := 5) rfl rfl rfl rfl (st_all (by simp only [frcC_size]) (by exact frc_onec) rfl (by kernel_rfl) (by kernel_rfl) (.tail _ (.head _)) Bgb20 (by simp only [frcC_size]; kernel_rfl) (List.forall_mem_cons.2 ⟨.inr ⟨(.head _), (by first | assumption | exact Ne.symm (by assumption))⟩, (List.forall_mem_cons.2 ⟨.inl rfl, (List.forall_mem_cons.2 ⟨.inr ⟨(.tail _ (.tail _ (.head _))), (by first | assumption | exact Ne.symm (by assumption))⟩, (List.forall_mem_cons.2 ⟨.inr ⟨(.tail _ (.tail _ (.tail _ (.head _)))), (by first | assumption | exact Ne.symm (by assumption))⟩, (List.forall_mem_nil _)⟩)⟩)⟩)⟩)) ?_
              refine wpV_done (by kernel_rfl) (fun W7 hW7 => ?_) _
              exact ⟨gb22, gb20, (by first | assumption | exact Ne.symm (by assumption)), (by first | assumption | exact Ne.symm (by assumption)), (by first | assumption | exact Ne.symm (by assumption)), (by first | assumption | exact Ne.symm (by assumption)), (by first | assumption | exact Ne.symm (by assumption)), (by first | assumption | exact Ne.symm (by assumption)), (by first | assumption | exact Ne.symm (by assumption)), join_mk (by kernel_rfl) (hW7.sub (fun p hp => by simp only [List.mem_cons, List.mem_append, List.nil_append, List.not_mem_nil, or_assoc, or_false, false_or] at hp ⊢; grind))⟩
      · refine stepV_new (fun g => .pointer (some ⟨g, 0, none⟩)) (obi := .cells (frcC false 0 0) 34 (0, 0)) rfl rfl rfl (fun _ => by kernel_rfl) (fun _ => by simp only [List.setIfInBounds_toArray, List.set_cons_succ, List.set_cons_zero] <;> rfl) fun gb24 Bgb24 Fgb24 => ?_
        obtain ⟨dj25_0, dj25_1, dj25_2⟩ : gb20 ≠ gb24 ∧ g2 ≠ gb24 ∧ g1 ≠ gb24 := by simpa only [dj_app_l, dj_app_r, dj_cons_l, dj_cons_r, dj_nil_l, dj_nil_r, dk_app, dk_cons, dk_nil, and_true, true_and, and_assoc] using (show Dk gb24 [(gb20, .cells (frcC false 0 0) 34 (0, 0)), (g2, .cells (frcC s2 n2 d2) 25 (0, 0)), (g1, .cells (frcC s1 n1 d1) 25 (0, 0))] from Fgb24)
        refine wpV_2 (i := 1) (j := 4) (by kernel_rfl) ?_ ?_
        · refine stepV_v (i := 1) (v := .agg (frcC s2 n2 d2)) rfl rfl (by kernel_rfl) rfl (yb_all rfl (by kernel_rfl) (.tail _ (.tail _ (.head _))) Tryz.underlying25 rfl (by simp only [frcC_size]; kernel_rfl)) (by simp only [List.setIfInBounds_toArray, List.set_cons_succ, List.set_cons_zero] <;> rfl) ?_
          refine wpV_s1 (i := 4) (by kernel_rfl) ?_
          · refine stepV_s [(gb24, .cells (frcC s1 n1 d1) 34 (0, 0)), (gb20, .cells (frcC false 0 0) 34 (0, 0)), (g2, .cells (frcC s2 n2 d2) 25 (0, 0)), (g1, .cells (frcC s1 n1 d1) 25 (0, 0))] (i := 4) rfl rfl rfl rfl (st_all (by simp only [frcC_size]) (by exact frc_onec) rfl (by kernel_rfl) (by kernel_rfl) (.head _) Bgb24 (by simp only [frcC_size]; kernel_rfl) (List.forall_mem_cons.2 ⟨.inl rfl, (List.forall_mem_cons.2 ⟨.inr ⟨(.tail _ (.head _)), (by first | assumption | exact Ne.symm (by assumption))⟩, (List.forall_mem_cons.2 ⟨.inr ⟨(.tail _ (.tail _ (.head _))), (by first | assumption | exact Ne.symm (by assumption))⟩, (List.forall_mem_cons.2 ⟨.inr ⟨(.tail _ (.tail _ (.tail _ (.head _)))), (by first | assumption | exact Ne.symm (by assumption))⟩, (List.forall_mem_nil _)⟩)⟩)⟩)⟩)) ?_
            refine wpV_s1 (i := 5) (by kernel_rfl) ?_
            · refine stepV_s [(gb24, .cells (frcC s1 n1 d1) 34 (0, 0)), (gb20, .cells (frcC s2 n2 d2) 34 (0, 0)), (g2, .cells (frcC s2 n2 d2) 25 (0, 0)), (g1, .cells (frcC s1 n1 d1) 25 (0, 0))] (i := 5) rfl rfl rfl rfl (st_all (by simp only [frcC_size]) (by exact frc_onec) rfl (by kernel_rfl) (by kernel_rfl) (.tail _ (.head _)) Bgb20 (by simp only [frcC_size]; kernel_rfl) (List.forall_mem_cons.2 ⟨.inr ⟨(.head _), (by first | assumption | exact Ne.symm (by assumption))⟩, (List.forall_mem_cons.2 ⟨.inl rfl, (List.forall_mem_cons.2 ⟨.inr ⟨(.tail _ (.tail _ (.head _))), (by first | assumption | exact Ne.symm (by assumption))⟩, (List.forall_mem_cons.2 ⟨.inr ⟨(.tail _ (.tail _ (.tail _ (.head _)))), (by first | assumption | exact Ne.symm (by assumption))⟩, (List.forall_mem_nil _)⟩)⟩)⟩)⟩)) ?_
              refine wpV_done (by kernel_rfl) (fun W8 hW8 => ?_) _
              exact ⟨gb24, gb20, (by first | assumption | exact Ne.symm (by assumption)), (by first | assumption | exact Ne.symm (by assumption)), (by first | assumption | exact Ne.symm (by assumption)), (by first | assumption | exact Ne.symm (by assumption)), (by first | assumption | exact Ne.symm (by assumption)), (by first | assumption | exact Ne.symm (by assumption)), (by first | assumption | exact Ne.symm (by assumption)), join_mk (by kernel_rfl) (hW8.sub (fun p hp => by simp only [List.mem_cons, List.mem_append, List.nil_append, List.not_mem_nil, or_assoc, or_false, false_or] at hp ⊢; grind))⟩
        · refine stepV_s [(gb24, .cells (frcC s1 n1 d1) 34 (0, 0)), (gb20, .cells (frcC false 0 0) 34 (0, 0)), (g2, .cells (frcC s2 n2 d2) 25 (0, 0)), (g1, .cells (frcC s1 n1 d1) 25 (0, 0))] (i := 4) rfl rfl rfl rfl (st_all (by simp only [frcC_size]) (by exact frc_onec) rfl (by kernel_rfl) (by kernel_rfl) (.head _) Bgb24 (by simp only [frcC_size]; kernel_rfl) (List.forall_mem_cons.2 ⟨.inl rfl, (List.forall_mem_cons.2 ⟨.inr ⟨(.tail _ (.head _)), (by first | assumption | exact Ne.symm (by assumption))⟩, (List.forall_mem_cons.2 ⟨.inr ⟨(.tail _ (.tail _ (.head _))), (by first | assumption | exact Ne.symm (by assumption))⟩, (List.forall_mem_cons.2 ⟨.inr ⟨(.tail _ (.tail _ (.tail _ (.head _)))), (by first | assumption | exact Ne.symm (by assumption))⟩, (List.forall_mem_nil _)⟩)⟩)⟩)⟩)) ?_
          refine wpV_s1 (i := 1) (by kernel_rfl) ?_
          · refine stepV_v (i := 1) (v := .agg (frcC s2 n2 d2)) rfl rfl (by kernel_rfl) rfl (yb_all rfl (by kernel_rfl) (.tail _ (.tail _ (.head _))) Tryz.underlying25 rfl (by simp only [frcC_size]; kernel_rfl)) (by simp only [List.setIfInBounds_toArray, List.set_cons_succ, List.set_cons_zero] <;> rfl) ?_
            refine wpV_s1 (i := 5) (by kernel_rfl) ?_
            · refine stepV_s [(gb24, .cells (frcC s1 n1 d1) 34 (0, 0)), (gb20, .cells (frcC s2 n2 d2) 34 (0, 0)), (g2, .cells (frcC s2 n2 d2) 25 (0, 0)), (g1, .cells (frcC s1 n1 d1) 25 (0, 0))] (i := 5) rfl rfl rfl rfl (st_all (by simp only [frcC_size]) (by exact frc_onec) rfl (by kernel_rfl) (by kernel_rfl) (.tail _ (.head _)) Bgb20 (by simp only [frcC_size]; kernel_rfl) (List.forall_mem_cons.2 ⟨.inr ⟨(.head _), (by first | assumption | exact Ne.symm (by assumption))⟩, (List.forall_mem_cons.2 ⟨.inl rfl, (List.forall_mem_cons.2 ⟨.inr ⟨(.tail _ (.tail _ (.head _))), (by first | assumption | exact Ne.symm (by assumption))⟩, (List.forall_mem_cons.2 ⟨.inr ⟨(.tail _ (.tail _ (.tail _ (.head _)))), (by first | assumption | exact Ne.symm (by assumption))⟩, (List.forall_mem_nil _)⟩)⟩)⟩)⟩)) ?_
              refine wpV_done (by kernel_rfl) (fun W9 hW9 => ?_) _
              exact ⟨gb24, gb20, (by first | assumption | exact Ne.symm (by assumption)), (by first | assumption | exact Ne.symm (by assumption)), (by first | assumption | exact Ne.symm (by assumption)), (by first | assumption | exact Ne.symm (by assumption)), (by first | assumption | exact Ne.symm (by assumption)), (by first | assumption | exact Ne.symm (by assumption)), (by first | assumption | exact Ne.symm (by assumption)), join_mk (by kernel_rfl) (hW9.sub (fun p hp => by simp only [List.mem_cons, List.mem_append, List.nil_append, List.not_mem_nil, or_assoc, or_false, false_or] at hp ⊢; grind))⟩
  · rintro a1 W10 ⟨ga4, ga5, df0, df1, df2, df3, df4, df5, df6, ⟨zx1, rfl⟩, hW10⟩
    refine (show Code.wp _ _ _ _ _ from ?_)
    refine wp_seq ?_
    refine wp_region_L (W0 := w) [(ga5, .cells (frcC s2 n2 d2) 34 (0, 0)), (ga4, .cells (frcC s1 n1 d1) 34 (0, 0)), (g2, .cells (frcC s2 n2 d2) 25 (0, 0)), (g1, .cells (frcC s1 n1 d1) 25 (0, 0))] (hW10) ?_
    refine Tw.lv (v := .agg (frcC s1 n1 d1)) rfl rfl (yb_all rfl (by kernel_rfl) (.tail _ (.tail _ (.tail _ (.head _)))) Tryz.underlying25 rfl (by simp only [frcC_size]; kernel_rfl)) ?_
    refine Tw.lv (v := .agg (frcC s2 n2 d2)) rfl rfl (yb_all rfl (by kernel_rfl) (.tail _ (.tail _ (.head _))) Tryz.underlying25 rfl (by simp only [frcC_size]; kernel_rfl)) ?_
    obtain ⟨sv26, nv26, dv26, ev26, hpv26, ln26, ld26⟩ : ∃ s n d e, (if (rightB s1 n1 d1 && rightB s2 n2 d2) = true then addV s1 n1 d1 s2 n2 d2 else argV) = .tuple #[.agg (frcC s n d), .int .i64 e] ∧ n < R 8 ∧ d < R 8 := if_shape8
    refine Tw.lv (v := .tuple #[.agg (frcC sv26 nv26 dv26), .int .i64 ev26]) rfl rfl (yb_call (f := 15) (args := #[.agg (frcC s1 n1 d1), .agg (frcC s2 n2 d2)]) (fun _ => by kernel_rfl) fun W hW => (by have h := Add_any s1 s2 n1 d1 n2 d2 hn1 hd1 hn2 hd2 W; rw [hpv26] at h; exact h)) ?_
    refine Tw.lm (v := .tuple #[.agg (frcC sv26 nv26 dv26), .int .i64 ev26]) rfl rfl ?_
    refine Tw.lm (v := .agg (frcC sv26 nv26 dv26)) rfl rfl ?_
    refine Tw.lm (v := .int .i64 ev26) rfl rfl ?_
    refine wpL_new (fun g => .pointer (some ⟨g, 0, none⟩)) (obi := .cells (frcC false 0 0) 25 (0, 0)) rfl rfl (fun _ => by kernel_rfl) (fun _ => by simp only [List.setIfInBounds_toArray, List.set_cons_succ, List.set_cons_zero] <;> rfl) fun g27 Bg27 Fg27 => ?_
    obtain ⟨dj28_0, dj28_1, dj28_2, dj28_3⟩ : ga5 ≠ g27 ∧ ga4 ≠ g27 ∧ g2 ≠ g27 ∧ g1 ≠ g27 := by simpa only [dj_app_l, dj_app_r, dj_cons_l, dj_cons_r, dj_nil_l, dj_nil_r, dk_app, dk_cons, dk_nil, and_true, true_and, and_assoc] using (show Dk g27 [(ga5, .cells (frcC s2 n2 d2) 34 (0, 0)), (ga4, .cells (frcC s1 n1 d1) 34 (0, 0)), (g2, .cells (frcC s2 n2 d2) 25 (0, 0)), (g1, .cells (frcC s1 n1 d1) 25 (0, 0))] from Fg27)
    refine wpL_s [(g27, .cells (frcC sv26 nv26 dv26) 25 (0, 0)), (ga5, .cells (frcC s2 n2 d2) 34 (0, 0)), (ga4, .cells (frcC s1 n1 d1) 34 (0, 0)), (g2, .cells (frcC s2 n2 d2) 25 (0, 0)), (g1, .cells (frcC s1 n1 d1) 25 (0, 0))] rfl rfl (st_all (by simp only [frcC_size]) (by exact frc_onec) rfl (by kernel_rfl) (by kernel_rfl) (.head _) Bg27 (by simp only [frcC_size]; kernel_rfl) (List.forall_mem_cons.2 ⟨.inl rfl, (List.forall_mem_cons.2 ⟨.inr ⟨(.tail _ (.head _)), (by first | assumption | exact Ne.symm (by assumption))⟩, (List.forall_mem_cons.2 ⟨.inr ⟨(.tail _ (.tail _ (.head _))), (by first | assumption | exact Ne.symm (by assumption))⟩, (List.forall_mem_cons.2 ⟨.inr ⟨(.tail _ (.tail _ (.tail _ (.head _)))), (by first | assumption | exact Ne.symm (by assumption))⟩, (List.forall_mem_cons.2 ⟨.inr ⟨(.tail _ (.tail _ (.tail _ (.tail _ (.head _))))), (by first | assumption | exact Ne.symm (by assumption))⟩, (List.forall_mem_nil _)⟩)⟩)⟩)⟩)⟩)) ?_
    refine Tw.lm (v := .int .i64 ev26) rfl rfl ?_
    refine wpL_done (fun W11 hW11 => ?_)
    refine (show Code.wp _ _ _ _ _ from ?_)
    refine wp_seq ?_
    refine wp_region_L (W0 := w) [(g27, .cells (frcC sv26 nv26 dv26) 25 (0, 0)), (ga5, .cells (frcC s2 n2 d2) 34 (0, 0)), (ga4, .cells (frcC s1 n1 d1) 34 (0, 0)), (g2, .cells (frcC s2 n2 d2) 25 (0, 0)), (g1, .cells (frcC s1 n1 d1) 25 (0, 0))] (hW11) ?_
    refine Tw.lv (v := .agg (frcC s1 n1 d1)) rfl rfl (yb_all rfl (by kernel_rfl) (.tail _ (.tail _ (.head _))) Tryz.underlying34 rfl (by simp only [frcC_size]; kernel_rfl)) ?_
    refine Tw.lv (v := .agg (frcC s2 n2 d2)) rfl rfl (yb_all rfl (by kernel_rfl) (.tail _ (.head _)) Tryz.underlying34 rfl (by simp only [frcC_size]; kernel_rfl)) ?_
    refine Tw.lv (v := .tuple #[.agg (frcC sv26 nv26 dv26), .int .i64 ev26]) rfl rfl (yb_call (f := 16) (args := #[.agg (frcC s1 n1 d1), .agg (frcC s2 n2 d2)]) (fun _ => by kernel_rfl) fun W hW => (by have h := RAdd_any s1 s2 n1 d1 n2 d2 hn1 hd1 hn2 hd2 W; rw [hpv26] at h; exact h)) ?_
    refine Tw.lm (v := .tuple #[.agg (frcC sv26 nv26 dv26), .int .i64 ev26]) rfl rfl ?_
    refine Tw.lm (v := .agg (frcC sv26 nv26 dv26)) rfl rfl ?_
    refine Tw.lm (v := .int .i64 ev26) rfl rfl ?_
    refine wpL_new (fun g => .pointer (some ⟨g, 0, none⟩)) (obi := .cells (frcC false 0 0) 34 (0, 0)) rfl rfl (fun _ => by kernel_rfl) (fun _ => by simp only [List.setIfInBounds_toArray, List.set_cons_succ, List.set_cons_zero] <;> rfl) fun g29 Bg29 Fg29 => ?_
    obtain ⟨dj30_0, dj30_1, dj30_2, dj30_3, dj30_4⟩ : g27 ≠ g29 ∧ ga5 ≠ g29 ∧ ga4 ≠ g29 ∧ g2 ≠ g29 ∧ g1 ≠ g29 := by simpa only [dj_app_l, dj_app_r, dj_cons_l, dj_cons_r, dj_nil_l, dj_nil_r, dk_app, dk_cons, dk_nil, and_true, true_and, and_assoc] using (show Dk g29 [(g27, .cells (frcC sv26 nv26 dv26) 25 (0, 0)), (ga5, .cells (frcC s2 n2 d2) 34 (0, 0)), (ga4, .cells (frcC s1 n1 d1) 34 (0, 0)), (g2, .cells (frcC s2 n2 d2) 25 (0, 0)), (g1, .cells (frcC s1 n1 d1) 25 (0, 0))] from Fg29)
    refine wpL_s [(g29, .cells (frcC sv26 nv26 dv26) 34 (0, 0)), (g27, .cells (frcC sv26 nv26 dv26) 25 (0, 0)), (ga5, .cells (frcC s2 n2 d2) 34 (0, 0)), (ga4, .cells (frcC s1 n1 d1) 34 (0, 0)), (g2, .cells (frcC s2 n2 d2) 25 (0, 0)), (g1, .cells (frcC s1 n1 d1) 25 (0, 0))] rfl rfl (st_all (by simp only [frcC_size]) (by exact frc_onec) rfl (by kernel_rfl) (by kernel_rfl) (.head _) Bg29 (by simp only [frcC_size]; kernel_rfl) (List.forall_mem_cons.2 ⟨.inl rfl, (List.forall_mem_cons.2 ⟨.inr ⟨(.tail _ (.head _)), (by first | assumption | exact Ne.symm (by assumption))⟩, (List.forall_mem_cons.2 ⟨.inr ⟨(.tail _ (.tail _ (.head _))), (by first | assumption | exact Ne.symm (by assumption))⟩, (List.forall_mem_cons.2 ⟨.inr ⟨(.tail _ (.tail _ (.tail _ (.head _)))), (by first | assumption | exact Ne.symm (by assumption))⟩, (List.forall_mem_cons.2 ⟨.inr ⟨(.tail _ (.tail _ (.tail _ (.tail _ (.head _))))), (by first | assumption | exact Ne.symm (by assumption))⟩, (List.forall_mem_cons.2 ⟨.inr ⟨(.tail _ (.tail _ (.tail _ (.tail _ (.tail _ (.head _)))))), (by first | assumption | exact Ne.symm (by assumption))⟩, (List.forall_mem_nil _)⟩)⟩)⟩)⟩)⟩)⟩)) ?_
    refine Tw.lm (v := .int .i64 ev26) rfl rfl ?_
    refine wpL_done (fun W12 hW12 => ?_)
    refine (show Code.wp _ _ _ _ _ from ?_)
    refine wp_seq ?_
    refine wp_seq ?_
    refine wp_region_V (W0 := w) [(g29, .cells (frcC sv26 nv26 dv26) 34 (0, 0)), (g27, .cells (frcC sv26 nv26 dv26) 25 (0, 0)), (ga5, .cells (frcC s2 n2 d2) 34 (0, 0)), (ga4, .cells (frcC s1 n1 d1) 34 (0, 0)), (g2, .cells (frcC s2 n2 d2) 25 (0, 0)), (g1, .cells (frcC s1 n1 d1) 25 (0, 0))] (by kernel_rfl) (hW12) ?_
    refine vv (i := 0) (v := .agg (frcC s1 n1 d1)) rfl rfl rfl (yb_all rfl (by kernel_rfl) (.tail _ (.tail _ (.tail _ (.tail _ (.tail _ (.head _)))))) Tryz.underlying25 rfl (by simp only [frcC_size]; kernel_rfl)) ?_
    refine vv (i := 2) (v := .agg (frcC s1 n1 d1)) rfl rfl rfl (yb_all rfl (by kernel_rfl) (.tail _ (.tail _ (.tail _ (.head _)))) Tryz.underlying34 rfl (by simp only [frcC_size]; kernel_rfl)) ?_
    refine vv (i := 1) (v := .bool (rightB s1 n1 d1)) rfl rfl rfl (yb_call (f := 17) (args := #[.agg (frcC s1 n1 d1)]) (fun _ => by kernel_rfl) fun W hW => right_any s1 n1 d1 hn1 hd1 W) ?_
    refine vv (i := 3) (v := .bool (rightB s1 n1 d1)) rfl rfl rfl (yb_call (f := 18) (args := #[.agg (frcC s1 n1 d1)]) (fun _ => by kernel_rfl) fun W hW => rright_any s1 n1 d1 hn1 hd1 W) ?_
    refine vp (i := 4) (v := .bool false) rfl rfl rfl (run_bin rfl (vx := .bool (rightB s1 n1 d1)) (vy := .bool (rightB s1 n1 d1)) (by kernel_rfl) (by kernel_rfl) fun w => bb_neq w) ?_
    refine vm (i := 5) (v := .bool false) rfl rfl rfl ?_
    refine vv (i := 6) (v := .agg (frcC sv26 nv26 dv26)) rfl rfl rfl (yb_all rfl (by kernel_rfl) (.tail _ (.head _)) Tryz.underlying25 rfl (by simp only [frcC_size]; kernel_rfl)) ?_
    refine vm (i := 7) (v := .int .i64 ev26) rfl rfl rfl ?_
    refine vv (i := 8) (v := .agg (frcC sv26 nv26 dv26)) rfl rfl rfl (yb_all rfl (by kernel_rfl) (.head _) Tryz.underlying34 rfl (by simp only [frcC_size]; kernel_rfl)) ?_
    refine vm (i := 9) (v := .int .i64 ev26) rfl rfl rfl ?_
    refine vv (i := 10) (v := .bool true) rfl rfl rfl (yb_call (f := 19) (args := #[.agg (frcC sv26 nv26 dv26), .int .i64 ev26, .agg (frcC sv26 nv26 dv26), .int .i64 ev26]) (fun _ => by kernel_rfl) fun W hW => pair_same sv26 nv26 dv26 ev26 ln26 ld26 W) ?_
    refine vm (i := 11) (v := .bool false) rfl rfl rfl ?_
    refine vm (i := 12) (v := .bool false) rfl rfl rfl ?_
    refine wpV_done (by kernel_rfl) (fun W13 hW13 => ?_) _
    refine (show Code.wp _ _ _ _ _ from ?_)
    refine wp_cond_false rfl ?_
    refine wp_skip ?_
    refine (show Code.wp _ _ _ _ _ from ?_)
    refine wp_seq ?_
    refine wp_region_L (W0 := w) [(g29, .cells (frcC sv26 nv26 dv26) 34 (0, 0)), (g27, .cells (frcC sv26 nv26 dv26) 25 (0, 0)), (ga5, .cells (frcC s2 n2 d2) 34 (0, 0)), (ga4, .cells (frcC s1 n1 d1) 34 (0, 0)), (g2, .cells (frcC s2 n2 d2) 25 (0, 0)), (g1, .cells (frcC s1 n1 d1) 25 (0, 0))] (hW13) ?_
    refine Tw.lv (v := .agg (frcC s1 n1 d1)) rfl rfl (yb_all rfl (by kernel_rfl) (.tail _ (.tail _ (.tail _ (.tail _ (.tail _ (.head _)))))) Tryz.underlying25 rfl (by simp only [frcC_size]; kernel_rfl)) ?_
    refine Tw.lv (v := .agg (frcC s2 n2 d2)) rfl rfl (yb_all rfl (by kernel_rfl) (.tail _ (.tail _ (.tail _ (.tail _ (.head _))))) Tryz.underlying25 rfl (by simp only [frcC_size]; kernel_rfl)) ?_
    obtain ⟨sv31, nv31, dv31, ev31, hpv31, ln31, ld31⟩ : ∃ s n d e, (if (rightB s1 n1 d1 && rightB s2 n2 d2) = true then addV s1 n1 d1 (!s2) n2 d2 else argV) = .tuple #[.agg (frcC s n d), .int .i64 e] ∧ n < R 8 ∧ d < R 8 := if_shape8
    refine Tw.lv (v := .tuple #[.agg (frcC sv31 nv31 dv31), .int .i64 ev31]) rfl rfl (yb_call (f := 20) (args := #[.agg (frcC s1 n1 d1), .agg (frcC s2 n2 d2)]) (fun _ => by kernel_rfl) fun W hW => (by have h := Sub_any s1 s2 n1 d1 n2 d2 hn1 hd1 hn2 hd2 W; rw [hpv31] at h; exact h)) ?_
    refine Tw.lm (v := .tuple #[.agg (frcC sv31 nv31 dv31), .int .i64 ev31]) rfl rfl ?_
    refine Tw.lm (v := .agg (frcC sv31 nv31 dv31)) rfl rfl ?_
    refine Tw.lm (v := .int .i64 ev31) rfl rfl ?_
    refine wpL_s [(g29, .cells (frcC sv26 nv26 dv26) 34 (0, 0)), (g27, .cells (frcC sv31 nv31 dv31) 25 (0, 0)), (ga5, .cells (frcC s2 n2 d2) 34 (0, 0)), (ga4, .cells (frcC s1 n1 d1) 34 (0, 0)), (g2, .cells (frcC s2 n2 d2) 25 (0, 0)), (g1, .cells (frcC s1 n1 d1) 25 (0, 0))] rfl rfl (st_all (by simp only [frcC_size]) (by exact frc_onec) rfl (by kernel_rfl) (by kernel_rfl) (.tail _ (.head _)) Bg27 (by simp only [frcC_size]; kernel_rfl) (List.forall_mem_cons.2 ⟨.inr ⟨(.head _), (by first | assumption | exact Ne.symm (by assumption))⟩, (List.forall_mem_cons.2 ⟨.inl rfl, (List.forall_mem_cons.2 ⟨.inr ⟨(.tail _ (.tail _ (.head _))), (by first | assumption | exact Ne.symm (by assumption))⟩, (List.forall_mem_cons.2 ⟨.inr ⟨(.tail _ (.tail _ (.tail _ (.head _)))), (by first | assumption | exact Ne.symm (by assumption))⟩, (List.forall_mem_cons.2 ⟨.inr ⟨(.tail _ (.tail _ (.tail _ (.tail _ (.head _))))), (by first | assumption | exact Ne.symm (by assumption))⟩, (List.forall_mem_cons.2 ⟨.inr ⟨(.tail _ (.tail _ (.tail _ (.tail _ (.tail _ (.head _)))))), (by first | assumption | exact Ne.symm (by assumption))⟩, (List.forall_mem_nil _)⟩)⟩)⟩)⟩)⟩)⟩)) ?_
    refine Tw.lm (v := .int .i64 ev31) rfl rfl ?_
    refine wpL_done (fun W14 hW14 => ?_)
    refine (show Code.wp _ _ _ _ _ from ?_)
    refine wp_seq ?_
    refine wp_region_L (W0 := w) [(g29, .cells (frcC sv26 nv26 dv26) 34 (0, 0)), (g27, .cells (frcC sv31 nv31 dv31) 25 (0, 0)), (ga5, .cells (frcC s2 n2 d2) 34 (0, 0)), (ga4, .cells (frcC s1 n1 d1) 34 (0, 0)), (g2, .cells (frcC s2 n2 d2) 25 (0, 0)), (g1, .cells (frcC s1 n1 d1) 25 (0, 0))] (hW14) ?_
    refine Tw.lv (v := .agg (frcC s1 n1 d1)) rfl rfl (yb_all rfl (by kernel_rfl) (.tail _ (.tail _ (.tail _ (.head _)))) Tryz.underlying34 rfl (by simp only [frcC_size]; kernel_rfl)) ?_
    refine Tw.lv (v := .agg (frcC s2 n2 d2)) rfl rfl (yb_all rfl (by kernel_rfl) (.tail _ (.tail _ (.head _))) Tryz.underlying34 rfl (by simp only [frcC_size]; kernel_rfl)) ?_
    refine Tw.lv (v := .tuple #[.agg (frcC sv31 nv31 dv31), .int .i64 ev31]) rfl rfl (yb_call (f := 21) (args := #[.agg (frcC s1 n1 d1), .agg (frcC s2 n2 d2)]) (fun _ => by kernel_rfl) fun W hW => (by have h := RSub_any s1 s2 n1 d1 n2 d2 hn1 hd1 hn2 hd2 W; rw [hpv31] at h; exact h)) ?_
    refine Tw.lm (v := .tuple #[.agg (frcC sv31 nv31 dv31), .int .i64 ev31]) rfl rfl ?_
    refine Tw.lm (v := .agg (frcC sv31 nv31 dv31)) rfl rfl ?_
    refine Tw.lm (v := .int .i64 ev31) rfl rfl ?_
    refine wpL_s [(g29, .cells (frcC sv31 nv31 dv31) 34 (0, 0)), (g27, .cells (frcC sv31 nv31 dv31) 25 (0, 0)), (ga5, .cells (frcC s2 n2 d2) 34 (0, 0)), (ga4, .cells (frcC s1 n1 d1) 34 (0, 0)), (g2, .cells (frcC s2 n2 d2) 25 (0, 0)), (g1, .cells (frcC s1 n1 d1) 25 (0, 0))] rfl rfl (st_all (by simp only [frcC_size]) (by exact frc_onec) rfl (by kernel_rfl) (by kernel_rfl) (.head _) Bg29 (by simp only [frcC_size]; kernel_rfl) (List.forall_mem_cons.2 ⟨.inl rfl, (List.forall_mem_cons.2 ⟨.inr ⟨(.tail _ (.head _)), (by first | assumption | exact Ne.symm (by assumption))⟩, (List.forall_mem_cons.2 ⟨.inr ⟨(.tail _ (.tail _ (.head _))), (by first | assumption | exact Ne.symm (by assumption))⟩, (List.forall_mem_cons.2 ⟨.inr ⟨(.tail _ (.tail _ (.tail _ (.head _)))), (by first | assumption | exact Ne.symm (by assumption))⟩, (List.forall_mem_cons.2 ⟨.inr ⟨(.tail _ (.tail _ (.tail _ (.tail _ (.head _))))), (by first | assumption | exact Ne.symm (by assumption))⟩, (List.forall_mem_cons.2 ⟨.inr ⟨(.tail _ (.tail _ (.tail _ (.tail _ (.tail _ (.head _)))))), (by first | assumption | exact Ne.symm (by assumption))⟩, (List.forall_mem_nil _)⟩)⟩)⟩)⟩)⟩)⟩)) ?_
    refine Tw.lm (v := .int .i64 ev31) rfl rfl ?_
    refine wpL_done (fun W15 hW15 => ?_)
    refine (show Code.wp _ _ _ _ _ from ?_)
    refine wp_seq ?_
    refine wp_seq ?_
    refine wp_region_L (W0 := w) [(g29, .cells (frcC sv31 nv31 dv31) 34 (0, 0)), (g27, .cells (frcC sv31 nv31 dv31) 25 (0, 0)), (ga5, .cells (frcC s2 n2 d2) 34 (0, 0)), (ga4, .cells (frcC s1 n1 d1) 34 (0, 0)), (g2, .cells (frcC s2 n2 d2) 25 (0, 0)), (g1, .cells (frcC s1 n1 d1) 25 (0, 0))] (hW15) ?_
    refine Tw.lv (v := .agg (frcC sv31 nv31 dv31)) rfl rfl (yb_all rfl (by kernel_rfl) (.tail _ (.head _)) Tryz.underlying25 rfl (by simp only [frcC_size]; kernel_rfl)) ?_
    refine Tw.lm (v := .int .i64 ev31) rfl rfl ?_
    refine Tw.lv (v := .agg (frcC sv31 nv31 dv31)) rfl rfl (yb_all rfl (by kernel_rfl) (.head _) Tryz.underlying34 rfl (by simp only [frcC_size]; kernel_rfl)) ?_
    refine Tw.lm (v := .int .i64 ev31) rfl rfl ?_
    refine Tw.lv (v := .bool true) rfl rfl (yb_call (f := 19) (args := #[.agg (frcC sv31 nv31 dv31), .int .i64 ev31, .agg (frcC sv31 nv31 dv31), .int .i64 ev31]) (fun _ => by kernel_rfl) fun W hW => pair_same sv31 nv31 dv31 ev31 ln31 ld31 W) ?_
    refine Tw.lm (v := .bool false) rfl rfl ?_
    refine wpL_done (fun W16 hW16 => ?_)
    refine (show Code.wp _ _ _ _ _ from ?_)
    refine wp_cond_false rfl ?_
    refine wp_skip ?_
    refine (show Code.wp _ _ _ _ _ from ?_)
    refine wp_seq ?_
    refine wp_region_L (W0 := w) [(g29, .cells (frcC sv31 nv31 dv31) 34 (0, 0)), (g27, .cells (frcC sv31 nv31 dv31) 25 (0, 0)), (ga5, .cells (frcC s2 n2 d2) 34 (0, 0)), (ga4, .cells (frcC s1 n1 d1) 34 (0, 0)), (g2, .cells (frcC s2 n2 d2) 25 (0, 0)), (g1, .cells (frcC s1 n1 d1) 25 (0, 0))] (hW16) ?_
    refine Tw.lv (v := .agg (frcC s1 n1 d1)) rfl rfl (yb_all rfl (by kernel_rfl) (.tail _ (.tail _ (.tail _ (.tail _ (.tail _ (.head _)))))) Tryz.underlying25 rfl (by simp only [frcC_size]; kernel_rfl)) ?_
    refine Tw.lv (v := .agg (frcC s2 n2 d2)) rfl rfl (yb_all rfl (by kernel_rfl) (.tail _ (.tail _ (.tail _ (.tail _ (.head _))))) Tryz.underlying25 rfl (by simp only [frcC_size]; kernel_rfl)) ?_
    obtain ⟨sv32, nv32, dv32, ev32, hpv32, ln32, ld32⟩ : ∃ s n d e, (if (rightB s1 n1 d1 && rightB s2 n2 d2) = true then mulV s1 n1 d1 s2 n2 d2 else argV) = .tuple #[.agg (frcC s n d), .int .i64 e] ∧ n < R 8 ∧ d < R 8 := if_shape8
    refine Tw.lv (v := .tuple #[.agg (frcC sv32 nv32 dv32), .int .i64 ev32]) rfl rfl (yb_call (f := 22) (args := #[.agg (frcC s1 n1 d1), .agg (frcC s2 n2 d2)]) (fun _ => by kernel_rfl) fun W hW => (by have h := Mul_any s1 s2 n1 d1 n2 d2 hn1 hd1 hn2 hd2 W; rw [hpv32] at h; exact h)) ?_
    refine Tw.lm (v := .tuple #[.agg (frcC sv32 nv32 dv32), .int .i64 ev32]) rfl rfl ?_
    refine Tw.lm (v := .agg (frcC sv32 nv32 dv32)) rfl rfl ?_
    refine Tw.lm (v := .int .i64 ev32) rfl rfl ?_
    refine wpL_s [(g29, .cells (frcC sv31 nv31 dv31) 34 (0, 0)), (g27, .cells (frcC sv32 nv32 dv32) 25 (0, 0)), (ga5, .cells (frcC s2 n2 d2) 34 (0, 0)), (ga4, .cells (frcC s1 n1 d1) 34 (0, 0)), (g2, .cells (frcC s2 n2 d2) 25 (0, 0)), (g1, .cells (frcC s1 n1 d1) 25 (0, 0))] rfl rfl (st_all (by simp only [frcC_size]) (by exact frc_onec) rfl (by kernel_rfl) (by kernel_rfl) (.tail _ (.head _)) Bg27 (by simp only [frcC_size]; kernel_rfl) (List.forall_mem_cons.2 ⟨.inr ⟨(.head _), (by first | assumption | exact Ne.symm (by assumption))⟩, (List.forall_mem_cons.2 ⟨.inl rfl, (List.forall_mem_cons.2 ⟨.inr ⟨(.tail _ (.tail _ (.head _))), (by first | assumption | exact Ne.symm (by assumption))⟩, (List.forall_mem_cons.2 ⟨.inr ⟨(.tail _ (.tail _ (.tail _ (.head _)))), (by first | assumption | exact Ne.symm (by assumption))⟩, (List.forall_mem_cons.2 ⟨.inr ⟨(.tail _ (.tail _ (.tail _ (.tail _ (.head _))))), (by first | assumption | exact Ne.symm (by assumption))⟩, (List.forall_mem_cons.2 ⟨.inr ⟨(.tail _ (.tail _ (.tail _ (.tail _ (.tail _ (.head _)))))), (by first | assumption | exact Ne.symm (by assumption))⟩, (List.forall_mem_nil _)⟩)⟩)⟩)⟩)⟩)⟩)) ?_
    refine Tw.lm (v := .int .i64 ev32) rfl rfl ?_
    refine wpL_done (fun W17 hW17 => ?_)
    refine (show Code.wp _ _ _ _ _ from ?_)
    refine wp_seq ?_
    refine wp_region_L (W0 := w) [(g29, .cells (frcC sv31 nv31 dv31) 34 (0, 0)), (g27, .cells (frcC sv32 nv32 dv32) 25 (0, 0)), (ga5, .cells (frcC s2 n2 d2) 34 (0, 0)), (ga4, .cells (frcC s1 n1 d1) 34 (0, 0)), (g2, .cells (frcC s2 n2 d2) 25 (0, 0)), (g1, .cells (frcC s1 n1 d1) 25 (0, 0))] (hW17) ?_
    refine Tw.lv (v := .agg (frcC s1 n1 d1)) rfl rfl (yb_all rfl (by kernel_rfl) (.tail _ (.tail _ (.tail _ (.head _)))) Tryz.underlying34 rfl (by simp only [frcC_size]; kernel_rfl)) ?_
    refine Tw.lv (v := .agg (frcC s2 n2 d2)) rfl rfl (yb_all rfl (by kernel_rfl) (.tail _ (.tail _ (.head _))) Tryz.underlying34 rfl (by simp only [frcC_size]; kernel_rfl)) ?_
    refine Tw.lv (v := .tuple #[.agg (frcC sv32 nv32 dv32), .int .i64 ev32]) rfl rfl (yb_call (f := 23) (args := #[.agg (frcC s1 n1 d1), .agg (frcC s2 n2 d2)]) (fun _ => by kernel_rfl) fun W hW => (by have h := RMul_any s1 s2 n1 d1 n2 d2 hn1 hd1 hn2 hd2 W; rw [hpv32] at h; exact h)) ?_
    refine Tw.lm (v := .tuple #[.agg (frcC sv32 nv32 dv32), .int .i64 ev32]) rfl rfl ?_
    refine Tw.lm (v := .agg (frcC sv32 nv32 dv32)) rfl rfl ?_
    refine Tw.lm (v := .int .i64 ev32) rfl rfl ?_
    refine wpL_s [(g29, .cells (frcC sv32 nv32 dv32) 34 (0, 0)), (g27, .cells (frcC sv32 nv32 dv32) 25 (0, 0)), (ga5, .cells (frcC s2 n2 d2) 34 (0, 0)), (ga4, .cells (frcC s1 n1 d1) 34 (0, 0)), (g2, .cells (frcC s2 n2 d2) 25 (0, 0)), (g1, .cells (frcC s1 n1 d1) 25 (0, 0))] rfl rfl (st_all (by simp only [frcC_size]) (by exact frc_onec) rfl (by kernel_rfl) (by kernel_rfl) (.head _) Bg29 (by simp only [frcC_size]; kernel_rfl) (List.forall_mem_cons.2 ⟨.inl rfl, (List.forall_mem_cons.2 ⟨.inr ⟨(.tail _ (.head _)), (by first | assumption | exact Ne.symm (by assumption))⟩, (List.forall_mem_cons.2 ⟨.inr ⟨(.tail _ (.tail _ (.head _))), (by first | assumption | exact Ne.symm (by assumption))⟩, (List.forall_mem_cons.2 ⟨.inr ⟨(.tail _ (.tail _ (.tail _ (.head _)))), (by first | assumption | exact Ne.symm (by assumption))⟩, (List.forall_mem_cons.2 ⟨.inr ⟨(.tail _ (.tail _ (.tail _ (.tail _ (.head _))))), (by first | assumption | exact Ne.symm (by assumption))⟩, (List.forall_mem_cons.2 ⟨.inr ⟨(.tail _ (.tail _ (.tail _ (.tail _ (.tail _ (.head _)))))), (by first | assumption | exact Ne.symm (by assumption))⟩, (List.forall_mem_nil _)⟩)⟩)⟩)⟩)⟩)⟩)) ?_
    refine Tw.lm (v := .int .i64 ev32) rfl rfl ?_
    refine wpL_done (fun W18 hW18 => ?_)
    refine (show Code.wp _ _ _ _ _ from ?_)
    refine wp_seq ?_
    refine wp_seq ?_
    refine wp_region_L (W0 := w) [(g29, .cells (frcC sv32 nv32 dv32) 34 (0, 0)), (g27, .cells (frcC sv32 nv32 dv32) 25 (0, 0)), (ga5, .cells (frcC s2 n2 d2) 34 (0, 0)), (ga4, .cells (frcC s1 n1 d1) 34 (0, 0)), (g2, .cells (frcC s2 n2 d2) 25 (0, 0)), (g1, .cells (frcC s1 n1 d1) 25 (0, 0))] (hW18) ?_
    refine Tw.lv (v := .agg (frcC sv32 nv32 dv32)) rfl rfl (yb_all rfl (by kernel_rfl) (.tail _ (.head _)) Tryz.underlying25 rfl (by simp only [frcC_size]; kernel_rfl)) ?_
    refine Tw.lm (v := .int .i64 ev32) rfl rfl ?_
    refine Tw.lv (v := .agg (frcC sv32 nv32 dv32)) rfl rfl (yb_all rfl (by kernel_rfl) (.head _) Tryz.underlying34 rfl (by simp only [frcC_size]; kernel_rfl)) ?_
    refine Tw.lm (v := .int .i64 ev32) rfl rfl ?_
    refine Tw.lv (v := .bool true) rfl rfl (yb_call (f := 19) (args := #[.agg (frcC sv32 nv32 dv32), .int .i64 ev32, .agg (frcC sv32 nv32 dv32), .int .i64 ev32]) (fun _ => by kernel_rfl) fun W hW => pair_same sv32 nv32 dv32 ev32 ln32 ld32 W) ?_
    refine Tw.lm (v := .bool false) rfl rfl ?_
    refine wpL_done (fun W19 hW19 => ?_)
    refine (show Code.wp _ _ _ _ _ from ?_)
    refine wp_cond_false rfl ?_
    refine wp_skip ?_
    refine (show Code.wp _ _ _ _ _ from ?_)
    refine wp_seq ?_
    refine wp_region_L (W0 := w) [(g29, .cells (frcC sv32 nv32 dv32) 34 (0, 0)), (g27, .cells (frcC sv32 nv32 dv32) 25 (0, 0)), (ga5, .cells (frcC s2 n2 d2) 34 (0, 0)), (ga4, .cells (frcC s1 n1 d1) 34 (0, 0)), (g2, .cells (frcC s2 n2 d2) 25 (0, 0)), (g1, .cells (frcC s1 n1 d1) 25 (0, 0))] (hW19) ?_
    refine Tw.lv (v := .agg (frcC s1 n1 d1)) rfl rfl (yb_all rfl (by kernel_rfl) (.tail _ (.tail _ (.tail _ (.tail _ (.tail _ (.head _)))))) Tryz.underlying25 rfl (by simp only [frcC_size]; kernel_rfl)) ?_
    refine Tw.lv (v := .agg (frcC s2 n2 d2)) rfl rfl (yb_all rfl (by kernel_rfl) (.tail _ (.tail _ (.tail _ (.tail _ (.head _))))) Tryz.underlying25 rfl (by simp only [frcC_size]; kernel_rfl)) ?_
    obtain ⟨sv33, nv33, dv33, ev33, hpv33, ln33, ld33⟩ : ∃ s n d e, (if rightB s1 n1 d1 = true ∧ rightB s2 n2 d2 = true ∧ n2 ≠ 0 then mulV s1 n1 d1 s2 d2 n2 else argV) = .tuple #[.agg (frcC s n d), .int .i64 e] ∧ n < R 8 ∧ d < R 8 := if_shape8
    refine Tw.lv (v := .tuple #[.agg (frcC sv33 nv33 dv33), .int .i64 ev33]) rfl rfl (yb_call (f := 24) (args := #[.agg (frcC s1 n1 d1), .agg (frcC s2 n2 d2)]) (fun _ => by kernel_rfl) fun W hW => (by have h := Div_any s1 s2 n1 d1 n2 d2 hn1 hd1 hn2 hd2 W; rw [hpv33] at h; exact h)) ?_
    refine Tw.lm (v := .tuple #[.agg (frcC sv33 nv33 dv33), .int .i64 ev33]) rfl rfl ?_
    refine Tw.lm (v := .agg (frcC sv33 nv33 dv33)) rfl rfl ?_
    refine Tw.lm (v := .int .i64 ev33) rfl rfl ?_
    refine wpL_s [(g29, .cells (frcC sv32 nv32 dv32) 34 (0, 0)), (g27, .cells (frcC sv33 nv33 dv33) 25 (0, 0)), (ga5, .cells (frcC s2 n2 d2) 34 (0, 0)), (ga4, .cells (frcC s1 n1 d1) 34 (0, 0)), (g2, .cells (frcC s2 n2 d2) 25 (0, 0)), (g1, .cells (frcC s1 n1 d1) 25 (0, 0))] rfl rfl (st_all (by simp only [frcC_size]) (by exact frc_onec) rfl (by kernel_rfl) (by kernel_rfl) (.tail _ (.head _)) Bg27 (by simp only [frcC_size]; kernel_rfl) (List.forall_mem_cons.2 ⟨.inr ⟨(.head _), (by first | assumption | exact Ne.symm (by assumption))⟩, (List.forall_mem_cons.2 ⟨.inl rfl, (List.forall_mem_cons.2 ⟨.inr ⟨(.tail _ (.tail _ (.head _))), (by first | assumption | exact Ne.symm (by assumption))⟩, (List.forall_mem_cons.2 ⟨.inr ⟨(.tail _ (.tail _ (.tail _ (.head _)))), (by first | assumption | exact Ne.symm (by assumption))⟩, (List.forall_mem_cons.2 ⟨.inr ⟨(.tail _ (.tail _ (.tail _ (.tail _ (.head _))))), (by first | assumption | exact Ne.symm (by assumption))⟩, (List.forall_mem_cons.2 ⟨.inr ⟨(.tail _ (.tail _ (.tail _ (.tail _ (.tail _ (.head _)))))), (by first | assumption | exact Ne.symm (by assumption))⟩, (List.forall_mem_nil _)⟩)⟩)⟩)⟩)⟩)⟩)) ?_
    refine Tw.lm (v := .int .i64 ev33) rfl rfl ?_
    refine wpL_done (fun W20 hW20 => ?_)
    refine (show Code.wp _ _ _ _ _ from ?_)
    refine wp_seq ?_
    refine wp_region_L (W0 := w) [(g29, .cells (frcC sv32 nv32 dv32) 34 (0, 0)), (g27, .cells (frcC sv33 nv33 dv33) 25 (0, 0)), (ga5, .cells (frcC s2 n2 d2) 34 (0, 0)), (ga4, .cells (frcC s1 n1 d1) 34 (0, 0)), (g2, .cells (frcC s2 n2 d2) 25 (0, 0)), (g1, .cells (frcC s1 n1 d1) 25 (0, 0))] (hW20) ?_
    refine Tw.lv (v := .agg (frcC s1 n1 d1)) rfl rfl (yb_all rfl (by kernel_rfl) (.tail _ (.tail _ (.tail _ (.head _)))) Tryz.underlying34 rfl (by simp only [frcC_size]; kernel_rfl)) ?_
    refine Tw.lv (v := .agg (frcC s2 n2 d2)) rfl rfl (yb_all rfl (by kernel_rfl) (.tail _ (.tail _ (.head _))) Tryz.underlying34 rfl (by simp only [frcC_size]; kernel_rfl)) ?_
    refine Tw.lv (v := .tuple #[.agg (frcC sv33 nv33 dv33), .int .i64 ev33]) rfl rfl (yb_call (f := 25) (args := #[.agg (frcC s1 n1 d1), .agg (frcC s2 n2 d2)]) (fun _ => by kernel_rfl) fun W hW => (by have h := RDiv_any s1 s2 n1 d1 n2 d2 hn1 hd1 hn2 hd2 W; rw [hpv33] at h; exact h)) ?_
    refine Tw.lm (v := .tuple #[.agg (frcC sv33 nv33 dv33), .int .i64 ev33]) rfl rfl ?_
    refine Tw.lm (v := .agg (frcC sv33 nv33 dv33)) rfl rfl ?_
    refine Tw.lm (v := .int .i64 ev33) rfl rfl ?_
    refine wpL_s [(g29, .cells (frcC sv33 nv33 dv33) 34 (0, 0)), (g27, .cells (frcC sv33 nv33 dv33) 25 (0, 0)), (ga5, .cells (frcC s2 n2 d2) 34 (0, 0)), (ga4, .cells (frcC s1 n1 d1) 34 (0, 0)), (g2, .cells (frcC s2 n2 d2) 25 (0, 0)), (g1, .cells (frcC s1 n1 d1) 25 (0, 0))] rfl rfl (st_all (by simp only [frcC_size]) (by exact frc_onec) rfl (by kernel_rfl) (by kernel_rfl) (.head _) Bg29 (by simp only [frcC_size]; kernel_rfl) (List.forall_mem_cons.2 ⟨.inl rfl, (List.forall_mem_cons.2 ⟨.inr ⟨(.tail _ (.head _)), (by first | assumption | exact Ne.symm (by assumption))⟩, (List.forall_mem_cons.2 ⟨.inr ⟨(.tail _ (.tail _ (.head _))), (by first | assumption | exact Ne.symm (by assumption))⟩, (List.forall_mem_cons.2 ⟨.inr ⟨(.tail _ (.tail _ (.tail _ (.head _)))), (by first | assumption | exact Ne.symm (by assumption))⟩, (List.forall_mem_cons.2 ⟨.inr ⟨(.tail _ (.tail _ (.tail _ (.tail _ (.head _))))), (by first | assumption | exact Ne.symm (by assumption))⟩, (List.forall_mem_cons.2 ⟨.inr ⟨(.tail _ (.tail _ (.tail _ (.tail _ (.tail _ (.head _)))))), (by first | assumption | exact Ne.symm (by assumption))⟩, (List.forall_mem_nil _)⟩)⟩)⟩)⟩)⟩)⟩)) ?_
    refine Tw.lm (v := .int .i64 ev33) rfl rfl ?_
    refine wpL_done (fun W21 hW21 => ?_)
    refine (show Code.wp _ _ _ _ _ from ?_)
    refine wp_seq ?_
    refine wp_seq ?_
    refine wp_region_L (W0 := w) [(g29, .cells (frcC sv33 nv33 dv33) 34 (0, 0)), (g27, .cells (frcC sv33 nv33 dv33) 25 (0, 0)), (ga5, .cells (frcC s2 n2 d2) 34 (0, 0)), (ga4, .cells (frcC s1 n1 d1) 34 (0, 0)), (g2, .cells (frcC s2 n2 d2) 25 (0, 0)), (g1, .cells (frcC s1 n1 d1) 25 (0, 0))] (hW21) ?_
    refine Tw.lv (v := .agg (frcC sv33 nv33 dv33)) rfl rfl (yb_all rfl (by kernel_rfl) (.tail _ (.head _)) Tryz.underlying25 rfl (by simp only [frcC_size]; kernel_rfl)) ?_
    refine Tw.lm (v := .int .i64 ev33) rfl rfl ?_
    refine Tw.lv (v := .agg (frcC sv33 nv33 dv33)) rfl rfl (yb_all rfl (by kernel_rfl) (.head _) Tryz.underlying34 rfl (by simp only [frcC_size]; kernel_rfl)) ?_
    refine Tw.lm (v := .int .i64 ev33) rfl rfl ?_
    refine Tw.lv (v := .bool true) rfl rfl (yb_call (f := 19) (args := #[.agg (frcC sv33 nv33 dv33), .int .i64 ev33, .agg (frcC sv33 nv33 dv33), .int .i64 ev33]) (fun _ => by kernel_rfl) fun W hW => pair_same sv33 nv33 dv33 ev33 ln33 ld33 W) ?_
    refine Tw.lm (v := .bool false) rfl rfl ?_
    refine wpL_done (fun W22 hW22 => ?_)
    refine (show Code.wp _ _ _ _ _ from ?_)
    refine wp_cond_false rfl ?_
    refine wp_skip ?_
    refine (show Code.wp _ _ _ _ _ from ?_)
    refine wp_seq ?_
    refine wp_region_L (W0 := w) [(g29, .cells (frcC sv33 nv33 dv33) 34 (0, 0)), (g27, .cells (frcC sv33 nv33 dv33) 25 (0, 0)), (ga5, .cells (frcC s2 n2 d2) 34 (0, 0)), (ga4, .cells (frcC s1 n1 d1) 34 (0, 0)), (g2, .cells (frcC s2 n2 d2) 25 (0, 0)), (g1, .cells (frcC s1 n1 d1) 25 (0, 0))] (hW22) ?_
    refine Tw.lv (v := .agg (frcC s1 n1 d1)) rfl rfl (yb_all rfl (by kernel_rfl) (.tail _ (.tail _ (.tail _ (.tail _ (.tail _ (.head _)))))) Tryz.underlying25 rfl (by simp only [frcC_size]; kernel_rfl)) ?_
    refine Tw.lv (v := .agg (frcC s2 n2 d2)) rfl rfl (yb_all rfl (by kernel_rfl) (.tail _ (.tail _ (.tail _ (.tail _ (.head _))))) Tryz.underlying25 rfl (by simp only [frcC_size]; kernel_rfl)) ?_
    obtain ⟨xv34, ev34, hpv34⟩ := cmp_shape (c := rightB s1 n1 d1 = true ∧ rightB s2 n2 d2 = true) (a := cmpI s1 n1 d1 s2 n2 d2)
    refine Tw.lv (v := .tuple #[.int .i64 xv34, .int .i64 ev34]) rfl rfl (yb_call (f := 26) (args := #[.agg (frcC s1 n1 d1), .agg (frcC s2 n2 d2)]) (fun _ => by kernel_rfl) fun W hW => (by have h := Cmp_any s1 s2 n1 d1 n2 d2 hn1 hd1 hn2 hd2 W; rw [hpv34] at h; exact h)) ?_
    refine Tw.lm (v := .tuple #[.int .i64 xv34, .int .i64 ev34]) rfl rfl ?_
    refine Tw.lm (v := .int .i64 xv34) rfl rfl ?_
    refine Tw.lm (v := .int .i64 ev34) rfl rfl ?_
    refine Tw.lm (v := .int .i64 xv34) rfl rfl ?_
    refine Tw.lm (v := .int .i64 ev34) rfl rfl ?_
    refine wpL_done (fun W23 hW23 => ?_)
    refine (show Code.wp _ _ _ _ _ from ?_)
    refine wp_seq ?_
    refine wp_region_L (W0 := w) [(g29, .cells (frcC sv33 nv33 dv33) 34 (0, 0)), (g27, .cells (frcC sv33 nv33 dv33) 25 (0, 0)), (ga5, .cells (frcC s2 n2 d2) 34 (0, 0)), (ga4, .cells (frcC s1 n1 d1) 34 (0, 0)), (g2, .cells (frcC s2 n2 d2) 25 (0, 0)), (g1, .cells (frcC s1 n1 d1) 25 (0, 0))] (hW23) ?_
    refine Tw.lv (v := .agg (frcC s1 n1 d1)) rfl rfl (yb_all rfl (by kernel_rfl) (.tail _ (.tail _ (.tail _ (.head _)))) Tryz.underlying34 rfl (by simp only [frcC_size]; kernel_rfl)) ?_
    refine Tw.lv (v := .agg (frcC s2 n2 d2)) rfl rfl (yb_all rfl (by kernel_rfl) (.tail _ (.tail _ (.head _))) Tryz.underlying34 rfl (by simp only [frcC_size]; kernel_rfl)) ?_
    refine Tw.lv (v := .tuple #[.int .i64 xv34, .int .i64 ev34]) rfl rfl (yb_call (f := 27) (args := #[.agg (frcC s1 n1 d1), .agg (frcC s2 n2 d2)]) (fun _ => by kernel_rfl) fun W hW => (by have h := RCmp_any s1 s2 n1 d1 n2 d2 hn1 hd1 hn2 hd2 W; rw [hpv34] at h; exact h)) ?_
    refine Tw.lm (v := .tuple #[.int .i64 xv34, .int .i64 ev34]) rfl rfl ?_
    refine Tw.lm (v := .int .i64 xv34) rfl rfl ?_
    refine Tw.lm (v := .int .i64 ev34) rfl rfl ?_
    refine Tw.lm (v := .int .i64 xv34) rfl rfl ?_
    refine Tw.lm (v := .int .i64 ev34) rfl rfl ?_
    refine wpL_done (fun W24 hW24 => ?_)
    refine (show Code.wp _ _ _ _ _ from ?_)
    refine wp_seq ?_
    refine wp_region_L (W0 := w) [(g29, .cells (frcC sv33 nv33 dv33) 34 (0, 0)), (g27, .cells (frcC sv33 nv33 dv33) 25 (0, 0)), (ga5, .cells (frcC s2 n2 d2) 34 (0, 0)), (ga4, .cells (frcC s1 n1 d1) 34 (0, 0)), (g2, .cells (frcC s2 n2 d2) 25 (0, 0)), (g1, .cells (frcC s1 n1 d1) 25 (0, 0))] (hW24) ?_
    refine Tw.lv (v := .agg (frcC s1 n1 d1)) rfl rfl (yb_all rfl (by kernel_rfl) (.tail _ (.tail _ (.tail _ (.tail _ (.tail _ (.head _)))))) Tryz.underlying25 rfl (by simp only [frcC_size]; kernel_rfl)) ?_
    obtain ⟨xv35, ev35, hpv35⟩ := floor_shape (s := s1) (n := n1) (d := d1)
    refine Tw.lv (v := .tuple #[.int .i64 xv35, .int .i64 ev35]) rfl rfl (yb_call (f := 28) (args := #[.agg (frcC s1 n1 d1)]) (fun _ => by kernel_rfl) fun W hW => (by have h := floor_any s1 n1 d1 hn1 hd1 W; rw [hpv35] at h; exact h)) ?_
    refine Tw.lm (v := .tuple #[.int .i64 xv35, .int .i64 ev35]) rfl rfl ?_
    refine Tw.lm (v := .int .i64 xv35) rfl rfl ?_
    refine Tw.lm (v := .int .i64 ev35) rfl rfl ?_
    refine Tw.lm (v := .int .i64 xv35) rfl rfl ?_
    refine Tw.lm (v := .int .i64 ev35) rfl rfl ?_
    refine wpL_done (fun W25 hW25 => ?_)
    refine (show Code.wp _ _ _ _ _ from ?_)
    refine wp_seq ?_
    refine wp_region_L (W0 := w) [(g29, .cells (frcC sv33 nv33 dv33) 34 (0, 0)), (g27, .cells (frcC sv33 nv33 dv33) 25 (0, 0)), (ga5, .cells (frcC s2 n2 d2) 34 (0, 0)), (ga4, .cells (frcC s1 n1 d1) 34 (0, 0)), (g2, .cells (frcC s2 n2 d2) 25 (0, 0)), (g1, .cells (frcC s1 n1 d1) 25 (0, 0))] (hW25) ?_
    refine Tw.lv (v := .agg (frcC s1 n1 d1)) rfl rfl (yb_all rfl (by kernel_rfl) (.tail _ (.tail _ (.tail _ (.head _)))) Tryz.underlying34 rfl (by simp only [frcC_size]; kernel_rfl)) ?_
    refine Tw.lv (v := .tuple #[.int .i64 xv35, .int .i64 ev35]) rfl rfl (yb_call (f := 29) (args := #[.agg (frcC s1 n1 d1)]) (fun _ => by kernel_rfl) fun W hW => (by have h := RFloor_any s1 n1 d1 hn1 hd1 W; rw [hpv35] at h; exact h)) ?_
    refine Tw.lm (v := .tuple #[.int .i64 xv35, .int .i64 ev35]) rfl rfl ?_
    refine Tw.lm (v := .int .i64 xv35) rfl rfl ?_
    refine Tw.lm (v := .int .i64 ev35) rfl rfl ?_
    refine Tw.lm (v := .int .i64 xv35) rfl rfl ?_
    refine Tw.lm (v := .int .i64 ev35) rfl rfl ?_
    refine wpL_done (fun W26 hW26 => ?_)
    refine (show Code.wp _ _ _ _ _ from ?_)
    refine wp_seq ?_
    refine wp_region_L (W0 := w) [(g29, .cells (frcC sv33 nv33 dv33) 34 (0, 0)), (g27, .cells (frcC sv33 nv33 dv33) 25 (0, 0)), (ga5, .cells (frcC s2 n2 d2) 34 (0, 0)), (ga4, .cells (frcC s1 n1 d1) 34 (0, 0)), (g2, .cells (frcC s2 n2 d2) 25 (0, 0)), (g1, .cells (frcC s1 n1 d1) 25 (0, 0))] (hW26) ?_
    refine Tw.lv (v := .agg (frcC s1 n1 d1)) rfl rfl (yb_all rfl (by kernel_rfl) (.tail _ (.tail _ (.tail _ (.tail _ (.tail _ (.head _)))))) Tryz.underlying25 rfl (by simp only [frcC_size]; kernel_rfl)) ?_
    obtain ⟨xv36, ev36, hpv36⟩ := text_shape (s := s1) (n := n1) (d := d1)
    refine Tw.lv (v := .tuple #[strV xv36, .int .i64 ev36]) rfl rfl (yb_call (f := 30) (args := #[.agg (frcC s1 n1 d1)]) (fun _ => by kernel_rfl) fun W hW => (by have h := ltext_any s1 n1 d1 hn1 hd1 W (HE.out.keep hW.1); rw [hpv36] at h; exact h)) ?_
    refine Tw.lm (v := .tuple #[strV xv36, .int .i64 ev36]) rfl rfl ?_
    refine Tw.lm (v := strV xv36) rfl rfl ?_
    refine Tw.lm (v := .int .i64 ev36) rfl rfl ?_
    refine Tw.lm (v := strV xv36) rfl rfl ?_
    refine Tw.lm (v := .int .i64 ev36) rfl rfl ?_
    refine wpL_done (fun W27 hW27 => ?_)
    refine (show Code.wp _ _ _ _ _ from ?_)
    refine wp_seq ?_
    refine wp_region_L (W0 := w) [(g29, .cells (frcC sv33 nv33 dv33) 34 (0, 0)), (g27, .cells (frcC sv33 nv33 dv33) 25 (0, 0)), (ga5, .cells (frcC s2 n2 d2) 34 (0, 0)), (ga4, .cells (frcC s1 n1 d1) 34 (0, 0)), (g2, .cells (frcC s2 n2 d2) 25 (0, 0)), (g1, .cells (frcC s1 n1 d1) 25 (0, 0))] (hW27) ?_
    refine Tw.lv (v := .agg (frcC s1 n1 d1)) rfl rfl (yb_all rfl (by kernel_rfl) (.tail _ (.tail _ (.tail _ (.head _)))) Tryz.underlying34 rfl (by simp only [frcC_size]; kernel_rfl)) ?_
    refine Tw.lv (v := .tuple #[strV xv36, .int .i64 ev36]) rfl rfl (yb_call (f := 31) (args := #[.agg (frcC s1 n1 d1)]) (fun _ => by kernel_rfl) fun W hW => (by have h := RText_any s1 n1 d1 hn1 hd1 W; rw [hpv36] at h; exact h)) ?_
    refine Tw.lm (v := .tuple #[strV xv36, .int .i64 ev36]) rfl rfl ?_
    refine Tw.lm (v := strV xv36) rfl rfl ?_
    refine Tw.lm (v := .int .i64 ev36) rfl rfl ?_
    refine Tw.lm (v := strV xv36) rfl rfl ?_
    refine Tw.lm (v := .int .i64 ev36) rfl rfl ?_
    refine wpL_done (fun W28 hW28 => ?_)
    refine (show Code.wp _ _ _ _ _ from ?_)
    refine wp_seq ?_
    refine wp_region_L (W0 := w) [(g29, .cells (frcC sv33 nv33 dv33) 34 (0, 0)), (g27, .cells (frcC sv33 nv33 dv33) 25 (0, 0)), (ga5, .cells (frcC s2 n2 d2) 34 (0, 0)), (ga4, .cells (frcC s1 n1 d1) 34 (0, 0)), (g2, .cells (frcC s2 n2 d2) 25 (0, 0)), (g1, .cells (frcC s1 n1 d1) 25 (0, 0))] (hW28) ?_
    refine Tw.lm (v := .int .i64 xv34) rfl rfl ?_
    refine Tw.lm (v := .int .i64 xv34) rfl rfl ?_
    refine Tw.lp (v := .bool true) rfl rfl (run_bin rfl (vx := (.int .i64 xv34)) (vy := (.int .i64 xv34)) (by kernel_rfl) (by kernel_rfl) fun w => bi_eql (decide_eq_true rfl) w) ?_
    refine Tw.lm (v := .bool true) rfl rfl ?_
    refine Tw.lm (v := .int .i64 ev34) rfl rfl ?_
    refine Tw.lm (v := .int .i64 ev34) rfl rfl ?_
    refine Tw.lp (v := .bool true) rfl rfl (run_bin rfl (vx := (.int .i64 ev34)) (vy := (.int .i64 ev34)) (by kernel_rfl) (by kernel_rfl) fun w => bi_eql (decide_eq_true rfl) w) ?_
    refine Tw.lm (v := .bool true) rfl rfl ?_
    refine Tw.lm (v := .bool true) rfl rfl ?_
    refine Tw.lm (v := .int .i64 xv35) rfl rfl ?_
    refine Tw.lm (v := .int .i64 xv35) rfl rfl ?_
    refine Tw.lp (v := .bool true) rfl rfl (run_bin rfl (vx := (.int .i64 xv35)) (vy := (.int .i64 xv35)) (by kernel_rfl) (by kernel_rfl) fun w => bi_eql (decide_eq_true rfl) w) ?_
    refine Tw.lm (v := .bool true) rfl rfl ?_
    refine Tw.lm (v := .bool true) rfl rfl ?_
    refine Tw.lm (v := .int .i64 ev35) rfl rfl ?_
    refine Tw.lm (v := .int .i64 ev35) rfl rfl ?_
    refine Tw.lp (v := .bool true) rfl rfl (run_bin rfl (vx := (.int .i64 ev35)) (vy := (.int .i64 ev35)) (by kernel_rfl) (by kernel_rfl) fun w => bi_eql (decide_eq_true rfl) w) ?_
    refine Tw.lm (v := .bool true) rfl rfl ?_
    refine Tw.lm (v := .bool true) rfl rfl ?_
    refine Tw.lm (v := strV xv36) rfl rfl ?_
    refine Tw.lm (v := strV xv36) rfl rfl ?_
    refine Tw.lp (v := .bool true) rfl rfl (run_bin rfl (vx := strV xv36) (vy := strV xv36) (by kernel_rfl) (by kernel_rfl) fun w => bs_eql (decide_eq_true rfl) w) ?_
    refine Tw.lm (v := .bool true) rfl rfl ?_
    refine Tw.lm (v := .bool true) rfl rfl ?_
    refine Tw.lm (v := .int .i64 ev36) rfl rfl ?_
    refine Tw.lm (v := .int .i64 ev36) rfl rfl ?_
    refine Tw.lp (v := .bool true) rfl rfl (run_bin rfl (vx := (.int .i64 ev36)) (vy := (.int .i64 ev36)) (by kernel_rfl) (by kernel_rfl) fun w => bi_eql (decide_eq_true rfl) w) ?_
    refine Tw.lm (v := .bool true) rfl rfl ?_
    refine Tw.lm (v := .bool true) rfl rfl ?_
    refine wpL_done (fun W29 hW29 => ?_)
    refine (show Code.wp _ _ _ _ _ from ?_)
    refine wp_ret ?_
    try simp only [inBlock_ret, then_ret]
    refine bodyPost_ret (v := .bool true) ?_ rfl ?_
    · kernel_rfl
    · exact ⟨rfl, hW29.1⟩
end Go.Proofs.YtalmflgkbmnghaaGreatDoor
namespace Go.Proofs.YtalmflgkbmnghaaGreatDoor
open Go Go.RowKit Tw
set_option linter.unusedSimpArgs false
set_option linter.unusedVariables false
open Tf (dg R R_pos R_le R_succ dg_of_lt setd setd_eq)
variable [ShLZ]
variable [ShSt]
set_option maxRecDepth 100000 in
set_option maxHeartbeats 4000000 in
theorem FracTells_any (s1 s2 : Bool) (n1 d1 n2 d2 : Nat) (hn1 : n1 < R 8) (hd1 : d1 < R 8) (hn2 : n2 < R 8) (hd2 : d2 < R 8) (hA : ∀ W, Env W → Calls Tryz.prog 8 #[] W fun e w' => e = .returned (.bool true) ∧ Below W.heap.size W w') (w : World) (hE : Env w) : Calls Tryz.prog 3 #[.agg (frcC s1 n1 d1), .agg (frcC s2 n2 d2)] w fun e w' => e = .returned (.bool true) ∧ Below w.heap.size w w' := by
  have HE := Lib.hid hE
  clear hE
  go_enter Tryz.func3, Tryz.ntmps3
  refine wp_seq ?_
  refine wp_region_L (W0 := w) [] (KS.start w) ?_
  refine wpL_new (fun g => .pointer (some ⟨g, 0, none⟩)) (obi := .cells (frcC s1 n1 d1) 25 (0, 0)) rfl rfl (fun _ => by kernel_rfl) (fun _ => by simp only [List.setIfInBounds_toArray, List.set_cons_succ, List.set_cons_zero] <;> rfl) fun g1 Bg1 Fg1 => ?_
  refine wpL_new (fun g => .pointer (some ⟨g, 0, none⟩)) (obi := .cells (frcC s2 n2 d2) 25 (0, 0)) rfl rfl (fun _ => by kernel_rfl) (fun _ => by simp only [List.setIfInBounds_toArray, List.set_cons_succ, List.set_cons_zero] <;> rfl) fun g2 Bg2 Fg2 => ?_
  obtain dj3_0 : g1 ≠ g2 := by simpa only [dj_app_l, dj_app_r, dj_cons_l, dj_cons_r, dj_nil_l, dj_nil_r, dk_app, dk_cons, dk_nil, and_true, true_and, and_assoc] using (show Dk g2 [(g1, .cells (frcC s1 n1 d1) 25 (0, 0))] from Fg2)
  refine Tw.lm (v := .bool false) rfl rfl ?_
  refine wpL_done (fun W1 hW1 => ?_)
  refine (show Code.wp _ _ _ _ _ from ?_)
  refine wp_seq ?_
  refine wp_region_L (W0 := w) [(g2, .cells (frcC s2 n2 d2) 25 (0, 0)), (g1, .cells (frcC s1 n1 d1) 25 (0, 0))] (hW1) ?_
  refine Tw.lv (v := .agg (frcC s1 n1 d1)) rfl rfl (yb_all rfl (by kernel_rfl) (.tail _ (.head _)) Tryz.underlying25 rfl (by simp only [frcC_size]; kernel_rfl)) ?_
  refine Tw.lv (v := .agg (frcC s2 n2 d2)) rfl rfl (yb_all rfl (by kernel_rfl) (.head _) Tryz.underlying25 rfl (by simp only [frcC_size]; kernel_rfl)) ?_
  refine Tw.lv (v := .bool true) rfl rfl (yb_call (f := 7) (args := #[.agg (frcC s1 n1 d1), .agg (frcC s2 n2 d2)]) (fun _ => by kernel_rfl) fun W hW => ltells_any s1 s2 n1 d1 n2 d2 hn1 hd1 hn2 hd2 W (HE.out.keep hW.1)) ?_
  refine Tw.lm (v := .bool true) rfl rfl ?_
  refine Tw.lv (v := .bool true) rfl rfl (yb_call (f := 8) (args := #[]) (fun _ => by kernel_rfl) fun W hW => hA W (HE.out.keep hW.1)) ?_
  refine Tw.lm (v := .bool true) rfl rfl ?_
  refine Tw.lm (v := .bool true) rfl rfl ?_
  refine wpL_done (fun W2 hW2 => ?_)
  refine (show Code.wp _ _ _ _ _ from ?_)
  refine wp_ret ?_
  try simp only [inBlock_ret, then_ret]
  refine bodyPost_ret (v := .bool true) ?_ rfl ?_
  · kernel_rfl
  · exact ⟨rfl, hW2.1⟩
end Go.Proofs.YtalmflgkbmnghaaGreatDoor
namespace Go.Proofs.YtalmflgkbmnghaaGreatDoor
open Go Go.RowKit Tw
open Tf (dg R)
theorem FracTells_law (w : World) (hE : Env w) (s : Bool) (n d : Nat) (hn : n < R 8) (hd : d < R 8) (s2 : Bool) (n2 d2 : Nat) (hn2 : n2 < R 8) (hd2 : d2 < R 8) : Calls Tryz.prog 3 #[.agg (frcC s n d), .agg (frcC s2 n2 d2)] w fun e w' => e = .returned (.bool true) ∧ Below w.heap.size w w' :=
  FracTells_any s s2 n d n2 d2 hn hd hn2 hd2 (fun W hW => awake_any rep_any W hW) w hE
end Go.Proofs.YtalmflgkbmnghaaGreatDoor
