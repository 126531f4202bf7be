import Derived.Test.YtalmflgkbmnghaaGreatDoorYWc07
import Derived.Test.YtalmflgkbmnghaaGreatDoorRS02
import Derived.Test.YtalmflgkbmnghaaGreatDoorRS00
import Derived.Test.YtalmflgkbmnghaaGreatDoorRS01
import Derived.Test.YtalmflgkbmnghaaGreatDoorYWc05
import Derived.Test.YtalmflgkbmnghaaGreatDoorYWc02
import Derived.Test.YtalmflgkbmnghaaGreatDoorYWc01
/- Part of the proof: YC, YR, YM, Cp, Dw, YS. -/
set_option linter.unusedVariables false
set_option linter.unusedSimpArgs false
set_option linter.unusedSectionVars false
namespace Go.Proofs.YtalmflgkbmnghaaGreatDoor
open Go Go.RowKit Tw
open Tf (dg R R_pos R_le R_succ dg_of_lt setd setd_eq)
variable [ShLZ]
set_option maxRecDepth 100000 in
set_option maxHeartbeats 4000000 in
theorem pair_same (s : Bool) (n d : Nat) (k : Int) (hn : n < R 8) (hd : d < R 8) (w : World) : Calls Tryz.prog 19 #[.agg (frcC s n d), .int .i64 k, .agg (frcC s n d), .int .i64 k] w fun e w' => e = .returned (.bool true) ∧ Below w.heap.size w w' := by
  go_enter Tryz.func19, Tryz.ntmps19
  refine wp_seq ?_
  refine wp_region_L (W0 := w) [] (KS.start w) ?_
  refine wpL_new (fun g => .pointer (some ⟨g, 0, none⟩)) (obi := .cells (frcC s n d) 25 (0, 0)) rfl rfl (fun _ => by kernel_rfl) (fun _ => by simp only [List.setIfInBounds_toArray, List.set_cons_succ, List.set_cons_zero] <;> rfl) fun g1 Bg1 Fg1 => ?_
  refine wpL_new (fun g => .pointer (some ⟨g, 0, none⟩)) (obi := .cells (frcC s n d) 34 (0, 0)) rfl rfl (fun _ => by kernel_rfl) (fun _ => by simp only [List.setIfInBounds_toArray, List.set_cons_succ, List.set_cons_zero] <;> rfl) fun g2 Bg2 Fg2 => ?_
  obtain dj3_0 : g1 ≠ g2 := by simpa only [dj_app_l, dj_app_r, dj_cons_l, dj_cons_r, dj_nil_l, dj_nil_r, dk_app, dk_cons, dk_nil, and_true, true_and, and_assoc] using (show Dk g2 [(g1, .cells (frcC s n d) 25 (0, 0))] from Fg2)
  refine Tw.lm (v := .bool false) rfl rfl ?_
  refine wpL_done (fun W1 hW1 => ?_)
  refine (show Code.wp _ _ _ _ _ from ?_)
  refine wp_seq ?_
  refine wp_region_L (W0 := w) [(g2, .cells (frcC s n d) 34 (0, 0)), (g1, .cells (frcC s n d) 25 (0, 0))] (hW1) ?_
  refine Tw.lv (v := .agg (frcC s n d)) rfl rfl (yb_all rfl (by kernel_rfl) (.tail _ (.head _)) Tryz.underlying25 rfl (by simp only [frcC_size]; kernel_rfl)) ?_
  refine Tw.lv (v := .agg (frcC s n d)) rfl rfl (yb_all rfl (by kernel_rfl) (.head _) Tryz.underlying34 rfl (by simp only [frcC_size]; kernel_rfl)) ?_
  refine Tw.lp (v := .bool true) rfl rfl (run_bin rfl (vx := .agg (frcC s n d)) (vy := .agg (frcC s n d)) (by kernel_rfl) (by kernel_rfl) fun w => run_eql27s hn hd w) ?_
  refine Tw.lm (v := .bool true) rfl rfl ?_
  refine Tw.lm (v := .int .i64 k) rfl rfl ?_
  refine Tw.lm (v := .int .i64 k) rfl rfl ?_
  refine Tw.lp (v := .bool true) rfl rfl (run_bin rfl (vx := (.int .i64 k)) (vy := (.int .i64 k)) (by kernel_rfl) (by kernel_rfl) fun w => bi_eql (decide_eq_true rfl) w) ?_
  refine Tw.lm (v := .bool true) rfl rfl ?_
  refine Tw.lm (v := .bool true) rfl rfl ?_
  refine wpL_done (fun W2 hW2 => ?_)
  refine (show Code.wp _ _ _ _ _ from ?_)
  refine wp_ret ?_
  try simp only [inBlock_ret, then_ret]
  refine bodyPost_ret (v := .bool true) ?_ rfl ?_
  · kernel_rfl
  · exact ⟨rfl, hW2.1⟩
end Go.Proofs.YtalmflgkbmnghaaGreatDoor
namespace Go.Proofs.YtalmflgkbmnghaaGreatDoor
open Go Go.RowKit Tw
set_option linter.unusedSimpArgs false
set_option linter.unusedVariables false
open Tf (dg R R_pos R_le R_succ dg_of_lt setd setd_eq)
variable [ShLZ]
variable [ShSt]
end Go.Proofs.YtalmflgkbmnghaaGreatDoor
namespace Go.Proofs.YtalmflgkbmnghaaGreatDoor
open Go Go.RowKit Tw
set_option linter.unusedSimpArgs false
set_option linter.unusedVariables false
open Tf (dg R R_pos R_le R_succ dg_of_lt setd setd_eq)
variable [ShLZ]
end Go.Proofs.YtalmflgkbmnghaaGreatDoor
namespace Go.Proofs.YtalmflgkbmnghaaGreatDoor
open Go.RowKit Tf
variable [ShLZ]
end Go.Proofs.YtalmflgkbmnghaaGreatDoor
namespace Tw
open Go Go.RowKit Go.Proofs.YtalmflgkbmnghaaGreatDoor
section
variable {P : Program} {md : Region.Mode} {ops : Array Oper} {Q R : Exit → Act → World → Prop} {W0 : Base}
end
end Tw
namespace Go.Proofs.YtalmflgkbmnghaaGreatDoor
open Go Go.RowKit Tw
set_option linter.unusedSimpArgs false
set_option linter.unusedVariables false
open Tf (dg R R_pos R_le R_succ dg_of_lt setd setd_eq)
variable [ShLZ]
variable [ShSt]
end Go.Proofs.YtalmflgkbmnghaaGreatDoor
