import Derived.Test.YtkfcikijmkgahaaDoorG05
import Derived.Test.YtkfcikijmkgahaaDoorG24
import Derived.Test.YtkfcikijmkgahaaDoorG26
/- FracTurns: the law holds for every input; no condition but the row's own. -/
set_option linter.unusedVariables false
set_option linter.unusedSimpArgs false
set_option linter.unusedSectionVars false
namespace Go.Proofs.YtkfcikijmkgahaaDoor
open Go.RowKit Tw
set_option maxRecDepth 100000 in
set_option maxHeartbeats 4000000 in
theorem FracTurns_walk (w : World) (a b d e : Int) (sx : Bool) (nx dx : Nat) (Hnx : nx < R 8) (Hdx : dx < R 8) (sy : Bool) (ny dy : Nat) (Hny : ny < R 8) (Hdy : dy < R 8) (sp : Bool) (np dp : Nat) (Hnp : np < R 8) (Hdp : dp < R 8) (sq : Bool) (nq dq : Nat) (Hnq : nq < R 8) (Hdq : dq < R 8) 
    (HAw : Hid (∀ W, Below w.heap.size w W → Calls Tryd.prog 10 #[] W fun e w' => e = .returned (.bool true) ∧ Below W.heap.size W w'))
    (HM1 : Hid (∀ W, Calls Tryd.prog 11 #[.int .i64 (bits .or .i64 a 1), .int .u32 d] W fun e w' => e = .returned (.agg (frcC sx nx dx)) ∧ Below W.heap.size W w'))
    (HM2 : Hid (∀ W, Calls Tryd.prog 11 #[.int .i64 (bits .or .i64 b 1), .int .u32 e] W fun e w' => e = .returned (.agg (frcC sy ny dy)) ∧ Below W.heap.size W w'))
    (HD1 : Hid (∀ W, Calls Tryd.prog 17 #[.agg (frcC sx nx dx), .agg (frcC sy ny dy)] W fun e w' => e = .returned (.tuple #[.agg (frcC sp np dp), .int .i64 0]) ∧ Below W.heap.size W w'))
    (HD2 : Hid (∀ W, Calls Tryd.prog 17 #[.agg (frcC sy ny dy), .agg (frcC sx nx dx)] W fun e w' => e = .returned (.tuple #[.agg (frcC sq nq dq), .int .i64 0]) ∧ Below W.heap.size W w'))
    (HMu : Hid (∀ W, Calls Tryd.prog 15 #[.agg (frcC sp np dp), .agg (frcC sq nq dq)] W fun e w' => e = .returned (.tuple #[.agg (frcC false 1 1), .int .i64 0]) ∧ Below W.heap.size W w'))
    (HD3 : Hid (∀ W, Calls Tryd.prog 17 #[.agg (frcC sx nx dx), .agg (frcC sx nx dx)] W fun e w' => e = .returned (.tuple #[.agg (frcC false 1 1), .int .i64 0]) ∧ Below W.heap.size W w'))
    (HS : Hid (∀ W, Calls Tryd.prog 13 #[.agg (frcC sx nx dx), .agg (frcC sx nx dx)] W fun e w' => e = .returned (.tuple #[.agg (frcC false 0 1), .int .i64 0]) ∧ Below W.heap.size W w'))
    (HO1 : Hid (∀ W, Calls Tryd.prog 16 #[.int .i64 1] W fun e w' => e = .returned (.agg (frcC false 1 1)) ∧ Below W.heap.size W w'))
    (HO0 : Hid (∀ W, Calls Tryd.prog 16 #[.int .i64 0] W fun e w' => e = .returned (.agg (frcC false 0 1)) ∧ Below W.heap.size W w')) :
    Calls Tryd.prog 7 #[.int .i64 a, .int .i64 b, .int .u32 d, .int .u32 e] w fun e w' => e = .returned (.bool true) ∧ Below w.heap.size w w' := by
  go_enter Tryd.func7, Tryd.ntmps7
  refine wp_seq ?_
  refine wp_region_L (W0 := w) [] (KS.start w) ?_
  refine wpL_p (v := .bool false) rfl (by kernel_rfl) rfl (fun _ => by kernel_rfl) (by simp only [List.setIfInBounds_toArray, List.set_cons_succ, List.set_cons_zero] <;> rfl) ?_
  refine wpL_done (fun W1 hW1 => ?_)
  refine (show Code.wp _ _ _ _ _ from ?_)
  refine wp_seq ?_
  refine wp_seq ?_
  refine wp_region_L (W0 := w) [] (hW1) ?_
  refine wpL_v (v := .bool true) rfl (by kernel_rfl) rfl (yb_call (f := 10) (args := #[]) (fun _ => by kernel_rfl) fun W hW => HAw.out W hW.1) (by simp only [List.setIfInBounds_toArray, List.set_cons_succ, List.set_cons_zero] <;> rfl) ?_
  refine wpL_p (v := .bool false) rfl (by kernel_rfl) rfl (fun _ => by kernel_rfl) (by simp only [List.setIfInBounds_toArray, List.set_cons_succ, List.set_cons_zero] <;> rfl) ?_
  refine wpL_done (fun W2 hW2 => ?_)
  clear hW1
  refine (show Code.wp _ _ _ _ _ from ?_)
  refine wp_cond_false rfl ?_
  refine wp_skip ?_
  refine (show Code.wp _ _ _ _ _ from ?_)
  refine wp_seq ?_
  refine wp_region_L (W0 := w) [] (hW2) ?_
  refine wpL_p (v := .int .i64 a) rfl (by kernel_rfl) rfl (fun _ => by kernel_rfl) (by simp only [List.setIfInBounds_toArray, List.set_cons_succ, List.set_cons_zero] <;> rfl) ?_
  refine wpL_p (v := .int .i64 (bits .or .i64 a 1)) rfl (by kernel_rfl) rfl (fun _ => by kernel_rfl) (by simp only [List.setIfInBounds_toArray, List.set_cons_succ, List.set_cons_zero] <;> rfl) ?_
  refine wpL_p (v := .int .u32 d) rfl (by kernel_rfl) rfl (fun _ => by kernel_rfl) (by simp only [List.setIfInBounds_toArray, List.set_cons_succ, List.set_cons_zero] <;> rfl) ?_
  refine wpL_v (v := .agg (frcC sx nx dx)) rfl (by kernel_rfl) rfl (yb_call (f := 11) (args := #[.int .i64 (bits .or .i64 a 1), .int .u32 d]) (fun _ => by kernel_rfl) fun W hW => HM1.out W) (by simp only [List.setIfInBounds_toArray, List.set_cons_succ, List.set_cons_zero] <;> rfl) ?_
  refine wpL_p (v := .int .i64 b) rfl (by kernel_rfl) rfl (fun _ => by kernel_rfl) (by simp only [List.setIfInBounds_toArray, List.set_cons_succ, List.set_cons_zero] <;> rfl) ?_
  refine wpL_p (v := .int .i64 (bits .or .i64 b 1)) rfl (by kernel_rfl) rfl (fun _ => by kernel_rfl) (by simp only [List.setIfInBounds_toArray, List.set_cons_succ, List.set_cons_zero] <;> rfl) ?_
  refine wpL_p (v := .int .u32 e) rfl (by kernel_rfl) rfl (fun _ => by kernel_rfl) (by simp only [List.setIfInBounds_toArray, List.set_cons_succ, List.set_cons_zero] <;> rfl) ?_
  refine wpL_v (v := .agg (frcC sy ny dy)) rfl (by kernel_rfl) rfl (yb_call (f := 11) (args := #[.int .i64 (bits .or .i64 b 1), .int .u32 e]) (fun _ => by kernel_rfl) fun W hW => HM2.out W) (by simp only [List.setIfInBounds_toArray, List.set_cons_succ, List.set_cons_zero] <;> rfl) ?_
  refine wpL_new (fun g => .pointer (some ⟨g, 0, none⟩)) (obi := .cells (frcC false 0 0) 26 (0, 0)) rfl rfl (fun _ => by rw [frc_zero]; rfl) (fun _ => by simp only [List.setIfInBounds_toArray, List.set_cons_succ, List.set_cons_zero] <;> rfl) fun g1 Bg1 Fg1 => ?_
  try simp only [List.forall_mem_cons] at Fg1
  refine wpL_new (fun g => .pointer (some ⟨g, 0, none⟩)) (obi := .cells (frcC false 0 0) 26 (0, 0)) rfl rfl (fun _ => by rw [frc_zero]; rfl) (fun _ => by simp only [List.setIfInBounds_toArray, List.set_cons_succ, List.set_cons_zero] <;> rfl) fun g2 Bg2 Fg2 => ?_
  try simp only [List.forall_mem_cons] at Fg2
  refine wpL_s [(g2, .cells (frcC false 0 0) 26 (0, 0)), (g1, .cells (frcC sx nx dx) 26 (0, 0))] rfl rfl (st_f (neg := sx) (n := nx) (d := dx) rfl (by kernel_rfl) (by kernel_rfl) (.tail _ (.head _)) (by omega) size27 (by intro p hp; simp only [List.mem_cons, List.not_mem_nil, or_false] at hp; rcases hp with rfl | rfl; exact .inr ⟨by simp, by simp only; omega⟩; exact .inl rfl)) ?_
  refine wpL_s [(g2, .cells (frcC sy ny dy) 26 (0, 0)), (g1, .cells (frcC sx nx dx) 26 (0, 0))] rfl rfl (st_f (neg := sy) (n := ny) (d := dy) rfl (by kernel_rfl) (by kernel_rfl) (.head _) (by omega) size27 (by intro p hp; simp only [List.mem_cons, List.not_mem_nil, or_false] at hp; rcases hp with rfl | rfl; exact .inl rfl; exact .inr ⟨by simp, by simp only; omega⟩)) ?_
  refine wpL_done (fun W3 hW3 => ?_)
  clear hW2
  refine (show Code.wp _ _ _ _ _ from ?_)
  refine wp_seq ?_
  refine wp_region_L (W0 := w) [(g2, .cells (frcC sy ny dy) 26 (0, 0)), (g1, .cells (frcC sx nx dx) 26 (0, 0))] (hW3) ?_
  refine wpL_v (v := .agg (frcC sx nx dx)) rfl (by kernel_rfl) rfl (yb_load rfl (by kernel_rfl) (.tail _ (.head _)) Tryd.underlying26 rfl size27 (by simp) (frc_whole sx nx dx)) (by simp only [List.setIfInBounds_toArray, List.set_cons_succ, List.set_cons_zero] <;> rfl) ?_
  refine wpL_v (v := .agg (frcC sy ny dy)) rfl (by kernel_rfl) rfl (yb_load rfl (by kernel_rfl) (.head _) Tryd.underlying26 rfl size27 (by simp) (frc_whole sy ny dy)) (by simp only [List.setIfInBounds_toArray, List.set_cons_succ, List.set_cons_zero] <;> rfl) ?_
  refine wpL_v (v := .tuple #[.agg (frcC sp np dp), .int .i64 0]) rfl (by kernel_rfl) rfl (yb_call (f := 17) (args := #[.agg (frcC sx nx dx), .agg (frcC sy ny dy)]) (fun _ => by kernel_rfl) fun W hW => HD1.out W) (by simp only [List.setIfInBounds_toArray, List.set_cons_succ, List.set_cons_zero] <;> rfl) ?_
  refine wpL_p (v := .tuple #[.agg (frcC sp np dp), .int .i64 0]) rfl (by kernel_rfl) rfl (fun _ => by kernel_rfl) (by simp only [List.setIfInBounds_toArray, List.set_cons_succ, List.set_cons_zero] <;> rfl) ?_
  refine wpL_p (v := .agg (frcC sp np dp)) rfl (by kernel_rfl) rfl (fun _ => by kernel_rfl) (by simp only [List.setIfInBounds_toArray, List.set_cons_succ, List.set_cons_zero] <;> rfl) ?_
  refine wpL_p (v := .int .i64 0) rfl (by kernel_rfl) rfl (fun _ => by kernel_rfl) (by simp only [List.setIfInBounds_toArray, List.set_cons_succ, List.set_cons_zero] <;> rfl) ?_
  refine wpL_new (fun g => .pointer (some ⟨g, 0, none⟩)) (obi := .cells (frcC false 0 0) 26 (0, 0)) rfl rfl (fun _ => by rw [frc_zero]; rfl) (fun _ => by simp only [List.setIfInBounds_toArray, List.set_cons_succ, List.set_cons_zero] <;> rfl) fun g3 Bg3 Fg3 => ?_
  try simp only [List.forall_mem_cons] at Fg3
  refine wpL_s [(g3, .cells (frcC sp np dp) 26 (0, 0)), (g2, .cells (frcC sy ny dy) 26 (0, 0)), (g1, .cells (frcC sx nx dx) 26 (0, 0))] rfl rfl (st_f (neg := sp) (n := np) (d := dp) rfl (by kernel_rfl) (by kernel_rfl) (.head _) (by omega) size27 (by intro p hp; simp only [List.mem_cons, List.not_mem_nil, or_false] at hp; rcases hp with rfl | rfl | rfl; exact .inl rfl; exact .inr ⟨by simp, by simp only; omega⟩; exact .inr ⟨by simp, by simp only; omega⟩)) ?_
  refine wpL_p (v := .int .i64 0) rfl (by kernel_rfl) rfl (fun _ => by kernel_rfl) (by simp only [List.setIfInBounds_toArray, List.set_cons_succ, List.set_cons_zero] <;> rfl) ?_
  refine wpL_done (fun W4 hW4 => ?_)
  clear hW3
  refine (show Code.wp _ _ _ _ _ from ?_)
  refine wp_seq ?_
  refine wp_region_L (W0 := w) [(g3, .cells (frcC sp np dp) 26 (0, 0)), (g2, .cells (frcC sy ny dy) 26 (0, 0)), (g1, .cells (frcC sx nx dx) 26 (0, 0))] (hW4) ?_
  refine wpL_v (v := .agg (frcC sy ny dy)) rfl (by kernel_rfl) rfl (yb_load rfl (by kernel_rfl) (.tail _ (.head _)) Tryd.underlying26 rfl size27 (by simp) (frc_whole sy ny dy)) (by simp only [List.setIfInBounds_toArray, List.set_cons_succ, List.set_cons_zero] <;> rfl) ?_
  refine wpL_v (v := .agg (frcC sx nx dx)) rfl (by kernel_rfl) rfl (yb_load rfl (by kernel_rfl) (.tail _ (.tail _ (.head _))) Tryd.underlying26 rfl size27 (by simp) (frc_whole sx nx dx)) (by simp only [List.setIfInBounds_toArray, List.set_cons_succ, List.set_cons_zero] <;> rfl) ?_
  refine wpL_v (v := .tuple #[.agg (frcC sq nq dq), .int .i64 0]) rfl (by kernel_rfl) rfl (yb_call (f := 17) (args := #[.agg (frcC sy ny dy), .agg (frcC sx nx dx)]) (fun _ => by kernel_rfl) fun W hW => HD2.out W) (by simp only [List.setIfInBounds_toArray, List.set_cons_succ, List.set_cons_zero] <;> rfl) ?_
  refine wpL_p (v := .tuple #[.agg (frcC sq nq dq), .int .i64 0]) rfl (by kernel_rfl) rfl (fun _ => by kernel_rfl) (by simp only [List.setIfInBounds_toArray, List.set_cons_succ, List.set_cons_zero] <;> rfl) ?_
  refine wpL_p (v := .agg (frcC sq nq dq)) rfl (by kernel_rfl) rfl (fun _ => by kernel_rfl) (by simp only [List.setIfInBounds_toArray, List.set_cons_succ, List.set_cons_zero] <;> rfl) ?_
  refine wpL_p (v := .int .i64 0) rfl (by kernel_rfl) rfl (fun _ => by kernel_rfl) (by simp only [List.setIfInBounds_toArray, List.set_cons_succ, List.set_cons_zero] <;> rfl) ?_
  refine wpL_new (fun g => .pointer (some ⟨g, 0, none⟩)) (obi := .cells (frcC false 0 0) 26 (0, 0)) rfl rfl (fun _ => by rw [frc_zero]; rfl) (fun _ => by simp only [List.setIfInBounds_toArray, List.set_cons_succ, List.set_cons_zero] <;> rfl) fun g4 Bg4 Fg4 => ?_
  try simp only [List.forall_mem_cons] at Fg4
  refine wpL_s [(g4, .cells (frcC sq nq dq) 26 (0, 0)), (g3, .cells (frcC sp np dp) 26 (0, 0)), (g2, .cells (frcC sy ny dy) 26 (0, 0)), (g1, .cells (frcC sx nx dx) 26 (0, 0))] rfl rfl (st_f (neg := sq) (n := nq) (d := dq) rfl (by kernel_rfl) (by kernel_rfl) (.head _) (by omega) size27 (by intro p hp; simp only [List.mem_cons, List.not_mem_nil, or_false] at hp; rcases hp with rfl | rfl | rfl | rfl; exact .inl rfl; exact .inr ⟨by simp, by simp only; omega⟩; exact .inr ⟨by simp, by simp only; omega⟩; exact .inr ⟨by simp, by simp only; omega⟩)) ?_
  refine wpL_p (v := .int .i64 0) rfl (by kernel_rfl) rfl (fun _ => by kernel_rfl) (by simp only [List.setIfInBounds_toArray, List.set_cons_succ, List.set_cons_zero] <;> rfl) ?_
  refine wpL_done (fun W5 hW5 => ?_)
  clear hW4
  refine (show Code.wp _ _ _ _ _ from ?_)
  refine wp_seq ?_
  refine wp_region_L (W0 := w) [(g4, .cells (frcC sq nq dq) 26 (0, 0)), (g3, .cells (frcC sp np dp) 26 (0, 0)), (g2, .cells (frcC sy ny dy) 26 (0, 0)), (g1, .cells (frcC sx nx dx) 26 (0, 0))] (hW5) ?_
  refine wpL_v (v := .agg (frcC sp np dp)) rfl (by kernel_rfl) rfl (yb_load rfl (by kernel_rfl) (.tail _ (.head _)) Tryd.underlying26 rfl size27 (by simp) (frc_whole sp np dp)) (by simp only [List.setIfInBounds_toArray, List.set_cons_succ, List.set_cons_zero] <;> rfl) ?_
  refine wpL_v (v := .agg (frcC sq nq dq)) rfl (by kernel_rfl) rfl (yb_load rfl (by kernel_rfl) (.head _) Tryd.underlying26 rfl size27 (by simp) (frc_whole sq nq dq)) (by simp only [List.setIfInBounds_toArray, List.set_cons_succ, List.set_cons_zero] <;> rfl) ?_
  refine wpL_v (v := .tuple #[.agg (frcC false 1 1), .int .i64 0]) rfl (by kernel_rfl) rfl (yb_call (f := 15) (args := #[.agg (frcC sp np dp), .agg (frcC sq nq dq)]) (fun _ => by kernel_rfl) fun W hW => HMu.out W) (by simp only [List.setIfInBounds_toArray, List.set_cons_succ, List.set_cons_zero] <;> rfl) ?_
  refine wpL_p (v := .tuple #[.agg (frcC false 1 1), .int .i64 0]) rfl (by kernel_rfl) rfl (fun _ => by kernel_rfl) (by simp only [List.setIfInBounds_toArray, List.set_cons_succ, List.set_cons_zero] <;> rfl) ?_
  refine wpL_p (v := .agg (frcC false 1 1)) rfl (by kernel_rfl) rfl (fun _ => by kernel_rfl) (by simp only [List.setIfInBounds_toArray, List.set_cons_succ, List.set_cons_zero] <;> rfl) ?_
  refine wpL_p (v := .int .i64 0) rfl (by kernel_rfl) rfl (fun _ => by kernel_rfl) (by simp only [List.setIfInBounds_toArray, List.set_cons_succ, List.set_cons_zero] <;> rfl) ?_
  refine wpL_new (fun g => .pointer (some ⟨g, 0, none⟩)) (obi := .cells (frcC false 0 0) 26 (0, 0)) rfl rfl (fun _ => by rw [frc_zero]; rfl) (fun _ => by simp only [List.setIfInBounds_toArray, List.set_cons_succ, List.set_cons_zero] <;> rfl) fun g5 Bg5 Fg5 => ?_
  try simp only [List.forall_mem_cons] at Fg5
  refine wpL_s [(g5, .cells (frcC false 1 1) 26 (0, 0)), (g4, .cells (frcC sq nq dq) 26 (0, 0)), (g3, .cells (frcC sp np dp) 26 (0, 0)), (g2, .cells (frcC sy ny dy) 26 (0, 0)), (g1, .cells (frcC sx nx dx) 26 (0, 0))] rfl rfl (st_f (neg := false) (n := 1) (d := 1) rfl (by kernel_rfl) (by kernel_rfl) (.head _) (by omega) size27 (by intro p hp; simp only [List.mem_cons, List.not_mem_nil, or_false] at hp; rcases hp with rfl | rfl | rfl | rfl | rfl; exact .inl rfl; exact .inr ⟨by simp, by simp only; omega⟩; exact .inr ⟨by simp, by simp only; omega⟩; exact .inr ⟨by simp, by simp only; omega⟩; exact .inr ⟨by simp, by simp only; omega⟩)) ?_
  refine wpL_p (v := .int .i64 0) rfl (by kernel_rfl) rfl (fun _ => by kernel_rfl) (by simp only [List.setIfInBounds_toArray, List.set_cons_succ, List.set_cons_zero] <;> rfl) ?_
  refine wpL_done (fun W6 hW6 => ?_)
  clear hW5
  refine (show Code.wp _ _ _ _ _ from ?_)
  refine wp_seq ?_
  refine wp_region_L (W0 := w) [(g5, .cells (frcC false 1 1) 26 (0, 0)), (g4, .cells (frcC sq nq dq) 26 (0, 0)), (g3, .cells (frcC sp np dp) 26 (0, 0)), (g2, .cells (frcC sy ny dy) 26 (0, 0)), (g1, .cells (frcC sx nx dx) 26 (0, 0))] (hW6) ?_
  refine wpL_v (v := .agg (frcC sx nx dx)) rfl (by kernel_rfl) rfl (yb_load rfl (by kernel_rfl) (.tail _ (.tail _ (.tail _ (.tail _ (.head _))))) Tryd.underlying26 rfl size27 (by simp) (frc_whole sx nx dx)) (by simp only [List.setIfInBounds_toArray, List.set_cons_succ, List.set_cons_zero] <;> rfl) ?_
  refine wpL_v (v := .agg (frcC sx nx dx)) rfl (by kernel_rfl) rfl (yb_load rfl (by kernel_rfl) (.tail _ (.tail _ (.tail _ (.tail _ (.head _))))) Tryd.underlying26 rfl size27 (by simp) (frc_whole sx nx dx)) (by simp only [List.setIfInBounds_toArray, List.set_cons_succ, List.set_cons_zero] <;> rfl) ?_
  refine wpL_v (v := .tuple #[.agg (frcC false 1 1), .int .i64 0]) rfl (by kernel_rfl) rfl (yb_call (f := 17) (args := #[.agg (frcC sx nx dx), .agg (frcC sx nx dx)]) (fun _ => by kernel_rfl) fun W hW => HD3.out W) (by simp only [List.setIfInBounds_toArray, List.set_cons_succ, List.set_cons_zero] <;> rfl) ?_
  refine wpL_p (v := .tuple #[.agg (frcC false 1 1), .int .i64 0]) rfl (by kernel_rfl) rfl (fun _ => by kernel_rfl) (by simp only [List.setIfInBounds_toArray, List.set_cons_succ, List.set_cons_zero] <;> rfl) ?_
  refine wpL_p (v := .agg (frcC false 1 1)) rfl (by kernel_rfl) rfl (fun _ => by kernel_rfl) (by simp only [List.setIfInBounds_toArray, List.set_cons_succ, List.set_cons_zero] <;> rfl) ?_
  refine wpL_p (v := .int .i64 0) rfl (by kernel_rfl) rfl (fun _ => by kernel_rfl) (by simp only [List.setIfInBounds_toArray, List.set_cons_succ, List.set_cons_zero] <;> rfl) ?_
  refine wpL_new (fun g => .pointer (some ⟨g, 0, none⟩)) (obi := .cells (frcC false 0 0) 26 (0, 0)) rfl rfl (fun _ => by rw [frc_zero]; rfl) (fun _ => by simp only [List.setIfInBounds_toArray, List.set_cons_succ, List.set_cons_zero] <;> rfl) fun g6 Bg6 Fg6 => ?_
  try simp only [List.forall_mem_cons] at Fg6
  refine wpL_s [(g6, .cells (frcC false 1 1) 26 (0, 0)), (g5, .cells (frcC false 1 1) 26 (0, 0)), (g4, .cells (frcC sq nq dq) 26 (0, 0)), (g3, .cells (frcC sp np dp) 26 (0, 0)), (g2, .cells (frcC sy ny dy) 26 (0, 0)), (g1, .cells (frcC sx nx dx) 26 (0, 0))] rfl rfl (st_f (neg := false) (n := 1) (d := 1) rfl (by kernel_rfl) (by kernel_rfl) (.head _) (by omega) size27 (by intro p hp; simp only [List.mem_cons, List.not_mem_nil, or_false] at hp; rcases hp with rfl | rfl | rfl | rfl | rfl | rfl; exact .inl rfl; exact .inr ⟨by simp, by simp only; omega⟩; exact .inr ⟨by simp, by simp only; omega⟩; exact .inr ⟨by simp, by simp only; omega⟩; exact .inr ⟨by simp, by simp only; omega⟩; exact .inr ⟨by simp, by simp only; omega⟩)) ?_
  refine wpL_p (v := .int .i64 0) rfl (by kernel_rfl) rfl (fun _ => by kernel_rfl) (by simp only [List.setIfInBounds_toArray, List.set_cons_succ, List.set_cons_zero] <;> rfl) ?_
  refine wpL_done (fun W7 hW7 => ?_)
  clear hW6
  refine (show Code.wp _ _ _ _ _ from ?_)
  refine wp_seq ?_
  refine wp_region_L (W0 := w) [(g6, .cells (frcC false 1 1) 26 (0, 0)), (g5, .cells (frcC false 1 1) 26 (0, 0)), (g4, .cells (frcC sq nq dq) 26 (0, 0)), (g3, .cells (frcC sp np dp) 26 (0, 0)), (g2, .cells (frcC sy ny dy) 26 (0, 0)), (g1, .cells (frcC sx nx dx) 26 (0, 0))] (hW7) ?_
  refine wpL_v (v := .agg (frcC sx nx dx)) rfl (by kernel_rfl) rfl (yb_load rfl (by kernel_rfl) (.tail _ (.tail _ (.tail _ (.tail _ (.tail _ (.head _)))))) Tryd.underlying26 rfl size27 (by simp) (frc_whole sx nx dx)) (by simp only [List.setIfInBounds_toArray, List.set_cons_succ, List.set_cons_zero] <;> rfl) ?_
  refine wpL_v (v := .agg (frcC sx nx dx)) rfl (by kernel_rfl) rfl (yb_load rfl (by kernel_rfl) (.tail _ (.tail _ (.tail _ (.tail _ (.tail _ (.head _)))))) Tryd.underlying26 rfl size27 (by simp) (frc_whole sx nx dx)) (by simp only [List.setIfInBounds_toArray, List.set_cons_succ, List.set_cons_zero] <;> rfl) ?_
  refine wpL_v (v := .tuple #[.agg (frcC false 0 1), .int .i64 0]) rfl (by kernel_rfl) rfl (yb_call (f := 13) (args := #[.agg (frcC sx nx dx), .agg (frcC sx nx dx)]) (fun _ => by kernel_rfl) fun W hW => HS.out W) (by simp only [List.setIfInBounds_toArray, List.set_cons_succ, List.set_cons_zero] <;> rfl) ?_
  refine wpL_p (v := .tuple #[.agg (frcC false 0 1), .int .i64 0]) rfl (by kernel_rfl) rfl (fun _ => by kernel_rfl) (by simp only [List.setIfInBounds_toArray, List.set_cons_succ, List.set_cons_zero] <;> rfl) ?_
  refine wpL_p (v := .agg (frcC false 0 1)) rfl (by kernel_rfl) rfl (fun _ => by kernel_rfl) (by simp only [List.setIfInBounds_toArray, List.set_cons_succ, List.set_cons_zero] <;> rfl) ?_
  refine wpL_p (v := .int .i64 0) rfl (by kernel_rfl) rfl (fun _ => by kernel_rfl) (by simp only [List.setIfInBounds_toArray, List.set_cons_succ, List.set_cons_zero] <;> rfl) ?_
  refine wpL_new (fun g => .pointer (some ⟨g, 0, none⟩)) (obi := .cells (frcC false 0 0) 26 (0, 0)) rfl rfl (fun _ => by rw [frc_zero]; rfl) (fun _ => by simp only [List.setIfInBounds_toArray, List.set_cons_succ, List.set_cons_zero] <;> rfl) fun g7 Bg7 Fg7 => ?_
  try simp only [List.forall_mem_cons] at Fg7
  refine wpL_s [(g7, .cells (frcC false 0 1) 26 (0, 0)), (g6, .cells (frcC false 1 1) 26 (0, 0)), (g5, .cells (frcC false 1 1) 26 (0, 0)), (g4, .cells (frcC sq nq dq) 26 (0, 0)), (g3, .cells (frcC sp np dp) 26 (0, 0)), (g2, .cells (frcC sy ny dy) 26 (0, 0)), (g1, .cells (frcC sx nx dx) 26 (0, 0))] rfl rfl (st_f (neg := false) (n := 0) (d := 1) rfl (by kernel_rfl) (by kernel_rfl) (.head _) (by omega) size27 (by intro p hp; simp only [List.mem_cons, List.not_mem_nil, or_false] at hp; rcases hp with rfl | rfl | rfl | rfl | rfl | rfl | rfl; exact .inl rfl; exact .inr ⟨by simp, by simp only; omega⟩; exact .inr ⟨by simp, by simp only; omega⟩; exact .inr ⟨by simp, by simp only; omega⟩; exact .inr ⟨by simp, by simp only; omega⟩; exact .inr ⟨by simp, by simp only; omega⟩; exact .inr ⟨by simp, by simp only; omega⟩)) ?_
  refine wpL_p (v := .int .i64 0) rfl (by kernel_rfl) rfl (fun _ => by kernel_rfl) (by simp only [List.setIfInBounds_toArray, List.set_cons_succ, List.set_cons_zero] <;> rfl) ?_
  refine wpL_done (fun W8 hW8 => ?_)
  clear hW7
  refine (show Code.wp _ _ _ _ _ from ?_)
  refine wp_seq ?_
  refine wp_region_V (W0 := w) [(g7, .cells (frcC false 0 1) 26 (0, 0)), (g6, .cells (frcC false 1 1) 26 (0, 0)), (g5, .cells (frcC false 1 1) 26 (0, 0)), (g4, .cells (frcC sq nq dq) 26 (0, 0)), (g3, .cells (frcC sp np dp) 26 (0, 0)), (g2, .cells (frcC sy ny dy) 26 (0, 0)), (g1, .cells (frcC sx nx dx) 26 (0, 0))] (by kernel_rfl) (hW8) ?_
  refine wpV_p (i := 0) (v := .int .i64 0) rfl rfl (by kernel_rfl) (by kernel_rfl) rfl (fun _ => by kernel_rfl) (by simp only [List.setIfInBounds_toArray, List.set_cons_succ, List.set_cons_zero] <;> rfl) ?_
  refine wpV_p (i := 1) (v := .int .i64 0) rfl rfl (by kernel_rfl) (by kernel_rfl) rfl (fun _ => by kernel_rfl) (by simp only [List.setIfInBounds_toArray, List.set_cons_succ, List.set_cons_zero] <;> rfl) ?_
  refine wpV_p (i := 2) (v := .int .i64 0) rfl rfl (by kernel_rfl) (by kernel_rfl) rfl (fun _ => by kernel_rfl) (by simp only [List.setIfInBounds_toArray, List.set_cons_succ, List.set_cons_zero] <;> rfl) ?_
  refine wpV_p (i := 3) (v := .int .i64 0) rfl rfl (by kernel_rfl) (by kernel_rfl) rfl (fun _ => by kernel_rfl) (by simp only [List.setIfInBounds_toArray, List.set_cons_succ, List.set_cons_zero] <;> rfl) ?_
  refine wpV_p (i := 4) (v := .int .i64 0) rfl rfl (by kernel_rfl) (by kernel_rfl) rfl (fun _ => by kernel_rfl) (by simp only [List.setIfInBounds_toArray, List.set_cons_succ, List.set_cons_zero] <;> rfl) ?_
  refine wpV_ns (fun g => .slice (some ⟨g, 0, none⟩) 5 5) (i := 5) (obi := .cells #[.int .i64 0, .int .i64 0, .int .i64 0, .int .i64 0, .int .i64 0] 29 (0, 0)) rfl rfl rfl (by kernel_rfl) (fun _ => by kernel_rfl) (fun _ => by simp only [List.setIfInBounds_toArray, List.set_cons_succ, List.set_cons_zero] <;> rfl) fun g8 Bg8 Fg8 => ?_
  try simp only [List.forall_mem_cons] at Fg8
  refine wpV_v (i := 6) (v := .bool true) rfl rfl (by kernel_rfl) (by kernel_rfl) rfl (yb_call (f := 14) (args := #[.slice (some ⟨g8, 0, none⟩) 5 5]) (fun _ => by kernel_rfl) fun W hW => all_W 5 (by omega) rfl (hW.2 _ (.head _))) (by simp only [List.setIfInBounds_toArray, List.set_cons_succ, List.set_cons_zero] <;> rfl) ?_
  refine wpV_p (i := 7) (v := .bool true) rfl rfl (by kernel_rfl) (by kernel_rfl) rfl (fun _ => by kernel_rfl) (by simp only [List.setIfInBounds_toArray, List.set_cons_succ, List.set_cons_zero] <;> rfl) ?_
  refine wpV_v (i := 8) (v := .agg (frcC false 1 1)) rfl rfl (by kernel_rfl) (by kernel_rfl) rfl (yb_load rfl (by kernel_rfl) (.tail _ (.tail _ (.tail _ (.head _)))) Tryd.underlying26 rfl size27 (by simp) (frc_whole false 1 1)) (by simp only [List.setIfInBounds_toArray, List.set_cons_succ, List.set_cons_zero] <;> rfl) ?_
  refine wpV_v (i := 9) (v := .agg (frcC false 1 1)) rfl rfl (by kernel_rfl) (by kernel_rfl) rfl (yb_call (f := 16) (args := #[.int .i64 1]) (fun _ => by kernel_rfl) fun W hW => HO1.out W) (by simp only [List.setIfInBounds_toArray, List.set_cons_succ, List.set_cons_zero] <;> rfl) ?_
  refine wpV_p (i := 10) (v := .bool true) rfl rfl (by kernel_rfl) (by kernel_rfl) rfl (run_bin rfl (vx := .agg (frcC false 1 1)) (vy := .agg (frcC false 1 1)) (by kernel_rfl) (by kernel_rfl) fun w => run_eql27s (lt8 (by omega)) (lt8 (by omega)) w) (by simp only [List.setIfInBounds_toArray, List.set_cons_succ, List.set_cons_zero] <;> rfl) ?_
  refine wpV_p (i := 11) (v := .bool true) rfl rfl (by kernel_rfl) (by kernel_rfl) rfl (fun _ => by kernel_rfl) (by simp only [List.setIfInBounds_toArray, List.set_cons_succ, List.set_cons_zero] <;> rfl) ?_
  refine wpV_p (i := 12) (v := .bool true) rfl rfl (by kernel_rfl) (by kernel_rfl) rfl (fun _ => by kernel_rfl) (by simp only [List.setIfInBounds_toArray, List.set_cons_succ, List.set_cons_zero] <;> rfl) ?_
  refine wpV_v (i := 13) (v := .agg (frcC false 1 1)) rfl rfl (by kernel_rfl) (by kernel_rfl) rfl (yb_load rfl (by kernel_rfl) (.tail _ (.tail _ (.head _))) Tryd.underlying26 rfl size27 (by simp) (frc_whole false 1 1)) (by simp only [List.setIfInBounds_toArray, List.set_cons_succ, List.set_cons_zero] <;> rfl) ?_
  refine wpV_v (i := 14) (v := .agg (frcC false 1 1)) rfl rfl (by kernel_rfl) (by kernel_rfl) rfl (yb_load rfl (by kernel_rfl) (.tail _ (.tail _ (.tail _ (.head _)))) Tryd.underlying26 rfl size27 (by simp) (frc_whole false 1 1)) (by simp only [List.setIfInBounds_toArray, List.set_cons_succ, List.set_cons_zero] <;> rfl) ?_
  refine wpV_p (i := 15) (v := .bool true) rfl rfl (by kernel_rfl) (by kernel_rfl) rfl (run_bin rfl (vx := .agg (frcC false 1 1)) (vy := .agg (frcC false 1 1)) (by kernel_rfl) (by kernel_rfl) fun w => run_eql27s (lt8 (by omega)) (lt8 (by omega)) w) (by simp only [List.setIfInBounds_toArray, List.set_cons_succ, List.set_cons_zero] <;> rfl) ?_
  refine wpV_p (i := 16) (v := .bool true) rfl rfl (by kernel_rfl) (by kernel_rfl) rfl (fun _ => by kernel_rfl) (by simp only [List.setIfInBounds_toArray, List.set_cons_succ, List.set_cons_zero] <;> rfl) ?_
  refine wpV_p (i := 17) (v := .bool true) rfl rfl (by kernel_rfl) (by kernel_rfl) rfl (fun _ => by kernel_rfl) (by simp only [List.setIfInBounds_toArray, List.set_cons_succ, List.set_cons_zero] <;> rfl) ?_
  refine wpV_v (i := 18) (v := .agg (frcC false 0 1)) rfl rfl (by kernel_rfl) (by kernel_rfl) rfl (yb_load rfl (by kernel_rfl) (.tail _ (.head _)) Tryd.underlying26 rfl size27 (by simp) (frc_whole false 0 1)) (by simp only [List.setIfInBounds_toArray, List.set_cons_succ, List.set_cons_zero] <;> rfl) ?_
  refine wpV_v (i := 19) (v := .agg (frcC false 0 1)) rfl rfl (by kernel_rfl) (by kernel_rfl) rfl (yb_call (f := 16) (args := #[.int .i64 0]) (fun _ => by kernel_rfl) fun W hW => HO0.out W) (by simp only [List.setIfInBounds_toArray, List.set_cons_succ, List.set_cons_zero] <;> rfl) ?_
  refine wpV_p (i := 20) (v := .bool true) rfl rfl (by kernel_rfl) (by kernel_rfl) rfl (run_bin rfl (vx := .agg (frcC false 0 1)) (vy := .agg (frcC false 0 1)) (by kernel_rfl) (by kernel_rfl) fun w => run_eql27s (lt8 (by omega)) (lt8 (by omega)) w) (by simp only [List.setIfInBounds_toArray, List.set_cons_succ, List.set_cons_zero] <;> rfl) ?_
  refine wpV_p (i := 21) (v := .bool true) rfl rfl (by kernel_rfl) (by kernel_rfl) rfl (fun _ => by kernel_rfl) (by simp only [List.setIfInBounds_toArray, List.set_cons_succ, List.set_cons_zero] <;> rfl) ?_
  refine wpV_p (i := 22) (v := .bool true) rfl rfl (by kernel_rfl) (by kernel_rfl) rfl (fun _ => by kernel_rfl) (by simp only [List.setIfInBounds_toArray, List.set_cons_succ, List.set_cons_zero] <;> rfl) ?_
  refine wpV_done (by kernel_rfl) (fun W9 hW9 => ?_) _
  clear hW8
  refine (show Code.wp _ _ _ _ _ from ?_)
  refine wp_ret ?_
  go_ret
  exact ⟨rfl, hW9.1⟩
end Go.Proofs.YtkfcikijmkgahaaDoor
namespace Go.Proofs.YtkfcikijmkgahaaDoor
open Go.RowKit Tw
variable [ShLZ]
variable [ShSt]
theorem FracTurns_any (a b : Int) (d e : Nat) (hd : d ≤ 4294967295) (he : e ≤ 4294967295) (hA : ∀ W, Env W → Calls Tryd.prog 10 #[] W fun e w' => e = .returned (.bool true) ∧ Below W.heap.size W w') (w : World) (hE : Env w) :
    Calls Tryd.prog 7 #[.int .i64 a, .int .i64 b, .int .u32 (d : Int), .int .u32 (e : Int)] w fun e w' => e = .returned (.bool true) ∧ Below w.heap.size w w' := by
  obtain ⟨a0, a1, a2⟩ := or_one_i64 a
  obtain ⟨b0, b1, b2⟩ := or_one_i64 b
  have hx0 : fr (bits .or .i64 a 1) (d + 1) ≠ 0 := fr_ne _ _ (by omega) a0
  have hy0 : fr (bits .or .i64 b 1) (e + 1) ≠ 0 := fr_ne _ _ (by omega) b0
  have bx : bd (fr (bits .or .i64 a 1) (d + 1)) 9223372036854775808 4294967296 := fr_bd _ _ (by omega) (by omega) (by omega)
  have bY : bd (fr (bits .or .i64 b 1) (e + 1)) 9223372036854775808 4294967296 := fr_bd _ _ (by omega) (by omega) (by omega)
  have mx := rMade _ d a1 a2 hd
  have my := rMade _ e b1 b2 he
  generalize fr (bits .or .i64 a 1) (d + 1) = X at *
  generalize fr (bits .or .i64 b 1) (e + 1) = Y at *
  have fx : fits X := bd_fits bx (by decide +kernel) (by decide +kernel)
  have fy : fits Y := bd_fits bY (by decide +kernel) (by decide +kernel)
  have fp : fits (X / Y) := bd_fits (bd_div bx bY (by omega)) (by decide +kernel) (by decide +kernel)
  have fq : fits (Y / X) := bd_fits (bd_div bY bx (by omega)) (by decide +kernel) (by decide +kernel)
  have f1 : fits 1 := by decide +kernel
  have f0 : fits 0 := by decide +kernel
  exact FracTurns_walk w a b d e (decide (X.num < 0)) X.num.natAbs X.den fx.1 fx.2 (decide (Y.num < 0)) Y.num.natAbs Y.den fy.1 fy.2 (decide ((X / Y).num < 0)) (X / Y).num.natAbs (X / Y).den fp.1 fp.2 (decide ((Y / X).num < 0)) (Y / X).num.natAbs (Y / X).den fq.1 fq.2 
    (fun W hW => hA W (hE.keep hW))
    mx
    my
    (rDiv X Y _ fx fy hy0 rfl fp)
    (rDiv Y X _ fy fx hx0 rfl fq)
    (rMul (X / Y) (Y / X) 1 fp fq (by grind) f1)
    (rDiv X X 1 fx fx hx0 (by grind) f1)
    (rSub X X 0 fx fx (by grind) f0)
    rOf1
    rOf0
end Go.Proofs.YtkfcikijmkgahaaDoor
/- FracTurns holds for every input: the program's own answer is true, wherever the tables of the library are as the program's text lays them. -/
namespace Go.Proofs.YtkfcikijmkgahaaDoor
open Go.ChangeShapes Go.WideShapes Go.ChangeAt Go.RowKit Tw
theorem fracTurns_walk (a0 : Int) (a1 : Int) (a2 : Int) (a3 : Int) (w0 : (Lit.int .i64 a0).wf = true) (w1 : (Lit.int .i64 a1).wf = true) (w2 : (Lit.int .u32 a2).wf = true) (w3 : (Lit.int .u32 a3).wf = true) (w : World) (hE : Env w) :
    Calls Tryd.prog 7 #[.int .i64 a0, .int .i64 a1, .int .u32 a2, .int .u32 a3] w fun e w' => e = .returned (.bool true) ∧ Below w.heap.size w w' := by
  have r0 : -9223372036854775808 ≤ a0 ∧ a0 ≤ 9223372036854775807 := of_wf w0
  have r1 : -9223372036854775808 ≤ a1 ∧ a1 ≤ 9223372036854775807 := of_wf w1
  have r2 : 0 ≤ a2 ∧ a2 ≤ 4294967295 := of_wf w2
  obtain ⟨n2, rfl⟩ : ∃ n : Nat, a2 = (n : Int) := ⟨a2.toNat, by omega⟩
  have r3 : 0 ≤ a3 ∧ a3 ≤ 4294967295 := of_wf w3
  obtain ⟨n3, rfl⟩ : ∃ n : Nat, a3 = (n : Int) := ⟨a3.toNat, by omega⟩
  exact FracTurns_any a0 a1 n2 n3 (by omega) (by omega) (fun W hW => awake_any rep_any W hW) w hE
set_option maxRecDepth 100000 in
theorem fracTurns_lifted (os : Os) (started : os.Started) (H : Type) (enc : TypeId × Value → H) :
    ReturnsInHanded {} Tryd.checked os 7 .any (fun w args => (Rows.fracTurnsSpec.pre enc Tryd.prog Tryd.f7 Rows.fracTurnsRow.domain false w args ∧ laidMetH Tryd.prog laid3 w) ∧ sizedMet enc Tryd.prog Tryd.f7 (OpenSpec.ofChange Rows.fracTurnsSpec) false w args) (Rows.fracTurnsSpec.post enc Tryd.prog Tryd.f7 false true false false) := by
  refine handed_and_shaped (C := Tryd.checked) (X := fun w => laidMetH Tryd.prog laid3 w) (fun _ _ hh h => h.of_heap hh) own started (by kernel_rfl) Tryd.func7
    (ChangeSpec.witness_shaped (enc := enc) (C := Tryd.checked) (os := os) (X := fun w _ => laidMetH Tryd.prog laid3 w) false (World.doorLaid Tryd.prog 1000 os) #[.int .i64 0, .int .i64 0, .int .u32 0, .int .u32 0] 8 rfl (World.shaped_of_RefB (by kernel_rfl) (by kernel_rfl)) (by kernel_rfl) (by kernel_rfl) (by kernel_rfl) (door_met os _)) ?_
  intro W base args ds gs before hval0 hW hL hsh
  have hval : ∀ (j : Nat) t v, Tryd.f7.params[j]? = some t → args[j]? = some v → Value.okWide Tryd.prog W .any base t v := hval0
  have hW' := hW
  obtain ⟨p, q, hA0, hV, rfl, hfz, hnd⟩ := hW
  have hA : DataW.TrodAll enc Tryd.prog W 0 (fun _ => true) true Tryd.f7.params.toList args.toList ds p := hA0
  rw [Tryd.params7] at hA hval
  obtain ⟨v0, vs0, d0, ds0, p0, q0, hargs, rfl, rfl, h0, r0⟩ := trodAll_cons hA
  obtain ⟨v1, vs1, d1, ds1, p1, q1, rfl, rfl, rfl, h1, r1⟩ := trodAll_cons r0
  obtain ⟨v2, vs2, d2, ds2, p2, q2, rfl, rfl, rfl, h2, r2⟩ := trodAll_cons r1
  obtain ⟨v3, vs3, d3, ds3, p3, q3, rfl, rfl, rfl, h3, r3⟩ := trodAll_cons r2
  obtain ⟨rfl, rfl, rfl⟩ := trodAll_nil r3
  obtain rfl : args = #[v0, v1, v2, v3] := by cases args; simp_all
  obtain ⟨rfl, rfl⟩ := trodVars_none hV
  obtain ⟨a0, rfl, rfl, rfl, w0⟩ := open_int Tryd.underlying3 (hval 0 3 v0 rfl rfl) h0
  obtain ⟨a1, rfl, rfl, rfl, w1⟩ := open_int Tryd.underlying3 (hval 1 3 v1 rfl rfl) h1
  obtain ⟨a2, rfl, rfl, rfl, w2⟩ := open_int Tryd.underlying22 (hval 2 22 v2 rfl rfl) h2
  obtain ⟨a3, rfl, rfl, rfl, w3⟩ := open_int Tryd.underlying22 (hval 3 22 v3 rfl rfl) h3
  clear hA0 hval0
  simp only [List.append_nil] at hW'
  refine (fracTurns_walk a0 a1 a2 a3 w0 w1 w2 w3 W (env_of hL hsh)).mono fun e W' ⟨he, hg⟩ => ?_
  subst he
  exact ⟨_, rfl, _, _, _, [], [], [], hW', (trodAll_cons_mk (shut_bool Tryd.underlying4 _) trodAll_mk0), (trodAll_cons_mk (shut_int Tryd.underlying3 w0) (trodAll_cons_mk (shut_int Tryd.underlying3 w1) (trodAll_cons_mk (shut_int Tryd.underlying22 w2) (trodAll_cons_mk (shut_int Tryd.underlying22 w3) trodAll_mk0)))), rfl, hg.frame _, fun h => by cases h⟩
theorem fracTurns_said : Rows.FracTurnsSaid :=
  OpenClaim.holds_of_wide 7 Tryd.f7 rfl rfl rfl rfl rfl rfl rfl ⟨rfl, rfl, rfl, rfl, rfl⟩ rfl rfl rfl rfl rfl (by kernel_rfl) Tryd.func7 (by kernel_rfl)
    (of_decide_eq_true (by kernel_rfl)) (by unfold Func.isWrapper; first | (rw [if_pos (by decide +kernel)]; kernel_rfl) | (rw [if_neg (by decide +kernel)]; exact ⟨rfl, rfl⟩))
    (fun os started H enc _ => fracTurns_lifted os started H enc)
theorem fracTurns_proved : Rows.FracTurnsCardSaid :=
  Claim7.holds_tied_plain_at .later [] [.data, .data, .data] true Rows.fracTurnsCard.stood.harness false
    fracTurns_said (fun _ h => by cases h) (by kernel_rfl) (fun _ h => by cases h) fracTurns_row_tie rfl ⟨rfl, rfl⟩ (by kernel_rfl) rfl
    (fun f fn hf hfn => by
      obtain rfl : f = 7 := Option.some.inj ((show Tryd.prog.funcNamed "twistlock/twistlocklaw01.FracTurns" = some 7 by kernel_rfl).symm.trans hf) |>.symm
      obtain rfl : fn = Tryd.f7 := (Option.some.inj (Tryd.func7.symm.trans hfn)).symm
      exact ⟨by kernel_rfl, fun j t ht => by
        rw [Tryd.params7] at ht
        have hm : t ∈ [3, 3, 22, 22] := by simpa using Array.mem_of_getElem? ht
        have hall : ([3, 3, 22, 22].all fun u => !Tryd.prog.wantsStandIn u) = true := by kernel_rfl
        exact (show Tryd.prog.wantsStandIn t = false by simpa using List.all_eq_true.1 hall t hm)⟩)
    (by kernel_rfl)
#print axioms fracTurns_proved
end Go.Proofs.YtkfcikijmkgahaaDoor
