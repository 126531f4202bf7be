import Derived.Test.YtkfcikijmkgahaaDoorG05
import Derived.Test.YtkfcikijmkgahaaDoorG26
import Derived.Test.YtkfcikijmkgahaaDoorG24
/- FracFloors: the law holds for every input; no condition but the row's own. -/
set_option linter.unusedVariables false
set_option linter.unusedSimpArgs false
set_option linter.unusedSectionVars false
namespace Go.Proofs.YtkfcikijmkgahaaDoor
open Go.RowKit Tw
set_option maxRecDepth 100000 in
set_option maxHeartbeats 4000000 in
theorem FracFloors_w0 (w : World) (a d n : Int) (sx : Bool) (nx dx : Nat) (Hnx : nx < R 8) (Hdx : dx < R 8) (sv : Bool) (nv dv : Nat) (Hnv : nv < R 8) (Hdv : dv < R 8) (sm : Bool) (nm dm : Nat) (Hnm : nm < R 8) (Hdm : dm < R 8) (sw : Bool) (nw dw : Nat) (Hnw : nw < R 8) (Hdw : dw < R 8) 
    (HAw : Hid (∀ W, Below w.heap.size w W → Calls Tryd.prog 10 #[] W fun e w' => e = .returned (.bool true) ∧ Below W.heap.size W w'))
    (HM1 : Hid (∀ W, Calls Tryd.prog 11 #[.int .i64 a, .int .u32 d] W fun e w' => e = .returned (.agg (frcC sx nx dx)) ∧ Below W.heap.size W w'))
    (HF : Hid (∀ W, Calls Tryd.prog 19 #[.agg (frcC sx nx dx)] W fun e w' => e = .returned (.tuple #[.int .i64 n, .int .i64 0]) ∧ Below W.heap.size W w'))
    (HO1 : Hid (∀ W, Calls Tryd.prog 16 #[.int .i64 n] W fun e w' => e = .returned (.agg (frcC sv nv dv)) ∧ Below W.heap.size W w'))
    (HC1 : Hid (∀ W, Calls Tryd.prog 18 #[.agg (frcC sv nv dv), .agg (frcC sx nx dx)] W fun e w' => e = .returned (.tuple #[.int .i64 (-1), .int .i64 0]) ∧ Below W.heap.size W w'))
    (HO2 : Hid (∀ W, Calls Tryd.prog 16 #[.int .i64 1] W fun e w' => e = .returned (.agg (frcC false 1 1)) ∧ Below W.heap.size W w'))
    (HA : Hid (∀ W, Calls Tryd.prog 12 #[.agg (frcC sv nv dv), .agg (frcC false 1 1)] W fun e w' => e = .returned (.tuple #[.agg (frcC sm nm dm), .int .i64 0]) ∧ Below W.heap.size W w'))
    (HC2 : Hid (∀ W, Calls Tryd.prog 18 #[.agg (frcC sx nx dx), .agg (frcC sm nm dm)] W fun e w' => e = .returned (.tuple #[.int .i64 (-1), .int .i64 0]) ∧ Below W.heap.size W w'))
    (HO3 : Hid (∀ W, Calls Tryd.prog 16 #[.int .i64 a] W fun e w' => e = .returned (.agg (frcC sw nw dw)) ∧ Below W.heap.size W w'))
    (HF2 : Hid (∀ W, Calls Tryd.prog 19 #[.agg (frcC sw nw dw)] W fun e w' => e = .returned (.tuple #[.int .i64 a, .int .i64 0]) ∧ Below W.heap.size W w')) :
    Calls Tryd.prog 5 #[.int .i64 a, .int .u32 d] w fun e w' => e = .returned (.bool true) ∧ Below w.heap.size w w' := by
  go_enter Tryd.func5, Tryd.ntmps5
  refine wp_seq ?_
  refine wp_region_L (W0 := w) [] (KS.start w) ?_
  refine wpL_p (v := .bool false) rfl (by kernel_rfl) rfl (fun _ => by kernel_rfl) (by simp only [List.setIfInBounds_toArray, List.set_cons_succ, List.set_cons_zero] <;> rfl) ?_
  refine wpL_done (fun W1 hW1 => ?_)
  refine (show Code.wp _ _ _ _ _ from ?_)
  refine wp_seq ?_
  refine wp_seq ?_
  refine wp_region_L (W0 := w) [] (hW1) ?_
  refine wpL_v (v := .bool true) rfl (by kernel_rfl) rfl (yb_call (f := 10) (args := #[]) (fun _ => by kernel_rfl) fun W hW => HAw.out W hW.1) (by simp only [List.setIfInBounds_toArray, List.set_cons_succ, List.set_cons_zero] <;> rfl) ?_
  refine wpL_p (v := .bool false) rfl (by kernel_rfl) rfl (fun _ => by kernel_rfl) (by simp only [List.setIfInBounds_toArray, List.set_cons_succ, List.set_cons_zero] <;> rfl) ?_
  refine wpL_done (fun W2 hW2 => ?_)
  clear hW1
  refine (show Code.wp _ _ _ _ _ from ?_)
  refine wp_cond_false rfl ?_
  refine wp_skip ?_
  refine (show Code.wp _ _ _ _ _ from ?_)
  refine wp_seq ?_
  refine wp_region_L (W0 := w) [] (hW2) ?_
  refine wpL_p (v := .int .i64 a) rfl (by kernel_rfl) rfl (fun _ => by kernel_rfl) (by simp only [List.setIfInBounds_toArray, List.set_cons_succ, List.set_cons_zero] <;> rfl) ?_
  refine wpL_p (v := .int .u32 d) rfl (by kernel_rfl) rfl (fun _ => by kernel_rfl) (by simp only [List.setIfInBounds_toArray, List.set_cons_succ, List.set_cons_zero] <;> rfl) ?_
  refine wpL_v (v := .agg (frcC sx nx dx)) rfl (by kernel_rfl) rfl (yb_call (f := 11) (args := #[.int .i64 a, .int .u32 d]) (fun _ => by kernel_rfl) fun W hW => HM1.out W) (by simp only [List.setIfInBounds_toArray, List.set_cons_succ, List.set_cons_zero] <;> rfl) ?_
  refine wpL_new (fun g => .pointer (some ⟨g, 0, none⟩)) (obi := .cells (frcC false 0 0) 26 (0, 0)) rfl rfl (fun _ => by rw [frc_zero]; rfl) (fun _ => by simp only [List.setIfInBounds_toArray, List.set_cons_succ, List.set_cons_zero] <;> rfl) fun g1 Bg1 Fg1 => ?_
  try simp only [List.forall_mem_cons] at Fg1
  refine wpL_s [(g1, .cells (frcC sx nx dx) 26 (0, 0))] rfl rfl (st_f (neg := sx) (n := nx) (d := dx) rfl (by kernel_rfl) (by kernel_rfl) (.head _) (by omega) size27 (by intro p hp; simp only [List.mem_cons, List.not_mem_nil, or_false] at hp; rcases hp with rfl; exact .inl rfl)) ?_
  refine wpL_done (fun W3 hW3 => ?_)
  clear hW2
  refine (show Code.wp _ _ _ _ _ from ?_)
  refine wp_seq ?_
  refine wp_region_L (W0 := w) [(g1, .cells (frcC sx nx dx) 26 (0, 0))] (hW3) ?_
  refine wpL_v (v := .agg (frcC sx nx dx)) rfl (by kernel_rfl) rfl (yb_load rfl (by kernel_rfl) (.head _) Tryd.underlying26 rfl size27 (by simp) (frc_whole sx nx dx)) (by simp only [List.setIfInBounds_toArray, List.set_cons_succ, List.set_cons_zero] <;> rfl) ?_
  refine wpL_v (v := .tuple #[.int .i64 n, .int .i64 0]) rfl (by kernel_rfl) rfl (yb_call (f := 19) (args := #[.agg (frcC sx nx dx)]) (fun _ => by kernel_rfl) fun W hW => HF.out W) (by simp only [List.setIfInBounds_toArray, List.set_cons_succ, List.set_cons_zero] <;> rfl) ?_
  refine wpL_p (v := .tuple #[.int .i64 n, .int .i64 0]) rfl (by kernel_rfl) rfl (fun _ => by kernel_rfl) (by simp only [List.setIfInBounds_toArray, List.set_cons_succ, List.set_cons_zero] <;> rfl) ?_
  refine wpL_p (v := .int .i64 n) rfl (by kernel_rfl) rfl (fun _ => by kernel_rfl) (by simp only [List.setIfInBounds_toArray, List.set_cons_succ, List.set_cons_zero] <;> rfl) ?_
  refine wpL_p (v := .int .i64 0) rfl (by kernel_rfl) rfl (fun _ => by kernel_rfl) (by simp only [List.setIfInBounds_toArray, List.set_cons_succ, List.set_cons_zero] <;> rfl) ?_
  refine wpL_p (v := .int .i64 n) rfl (by kernel_rfl) rfl (fun _ => by kernel_rfl) (by simp only [List.setIfInBounds_toArray, List.set_cons_succ, List.set_cons_zero] <;> rfl) ?_
  refine wpL_p (v := .int .i64 0) rfl (by kernel_rfl) rfl (fun _ => by kernel_rfl) (by simp only [List.setIfInBounds_toArray, List.set_cons_succ, List.set_cons_zero] <;> rfl) ?_
  refine wpL_done (fun W4 hW4 => ?_)
  clear hW3
  refine (show Code.wp _ _ _ _ _ from ?_)
  refine wp_seq ?_
  refine wp_region_V (W0 := w) [(g1, .cells (frcC sx nx dx) 26 (0, 0))] (by kernel_rfl) (hW4) ?_
  refine wpV_p (i := 0) (v := .int .i64 n) rfl rfl (by kernel_rfl) (by kernel_rfl) rfl (fun _ => by kernel_rfl) (by simp only [List.setIfInBounds_toArray, List.set_cons_succ, List.set_cons_zero] <;> rfl) ?_
  refine wpV_v (i := 1) (v := .agg (frcC sv nv dv)) rfl rfl (by kernel_rfl) (by kernel_rfl) rfl (yb_call (f := 16) (args := #[.int .i64 n]) (fun _ => by kernel_rfl) fun W hW => HO1.out W) (by simp only [List.setIfInBounds_toArray, List.set_cons_succ, List.set_cons_zero] <;> rfl) ?_
  refine wpV_v (i := 2) (v := .agg (frcC sx nx dx)) rfl rfl (by kernel_rfl) (by kernel_rfl) rfl (yb_load rfl (by kernel_rfl) (.head _) Tryd.underlying26 rfl size27 (by simp) (frc_whole sx nx dx)) (by simp only [List.setIfInBounds_toArray, List.set_cons_succ, List.set_cons_zero] <;> rfl) ?_
  refine wpV_v (i := 3) (v := .tuple #[.int .i64 (-1), .int .i64 0]) rfl rfl (by kernel_rfl) (by kernel_rfl) rfl (yb_call (f := 18) (args := #[.agg (frcC sv nv dv), .agg (frcC sx nx dx)]) (fun _ => by kernel_rfl) fun W hW => HC1.out W) (by simp only [List.setIfInBounds_toArray, List.set_cons_succ, List.set_cons_zero] <;> rfl) ?_
  refine wpV_p (i := 4) (v := .tuple #[.int .i64 (-1), .int .i64 0]) rfl rfl (by kernel_rfl) (by kernel_rfl) rfl (fun _ => by kernel_rfl) (by simp only [List.setIfInBounds_toArray, List.set_cons_succ, List.set_cons_zero] <;> rfl) ?_
  refine wpV_p (i := 5) (v := .int .i64 (-1)) rfl rfl (by kernel_rfl) (by kernel_rfl) rfl (fun _ => by kernel_rfl) (by simp only [List.setIfInBounds_toArray, List.set_cons_succ, List.set_cons_zero] <;> rfl) ?_
  refine wpV_p (i := 6) (v := .int .i64 0) rfl rfl (by kernel_rfl) (by kernel_rfl) rfl (fun _ => by kernel_rfl) (by simp only [List.setIfInBounds_toArray, List.set_cons_succ, List.set_cons_zero] <;> rfl) ?_
  refine wpV_p (i := 7) (v := .int .i64 (-1)) rfl rfl (by kernel_rfl) (by kernel_rfl) rfl (fun _ => by kernel_rfl) (by simp only [List.setIfInBounds_toArray, List.set_cons_succ, List.set_cons_zero] <;> rfl) ?_
  refine wpV_p (i := 8) (v := .int .i64 0) rfl rfl (by kernel_rfl) (by kernel_rfl) rfl (fun _ => by kernel_rfl) (by simp only [List.setIfInBounds_toArray, List.set_cons_succ, List.set_cons_zero] <;> rfl) ?_
  refine wpV_done (by kernel_rfl) (fun W5 hW5 => ?_) _
  clear hW4
  refine (show Code.wp _ _ _ _ _ from ?_)
  refine wp_seq ?_
  refine wp_region_L (W0 := w) [(g1, .cells (frcC sx nx dx) 26 (0, 0))] (hW5) ?_
  refine wpL_p (v := .int .i64 n) rfl (by kernel_rfl) rfl (fun _ => by kernel_rfl) (by simp only [List.setIfInBounds_toArray, List.set_cons_succ, List.set_cons_zero] <;> rfl) ?_
  refine wpL_v (v := .agg (frcC sv nv dv)) rfl (by kernel_rfl) rfl (yb_call (f := 16) (args := #[.int .i64 n]) (fun _ => by kernel_rfl) fun W hW => HO1.out W) (by simp only [List.setIfInBounds_toArray, List.set_cons_succ, List.set_cons_zero] <;> rfl) ?_
  refine wpL_v (v := .agg (frcC false 1 1)) rfl (by kernel_rfl) rfl (yb_call (f := 16) (args := #[.int .i64 1]) (fun _ => by kernel_rfl) fun W hW => HO2.out W) (by simp only [List.setIfInBounds_toArray, List.set_cons_succ, List.set_cons_zero] <;> rfl) ?_
  refine wpL_v (v := .tuple #[.agg (frcC sm nm dm), .int .i64 0]) rfl (by kernel_rfl) rfl (yb_call (f := 12) (args := #[.agg (frcC sv nv dv), .agg (frcC false 1 1)]) (fun _ => by kernel_rfl) fun W hW => HA.out W) (by simp only [List.setIfInBounds_toArray, List.set_cons_succ, List.set_cons_zero] <;> rfl) ?_
  refine wpL_p (v := .tuple #[.agg (frcC sm nm dm), .int .i64 0]) rfl (by kernel_rfl) rfl (fun _ => by kernel_rfl) (by simp only [List.setIfInBounds_toArray, List.set_cons_succ, List.set_cons_zero] <;> rfl) ?_
  refine wpL_p (v := .agg (frcC sm nm dm)) rfl (by kernel_rfl) rfl (fun _ => by kernel_rfl) (by simp only [List.setIfInBounds_toArray, List.set_cons_succ, List.set_cons_zero] <;> rfl) ?_
  refine wpL_p (v := .int .i64 0) rfl (by kernel_rfl) rfl (fun _ => by kernel_rfl) (by simp only [List.setIfInBounds_toArray, List.set_cons_succ, List.set_cons_zero] <;> rfl) ?_
  refine wpL_new (fun g => .pointer (some ⟨g, 0, none⟩)) (obi := .cells (frcC false 0 0) 26 (0, 0)) rfl rfl (fun _ => by rw [frc_zero]; rfl) (fun _ => by simp only [List.setIfInBounds_toArray, List.set_cons_succ, List.set_cons_zero] <;> rfl) fun g2 Bg2 Fg2 => ?_
  try simp only [List.forall_mem_cons] at Fg2
  refine wpL_s [(g2, .cells (frcC sm nm dm) 26 (0, 0)), (g1, .cells (frcC sx nx dx) 26 (0, 0))] rfl rfl (st_f (neg := sm) (n := nm) (d := dm) rfl (by kernel_rfl) (by kernel_rfl) (.head _) (by omega) size27 (by intro p hp; simp only [List.mem_cons, List.not_mem_nil, or_false] at hp; rcases hp with rfl | rfl; exact .inl rfl; exact .inr ⟨by simp, by simp only; omega⟩)) ?_
  refine wpL_p (v := .int .i64 0) rfl (by kernel_rfl) rfl (fun _ => by kernel_rfl) (by simp only [List.setIfInBounds_toArray, List.set_cons_succ, List.set_cons_zero] <;> rfl) ?_
  refine wpL_done (fun W6 hW6 => ?_)
  clear hW5
  refine (show Code.wp _ _ _ _ _ from ?_)
  refine wp_seq ?_
  refine wp_region_L (W0 := w) [(g2, .cells (frcC sm nm dm) 26 (0, 0)), (g1, .cells (frcC sx nx dx) 26 (0, 0))] (hW6) ?_
  refine wpL_v (v := .agg (frcC sx nx dx)) rfl (by kernel_rfl) rfl (yb_load rfl (by kernel_rfl) (.tail _ (.head _)) Tryd.underlying26 rfl size27 (by simp) (frc_whole sx nx dx)) (by simp only [List.setIfInBounds_toArray, List.set_cons_succ, List.set_cons_zero] <;> rfl) ?_
  refine wpL_v (v := .agg (frcC sm nm dm)) rfl (by kernel_rfl) rfl (yb_load rfl (by kernel_rfl) (.head _) Tryd.underlying26 rfl size27 (by simp) (frc_whole sm nm dm)) (by simp only [List.setIfInBounds_toArray, List.set_cons_succ, List.set_cons_zero] <;> rfl) ?_
  refine wpL_v (v := .tuple #[.int .i64 (-1), .int .i64 0]) rfl (by kernel_rfl) rfl (yb_call (f := 18) (args := #[.agg (frcC sx nx dx), .agg (frcC sm nm dm)]) (fun _ => by kernel_rfl) fun W hW => HC2.out W) (by simp only [List.setIfInBounds_toArray, List.set_cons_succ, List.set_cons_zero] <;> rfl) ?_
  refine wpL_p (v := .tuple #[.int .i64 (-1), .int .i64 0]) rfl (by kernel_rfl) rfl (fun _ => by kernel_rfl) (by simp only [List.setIfInBounds_toArray, List.set_cons_succ, List.set_cons_zero] <;> rfl) ?_
  refine wpL_p (v := .int .i64 (-1)) rfl (by kernel_rfl) rfl (fun _ => by kernel_rfl) (by simp only [List.setIfInBounds_toArray, List.set_cons_succ, List.set_cons_zero] <;> rfl) ?_
  refine wpL_p (v := .int .i64 0) rfl (by kernel_rfl) rfl (fun _ => by kernel_rfl) (by simp only [List.setIfInBounds_toArray, List.set_cons_succ, List.set_cons_zero] <;> rfl) ?_
  refine wpL_p (v := .int .i64 (-1)) rfl (by kernel_rfl) rfl (fun _ => by kernel_rfl) (by simp only [List.setIfInBounds_toArray, List.set_cons_succ, List.set_cons_zero] <;> rfl) ?_
  refine wpL_p (v := .int .i64 0) rfl (by kernel_rfl) rfl (fun _ => by kernel_rfl) (by simp only [List.setIfInBounds_toArray, List.set_cons_succ, List.set_cons_zero] <;> rfl) ?_
  refine wpL_done (fun W7 hW7 => ?_)
  clear hW6
  refine (show Code.wp _ _ _ _ _ from ?_)
  refine wp_seq ?_
  refine wp_region_L (W0 := w) [(g2, .cells (frcC sm nm dm) 26 (0, 0)), (g1, .cells (frcC sx nx dx) 26 (0, 0))] (hW7) ?_
  refine wpL_p (v := .int .i64 a) rfl (by kernel_rfl) rfl (fun _ => by kernel_rfl) (by simp only [List.setIfInBounds_toArray, List.set_cons_succ, List.set_cons_zero] <;> rfl) ?_
  refine wpL_v (v := .agg (frcC sw nw dw)) rfl (by kernel_rfl) rfl (yb_call (f := 16) (args := #[.int .i64 a]) (fun _ => by kernel_rfl) fun W hW => HO3.out W) (by simp only [List.setIfInBounds_toArray, List.set_cons_succ, List.set_cons_zero] <;> rfl) ?_
  refine wpL_v (v := .tuple #[.int .i64 a, .int .i64 0]) rfl (by kernel_rfl) rfl (yb_call (f := 19) (args := #[.agg (frcC sw nw dw)]) (fun _ => by kernel_rfl) fun W hW => HF2.out W) (by simp only [List.setIfInBounds_toArray, List.set_cons_succ, List.set_cons_zero] <;> rfl) ?_
  refine wpL_p (v := .tuple #[.int .i64 a, .int .i64 0]) rfl (by kernel_rfl) rfl (fun _ => by kernel_rfl) (by simp only [List.setIfInBounds_toArray, List.set_cons_succ, List.set_cons_zero] <;> rfl) ?_
  refine wpL_p (v := .int .i64 a) rfl (by kernel_rfl) rfl (fun _ => by kernel_rfl) (by simp only [List.setIfInBounds_toArray, List.set_cons_succ, List.set_cons_zero] <;> rfl) ?_
  refine wpL_p (v := .int .i64 0) rfl (by kernel_rfl) rfl (fun _ => by kernel_rfl) (by simp only [List.setIfInBounds_toArray, List.set_cons_succ, List.set_cons_zero] <;> rfl) ?_
  refine wpL_p (v := .int .i64 a) rfl (by kernel_rfl) rfl (fun _ => by kernel_rfl) (by simp only [List.setIfInBounds_toArray, List.set_cons_succ, List.set_cons_zero] <;> rfl) ?_
  refine wpL_p (v := .int .i64 0) rfl (by kernel_rfl) rfl (fun _ => by kernel_rfl) (by simp only [List.setIfInBounds_toArray, List.set_cons_succ, List.set_cons_zero] <;> rfl) ?_
  refine wpL_done (fun W8 hW8 => ?_)
  clear hW7
  refine (show Code.wp _ _ _ _ _ from ?_)
  refine wp_seq ?_
  refine wp_region_L (W0 := w) [(g2, .cells (frcC sm nm dm) 26 (0, 0)), (g1, .cells (frcC sx nx dx) 26 (0, 0))] (hW8) ?_
  refine wpL_p (v := .int .i64 0) rfl (by kernel_rfl) rfl (fun _ => by kernel_rfl) (by simp only [List.setIfInBounds_toArray, List.set_cons_succ, List.set_cons_zero] <;> rfl) ?_
  refine wpL_p (v := .int .i64 0) rfl (by kernel_rfl) rfl (fun _ => by kernel_rfl) (by simp only [List.setIfInBounds_toArray, List.set_cons_succ, List.set_cons_zero] <;> rfl) ?_
  refine wpL_p (v := .int .i64 0) rfl (by kernel_rfl) rfl (fun _ => by kernel_rfl) (by simp only [List.setIfInBounds_toArray, List.set_cons_succ, List.set_cons_zero] <;> rfl) ?_
  refine wpL_p (v := .int .i64 0) rfl (by kernel_rfl) rfl (fun _ => by kernel_rfl) (by simp only [List.setIfInBounds_toArray, List.set_cons_succ, List.set_cons_zero] <;> rfl) ?_
  refine wpL_p (v := .int .i64 0) rfl (by kernel_rfl) rfl (fun _ => by kernel_rfl) (by simp only [List.setIfInBounds_toArray, List.set_cons_succ, List.set_cons_zero] <;> rfl) ?_
  refine wpL_new (fun g => .slice (some ⟨g, 0, none⟩) 5 5) (obi := .cells #[.int .i64 0, .int .i64 0, .int .i64 0, .int .i64 0, .int .i64 0] 29 (0, 0)) rfl rfl (fun _ => by kernel_rfl) (fun _ => by simp only [List.setIfInBounds_toArray, List.set_cons_succ, List.set_cons_zero] <;> rfl) fun g3 Bg3 Fg3 => ?_
  try simp only [List.forall_mem_cons] at Fg3
  refine wpL_v (v := .bool true) rfl (by kernel_rfl) rfl (yb_call (f := 14) (args := #[.slice (some ⟨g3, 0, none⟩) 5 5]) (fun _ => by kernel_rfl) fun W hW => all_W 5 (by omega) rfl (hW.2 _ (.head _))) (by simp only [List.setIfInBounds_toArray, List.set_cons_succ, List.set_cons_zero] <;> rfl) ?_
  refine wpL_p (v := .bool true) rfl (by kernel_rfl) rfl (fun _ => by kernel_rfl) (by simp only [List.setIfInBounds_toArray, List.set_cons_succ, List.set_cons_zero] <;> rfl) ?_
  refine wpL_p (v := .int .i64 (-1)) rfl (by kernel_rfl) rfl (fun _ => by kernel_rfl) (by simp only [List.setIfInBounds_toArray, List.set_cons_succ, List.set_cons_zero] <;> rfl) ?_
  refine wpL_p (v := .bool true) rfl (by kernel_rfl) rfl (fun _ => by kernel_rfl) (by simp only [List.setIfInBounds_toArray, List.set_cons_succ, List.set_cons_zero] <;> rfl) ?_
  refine wpL_p (v := .bool true) rfl (by kernel_rfl) rfl (fun _ => by kernel_rfl) (by simp only [List.setIfInBounds_toArray, List.set_cons_succ, List.set_cons_zero] <;> rfl) ?_
  refine wpL_p (v := .bool true) rfl (by kernel_rfl) rfl (fun _ => by kernel_rfl) (by simp only [List.setIfInBounds_toArray, List.set_cons_succ, List.set_cons_zero] <;> rfl) ?_
  refine wpL_p (v := .int .i64 (-1)) rfl (by kernel_rfl) rfl (fun _ => by kernel_rfl) (by simp only [List.setIfInBounds_toArray, List.set_cons_succ, List.set_cons_zero] <;> rfl) ?_
  refine wpL_p (v := .bool true) rfl (by kernel_rfl) rfl (fun _ => by kernel_rfl) (by simp only [List.setIfInBounds_toArray, List.set_cons_succ, List.set_cons_zero] <;> rfl) ?_
  refine wpL_p (v := .bool true) rfl (by kernel_rfl) rfl (fun _ => by kernel_rfl) (by simp only [List.setIfInBounds_toArray, List.set_cons_succ, List.set_cons_zero] <;> rfl) ?_
  refine wpL_p (v := .bool true) rfl (by kernel_rfl) rfl (fun _ => by kernel_rfl) (by simp only [List.setIfInBounds_toArray, List.set_cons_succ, List.set_cons_zero] <;> rfl) ?_
  refine wpL_p (v := .int .i64 a) rfl (by kernel_rfl) rfl (fun _ => by kernel_rfl) (by simp only [List.setIfInBounds_toArray, List.set_cons_succ, List.set_cons_zero] <;> rfl) ?_
  refine wpL_p (v := .int .i64 a) rfl (by kernel_rfl) rfl (fun _ => by kernel_rfl) (by simp only [List.setIfInBounds_toArray, List.set_cons_succ, List.set_cons_zero] <;> rfl) ?_
  refine wpL_p (v := .bool true) rfl (by kernel_rfl) rfl (run_bin rfl (vx := .int .i64 a) (vy := .int .i64 a) (by kernel_rfl) (by kernel_rfl) fun w => run_eql_same w) (by simp only [List.setIfInBounds_toArray, List.set_cons_succ, List.set_cons_zero] <;> rfl) ?_
  refine wpL_p (v := .bool true) rfl (by kernel_rfl) rfl (fun _ => by kernel_rfl) (by simp only [List.setIfInBounds_toArray, List.set_cons_succ, List.set_cons_zero] <;> rfl) ?_
  refine wpL_p (v := .bool true) rfl (by kernel_rfl) rfl (fun _ => by kernel_rfl) (by simp only [List.setIfInBounds_toArray, List.set_cons_succ, List.set_cons_zero] <;> rfl) ?_
  refine wpL_done (fun W9 hW9 => ?_)
  clear hW8
  refine (show Code.wp _ _ _ _ _ from ?_)
  refine wp_ret ?_
  go_ret
  exact ⟨rfl, hW9.1⟩
end Go.Proofs.YtkfcikijmkgahaaDoor
namespace Go.Proofs.YtkfcikijmkgahaaDoor
open Go.RowKit Tw
set_option maxRecDepth 100000 in
set_option maxHeartbeats 4000000 in
theorem FracFloors_w1 (w : World) (a d n : Int) (sx : Bool) (nx dx : Nat) (Hnx : nx < R 8) (Hdx : dx < R 8) (sm : Bool) (nm dm : Nat) (Hnm : nm < R 8) (Hdm : dm < R 8) (sw : Bool) (nw dw : Nat) (Hnw : nw < R 8) (Hdw : dw < R 8) 
    (HAw : Hid (∀ W, Below w.heap.size w W → Calls Tryd.prog 10 #[] W fun e w' => e = .returned (.bool true) ∧ Below W.heap.size W w'))
    (HM1 : Hid (∀ W, Calls Tryd.prog 11 #[.int .i64 a, .int .u32 d] W fun e w' => e = .returned (.agg (frcC sx nx dx)) ∧ Below W.heap.size W w'))
    (HF : Hid (∀ W, Calls Tryd.prog 19 #[.agg (frcC sx nx dx)] W fun e w' => e = .returned (.tuple #[.int .i64 n, .int .i64 0]) ∧ Below W.heap.size W w'))
    (HO1 : Hid (∀ W, Calls Tryd.prog 16 #[.int .i64 n] W fun e w' => e = .returned (.agg (frcC sx nx dx)) ∧ Below W.heap.size W w'))
    (HC1 : Hid (∀ W, Calls Tryd.prog 18 #[.agg (frcC sx nx dx), .agg (frcC sx nx dx)] W fun e w' => e = .returned (.tuple #[.int .i64 0, .int .i64 0]) ∧ Below W.heap.size W w'))
    (HO2 : Hid (∀ W, Calls Tryd.prog 16 #[.int .i64 1] W fun e w' => e = .returned (.agg (frcC false 1 1)) ∧ Below W.heap.size W w'))
    (HA : Hid (∀ W, Calls Tryd.prog 12 #[.agg (frcC sx nx dx), .agg (frcC false 1 1)] W fun e w' => e = .returned (.tuple #[.agg (frcC sm nm dm), .int .i64 0]) ∧ Below W.heap.size W w'))
    (HC2 : Hid (∀ W, Calls Tryd.prog 18 #[.agg (frcC sx nx dx), .agg (frcC sm nm dm)] W fun e w' => e = .returned (.tuple #[.int .i64 (-1), .int .i64 0]) ∧ Below W.heap.size W w'))
    (HO3 : Hid (∀ W, Calls Tryd.prog 16 #[.int .i64 a] W fun e w' => e = .returned (.agg (frcC sw nw dw)) ∧ Below W.heap.size W w'))
    (HF2 : Hid (∀ W, Calls Tryd.prog 19 #[.agg (frcC sw nw dw)] W fun e w' => e = .returned (.tuple #[.int .i64 a, .int .i64 0]) ∧ Below W.heap.size W w')) :
    Calls Tryd.prog 5 #[.int .i64 a, .int .u32 d] w fun e w' => e = .returned (.bool true) ∧ Below w.heap.size w w' := by
  go_enter Tryd.func5, Tryd.ntmps5
  refine wp_seq ?_
  refine wp_region_L (W0 := w) [] (KS.start w) ?_
  refine wpL_p (v := .bool false) rfl (by kernel_rfl) rfl (fun _ => by kernel_rfl) (by simp only [List.setIfInBounds_toArray, List.set_cons_succ, List.set_cons_zero] <;> rfl) ?_
  refine wpL_done (fun W1 hW1 => ?_)
  refine (show Code.wp _ _ _ _ _ from ?_)
  refine wp_seq ?_
  refine wp_seq ?_
  refine wp_region_L (W0 := w) [] (hW1) ?_
  refine wpL_v (v := .bool true) rfl (by kernel_rfl) rfl (yb_call (f := 10) (args := #[]) (fun _ => by kernel_rfl) fun W hW => HAw.out W hW.1) (by simp only [List.setIfInBounds_toArray, List.set_cons_succ, List.set_cons_zero] <;> rfl) ?_
  refine wpL_p (v := .bool false) rfl (by kernel_rfl) rfl (fun _ => by kernel_rfl) (by simp only [List.setIfInBounds_toArray, List.set_cons_succ, List.set_cons_zero] <;> rfl) ?_
  refine wpL_done (fun W2 hW2 => ?_)
  clear hW1
  refine (show Code.wp _ _ _ _ _ from ?_)
  refine wp_cond_false rfl ?_
  refine wp_skip ?_
  refine (show Code.wp _ _ _ _ _ from ?_)
  refine wp_seq ?_
  refine wp_region_L (W0 := w) [] (hW2) ?_
  refine wpL_p (v := .int .i64 a) rfl (by kernel_rfl) rfl (fun _ => by kernel_rfl) (by simp only [List.setIfInBounds_toArray, List.set_cons_succ, List.set_cons_zero] <;> rfl) ?_
  refine wpL_p (v := .int .u32 d) rfl (by kernel_rfl) rfl (fun _ => by kernel_rfl) (by simp only [List.setIfInBounds_toArray, List.set_cons_succ, List.set_cons_zero] <;> rfl) ?_
  refine wpL_v (v := .agg (frcC sx nx dx)) rfl (by kernel_rfl) rfl (yb_call (f := 11) (args := #[.int .i64 a, .int .u32 d]) (fun _ => by kernel_rfl) fun W hW => HM1.out W) (by simp only [List.setIfInBounds_toArray, List.set_cons_succ, List.set_cons_zero] <;> rfl) ?_
  refine wpL_new (fun g => .pointer (some ⟨g, 0, none⟩)) (obi := .cells (frcC false 0 0) 26 (0, 0)) rfl rfl (fun _ => by rw [frc_zero]; rfl) (fun _ => by simp only [List.setIfInBounds_toArray, List.set_cons_succ, List.set_cons_zero] <;> rfl) fun g1 Bg1 Fg1 => ?_
  try simp only [List.forall_mem_cons] at Fg1
  refine wpL_s [(g1, .cells (frcC sx nx dx) 26 (0, 0))] rfl rfl (st_f (neg := sx) (n := nx) (d := dx) rfl (by kernel_rfl) (by kernel_rfl) (.head _) (by omega) size27 (by intro p hp; simp only [List.mem_cons, List.not_mem_nil, or_false] at hp; rcases hp with rfl; exact .inl rfl)) ?_
  refine wpL_done (fun W3 hW3 => ?_)
  clear hW2
  refine (show Code.wp _ _ _ _ _ from ?_)
  refine wp_seq ?_
  refine wp_region_L (W0 := w) [(g1, .cells (frcC sx nx dx) 26 (0, 0))] (hW3) ?_
  refine wpL_v (v := .agg (frcC sx nx dx)) rfl (by kernel_rfl) rfl (yb_load rfl (by kernel_rfl) (.head _) Tryd.underlying26 rfl size27 (by simp) (frc_whole sx nx dx)) (by simp only [List.setIfInBounds_toArray, List.set_cons_succ, List.set_cons_zero] <;> rfl) ?_
  refine wpL_v (v := .tuple #[.int .i64 n, .int .i64 0]) rfl (by kernel_rfl) rfl (yb_call (f := 19) (args := #[.agg (frcC sx nx dx)]) (fun _ => by kernel_rfl) fun W hW => HF.out W) (by simp only [List.setIfInBounds_toArray, List.set_cons_succ, List.set_cons_zero] <;> rfl) ?_
  refine wpL_p (v := .tuple #[.int .i64 n, .int .i64 0]) rfl (by kernel_rfl) rfl (fun _ => by kernel_rfl) (by simp only [List.setIfInBounds_toArray, List.set_cons_succ, List.set_cons_zero] <;> rfl) ?_
  refine wpL_p (v := .int .i64 n) rfl (by kernel_rfl) rfl (fun _ => by kernel_rfl) (by simp only [List.setIfInBounds_toArray, List.set_cons_succ, List.set_cons_zero] <;> rfl) ?_
  refine wpL_p (v := .int .i64 0) rfl (by kernel_rfl) rfl (fun _ => by kernel_rfl) (by simp only [List.setIfInBounds_toArray, List.set_cons_succ, List.set_cons_zero] <;> rfl) ?_
  refine wpL_p (v := .int .i64 n) rfl (by kernel_rfl) rfl (fun _ => by kernel_rfl) (by simp only [List.setIfInBounds_toArray, List.set_cons_succ, List.set_cons_zero] <;> rfl) ?_
  refine wpL_p (v := .int .i64 0) rfl (by kernel_rfl) rfl (fun _ => by kernel_rfl) (by simp only [List.setIfInBounds_toArray, List.set_cons_succ, List.set_cons_zero] <;> rfl) ?_
  refine wpL_done (fun W4 hW4 => ?_)
  clear hW3
  refine (show Code.wp _ _ _ _ _ from ?_)
  refine wp_seq ?_
  refine wp_region_V (W0 := w) [(g1, .cells (frcC sx nx dx) 26 (0, 0))] (by kernel_rfl) (hW4) ?_
  refine wpV_p (i := 0) (v := .int .i64 n) rfl rfl (by kernel_rfl) (by kernel_rfl) rfl (fun _ => by kernel_rfl) (by simp only [List.setIfInBounds_toArray, List.set_cons_succ, List.set_cons_zero] <;> rfl) ?_
  refine wpV_v (i := 1) (v := .agg (frcC sx nx dx)) rfl rfl (by kernel_rfl) (by kernel_rfl) rfl (yb_call (f := 16) (args := #[.int .i64 n]) (fun _ => by kernel_rfl) fun W hW => HO1.out W) (by simp only [List.setIfInBounds_toArray, List.set_cons_succ, List.set_cons_zero] <;> rfl) ?_
  refine wpV_v (i := 2) (v := .agg (frcC sx nx dx)) rfl rfl (by kernel_rfl) (by kernel_rfl) rfl (yb_load rfl (by kernel_rfl) (.head _) Tryd.underlying26 rfl size27 (by simp) (frc_whole sx nx dx)) (by simp only [List.setIfInBounds_toArray, List.set_cons_succ, List.set_cons_zero] <;> rfl) ?_
  refine wpV_v (i := 3) (v := .tuple #[.int .i64 0, .int .i64 0]) rfl rfl (by kernel_rfl) (by kernel_rfl) rfl (yb_call (f := 18) (args := #[.agg (frcC sx nx dx), .agg (frcC sx nx dx)]) (fun _ => by kernel_rfl) fun W hW => HC1.out W) (by simp only [List.setIfInBounds_toArray, List.set_cons_succ, List.set_cons_zero] <;> rfl) ?_
  refine wpV_p (i := 4) (v := .tuple #[.int .i64 0, .int .i64 0]) rfl rfl (by kernel_rfl) (by kernel_rfl) rfl (fun _ => by kernel_rfl) (by simp only [List.setIfInBounds_toArray, List.set_cons_succ, List.set_cons_zero] <;> rfl) ?_
  refine wpV_p (i := 5) (v := .int .i64 0) rfl rfl (by kernel_rfl) (by kernel_rfl) rfl (fun _ => by kernel_rfl) (by simp only [List.setIfInBounds_toArray, List.set_cons_succ, List.set_cons_zero] <;> rfl) ?_
  refine wpV_p (i := 6) (v := .int .i64 0) rfl rfl (by kernel_rfl) (by kernel_rfl) rfl (fun _ => by kernel_rfl) (by simp only [List.setIfInBounds_toArray, List.set_cons_succ, List.set_cons_zero] <;> rfl) ?_
  refine wpV_p (i := 7) (v := .int .i64 0) rfl rfl (by kernel_rfl) (by kernel_rfl) rfl (fun _ => by kernel_rfl) (by simp only [List.setIfInBounds_toArray, List.set_cons_succ, List.set_cons_zero] <;> rfl) ?_
  refine wpV_p (i := 8) (v := .int .i64 0) rfl rfl (by kernel_rfl) (by kernel_rfl) rfl (fun _ => by kernel_rfl) (by simp only [List.setIfInBounds_toArray, List.set_cons_succ, List.set_cons_zero] <;> rfl) ?_
  refine wpV_done (by kernel_rfl) (fun W5 hW5 => ?_) _
  clear hW4
  refine (show Code.wp _ _ _ _ _ from ?_)
  refine wp_seq ?_
  refine wp_region_L (W0 := w) [(g1, .cells (frcC sx nx dx) 26 (0, 0))] (hW5) ?_
  refine wpL_p (v := .int .i64 n) rfl (by kernel_rfl) rfl (fun _ => by kernel_rfl) (by simp only [List.setIfInBounds_toArray, List.set_cons_succ, List.set_cons_zero] <;> rfl) ?_
  refine wpL_v (v := .agg (frcC sx nx dx)) rfl (by kernel_rfl) rfl (yb_call (f := 16) (args := #[.int .i64 n]) (fun _ => by kernel_rfl) fun W hW => HO1.out W) (by simp only [List.setIfInBounds_toArray, List.set_cons_succ, List.set_cons_zero] <;> rfl) ?_
  refine wpL_v (v := .agg (frcC false 1 1)) rfl (by kernel_rfl) rfl (yb_call (f := 16) (args := #[.int .i64 1]) (fun _ => by kernel_rfl) fun W hW => HO2.out W) (by simp only [List.setIfInBounds_toArray, List.set_cons_succ, List.set_cons_zero] <;> rfl) ?_
  refine wpL_v (v := .tuple #[.agg (frcC sm nm dm), .int .i64 0]) rfl (by kernel_rfl) rfl (yb_call (f := 12) (args := #[.agg (frcC sx nx dx), .agg (frcC false 1 1)]) (fun _ => by kernel_rfl) fun W hW => HA.out W) (by simp only [List.setIfInBounds_toArray, List.set_cons_succ, List.set_cons_zero] <;> rfl) ?_
  refine wpL_p (v := .tuple #[.agg (frcC sm nm dm), .int .i64 0]) rfl (by kernel_rfl) rfl (fun _ => by kernel_rfl) (by simp only [List.setIfInBounds_toArray, List.set_cons_succ, List.set_cons_zero] <;> rfl) ?_
  refine wpL_p (v := .agg (frcC sm nm dm)) rfl (by kernel_rfl) rfl (fun _ => by kernel_rfl) (by simp only [List.setIfInBounds_toArray, List.set_cons_succ, List.set_cons_zero] <;> rfl) ?_
  refine wpL_p (v := .int .i64 0) rfl (by kernel_rfl) rfl (fun _ => by kernel_rfl) (by simp only [List.setIfInBounds_toArray, List.set_cons_succ, List.set_cons_zero] <;> rfl) ?_
  refine wpL_new (fun g => .pointer (some ⟨g, 0, none⟩)) (obi := .cells (frcC false 0 0) 26 (0, 0)) rfl rfl (fun _ => by rw [frc_zero]; rfl) (fun _ => by simp only [List.setIfInBounds_toArray, List.set_cons_succ, List.set_cons_zero] <;> rfl) fun g2 Bg2 Fg2 => ?_
  try simp only [List.forall_mem_cons] at Fg2
  refine wpL_s [(g2, .cells (frcC sm nm dm) 26 (0, 0)), (g1, .cells (frcC sx nx dx) 26 (0, 0))] rfl rfl (st_f (neg := sm) (n := nm) (d := dm) rfl (by kernel_rfl) (by kernel_rfl) (.head _) (by omega) size27 (by intro p hp; simp only [List.mem_cons, List.not_mem_nil, or_false] at hp; rcases hp with rfl | rfl; exact .inl rfl; exact .inr ⟨by simp, by simp only; omega⟩)) ?_
  refine wpL_p (v := .int .i64 0) rfl (by kernel_rfl) rfl (fun _ => by kernel_rfl) (by simp only [List.setIfInBounds_toArray, List.set_cons_succ, List.set_cons_zero] <;> rfl) ?_
  refine wpL_done (fun W6 hW6 => ?_)
  clear hW5
  refine (show Code.wp _ _ _ _ _ from ?_)
  refine wp_seq ?_
  refine wp_region_L (W0 := w) [(g2, .cells (frcC sm nm dm) 26 (0, 0)), (g1, .cells (frcC sx nx dx) 26 (0, 0))] (hW6) ?_
  refine wpL_v (v := .agg (frcC sx nx dx)) rfl (by kernel_rfl) rfl (yb_load rfl (by kernel_rfl) (.tail _ (.head _)) Tryd.underlying26 rfl size27 (by simp) (frc_whole sx nx dx)) (by simp only [List.setIfInBounds_toArray, List.set_cons_succ, List.set_cons_zero] <;> rfl) ?_
  refine wpL_v (v := .agg (frcC sm nm dm)) rfl (by kernel_rfl) rfl (yb_load rfl (by kernel_rfl) (.head _) Tryd.underlying26 rfl size27 (by simp) (frc_whole sm nm dm)) (by simp only [List.setIfInBounds_toArray, List.set_cons_succ, List.set_cons_zero] <;> rfl) ?_
  refine wpL_v (v := .tuple #[.int .i64 (-1), .int .i64 0]) rfl (by kernel_rfl) rfl (yb_call (f := 18) (args := #[.agg (frcC sx nx dx), .agg (frcC sm nm dm)]) (fun _ => by kernel_rfl) fun W hW => HC2.out W) (by simp only [List.setIfInBounds_toArray, List.set_cons_succ, List.set_cons_zero] <;> rfl) ?_
  refine wpL_p (v := .tuple #[.int .i64 (-1), .int .i64 0]) rfl (by kernel_rfl) rfl (fun _ => by kernel_rfl) (by simp only [List.setIfInBounds_toArray, List.set_cons_succ, List.set_cons_zero] <;> rfl) ?_
  refine wpL_p (v := .int .i64 (-1)) rfl (by kernel_rfl) rfl (fun _ => by kernel_rfl) (by simp only [List.setIfInBounds_toArray, List.set_cons_succ, List.set_cons_zero] <;> rfl) ?_
  refine wpL_p (v := .int .i64 0) rfl (by kernel_rfl) rfl (fun _ => by kernel_rfl) (by simp only [List.setIfInBounds_toArray, List.set_cons_succ, List.set_cons_zero] <;> rfl) ?_
  refine wpL_p (v := .int .i64 (-1)) rfl (by kernel_rfl) rfl (fun _ => by kernel_rfl) (by simp only [List.setIfInBounds_toArray, List.set_cons_succ, List.set_cons_zero] <;> rfl) ?_
  refine wpL_p (v := .int .i64 0) rfl (by kernel_rfl) rfl (fun _ => by kernel_rfl) (by simp only [List.setIfInBounds_toArray, List.set_cons_succ, List.set_cons_zero] <;> rfl) ?_
  refine wpL_done (fun W7 hW7 => ?_)
  clear hW6
  refine (show Code.wp _ _ _ _ _ from ?_)
  refine wp_seq ?_
  refine wp_region_L (W0 := w) [(g2, .cells (frcC sm nm dm) 26 (0, 0)), (g1, .cells (frcC sx nx dx) 26 (0, 0))] (hW7) ?_
  refine wpL_p (v := .int .i64 a) rfl (by kernel_rfl) rfl (fun _ => by kernel_rfl) (by simp only [List.setIfInBounds_toArray, List.set_cons_succ, List.set_cons_zero] <;> rfl) ?_
  refine wpL_v (v := .agg (frcC sw nw dw)) rfl (by kernel_rfl) rfl (yb_call (f := 16) (args := #[.int .i64 a]) (fun _ => by kernel_rfl) fun W hW => HO3.out W) (by simp only [List.setIfInBounds_toArray, List.set_cons_succ, List.set_cons_zero] <;> rfl) ?_
  refine wpL_v (v := .tuple #[.int .i64 a, .int .i64 0]) rfl (by kernel_rfl) rfl (yb_call (f := 19) (args := #[.agg (frcC sw nw dw)]) (fun _ => by kernel_rfl) fun W hW => HF2.out W) (by simp only [List.setIfInBounds_toArray, List.set_cons_succ, List.set_cons_zero] <;> rfl) ?_
  refine wpL_p (v := .tuple #[.int .i64 a, .int .i64 0]) rfl (by kernel_rfl) rfl (fun _ => by kernel_rfl) (by simp only [List.setIfInBounds_toArray, List.set_cons_succ, List.set_cons_zero] <;> rfl) ?_
  refine wpL_p (v := .int .i64 a) rfl (by kernel_rfl) rfl (fun _ => by kernel_rfl) (by simp only [List.setIfInBounds_toArray, List.set_cons_succ, List.set_cons_zero] <;> rfl) ?_
  refine wpL_p (v := .int .i64 0) rfl (by kernel_rfl) rfl (fun _ => by kernel_rfl) (by simp only [List.setIfInBounds_toArray, List.set_cons_succ, List.set_cons_zero] <;> rfl) ?_
  refine wpL_p (v := .int .i64 a) rfl (by kernel_rfl) rfl (fun _ => by kernel_rfl) (by simp only [List.setIfInBounds_toArray, List.set_cons_succ, List.set_cons_zero] <;> rfl) ?_
  refine wpL_p (v := .int .i64 0) rfl (by kernel_rfl) rfl (fun _ => by kernel_rfl) (by simp only [List.setIfInBounds_toArray, List.set_cons_succ, List.set_cons_zero] <;> rfl) ?_
  refine wpL_done (fun W8 hW8 => ?_)
  clear hW7
  refine (show Code.wp _ _ _ _ _ from ?_)
  refine wp_seq ?_
  refine wp_region_L (W0 := w) [(g2, .cells (frcC sm nm dm) 26 (0, 0)), (g1, .cells (frcC sx nx dx) 26 (0, 0))] (hW8) ?_
  refine wpL_p (v := .int .i64 0) rfl (by kernel_rfl) rfl (fun _ => by kernel_rfl) (by simp only [List.setIfInBounds_toArray, List.set_cons_succ, List.set_cons_zero] <;> rfl) ?_
  refine wpL_p (v := .int .i64 0) rfl (by kernel_rfl) rfl (fun _ => by kernel_rfl) (by simp only [List.setIfInBounds_toArray, List.set_cons_succ, List.set_cons_zero] <;> rfl) ?_
  refine wpL_p (v := .int .i64 0) rfl (by kernel_rfl) rfl (fun _ => by kernel_rfl) (by simp only [List.setIfInBounds_toArray, List.set_cons_succ, List.set_cons_zero] <;> rfl) ?_
  refine wpL_p (v := .int .i64 0) rfl (by kernel_rfl) rfl (fun _ => by kernel_rfl) (by simp only [List.setIfInBounds_toArray, List.set_cons_succ, List.set_cons_zero] <;> rfl) ?_
  refine wpL_p (v := .int .i64 0) rfl (by kernel_rfl) rfl (fun _ => by kernel_rfl) (by simp only [List.setIfInBounds_toArray, List.set_cons_succ, List.set_cons_zero] <;> rfl) ?_
  refine wpL_new (fun g => .slice (some ⟨g, 0, none⟩) 5 5) (obi := .cells #[.int .i64 0, .int .i64 0, .int .i64 0, .int .i64 0, .int .i64 0] 29 (0, 0)) rfl rfl (fun _ => by kernel_rfl) (fun _ => by simp only [List.setIfInBounds_toArray, List.set_cons_succ, List.set_cons_zero] <;> rfl) fun g3 Bg3 Fg3 => ?_
  try simp only [List.forall_mem_cons] at Fg3
  refine wpL_v (v := .bool true) rfl (by kernel_rfl) rfl (yb_call (f := 14) (args := #[.slice (some ⟨g3, 0, none⟩) 5 5]) (fun _ => by kernel_rfl) fun W hW => all_W 5 (by omega) rfl (hW.2 _ (.head _))) (by simp only [List.setIfInBounds_toArray, List.set_cons_succ, List.set_cons_zero] <;> rfl) ?_
  refine wpL_p (v := .bool true) rfl (by kernel_rfl) rfl (fun _ => by kernel_rfl) (by simp only [List.setIfInBounds_toArray, List.set_cons_succ, List.set_cons_zero] <;> rfl) ?_
  refine wpL_p (v := .int .i64 0) rfl (by kernel_rfl) rfl (fun _ => by kernel_rfl) (by simp only [List.setIfInBounds_toArray, List.set_cons_succ, List.set_cons_zero] <;> rfl) ?_
  refine wpL_p (v := .bool true) rfl (by kernel_rfl) rfl (fun _ => by kernel_rfl) (by simp only [List.setIfInBounds_toArray, List.set_cons_succ, List.set_cons_zero] <;> rfl) ?_
  refine wpL_p (v := .bool true) rfl (by kernel_rfl) rfl (fun _ => by kernel_rfl) (by simp only [List.setIfInBounds_toArray, List.set_cons_succ, List.set_cons_zero] <;> rfl) ?_
  refine wpL_p (v := .bool true) rfl (by kernel_rfl) rfl (fun _ => by kernel_rfl) (by simp only [List.setIfInBounds_toArray, List.set_cons_succ, List.set_cons_zero] <;> rfl) ?_
  refine wpL_p (v := .int .i64 (-1)) rfl (by kernel_rfl) rfl (fun _ => by kernel_rfl) (by simp only [List.setIfInBounds_toArray, List.set_cons_succ, List.set_cons_zero] <;> rfl) ?_
  refine wpL_p (v := .bool true) rfl (by kernel_rfl) rfl (fun _ => by kernel_rfl) (by simp only [List.setIfInBounds_toArray, List.set_cons_succ, List.set_cons_zero] <;> rfl) ?_
  refine wpL_p (v := .bool true) rfl (by kernel_rfl) rfl (fun _ => by kernel_rfl) (by simp only [List.setIfInBounds_toArray, List.set_cons_succ, List.set_cons_zero] <;> rfl) ?_
  refine wpL_p (v := .bool true) rfl (by kernel_rfl) rfl (fun _ => by kernel_rfl) (by simp only [List.setIfInBounds_toArray, List.set_cons_succ, List.set_cons_zero] <;> rfl) ?_
  refine wpL_p (v := .int .i64 a) rfl (by kernel_rfl) rfl (fun _ => by kernel_rfl) (by simp only [List.setIfInBounds_toArray, List.set_cons_succ, List.set_cons_zero] <;> rfl) ?_
  refine wpL_p (v := .int .i64 a) rfl (by kernel_rfl) rfl (fun _ => by kernel_rfl) (by simp only [List.setIfInBounds_toArray, List.set_cons_succ, List.set_cons_zero] <;> rfl) ?_
  refine wpL_p (v := .bool true) rfl (by kernel_rfl) rfl (run_bin rfl (vx := .int .i64 a) (vy := .int .i64 a) (by kernel_rfl) (by kernel_rfl) fun w => run_eql_same w) (by simp only [List.setIfInBounds_toArray, List.set_cons_succ, List.set_cons_zero] <;> rfl) ?_
  refine wpL_p (v := .bool true) rfl (by kernel_rfl) rfl (fun _ => by kernel_rfl) (by simp only [List.setIfInBounds_toArray, List.set_cons_succ, List.set_cons_zero] <;> rfl) ?_
  refine wpL_p (v := .bool true) rfl (by kernel_rfl) rfl (fun _ => by kernel_rfl) (by simp only [List.setIfInBounds_toArray, List.set_cons_succ, List.set_cons_zero] <;> rfl) ?_
  refine wpL_done (fun W9 hW9 => ?_)
  clear hW8
  refine (show Code.wp _ _ _ _ _ from ?_)
  refine wp_ret ?_
  go_ret
  exact ⟨rfl, hW9.1⟩
end Go.Proofs.YtkfcikijmkgahaaDoor
namespace Go.Proofs.YtkfcikijmkgahaaDoor
open Go.RowKit Tw
variable [ShLZ]
variable [ShSt]
set_option maxHeartbeats 1000000 in
theorem FracFloors_any (a : Int) (d : Nat) (a1 : -9223372036854775808 ≤ a) (a2 : a ≤ 9223372036854775807) (hd : d ≤ 4294967295)
    (hA : ∀ W, Env W → Calls Tryd.prog 10 #[] W fun e w' => e = .returned (.bool true) ∧ Below W.heap.size W w') (w : World) (hE : Env w) :
    Calls Tryd.prog 5 #[.int .i64 a, .int .u32 (d : Int)] w fun e w' => e = .returned (.bool true) ∧ Below w.heap.size w w' := by
  have mx := rMade a d a1 a2 hd
  have bx : bd (fr a (d + 1)) 9223372036854775808 4294967296 := fr_bd _ _ (by omega) (by omega) (by omega)
  have hnm := fr_num a (d + 1) (by omega)
  have hr : -9223372036854775808 ≤ (fr a (d + 1)).floor ∧ (fr a (d + 1)).floor ≤ 9223372036854775807 := by
    refine floor_range _ ?_ ?_ (by omega) (by omega)
    · rcases Int.le_total 0 a with h | h
      · have := hnm.1 h; omega
      · have := hnm.2 h; omega
    · rcases Int.le_total 0 a with h | h
      · have := hnm.1 h; omega
      · have := hnm.2 h; omega
  generalize fr a (d + 1) = X at *
  clear hnm
  have hl := Rat.floor_le X
  have hg := Rat.lt_floor_add_one X
  obtain ⟨n, hn⟩ : ∃ n, X.floor = n := ⟨_, rfl⟩
  rw [hn] at hr hl hg
  have fx : fits X := bd_fits bx (by decide +kernel) (by decide +kernel)
  have bo : bd (n : Rat) 9223372036854775808 1 := ⟨Nat.le_trans (bd_int n).1 (by omega), (bd_int n).2⟩
  have fo : fits (n : Rat) := bd_fits bo (by decide +kernel) (by decide +kernel)
  have f1 : fits 1 := by decide +kernel
  have b1 : bd (1 : Rat) 1 1 := by unfold bd; decide +kernel
  have fm : fits ((n : Rat) + 1) := bd_fits (bd_add bo b1) (by decide +kernel) (by decide +kernel)
  have bw : bd (a : Rat) 9223372036854775808 1 := ⟨Nat.le_trans (bd_int a).1 (by omega), (bd_int a).2⟩
  have fw : fits (a : Rat) := bd_fits bw (by decide +kernel) (by decide +kernel)
  have hg' : X < (n : Rat) + 1 := by
    have : ((n + 1 : Int) : Rat) = (n : Rat) + 1 := Rat.intCast_add n 1
    rw [← this]; exact hg
  have hc2 : (if X = (n : Rat) + 1 then (0 : Int) else if X < (n : Rat) + 1 then -1 else 1) = -1 := by
    rw [if_neg (fun h => Rat.lt_irrefl (h ▸ hg')), if_pos hg']
  by_cases he : (n : Rat) = X
  · subst he
    exact FracFloors_w1 w a d n (decide ((n : Rat).num < 0)) (n : Rat).num.natAbs (n : Rat).den fo.1 fo.2 (decide (((n : Rat) + 1).num < 0)) ((n : Rat) + 1).num.natAbs ((n : Rat) + 1).den fm.1 fm.2 (decide ((a : Rat).num < 0)) (a : Rat).num.natAbs (a : Rat).den fw.1 fw.2 
      (fun W hW => hA W (hE.keep hW))
      mx
      (rFloor _ n fo hn hr.1 hr.2)
      (rOf n hr.1 hr.2)
      (rCmp _ _ 0 fo fo (by rw [if_pos rfl]))
      rOf1
      (by have h := rAdd (n : Rat) 1 _ fo f1 rfl fm; rwa [ratV_one] at h)
      (rCmp _ _ (-1) fo fm hc2)
      (rOf a a1 a2)
      (rFloor _ a fw (Rat.floor_intCast a) a1 a2)
  · have hc1 : (if (n : Rat) = X then (0 : Int) else if (n : Rat) < X then -1 else 1) = -1 := by
      rw [if_neg he, if_pos (Rat.lt_of_le_of_ne hl he)]
    exact FracFloors_w0 w a d n (decide (X.num < 0)) X.num.natAbs X.den fx.1 fx.2 (decide ((n : Rat).num < 0)) (n : Rat).num.natAbs (n : Rat).den fo.1 fo.2 (decide (((n : Rat) + 1).num < 0)) ((n : Rat) + 1).num.natAbs ((n : Rat) + 1).den fm.1 fm.2 (decide ((a : Rat).num < 0)) (a : Rat).num.natAbs (a : Rat).den fw.1 fw.2 
      (fun W hW => hA W (hE.keep hW))
      mx
      (rFloor _ n fx hn hr.1 hr.2)
      (rOf n hr.1 hr.2)
      (rCmp _ _ (-1) fo fx hc1)
      rOf1
      (by have h := rAdd (n : Rat) 1 _ fo f1 rfl fm; rwa [ratV_one] at h)
      (rCmp _ _ (-1) fx fm hc2)
      (rOf a a1 a2)
      (rFloor _ a fw (Rat.floor_intCast a) a1 a2)
end Go.Proofs.YtkfcikijmkgahaaDoor
/- FracFloors holds for every input: the program's own answer is true, wherever the tables of the library are as the program's text lays them. -/
namespace Go.Proofs.YtkfcikijmkgahaaDoor
open Go.ChangeShapes Go.WideShapes Go.ChangeAt Go.RowKit Tw
theorem fracFloors_walk (a0 : Int) (a1 : Int) (w0 : (Lit.int .i64 a0).wf = true) (w1 : (Lit.int .u32 a1).wf = true) (w : World) (hE : Env w) :
    Calls Tryd.prog 5 #[.int .i64 a0, .int .u32 a1] w fun e w' => e = .returned (.bool true) ∧ Below w.heap.size w w' := by
  have r0 : -9223372036854775808 ≤ a0 ∧ a0 ≤ 9223372036854775807 := of_wf w0
  have r1 : 0 ≤ a1 ∧ a1 ≤ 4294967295 := of_wf w1
  obtain ⟨n1, rfl⟩ : ∃ n : Nat, a1 = (n : Int) := ⟨a1.toNat, by omega⟩
  exact FracFloors_any a0 n1 r0.1 r0.2 (by omega) (fun W hW => awake_any rep_any W hW) w hE
set_option maxRecDepth 100000 in
theorem fracFloors_lifted (os : Os) (started : os.Started) (H : Type) (enc : TypeId × Value → H) :
    ReturnsInHanded {} Tryd.checked os 5 .any (fun w args => (Rows.fracFloorsSpec.pre enc Tryd.prog Tryd.f5 Rows.fracFloorsRow.domain false w args ∧ laidMetH Tryd.prog laid3 w) ∧ sizedMet enc Tryd.prog Tryd.f5 (OpenSpec.ofChange Rows.fracFloorsSpec) false w args) (Rows.fracFloorsSpec.post enc Tryd.prog Tryd.f5 false true false false) := by
  refine handed_and_shaped (C := Tryd.checked) (X := fun w => laidMetH Tryd.prog laid3 w) (fun _ _ hh h => h.of_heap hh) own started (by kernel_rfl) Tryd.func5
    (ChangeSpec.witness_shaped (enc := enc) (C := Tryd.checked) (os := os) (X := fun w _ => laidMetH Tryd.prog laid3 w) false (World.doorLaid Tryd.prog 1000 os) #[.int .i64 0, .int .u32 0] 8 rfl (World.shaped_of_RefB (by kernel_rfl) (by kernel_rfl)) (by kernel_rfl) (by kernel_rfl) (by kernel_rfl) (door_met os _)) ?_
  intro W base args ds gs before hval0 hW hL hsh
  have hval : ∀ (j : Nat) t v, Tryd.f5.params[j]? = some t → args[j]? = some v → Value.okWide Tryd.prog W .any base t v := hval0
  have hW' := hW
  obtain ⟨p, q, hA0, hV, rfl, hfz, hnd⟩ := hW
  have hA : DataW.TrodAll enc Tryd.prog W 0 (fun _ => true) true Tryd.f5.params.toList args.toList ds p := hA0
  rw [Tryd.params5] at hA hval
  obtain ⟨v0, vs0, d0, ds0, p0, q0, hargs, rfl, rfl, h0, r0⟩ := trodAll_cons hA
  obtain ⟨v1, vs1, d1, ds1, p1, q1, rfl, rfl, rfl, h1, r1⟩ := trodAll_cons r0
  obtain ⟨rfl, rfl, rfl⟩ := trodAll_nil r1
  obtain rfl : args = #[v0, v1] := by cases args; simp_all
  obtain ⟨rfl, rfl⟩ := trodVars_none hV
  obtain ⟨a0, rfl, rfl, rfl, w0⟩ := open_int Tryd.underlying3 (hval 0 3 v0 rfl rfl) h0
  obtain ⟨a1, rfl, rfl, rfl, w1⟩ := open_int Tryd.underlying22 (hval 1 22 v1 rfl rfl) h1
  clear hA0 hval0
  simp only [List.append_nil] at hW'
  refine (fracFloors_walk a0 a1 w0 w1 W (env_of hL hsh)).mono fun e W' ⟨he, hg⟩ => ?_
  subst he
  exact ⟨_, rfl, _, _, _, [], [], [], hW', (trodAll_cons_mk (shut_bool Tryd.underlying4 _) trodAll_mk0), (trodAll_cons_mk (shut_int Tryd.underlying3 w0) (trodAll_cons_mk (shut_int Tryd.underlying22 w1) trodAll_mk0)), rfl, hg.frame _, fun h => by cases h⟩
theorem fracFloors_said : Rows.FracFloorsSaid :=
  OpenClaim.holds_of_wide 5 Tryd.f5 rfl rfl rfl rfl rfl rfl rfl ⟨rfl, rfl, rfl, rfl, rfl⟩ rfl rfl rfl rfl rfl (by kernel_rfl) Tryd.func5 (by kernel_rfl)
    (of_decide_eq_true (by kernel_rfl)) (by unfold Func.isWrapper; first | (rw [if_pos (by decide +kernel)]; kernel_rfl) | (rw [if_neg (by decide +kernel)]; exact ⟨rfl, rfl⟩))
    (fun os started H enc _ => fracFloors_lifted os started H enc)
theorem fracFloors_proved : Rows.FracFloorsCardSaid :=
  Claim7.holds_tied_plain_at .later [] [.data, .data, .data] true Rows.fracFloorsCard.stood.harness false
    fracFloors_said (fun _ h => by cases h) (by kernel_rfl) (fun _ h => by cases h) fracFloors_row_tie rfl ⟨rfl, rfl⟩ (by kernel_rfl) rfl
    (fun f fn hf hfn => by
      obtain rfl : f = 5 := Option.some.inj ((show Tryd.prog.funcNamed "twistlock/twistlocklaw01.FracFloors" = some 5 by kernel_rfl).symm.trans hf) |>.symm
      obtain rfl : fn = Tryd.f5 := (Option.some.inj (Tryd.func5.symm.trans hfn)).symm
      exact ⟨by kernel_rfl, fun j t ht => by
        rw [Tryd.params5] at ht
        have hm : t ∈ [3, 22] := by simpa using Array.mem_of_getElem? ht
        have hall : ([3, 22].all fun u => !Tryd.prog.wantsStandIn u) = true := by kernel_rfl
        exact (show Tryd.prog.wantsStandIn t = false by simpa using List.all_eq_true.1 hall t hm)⟩)
    (by kernel_rfl)
#print axioms fracFloors_proved
end Go.Proofs.YtkfcikijmkgahaaDoor
