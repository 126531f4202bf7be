import Derived.Test.YtkfcikijmkgahaaDoorG05
/- Part of the proof: O22. -/
set_option linter.unusedVariables false
set_option linter.unusedSimpArgs false
set_option linter.unusedSectionVars false
namespace Go.Proofs.YtkfcikijmkgahaaDoor
open Go.RowKit Tw
set_option maxRecDepth 100000 in
set_option maxHeartbeats 4000000 in
theorem FracOrder_w22 (w : World) (a b c d e f : Int) (sx : Bool) (nx dx : Nat) (Hnx : nx < R 8) (Hdx : dx < R 8) (sy : Bool) (ny dy : Nat) (Hny : ny < R 8) (Hdy : dy < R 8) (sz : Bool) (nz dz : Nat) (Hnz : nz < R 8) (Hdz : dz < R 8) (sl : Bool) (nl dl : Nat) (Hnl : nl < R 8) (Hdl : dl < R 8) (sp : Bool) (np dp : Nat) (Hnp : np < R 8) (Hdp : dp < R 8) (sq : Bool) (nq dq : Nat) (Hnq : nq < R 8) (Hdq : dq < R 8) (sr : Bool) (nr dr : Nat) (Hnr : nr < R 8) (Hdr : dr < R 8) (ss : Bool) (ns ds : Nat) (Hns : ns < R 8) (Hds : ds < R 8) 
    (Hne_0 : decide (sx = sy ∧ nx = ny ∧ dx = dy) = false)
    (HAw : Hid (∀ W, Below w.heap.size w W → Calls Tryd.prog 10 #[] W fun e w' => e = .returned (.bool true) ∧ Below W.heap.size W w'))
    (HM1 : Hid (∀ W, Calls Tryd.prog 11 #[.int .i64 (a / 2 ^ 4), .int .u32 d] W fun e w' => e = .returned (.agg (frcC sx nx dx)) ∧ Below W.heap.size W w'))
    (HM2 : Hid (∀ W, Calls Tryd.prog 11 #[.int .i64 (b / 2 ^ 4), .int .u32 e] W fun e w' => e = .returned (.agg (frcC sy ny dy)) ∧ Below W.heap.size W w'))
    (HM3 : Hid (∀ W, Calls Tryd.prog 11 #[.int .i64 (c / 2 ^ 4), .int .u32 f] W fun e w' => e = .returned (.agg (frcC sz nz dz)) ∧ Below W.heap.size W w'))
    (HC1 : Hid (∀ W, Calls Tryd.prog 18 #[.agg (frcC sx nx dx), .agg (frcC sy ny dy)] W fun e w' => e = .returned (.tuple #[.int .i64 1, .int .i64 0]) ∧ Below W.heap.size W w'))
    (HC2 : Hid (∀ W, Calls Tryd.prog 18 #[.agg (frcC sy ny dy), .agg (frcC sx nx dx)] W fun e w' => e = .returned (.tuple #[.int .i64 (-1), .int .i64 0]) ∧ Below W.heap.size W w'))
    (HS : Hid (∀ W, Calls Tryd.prog 13 #[.agg (frcC sx nx dx), .agg (frcC sy ny dy)] W fun e w' => e = .returned (.tuple #[.agg (frcC sl nl dl), .int .i64 0]) ∧ Below W.heap.size W w'))
    (HC3 : Hid (∀ W, Calls Tryd.prog 18 #[.agg (frcC sl nl dl), .agg (frcC false 0 1)] W fun e w' => e = .returned (.tuple #[.int .i64 1, .int .i64 0]) ∧ Below W.heap.size W w'))
    (HA1 : Hid (∀ W, Calls Tryd.prog 12 #[.agg (frcC sx nx dx), .agg (frcC sz nz dz)] W fun e w' => e = .returned (.tuple #[.agg (frcC sp np dp), .int .i64 0]) ∧ Below W.heap.size W w'))
    (HA2 : Hid (∀ W, Calls Tryd.prog 12 #[.agg (frcC sy ny dy), .agg (frcC sz nz dz)] W fun e w' => e = .returned (.tuple #[.agg (frcC sq nq dq), .int .i64 0]) ∧ Below W.heap.size W w'))
    (HC4 : Hid (∀ W, Calls Tryd.prog 18 #[.agg (frcC sp np dp), .agg (frcC sq nq dq)] W fun e w' => e = .returned (.tuple #[.int .i64 1, .int .i64 0]) ∧ Below W.heap.size W w'))
    (HP1 : Hid (∀ W, Calls Tryd.prog 15 #[.agg (frcC sx nx dx), .agg (frcC sz nz dz)] W fun e w' => e = .returned (.tuple #[.agg (frcC sr nr dr), .int .i64 0]) ∧ Below W.heap.size W w'))
    (HP2 : Hid (∀ W, Calls Tryd.prog 15 #[.agg (frcC sy ny dy), .agg (frcC sz nz dz)] W fun e w' => e = .returned (.tuple #[.agg (frcC ss ns ds), .int .i64 0]) ∧ Below W.heap.size W w'))
    (HC5 : Hid (∀ W, Calls Tryd.prog 18 #[.agg (frcC sr nr dr), .agg (frcC ss ns ds)] W fun e w' => e = .returned (.tuple #[.int .i64 1, .int .i64 0]) ∧ Below W.heap.size W w'))
    (HC6 : Hid (∀ W, Calls Tryd.prog 18 #[.agg (frcC sz nz dz), .agg (frcC false 0 1)] W fun e w' => e = .returned (.tuple #[.int .i64 1, .int .i64 0]) ∧ Below W.heap.size W w'))
    (HO0 : Hid (∀ W, Calls Tryd.prog 16 #[.int .i64 0] W fun e w' => e = .returned (.agg (frcC false 0 1)) ∧ Below W.heap.size W w')) :
    Calls Tryd.prog 4 #[.int .i64 a, .int .i64 b, .int .i64 c, .int .u32 d, .int .u32 e, .int .u32 f] w fun e w' => e = .returned (.bool true) ∧ Below w.heap.size w w' := by
  go_enter Tryd.func4, Tryd.ntmps4
  refine wp_seq ?_
  refine wp_region_L (W0 := w) [] (KS.start w) ?_
  refine wpL_p (v := .bool false) rfl (by kernel_rfl) rfl (fun _ => by kernel_rfl) (by simp only [List.setIfInBounds_toArray, List.set_cons_succ, List.set_cons_zero] <;> rfl) ?_
  refine wpL_done (fun W1 hW1 => ?_)
  refine (show Code.wp _ _ _ _ _ from ?_)
  refine wp_seq ?_
  refine wp_seq ?_
  refine wp_region_L (W0 := w) [] (hW1) ?_
  refine wpL_v (v := .bool true) rfl (by kernel_rfl) rfl (yb_call (f := 10) (args := #[]) (fun _ => by kernel_rfl) fun W hW => HAw.out W hW.1) (by simp only [List.setIfInBounds_toArray, List.set_cons_succ, List.set_cons_zero] <;> rfl) ?_
  refine wpL_p (v := .bool false) rfl (by kernel_rfl) rfl (fun _ => by kernel_rfl) (by simp only [List.setIfInBounds_toArray, List.set_cons_succ, List.set_cons_zero] <;> rfl) ?_
  refine wpL_done (fun W2 hW2 => ?_)
  clear hW1
  refine (show Code.wp _ _ _ _ _ from ?_)
  refine wp_cond_false rfl ?_
  refine wp_skip ?_
  refine (show Code.wp _ _ _ _ _ from ?_)
  refine wp_seq ?_
  refine wp_region_L (W0 := w) [] (hW2) ?_
  refine wpL_p (v := .int .i64 a) rfl (by kernel_rfl) rfl (fun _ => by kernel_rfl) (by simp only [List.setIfInBounds_toArray, List.set_cons_succ, List.set_cons_zero] <;> rfl) ?_
  refine wpL_p (v := .int .i64 (a / 2 ^ 4)) rfl (by kernel_rfl) rfl (run_shr4 rfl rfl rfl) (by simp only [List.setIfInBounds_toArray, List.set_cons_succ, List.set_cons_zero] <;> rfl) ?_
  refine wpL_p (v := .int .u32 d) rfl (by kernel_rfl) rfl (fun _ => by kernel_rfl) (by simp only [List.setIfInBounds_toArray, List.set_cons_succ, List.set_cons_zero] <;> rfl) ?_
  refine wpL_v (v := .agg (frcC sx nx dx)) rfl (by kernel_rfl) rfl (yb_call (f := 11) (args := #[.int .i64 (a / 2 ^ 4), .int .u32 d]) (fun _ => by kernel_rfl) fun W hW => HM1.out W) (by simp only [List.setIfInBounds_toArray, List.set_cons_succ, List.set_cons_zero] <;> rfl) ?_
  refine wpL_p (v := .int .i64 b) rfl (by kernel_rfl) rfl (fun _ => by kernel_rfl) (by simp only [List.setIfInBounds_toArray, List.set_cons_succ, List.set_cons_zero] <;> rfl) ?_
  refine wpL_p (v := .int .i64 (b / 2 ^ 4)) rfl (by kernel_rfl) rfl (run_shr4 rfl rfl rfl) (by simp only [List.setIfInBounds_toArray, List.set_cons_succ, List.set_cons_zero] <;> rfl) ?_
  refine wpL_p (v := .int .u32 e) rfl (by kernel_rfl) rfl (fun _ => by kernel_rfl) (by simp only [List.setIfInBounds_toArray, List.set_cons_succ, List.set_cons_zero] <;> rfl) ?_
  refine wpL_v (v := .agg (frcC sy ny dy)) rfl (by kernel_rfl) rfl (yb_call (f := 11) (args := #[.int .i64 (b / 2 ^ 4), .int .u32 e]) (fun _ => by kernel_rfl) fun W hW => HM2.out W) (by simp only [List.setIfInBounds_toArray, List.set_cons_succ, List.set_cons_zero] <;> rfl) ?_
  refine wpL_p (v := .int .i64 c) rfl (by kernel_rfl) rfl (fun _ => by kernel_rfl) (by simp only [List.setIfInBounds_toArray, List.set_cons_succ, List.set_cons_zero] <;> rfl) ?_
  refine wpL_p (v := .int .i64 (c / 2 ^ 4)) rfl (by kernel_rfl) rfl (run_shr4 rfl rfl rfl) (by simp only [List.setIfInBounds_toArray, List.set_cons_succ, List.set_cons_zero] <;> rfl) ?_
  refine wpL_p (v := .int .u32 f) rfl (by kernel_rfl) rfl (fun _ => by kernel_rfl) (by simp only [List.setIfInBounds_toArray, List.set_cons_succ, List.set_cons_zero] <;> rfl) ?_
  refine wpL_v (v := .agg (frcC sz nz dz)) rfl (by kernel_rfl) rfl (yb_call (f := 11) (args := #[.int .i64 (c / 2 ^ 4), .int .u32 f]) (fun _ => by kernel_rfl) fun W hW => HM3.out W) (by simp only [List.setIfInBounds_toArray, List.set_cons_succ, List.set_cons_zero] <;> rfl) ?_
  refine wpL_new (fun g => .pointer (some ⟨g, 0, none⟩)) (obi := .cells (frcC false 0 0) 26 (0, 0)) rfl rfl (fun _ => by rw [frc_zero]; rfl) (fun _ => by simp only [List.setIfInBounds_toArray, List.set_cons_succ, List.set_cons_zero] <;> rfl) fun g1 Bg1 Fg1 => ?_
  try simp only [List.forall_mem_cons] at Fg1
  refine wpL_new (fun g => .pointer (some ⟨g, 0, none⟩)) (obi := .cells (frcC false 0 0) 26 (0, 0)) rfl rfl (fun _ => by rw [frc_zero]; rfl) (fun _ => by simp only [List.setIfInBounds_toArray, List.set_cons_succ, List.set_cons_zero] <;> rfl) fun g2 Bg2 Fg2 => ?_
  try simp only [List.forall_mem_cons] at Fg2
  refine wpL_new (fun g => .pointer (some ⟨g, 0, none⟩)) (obi := .cells (frcC false 0 0) 26 (0, 0)) rfl rfl (fun _ => by rw [frc_zero]; rfl) (fun _ => by simp only [List.setIfInBounds_toArray, List.set_cons_succ, List.set_cons_zero] <;> rfl) fun g3 Bg3 Fg3 => ?_
  try simp only [List.forall_mem_cons] at Fg3
  refine wpL_s [(g3, .cells (frcC false 0 0) 26 (0, 0)), (g2, .cells (frcC false 0 0) 26 (0, 0)), (g1, .cells (frcC sx nx dx) 26 (0, 0))] rfl rfl (st_f (neg := sx) (n := nx) (d := dx) rfl (by kernel_rfl) (by kernel_rfl) (.tail _ (.tail _ (.head _))) (by omega) size27 (by intro p hp; simp only [List.mem_cons, List.not_mem_nil, or_false] at hp; rcases hp with rfl | rfl | rfl; exact .inr ⟨by simp, by simp only; omega⟩; exact .inr ⟨by simp, by simp only; omega⟩; exact .inl rfl)) ?_
  refine wpL_s [(g3, .cells (frcC false 0 0) 26 (0, 0)), (g2, .cells (frcC sy ny dy) 26 (0, 0)), (g1, .cells (frcC sx nx dx) 26 (0, 0))] rfl rfl (st_f (neg := sy) (n := ny) (d := dy) rfl (by kernel_rfl) (by kernel_rfl) (.tail _ (.head _)) (by omega) size27 (by intro p hp; simp only [List.mem_cons, List.not_mem_nil, or_false] at hp; rcases hp with rfl | rfl | rfl; exact .inr ⟨by simp, by simp only; omega⟩; exact .inl rfl; exact .inr ⟨by simp, by simp only; omega⟩)) ?_
  refine wpL_s [(g3, .cells (frcC sz nz dz) 26 (0, 0)), (g2, .cells (frcC sy ny dy) 26 (0, 0)), (g1, .cells (frcC sx nx dx) 26 (0, 0))] rfl rfl (st_f (neg := sz) (n := nz) (d := dz) rfl (by kernel_rfl) (by kernel_rfl) (.head _) (by omega) size27 (by intro p hp; simp only [List.mem_cons, List.not_mem_nil, or_false] at hp; rcases hp with rfl | rfl | rfl; exact .inl rfl; exact .inr ⟨by simp, by simp only; omega⟩; exact .inr ⟨by simp, by simp only; omega⟩)) ?_
  refine wpL_done (fun W3 hW3 => ?_)
  clear hW2
  refine (show Code.wp _ _ _ _ _ from ?_)
  refine wp_seq ?_
  refine wp_region_L (W0 := w) [(g3, .cells (frcC sz nz dz) 26 (0, 0)), (g2, .cells (frcC sy ny dy) 26 (0, 0)), (g1, .cells (frcC sx nx dx) 26 (0, 0))] (hW3) ?_
  refine wpL_v (v := .agg (frcC sx nx dx)) rfl (by kernel_rfl) rfl (yb_load rfl (by kernel_rfl) (.tail _ (.tail _ (.head _))) Tryd.underlying26 rfl size27 (by simp) (frc_whole sx nx dx)) (by simp only [List.setIfInBounds_toArray, List.set_cons_succ, List.set_cons_zero] <;> rfl) ?_
  refine wpL_v (v := .agg (frcC sy ny dy)) rfl (by kernel_rfl) rfl (yb_load rfl (by kernel_rfl) (.tail _ (.head _)) Tryd.underlying26 rfl size27 (by simp) (frc_whole sy ny dy)) (by simp only [List.setIfInBounds_toArray, List.set_cons_succ, List.set_cons_zero] <;> rfl) ?_
  refine wpL_v (v := .tuple #[.int .i64 1, .int .i64 0]) rfl (by kernel_rfl) rfl (yb_call (f := 18) (args := #[.agg (frcC sx nx dx), .agg (frcC sy ny dy)]) (fun _ => by kernel_rfl) fun W hW => HC1.out W) (by simp only [List.setIfInBounds_toArray, List.set_cons_succ, List.set_cons_zero] <;> rfl) ?_
  refine wpL_p (v := .tuple #[.int .i64 1, .int .i64 0]) rfl (by kernel_rfl) rfl (fun _ => by kernel_rfl) (by simp only [List.setIfInBounds_toArray, List.set_cons_succ, List.set_cons_zero] <;> rfl) ?_
  refine wpL_p (v := .int .i64 1) rfl (by kernel_rfl) rfl (fun _ => by kernel_rfl) (by simp only [List.setIfInBounds_toArray, List.set_cons_succ, List.set_cons_zero] <;> rfl) ?_
  refine wpL_p (v := .int .i64 0) rfl (by kernel_rfl) rfl (fun _ => by kernel_rfl) (by simp only [List.setIfInBounds_toArray, List.set_cons_succ, List.set_cons_zero] <;> rfl) ?_
  refine wpL_p (v := .int .i64 1) rfl (by kernel_rfl) rfl (fun _ => by kernel_rfl) (by simp only [List.setIfInBounds_toArray, List.set_cons_succ, List.set_cons_zero] <;> rfl) ?_
  refine wpL_p (v := .int .i64 0) rfl (by kernel_rfl) rfl (fun _ => by kernel_rfl) (by simp only [List.setIfInBounds_toArray, List.set_cons_succ, List.set_cons_zero] <;> rfl) ?_
  refine wpL_done (fun W4 hW4 => ?_)
  clear hW3
  refine (show Code.wp _ _ _ _ _ from ?_)
  refine wp_seq ?_
  refine wp_region_L (W0 := w) [(g3, .cells (frcC sz nz dz) 26 (0, 0)), (g2, .cells (frcC sy ny dy) 26 (0, 0)), (g1, .cells (frcC sx nx dx) 26 (0, 0))] (hW4) ?_
  refine wpL_v (v := .agg (frcC sy ny dy)) rfl (by kernel_rfl) rfl (yb_load rfl (by kernel_rfl) (.tail _ (.head _)) Tryd.underlying26 rfl size27 (by simp) (frc_whole sy ny dy)) (by simp only [List.setIfInBounds_toArray, List.set_cons_succ, List.set_cons_zero] <;> rfl) ?_
  refine wpL_v (v := .agg (frcC sx nx dx)) rfl (by kernel_rfl) rfl (yb_load rfl (by kernel_rfl) (.tail _ (.tail _ (.head _))) Tryd.underlying26 rfl size27 (by simp) (frc_whole sx nx dx)) (by simp only [List.setIfInBounds_toArray, List.set_cons_succ, List.set_cons_zero] <;> rfl) ?_
  refine wpL_v (v := .tuple #[.int .i64 (-1), .int .i64 0]) rfl (by kernel_rfl) rfl (yb_call (f := 18) (args := #[.agg (frcC sy ny dy), .agg (frcC sx nx dx)]) (fun _ => by kernel_rfl) fun W hW => HC2.out W) (by simp only [List.setIfInBounds_toArray, List.set_cons_succ, List.set_cons_zero] <;> rfl) ?_
  refine wpL_p (v := .tuple #[.int .i64 (-1), .int .i64 0]) rfl (by kernel_rfl) rfl (fun _ => by kernel_rfl) (by simp only [List.setIfInBounds_toArray, List.set_cons_succ, List.set_cons_zero] <;> rfl) ?_
  refine wpL_p (v := .int .i64 (-1)) rfl (by kernel_rfl) rfl (fun _ => by kernel_rfl) (by simp only [List.setIfInBounds_toArray, List.set_cons_succ, List.set_cons_zero] <;> rfl) ?_
  refine wpL_p (v := .int .i64 0) rfl (by kernel_rfl) rfl (fun _ => by kernel_rfl) (by simp only [List.setIfInBounds_toArray, List.set_cons_succ, List.set_cons_zero] <;> rfl) ?_
  refine wpL_p (v := .int .i64 (-1)) rfl (by kernel_rfl) rfl (fun _ => by kernel_rfl) (by simp only [List.setIfInBounds_toArray, List.set_cons_succ, List.set_cons_zero] <;> rfl) ?_
  refine wpL_p (v := .int .i64 0) rfl (by kernel_rfl) rfl (fun _ => by kernel_rfl) (by simp only [List.setIfInBounds_toArray, List.set_cons_succ, List.set_cons_zero] <;> rfl) ?_
  refine wpL_done (fun W5 hW5 => ?_)
  clear hW4
  refine (show Code.wp _ _ _ _ _ from ?_)
  refine wp_seq ?_
  refine wp_region_L (W0 := w) [(g3, .cells (frcC sz nz dz) 26 (0, 0)), (g2, .cells (frcC sy ny dy) 26 (0, 0)), (g1, .cells (frcC sx nx dx) 26 (0, 0))] (hW5) ?_
  refine wpL_v (v := .agg (frcC sx nx dx)) rfl (by kernel_rfl) rfl (yb_load rfl (by kernel_rfl) (.tail _ (.tail _ (.head _))) Tryd.underlying26 rfl size27 (by simp) (frc_whole sx nx dx)) (by simp only [List.setIfInBounds_toArray, List.set_cons_succ, List.set_cons_zero] <;> rfl) ?_
  refine wpL_v (v := .agg (frcC sy ny dy)) rfl (by kernel_rfl) rfl (yb_load rfl (by kernel_rfl) (.tail _ (.head _)) Tryd.underlying26 rfl size27 (by simp) (frc_whole sy ny dy)) (by simp only [List.setIfInBounds_toArray, List.set_cons_succ, List.set_cons_zero] <;> rfl) ?_
  refine wpL_v (v := .tuple #[.agg (frcC sl nl dl), .int .i64 0]) rfl (by kernel_rfl) rfl (yb_call (f := 13) (args := #[.agg (frcC sx nx dx), .agg (frcC sy ny dy)]) (fun _ => by kernel_rfl) fun W hW => HS.out W) (by simp only [List.setIfInBounds_toArray, List.set_cons_succ, List.set_cons_zero] <;> rfl) ?_
  refine wpL_p (v := .tuple #[.agg (frcC sl nl dl), .int .i64 0]) rfl (by kernel_rfl) rfl (fun _ => by kernel_rfl) (by simp only [List.setIfInBounds_toArray, List.set_cons_succ, List.set_cons_zero] <;> rfl) ?_
  refine wpL_p (v := .agg (frcC sl nl dl)) rfl (by kernel_rfl) rfl (fun _ => by kernel_rfl) (by simp only [List.setIfInBounds_toArray, List.set_cons_succ, List.set_cons_zero] <;> rfl) ?_
  refine wpL_p (v := .int .i64 0) rfl (by kernel_rfl) rfl (fun _ => by kernel_rfl) (by simp only [List.setIfInBounds_toArray, List.set_cons_succ, List.set_cons_zero] <;> rfl) ?_
  refine wpL_new (fun g => .pointer (some ⟨g, 0, none⟩)) (obi := .cells (frcC false 0 0) 26 (0, 0)) rfl rfl (fun _ => by rw [frc_zero]; rfl) (fun _ => by simp only [List.setIfInBounds_toArray, List.set_cons_succ, List.set_cons_zero] <;> rfl) fun g4 Bg4 Fg4 => ?_
  try simp only [List.forall_mem_cons] at Fg4
  refine wpL_s [(g4, .cells (frcC sl nl dl) 26 (0, 0)), (g3, .cells (frcC sz nz dz) 26 (0, 0)), (g2, .cells (frcC sy ny dy) 26 (0, 0)), (g1, .cells (frcC sx nx dx) 26 (0, 0))] rfl rfl (st_f (neg := sl) (n := nl) (d := dl) rfl (by kernel_rfl) (by kernel_rfl) (.head _) (by omega) size27 (by intro p hp; simp only [List.mem_cons, List.not_mem_nil, or_false] at hp; rcases hp with rfl | rfl | rfl | rfl; exact .inl rfl; exact .inr ⟨by simp, by simp only; omega⟩; exact .inr ⟨by simp, by simp only; omega⟩; exact .inr ⟨by simp, by simp only; omega⟩)) ?_
  refine wpL_p (v := .int .i64 0) rfl (by kernel_rfl) rfl (fun _ => by kernel_rfl) (by simp only [List.setIfInBounds_toArray, List.set_cons_succ, List.set_cons_zero] <;> rfl) ?_
  refine wpL_done (fun W6 hW6 => ?_)
  clear hW5
  refine (show Code.wp _ _ _ _ _ from ?_)
  refine wp_seq ?_
  refine wp_region_V (W0 := w) [(g4, .cells (frcC sl nl dl) 26 (0, 0)), (g3, .cells (frcC sz nz dz) 26 (0, 0)), (g2, .cells (frcC sy ny dy) 26 (0, 0)), (g1, .cells (frcC sx nx dx) 26 (0, 0))] (by kernel_rfl) (hW6) ?_
  refine wpV_v (i := 0) (v := .agg (frcC sl nl dl)) rfl rfl (by kernel_rfl) (by kernel_rfl) rfl (yb_load rfl (by kernel_rfl) (.head _) Tryd.underlying26 rfl size27 (by simp) (frc_whole sl nl dl)) (by simp only [List.setIfInBounds_toArray, List.set_cons_succ, List.set_cons_zero] <;> rfl) ?_
  refine wpV_v (i := 1) (v := .agg (frcC false 0 1)) rfl rfl (by kernel_rfl) (by kernel_rfl) rfl (yb_call (f := 16) (args := #[.int .i64 0]) (fun _ => by kernel_rfl) fun W hW => HO0.out W) (by simp only [List.setIfInBounds_toArray, List.set_cons_succ, List.set_cons_zero] <;> rfl) ?_
  refine wpV_v (i := 2) (v := .tuple #[.int .i64 1, .int .i64 0]) rfl rfl (by kernel_rfl) (by kernel_rfl) rfl (yb_call (f := 18) (args := #[.agg (frcC sl nl dl), .agg (frcC false 0 1)]) (fun _ => by kernel_rfl) fun W hW => HC3.out W) (by simp only [List.setIfInBounds_toArray, List.set_cons_succ, List.set_cons_zero] <;> rfl) ?_
  refine wpV_p (i := 3) (v := .tuple #[.int .i64 1, .int .i64 0]) rfl rfl (by kernel_rfl) (by kernel_rfl) rfl (fun _ => by kernel_rfl) (by simp only [List.setIfInBounds_toArray, List.set_cons_succ, List.set_cons_zero] <;> rfl) ?_
  refine wpV_p (i := 4) (v := .int .i64 1) rfl rfl (by kernel_rfl) (by kernel_rfl) rfl (fun _ => by kernel_rfl) (by simp only [List.setIfInBounds_toArray, List.set_cons_succ, List.set_cons_zero] <;> rfl) ?_
  refine wpV_p (i := 5) (v := .int .i64 0) rfl rfl (by kernel_rfl) (by kernel_rfl) rfl (fun _ => by kernel_rfl) (by simp only [List.setIfInBounds_toArray, List.set_cons_succ, List.set_cons_zero] <;> rfl) ?_
  refine wpV_p (i := 6) (v := .int .i64 1) rfl rfl (by kernel_rfl) (by kernel_rfl) rfl (fun _ => by kernel_rfl) (by simp only [List.setIfInBounds_toArray, List.set_cons_succ, List.set_cons_zero] <;> rfl) ?_
  refine wpV_p (i := 7) (v := .int .i64 0) rfl rfl (by kernel_rfl) (by kernel_rfl) rfl (fun _ => by kernel_rfl) (by simp only [List.setIfInBounds_toArray, List.set_cons_succ, List.set_cons_zero] <;> rfl) ?_
  refine wpV_done (by kernel_rfl) (fun W7 hW7 => ?_) _
  clear hW6
  refine (show Code.wp _ _ _ _ _ from ?_)
  refine wp_seq ?_
  refine wp_seq ?_
  refine wp_region_L (W0 := w) [(g4, .cells (frcC sl nl dl) 26 (0, 0)), (g3, .cells (frcC sz nz dz) 26 (0, 0)), (g2, .cells (frcC sy ny dy) 26 (0, 0)), (g1, .cells (frcC sx nx dx) 26 (0, 0))] (hW7) ?_
  refine wpL_p (v := .int .i64 0) rfl (by kernel_rfl) rfl (fun _ => by kernel_rfl) (by simp only [List.setIfInBounds_toArray, List.set_cons_succ, List.set_cons_zero] <;> rfl) ?_
  refine wpL_p (v := .int .i64 0) rfl (by kernel_rfl) rfl (fun _ => by kernel_rfl) (by simp only [List.setIfInBounds_toArray, List.set_cons_succ, List.set_cons_zero] <;> rfl) ?_
  refine wpL_p (v := .int .i64 0) rfl (by kernel_rfl) rfl (fun _ => by kernel_rfl) (by simp only [List.setIfInBounds_toArray, List.set_cons_succ, List.set_cons_zero] <;> rfl) ?_
  refine wpL_p (v := .int .i64 0) rfl (by kernel_rfl) rfl (fun _ => by kernel_rfl) (by simp only [List.setIfInBounds_toArray, List.set_cons_succ, List.set_cons_zero] <;> rfl) ?_
  refine wpL_new (fun g => .slice (some ⟨g, 0, none⟩) 4 4) (obi := .cells #[.int .i64 0, .int .i64 0, .int .i64 0, .int .i64 0] 29 (0, 0)) rfl rfl (fun _ => by kernel_rfl) (fun _ => by simp only [List.setIfInBounds_toArray, List.set_cons_succ, List.set_cons_zero] <;> rfl) fun g5 Bg5 Fg5 => ?_
  try simp only [List.forall_mem_cons] at Fg5
  refine wpL_v (v := .bool true) rfl (by kernel_rfl) rfl (yb_call (f := 14) (args := #[.slice (some ⟨g5, 0, none⟩) 4 4]) (fun _ => by kernel_rfl) fun W hW => all_W 4 (by omega) rfl (hW.2 _ (.head _))) (by simp only [List.setIfInBounds_toArray, List.set_cons_succ, List.set_cons_zero] <;> rfl) ?_
  refine wpL_p (v := .bool false) rfl (by kernel_rfl) rfl (fun _ => by kernel_rfl) (by simp only [List.setIfInBounds_toArray, List.set_cons_succ, List.set_cons_zero] <;> rfl) ?_
  refine wpL_p (v := .bool false) rfl (by kernel_rfl) rfl (fun _ => by kernel_rfl) (by simp only [List.setIfInBounds_toArray, List.set_cons_succ, List.set_cons_zero] <;> rfl) ?_
  refine wpL_p (v := .int .i64 1) rfl (by kernel_rfl) rfl (fun _ => by kernel_rfl) (by simp only [List.setIfInBounds_toArray, List.set_cons_succ, List.set_cons_zero] <;> rfl) ?_
  refine wpL_p (v := .int .i64 (-1)) rfl (by kernel_rfl) rfl (fun _ => by kernel_rfl) (by simp only [List.setIfInBounds_toArray, List.set_cons_succ, List.set_cons_zero] <;> rfl) ?_
  refine wpL_p (v := .int .i64 1) rfl (by kernel_rfl) rfl (fun _ => by kernel_rfl) (by simp only [List.setIfInBounds_toArray, List.set_cons_succ, List.set_cons_zero] <;> rfl) ?_
  refine wpL_p (v := .bool false) rfl (by kernel_rfl) rfl (fun _ => by kernel_rfl) (by simp only [List.setIfInBounds_toArray, List.set_cons_succ, List.set_cons_zero] <;> rfl) ?_
  refine wpL_p (v := .bool false) rfl (by kernel_rfl) rfl (fun _ => by kernel_rfl) (by simp only [List.setIfInBounds_toArray, List.set_cons_succ, List.set_cons_zero] <;> rfl) ?_
  refine wpL_p (v := .bool false) rfl (by kernel_rfl) rfl (fun _ => by kernel_rfl) (by simp only [List.setIfInBounds_toArray, List.set_cons_succ, List.set_cons_zero] <;> rfl) ?_
  refine wpL_p (v := .int .i64 1) rfl (by kernel_rfl) rfl (fun _ => by kernel_rfl) (by simp only [List.setIfInBounds_toArray, List.set_cons_succ, List.set_cons_zero] <;> rfl) ?_
  refine wpL_p (v := .int .i64 1) rfl (by kernel_rfl) rfl (fun _ => by kernel_rfl) (by simp only [List.setIfInBounds_toArray, List.set_cons_succ, List.set_cons_zero] <;> rfl) ?_
  refine wpL_p (v := .bool false) rfl (by kernel_rfl) rfl (fun _ => by kernel_rfl) (by simp only [List.setIfInBounds_toArray, List.set_cons_succ, List.set_cons_zero] <;> rfl) ?_
  refine wpL_p (v := .bool false) rfl (by kernel_rfl) rfl (fun _ => by kernel_rfl) (by simp only [List.setIfInBounds_toArray, List.set_cons_succ, List.set_cons_zero] <;> rfl) ?_
  refine wpL_p (v := .bool false) rfl (by kernel_rfl) rfl (fun _ => by kernel_rfl) (by simp only [List.setIfInBounds_toArray, List.set_cons_succ, List.set_cons_zero] <;> rfl) ?_
  refine wpL_p (v := .int .i64 1) rfl (by kernel_rfl) rfl (fun _ => by kernel_rfl) (by simp only [List.setIfInBounds_toArray, List.set_cons_succ, List.set_cons_zero] <;> rfl) ?_
  refine wpL_p (v := .bool false) rfl (by kernel_rfl) rfl (fun _ => by kernel_rfl) (by simp only [List.setIfInBounds_toArray, List.set_cons_succ, List.set_cons_zero] <;> rfl) ?_
  refine wpL_v (v := .agg (frcC sx nx dx)) rfl (by kernel_rfl) rfl (yb_load rfl (by kernel_rfl) (.tail _ (.tail _ (.tail _ (.tail _ (.head _))))) Tryd.underlying26 rfl size27 (by simp) (frc_whole sx nx dx)) (by simp only [List.setIfInBounds_toArray, List.set_cons_succ, List.set_cons_zero] <;> rfl) ?_
  refine wpL_v (v := .agg (frcC sy ny dy)) rfl (by kernel_rfl) rfl (yb_load rfl (by kernel_rfl) (.tail _ (.tail _ (.tail _ (.head _)))) Tryd.underlying26 rfl size27 (by simp) (frc_whole sy ny dy)) (by simp only [List.setIfInBounds_toArray, List.set_cons_succ, List.set_cons_zero] <;> rfl) ?_
  refine wpL_p (v := .bool false) rfl (by kernel_rfl) rfl (run_bin rfl (vx := .agg (frcC sx nx dx)) (vy := .agg (frcC sy ny dy)) (by kernel_rfl) (by kernel_rfl) fun w => run_eql27x Hnx Hny Hdx Hdy Hne_0 w) (by simp only [List.setIfInBounds_toArray, List.set_cons_succ, List.set_cons_zero] <;> rfl) ?_
  refine wpL_p (v := .bool false) rfl (by kernel_rfl) rfl (fun _ => by kernel_rfl) (by simp only [List.setIfInBounds_toArray, List.set_cons_succ, List.set_cons_zero] <;> rfl) ?_
  refine wpL_p (v := .bool false) rfl (by kernel_rfl) rfl (fun _ => by kernel_rfl) (by simp only [List.setIfInBounds_toArray, List.set_cons_succ, List.set_cons_zero] <;> rfl) ?_
  refine wpL_p (v := .bool false) rfl (by kernel_rfl) rfl (fun _ => by kernel_rfl) (by simp only [List.setIfInBounds_toArray, List.set_cons_succ, List.set_cons_zero] <;> rfl) ?_
  refine wpL_p (v := .int .i64 1) rfl (by kernel_rfl) rfl (fun _ => by kernel_rfl) (by simp only [List.setIfInBounds_toArray, List.set_cons_succ, List.set_cons_zero] <;> rfl) ?_
  refine wpL_p (v := .bool false) rfl (by kernel_rfl) rfl (fun _ => by kernel_rfl) (by simp only [List.setIfInBounds_toArray, List.set_cons_succ, List.set_cons_zero] <;> rfl) ?_
  refine wpL_p (v := .bool false) rfl (by kernel_rfl) rfl (fun _ => by kernel_rfl) (by simp only [List.setIfInBounds_toArray, List.set_cons_succ, List.set_cons_zero] <;> rfl) ?_
  refine wpL_p (v := .bool false) rfl (by kernel_rfl) rfl (fun _ => by kernel_rfl) (by simp only [List.setIfInBounds_toArray, List.set_cons_succ, List.set_cons_zero] <;> rfl) ?_
  refine wpL_p (v := .int .i64 1) rfl (by kernel_rfl) rfl (fun _ => by kernel_rfl) (by simp only [List.setIfInBounds_toArray, List.set_cons_succ, List.set_cons_zero] <;> rfl) ?_
  refine wpL_p (v := .bool false) rfl (by kernel_rfl) rfl (fun _ => by kernel_rfl) (by simp only [List.setIfInBounds_toArray, List.set_cons_succ, List.set_cons_zero] <;> rfl) ?_
  refine wpL_p (v := .bool false) rfl (by kernel_rfl) rfl (fun _ => by kernel_rfl) (by simp only [List.setIfInBounds_toArray, List.set_cons_succ, List.set_cons_zero] <;> rfl) ?_
  refine wpL_done (fun W8 hW8 => ?_)
  clear hW7
  refine (show Code.wp _ _ _ _ _ from ?_)
  refine wp_cond_false rfl ?_
  refine wp_skip ?_
  refine (show Code.wp _ _ _ _ _ from ?_)
  refine wp_seq ?_
  refine wp_region_L (W0 := w) [(g5, .cells #[.int .i64 0, .int .i64 0, .int .i64 0, .int .i64 0] 29 (0, 0)), (g4, .cells (frcC sl nl dl) 26 (0, 0)), (g3, .cells (frcC sz nz dz) 26 (0, 0)), (g2, .cells (frcC sy ny dy) 26 (0, 0)), (g1, .cells (frcC sx nx dx) 26 (0, 0))] (hW8) ?_
  refine wpL_v (v := .agg (frcC sx nx dx)) rfl (by kernel_rfl) rfl (yb_load rfl (by kernel_rfl) (.tail _ (.tail _ (.tail _ (.tail _ (.head _))))) Tryd.underlying26 rfl size27 (by simp) (frc_whole sx nx dx)) (by simp only [List.setIfInBounds_toArray, List.set_cons_succ, List.set_cons_zero] <;> rfl) ?_
  refine wpL_v (v := .agg (frcC sz nz dz)) rfl (by kernel_rfl) rfl (yb_load rfl (by kernel_rfl) (.tail _ (.tail _ (.head _))) Tryd.underlying26 rfl size27 (by simp) (frc_whole sz nz dz)) (by simp only [List.setIfInBounds_toArray, List.set_cons_succ, List.set_cons_zero] <;> rfl) ?_
  refine wpL_v (v := .tuple #[.agg (frcC sp np dp), .int .i64 0]) rfl (by kernel_rfl) rfl (yb_call (f := 12) (args := #[.agg (frcC sx nx dx), .agg (frcC sz nz dz)]) (fun _ => by kernel_rfl) fun W hW => HA1.out W) (by simp only [List.setIfInBounds_toArray, List.set_cons_succ, List.set_cons_zero] <;> rfl) ?_
  refine wpL_p (v := .tuple #[.agg (frcC sp np dp), .int .i64 0]) rfl (by kernel_rfl) rfl (fun _ => by kernel_rfl) (by simp only [List.setIfInBounds_toArray, List.set_cons_succ, List.set_cons_zero] <;> rfl) ?_
  refine wpL_p (v := .agg (frcC sp np dp)) rfl (by kernel_rfl) rfl (fun _ => by kernel_rfl) (by simp only [List.setIfInBounds_toArray, List.set_cons_succ, List.set_cons_zero] <;> rfl) ?_
  refine wpL_p (v := .int .i64 0) rfl (by kernel_rfl) rfl (fun _ => by kernel_rfl) (by simp only [List.setIfInBounds_toArray, List.set_cons_succ, List.set_cons_zero] <;> rfl) ?_
  refine wpL_new (fun g => .pointer (some ⟨g, 0, none⟩)) (obi := .cells (frcC false 0 0) 26 (0, 0)) rfl rfl (fun _ => by rw [frc_zero]; rfl) (fun _ => by simp only [List.setIfInBounds_toArray, List.set_cons_succ, List.set_cons_zero] <;> rfl) fun g6 Bg6 Fg6 => ?_
  try simp only [List.forall_mem_cons] at Fg6
  refine wpL_s [(g6, .cells (frcC sp np dp) 26 (0, 0)), (g5, .cells #[.int .i64 0, .int .i64 0, .int .i64 0, .int .i64 0] 29 (0, 0)), (g4, .cells (frcC sl nl dl) 26 (0, 0)), (g3, .cells (frcC sz nz dz) 26 (0, 0)), (g2, .cells (frcC sy ny dy) 26 (0, 0)), (g1, .cells (frcC sx nx dx) 26 (0, 0))] rfl rfl (st_f (neg := sp) (n := np) (d := dp) rfl (by kernel_rfl) (by kernel_rfl) (.head _) (by omega) size27 (by intro p hp; simp only [List.mem_cons, List.not_mem_nil, or_false] at hp; rcases hp with rfl | rfl | rfl | rfl | rfl | rfl; exact .inl rfl; exact .inr ⟨by simp, by simp only; omega⟩; exact .inr ⟨by simp, by simp only; omega⟩; exact .inr ⟨by simp, by simp only; omega⟩; exact .inr ⟨by simp, by simp only; omega⟩; exact .inr ⟨by simp, by simp only; omega⟩)) ?_
  refine wpL_p (v := .int .i64 0) rfl (by kernel_rfl) rfl (fun _ => by kernel_rfl) (by simp only [List.setIfInBounds_toArray, List.set_cons_succ, List.set_cons_zero] <;> rfl) ?_
  refine wpL_done (fun W9 hW9 => ?_)
  clear hW8
  refine (show Code.wp _ _ _ _ _ from ?_)
  refine wp_seq ?_
  refine wp_region_L (W0 := w) [(g6, .cells (frcC sp np dp) 26 (0, 0)), (g5, .cells #[.int .i64 0, .int .i64 0, .int .i64 0, .int .i64 0] 29 (0, 0)), (g4, .cells (frcC sl nl dl) 26 (0, 0)), (g3, .cells (frcC sz nz dz) 26 (0, 0)), (g2, .cells (frcC sy ny dy) 26 (0, 0)), (g1, .cells (frcC sx nx dx) 26 (0, 0))] (hW9) ?_
  refine wpL_v (v := .agg (frcC sy ny dy)) rfl (by kernel_rfl) rfl (yb_load rfl (by kernel_rfl) (.tail _ (.tail _ (.tail _ (.tail _ (.head _))))) Tryd.underlying26 rfl size27 (by simp) (frc_whole sy ny dy)) (by simp only [List.setIfInBounds_toArray, List.set_cons_succ, List.set_cons_zero] <;> rfl) ?_
  refine wpL_v (v := .agg (frcC sz nz dz)) rfl (by kernel_rfl) rfl (yb_load rfl (by kernel_rfl) (.tail _ (.tail _ (.tail _ (.head _)))) Tryd.underlying26 rfl size27 (by simp) (frc_whole sz nz dz)) (by simp only [List.setIfInBounds_toArray, List.set_cons_succ, List.set_cons_zero] <;> rfl) ?_
  refine wpL_v (v := .tuple #[.agg (frcC sq nq dq), .int .i64 0]) rfl (by kernel_rfl) rfl (yb_call (f := 12) (args := #[.agg (frcC sy ny dy), .agg (frcC sz nz dz)]) (fun _ => by kernel_rfl) fun W hW => HA2.out W) (by simp only [List.setIfInBounds_toArray, List.set_cons_succ, List.set_cons_zero] <;> rfl) ?_
  refine wpL_p (v := .tuple #[.agg (frcC sq nq dq), .int .i64 0]) rfl (by kernel_rfl) rfl (fun _ => by kernel_rfl) (by simp only [List.setIfInBounds_toArray, List.set_cons_succ, List.set_cons_zero] <;> rfl) ?_
  refine wpL_p (v := .agg (frcC sq nq dq)) rfl (by kernel_rfl) rfl (fun _ => by kernel_rfl) (by simp only [List.setIfInBounds_toArray, List.set_cons_succ, List.set_cons_zero] <;> rfl) ?_
  refine wpL_p (v := .int .i64 0) rfl (by kernel_rfl) rfl (fun _ => by kernel_rfl) (by simp only [List.setIfInBounds_toArray, List.set_cons_succ, List.set_cons_zero] <;> rfl) ?_
  refine wpL_new (fun g => .pointer (some ⟨g, 0, none⟩)) (obi := .cells (frcC false 0 0) 26 (0, 0)) rfl rfl (fun _ => by rw [frc_zero]; rfl) (fun _ => by simp only [List.setIfInBounds_toArray, List.set_cons_succ, List.set_cons_zero] <;> rfl) fun g7 Bg7 Fg7 => ?_
  try simp only [List.forall_mem_cons] at Fg7
  refine wpL_s [(g7, .cells (frcC sq nq dq) 26 (0, 0)), (g6, .cells (frcC sp np dp) 26 (0, 0)), (g5, .cells #[.int .i64 0, .int .i64 0, .int .i64 0, .int .i64 0] 29 (0, 0)), (g4, .cells (frcC sl nl dl) 26 (0, 0)), (g3, .cells (frcC sz nz dz) 26 (0, 0)), (g2, .cells (frcC sy ny dy) 26 (0, 0)), (g1, .cells (frcC sx nx dx) 26 (0, 0))] rfl rfl (st_f (neg := sq) (n := nq) (d := dq) rfl (by kernel_rfl) (by kernel_rfl) (.head _) (by omega) size27 (by intro p hp; simp only [List.mem_cons, List.not_mem_nil, or_false] at hp; rcases hp with rfl | rfl | rfl | rfl | rfl | rfl | rfl; exact .inl rfl; exact .inr ⟨by simp, by simp only; omega⟩; exact .inr ⟨by simp, by simp only; omega⟩; exact .inr ⟨by simp, by simp only; omega⟩; exact .inr ⟨by simp, by simp only; omega⟩; exact .inr ⟨by simp, by simp only; omega⟩; exact .inr ⟨by simp, by simp only; omega⟩)) ?_
  refine wpL_p (v := .int .i64 0) rfl (by kernel_rfl) rfl (fun _ => by kernel_rfl) (by simp only [List.setIfInBounds_toArray, List.set_cons_succ, List.set_cons_zero] <;> rfl) ?_
  refine wpL_done (fun W10 hW10 => ?_)
  clear hW9
  refine (show Code.wp _ _ _ _ _ from ?_)
  refine wp_seq ?_
  refine wp_region_L (W0 := w) [(g7, .cells (frcC sq nq dq) 26 (0, 0)), (g6, .cells (frcC sp np dp) 26 (0, 0)), (g5, .cells #[.int .i64 0, .int .i64 0, .int .i64 0, .int .i64 0] 29 (0, 0)), (g4, .cells (frcC sl nl dl) 26 (0, 0)), (g3, .cells (frcC sz nz dz) 26 (0, 0)), (g2, .cells (frcC sy ny dy) 26 (0, 0)), (g1, .cells (frcC sx nx dx) 26 (0, 0))] (hW10) ?_
  refine wpL_v (v := .agg (frcC sp np dp)) rfl (by kernel_rfl) rfl (yb_load rfl (by kernel_rfl) (.tail _ (.head _)) Tryd.underlying26 rfl size27 (by simp) (frc_whole sp np dp)) (by simp only [List.setIfInBounds_toArray, List.set_cons_succ, List.set_cons_zero] <;> rfl) ?_
  refine wpL_v (v := .agg (frcC sq nq dq)) rfl (by kernel_rfl) rfl (yb_load rfl (by kernel_rfl) (.head _) Tryd.underlying26 rfl size27 (by simp) (frc_whole sq nq dq)) (by simp only [List.setIfInBounds_toArray, List.set_cons_succ, List.set_cons_zero] <;> rfl) ?_
  refine wpL_v (v := .tuple #[.int .i64 1, .int .i64 0]) rfl (by kernel_rfl) rfl (yb_call (f := 18) (args := #[.agg (frcC sp np dp), .agg (frcC sq nq dq)]) (fun _ => by kernel_rfl) fun W hW => HC4.out W) (by simp only [List.setIfInBounds_toArray, List.set_cons_succ, List.set_cons_zero] <;> rfl) ?_
  refine wpL_p (v := .tuple #[.int .i64 1, .int .i64 0]) rfl (by kernel_rfl) rfl (fun _ => by kernel_rfl) (by simp only [List.setIfInBounds_toArray, List.set_cons_succ, List.set_cons_zero] <;> rfl) ?_
  refine wpL_p (v := .int .i64 1) rfl (by kernel_rfl) rfl (fun _ => by kernel_rfl) (by simp only [List.setIfInBounds_toArray, List.set_cons_succ, List.set_cons_zero] <;> rfl) ?_
  refine wpL_p (v := .int .i64 0) rfl (by kernel_rfl) rfl (fun _ => by kernel_rfl) (by simp only [List.setIfInBounds_toArray, List.set_cons_succ, List.set_cons_zero] <;> rfl) ?_
  refine wpL_p (v := .int .i64 1) rfl (by kernel_rfl) rfl (fun _ => by kernel_rfl) (by simp only [List.setIfInBounds_toArray, List.set_cons_succ, List.set_cons_zero] <;> rfl) ?_
  refine wpL_p (v := .int .i64 0) rfl (by kernel_rfl) rfl (fun _ => by kernel_rfl) (by simp only [List.setIfInBounds_toArray, List.set_cons_succ, List.set_cons_zero] <;> rfl) ?_
  refine wpL_done (fun W11 hW11 => ?_)
  clear hW10
  refine (show Code.wp _ _ _ _ _ from ?_)
  refine wp_seq ?_
  refine wp_region_L (W0 := w) [(g7, .cells (frcC sq nq dq) 26 (0, 0)), (g6, .cells (frcC sp np dp) 26 (0, 0)), (g5, .cells #[.int .i64 0, .int .i64 0, .int .i64 0, .int .i64 0] 29 (0, 0)), (g4, .cells (frcC sl nl dl) 26 (0, 0)), (g3, .cells (frcC sz nz dz) 26 (0, 0)), (g2, .cells (frcC sy ny dy) 26 (0, 0)), (g1, .cells (frcC sx nx dx) 26 (0, 0))] (hW11) ?_
  refine wpL_v (v := .agg (frcC sx nx dx)) rfl (by kernel_rfl) rfl (yb_load rfl (by kernel_rfl) (.tail _ (.tail _ (.tail _ (.tail _ (.tail _ (.tail _ (.head _))))))) Tryd.underlying26 rfl size27 (by simp) (frc_whole sx nx dx)) (by simp only [List.setIfInBounds_toArray, List.set_cons_succ, List.set_cons_zero] <;> rfl) ?_
  refine wpL_v (v := .agg (frcC sz nz dz)) rfl (by kernel_rfl) rfl (yb_load rfl (by kernel_rfl) (.tail _ (.tail _ (.tail _ (.tail _ (.head _))))) Tryd.underlying26 rfl size27 (by simp) (frc_whole sz nz dz)) (by simp only [List.setIfInBounds_toArray, List.set_cons_succ, List.set_cons_zero] <;> rfl) ?_
  refine wpL_v (v := .tuple #[.agg (frcC sr nr dr), .int .i64 0]) rfl (by kernel_rfl) rfl (yb_call (f := 15) (args := #[.agg (frcC sx nx dx), .agg (frcC sz nz dz)]) (fun _ => by kernel_rfl) fun W hW => HP1.out W) (by simp only [List.setIfInBounds_toArray, List.set_cons_succ, List.set_cons_zero] <;> rfl) ?_
  refine wpL_p (v := .tuple #[.agg (frcC sr nr dr), .int .i64 0]) rfl (by kernel_rfl) rfl (fun _ => by kernel_rfl) (by simp only [List.setIfInBounds_toArray, List.set_cons_succ, List.set_cons_zero] <;> rfl) ?_
  refine wpL_p (v := .agg (frcC sr nr dr)) rfl (by kernel_rfl) rfl (fun _ => by kernel_rfl) (by simp only [List.setIfInBounds_toArray, List.set_cons_succ, List.set_cons_zero] <;> rfl) ?_
  refine wpL_p (v := .int .i64 0) rfl (by kernel_rfl) rfl (fun _ => by kernel_rfl) (by simp only [List.setIfInBounds_toArray, List.set_cons_succ, List.set_cons_zero] <;> rfl) ?_
  refine wpL_new (fun g => .pointer (some ⟨g, 0, none⟩)) (obi := .cells (frcC false 0 0) 26 (0, 0)) rfl rfl (fun _ => by rw [frc_zero]; rfl) (fun _ => by simp only [List.setIfInBounds_toArray, List.set_cons_succ, List.set_cons_zero] <;> rfl) fun g8 Bg8 Fg8 => ?_
  try simp only [List.forall_mem_cons] at Fg8
  refine wpL_s [(g8, .cells (frcC sr nr dr) 26 (0, 0)), (g7, .cells (frcC sq nq dq) 26 (0, 0)), (g6, .cells (frcC sp np dp) 26 (0, 0)), (g5, .cells #[.int .i64 0, .int .i64 0, .int .i64 0, .int .i64 0] 29 (0, 0)), (g4, .cells (frcC sl nl dl) 26 (0, 0)), (g3, .cells (frcC sz nz dz) 26 (0, 0)), (g2, .cells (frcC sy ny dy) 26 (0, 0)), (g1, .cells (frcC sx nx dx) 26 (0, 0))] rfl rfl (st_f (neg := sr) (n := nr) (d := dr) rfl (by kernel_rfl) (by kernel_rfl) (.head _) (by omega) size27 (by intro p hp; simp only [List.mem_cons, List.not_mem_nil, or_false] at hp; rcases hp with rfl | rfl | rfl | rfl | rfl | rfl | rfl | rfl; exact .inl rfl; exact .inr ⟨by simp, by simp only; omega⟩; exact .inr ⟨by simp, by simp only; omega⟩; exact .inr ⟨by simp, by simp only; omega⟩; exact .inr ⟨by simp, by simp only; omega⟩; exact .inr ⟨by simp, by simp only; omega⟩; exact .inr ⟨by simp, by simp only; omega⟩; exact .inr ⟨by simp, by simp only; omega⟩)) ?_
  refine wpL_p (v := .int .i64 0) rfl (by kernel_rfl) rfl (fun _ => by kernel_rfl) (by simp only [List.setIfInBounds_toArray, List.set_cons_succ, List.set_cons_zero] <;> rfl) ?_
  refine wpL_done (fun W12 hW12 => ?_)
  clear hW11
  refine (show Code.wp _ _ _ _ _ from ?_)
  refine wp_seq ?_
  refine wp_region_L (W0 := w) [(g8, .cells (frcC sr nr dr) 26 (0, 0)), (g7, .cells (frcC sq nq dq) 26 (0, 0)), (g6, .cells (frcC sp np dp) 26 (0, 0)), (g5, .cells #[.int .i64 0, .int .i64 0, .int .i64 0, .int .i64 0] 29 (0, 0)), (g4, .cells (frcC sl nl dl) 26 (0, 0)), (g3, .cells (frcC sz nz dz) 26 (0, 0)), (g2, .cells (frcC sy ny dy) 26 (0, 0)), (g1, .cells (frcC sx nx dx) 26 (0, 0))] (hW12) ?_
  refine wpL_v (v := .agg (frcC sy ny dy)) rfl (by kernel_rfl) rfl (yb_load rfl (by kernel_rfl) (.tail _ (.tail _ (.tail _ (.tail _ (.tail _ (.tail _ (.head _))))))) Tryd.underlying26 rfl size27 (by simp) (frc_whole sy ny dy)) (by simp only [List.setIfInBounds_toArray, List.set_cons_succ, List.set_cons_zero] <;> rfl) ?_
  refine wpL_v (v := .agg (frcC sz nz dz)) rfl (by kernel_rfl) rfl (yb_load rfl (by kernel_rfl) (.tail _ (.tail _ (.tail _ (.tail _ (.tail _ (.head _)))))) Tryd.underlying26 rfl size27 (by simp) (frc_whole sz nz dz)) (by simp only [List.setIfInBounds_toArray, List.set_cons_succ, List.set_cons_zero] <;> rfl) ?_
  refine wpL_v (v := .tuple #[.agg (frcC ss ns ds), .int .i64 0]) rfl (by kernel_rfl) rfl (yb_call (f := 15) (args := #[.agg (frcC sy ny dy), .agg (frcC sz nz dz)]) (fun _ => by kernel_rfl) fun W hW => HP2.out W) (by simp only [List.setIfInBounds_toArray, List.set_cons_succ, List.set_cons_zero] <;> rfl) ?_
  refine wpL_p (v := .tuple #[.agg (frcC ss ns ds), .int .i64 0]) rfl (by kernel_rfl) rfl (fun _ => by kernel_rfl) (by simp only [List.setIfInBounds_toArray, List.set_cons_succ, List.set_cons_zero] <;> rfl) ?_
  refine wpL_p (v := .agg (frcC ss ns ds)) rfl (by kernel_rfl) rfl (fun _ => by kernel_rfl) (by simp only [List.setIfInBounds_toArray, List.set_cons_succ, List.set_cons_zero] <;> rfl) ?_
  refine wpL_p (v := .int .i64 0) rfl (by kernel_rfl) rfl (fun _ => by kernel_rfl) (by simp only [List.setIfInBounds_toArray, List.set_cons_succ, List.set_cons_zero] <;> rfl) ?_
  refine wpL_new (fun g => .pointer (some ⟨g, 0, none⟩)) (obi := .cells (frcC false 0 0) 26 (0, 0)) rfl rfl (fun _ => by rw [frc_zero]; rfl) (fun _ => by simp only [List.setIfInBounds_toArray, List.set_cons_succ, List.set_cons_zero] <;> rfl) fun g9 Bg9 Fg9 => ?_
  try simp only [List.forall_mem_cons] at Fg9
  refine wpL_s [(g9, .cells (frcC ss ns ds) 26 (0, 0)), (g8, .cells (frcC sr nr dr) 26 (0, 0)), (g7, .cells (frcC sq nq dq) 26 (0, 0)), (g6, .cells (frcC sp np dp) 26 (0, 0)), (g5, .cells #[.int .i64 0, .int .i64 0, .int .i64 0, .int .i64 0] 29 (0, 0)), (g4, .cells (frcC sl nl dl) 26 (0, 0)), (g3, .cells (frcC sz nz dz) 26 (0, 0)), (g2, .cells (frcC sy ny dy) 26 (0, 0)), (g1, .cells (frcC sx nx dx) 26 (0, 0))] rfl rfl (st_f (neg := ss) (n := ns) (d := ds) rfl (by kernel_rfl) (by kernel_rfl) (.head _) (by omega) size27 (by intro p hp; simp only [List.mem_cons, List.not_mem_nil, or_false] at hp; rcases hp with rfl | rfl | rfl | rfl | rfl | rfl | rfl | rfl | rfl; exact .inl rfl; exact .inr ⟨by simp, by simp only; omega⟩; exact .inr ⟨by simp, by simp only; omega⟩; exact .inr ⟨by simp, by simp only; omega⟩; exact .inr ⟨by simp, by simp only; omega⟩; exact .inr ⟨by simp, by simp only; omega⟩; exact .inr ⟨by simp, by simp only; omega⟩; exact .inr ⟨by simp, by simp only; omega⟩; exact .inr ⟨by simp, by simp only; omega⟩)) ?_
  refine wpL_p (v := .int .i64 0) rfl (by kernel_rfl) rfl (fun _ => by kernel_rfl) (by simp only [List.setIfInBounds_toArray, List.set_cons_succ, List.set_cons_zero] <;> rfl) ?_
  refine wpL_done (fun W13 hW13 => ?_)
  clear hW12
  refine (show Code.wp _ _ _ _ _ from ?_)
  refine wp_seq ?_
  refine wp_region_L (W0 := w) [(g9, .cells (frcC ss ns ds) 26 (0, 0)), (g8, .cells (frcC sr nr dr) 26 (0, 0)), (g7, .cells (frcC sq nq dq) 26 (0, 0)), (g6, .cells (frcC sp np dp) 26 (0, 0)), (g5, .cells #[.int .i64 0, .int .i64 0, .int .i64 0, .int .i64 0] 29 (0, 0)), (g4, .cells (frcC sl nl dl) 26 (0, 0)), (g3, .cells (frcC sz nz dz) 26 (0, 0)), (g2, .cells (frcC sy ny dy) 26 (0, 0)), (g1, .cells (frcC sx nx dx) 26 (0, 0))] (hW13) ?_
  refine wpL_v (v := .agg (frcC sr nr dr)) rfl (by kernel_rfl) rfl (yb_load rfl (by kernel_rfl) (.tail _ (.head _)) Tryd.underlying26 rfl size27 (by simp) (frc_whole sr nr dr)) (by simp only [List.setIfInBounds_toArray, List.set_cons_succ, List.set_cons_zero] <;> rfl) ?_
  refine wpL_v (v := .agg (frcC ss ns ds)) rfl (by kernel_rfl) rfl (yb_load rfl (by kernel_rfl) (.head _) Tryd.underlying26 rfl size27 (by simp) (frc_whole ss ns ds)) (by simp only [List.setIfInBounds_toArray, List.set_cons_succ, List.set_cons_zero] <;> rfl) ?_
  refine wpL_v (v := .tuple #[.int .i64 1, .int .i64 0]) rfl (by kernel_rfl) rfl (yb_call (f := 18) (args := #[.agg (frcC sr nr dr), .agg (frcC ss ns ds)]) (fun _ => by kernel_rfl) fun W hW => HC5.out W) (by simp only [List.setIfInBounds_toArray, List.set_cons_succ, List.set_cons_zero] <;> rfl) ?_
  refine wpL_p (v := .tuple #[.int .i64 1, .int .i64 0]) rfl (by kernel_rfl) rfl (fun _ => by kernel_rfl) (by simp only [List.setIfInBounds_toArray, List.set_cons_succ, List.set_cons_zero] <;> rfl) ?_
  refine wpL_p (v := .int .i64 1) rfl (by kernel_rfl) rfl (fun _ => by kernel_rfl) (by simp only [List.setIfInBounds_toArray, List.set_cons_succ, List.set_cons_zero] <;> rfl) ?_
  refine wpL_p (v := .int .i64 0) rfl (by kernel_rfl) rfl (fun _ => by kernel_rfl) (by simp only [List.setIfInBounds_toArray, List.set_cons_succ, List.set_cons_zero] <;> rfl) ?_
  refine wpL_p (v := .int .i64 1) rfl (by kernel_rfl) rfl (fun _ => by kernel_rfl) (by simp only [List.setIfInBounds_toArray, List.set_cons_succ, List.set_cons_zero] <;> rfl) ?_
  refine wpL_p (v := .int .i64 0) rfl (by kernel_rfl) rfl (fun _ => by kernel_rfl) (by simp only [List.setIfInBounds_toArray, List.set_cons_succ, List.set_cons_zero] <;> rfl) ?_
  refine wpL_done (fun W14 hW14 => ?_)
  clear hW13
  refine (show Code.wp _ _ _ _ _ from ?_)
  refine wp_seq ?_
  refine wp_region_V (W0 := w) [(g9, .cells (frcC ss ns ds) 26 (0, 0)), (g8, .cells (frcC sr nr dr) 26 (0, 0)), (g7, .cells (frcC sq nq dq) 26 (0, 0)), (g6, .cells (frcC sp np dp) 26 (0, 0)), (g5, .cells #[.int .i64 0, .int .i64 0, .int .i64 0, .int .i64 0] 29 (0, 0)), (g4, .cells (frcC sl nl dl) 26 (0, 0)), (g3, .cells (frcC sz nz dz) 26 (0, 0)), (g2, .cells (frcC sy ny dy) 26 (0, 0)), (g1, .cells (frcC sx nx dx) 26 (0, 0))] (by kernel_rfl) (hW14) ?_
  refine wpV_v (i := 0) (v := .agg (frcC sz nz dz)) rfl rfl (by kernel_rfl) (by kernel_rfl) rfl (yb_load rfl (by kernel_rfl) (.tail _ (.tail _ (.tail _ (.tail _ (.tail _ (.tail _ (.head _))))))) Tryd.underlying26 rfl size27 (by simp) (frc_whole sz nz dz)) (by simp only [List.setIfInBounds_toArray, List.set_cons_succ, List.set_cons_zero] <;> rfl) ?_
  refine wpV_v (i := 1) (v := .agg (frcC false 0 1)) rfl rfl (by kernel_rfl) (by kernel_rfl) rfl (yb_call (f := 16) (args := #[.int .i64 0]) (fun _ => by kernel_rfl) fun W hW => HO0.out W) (by simp only [List.setIfInBounds_toArray, List.set_cons_succ, List.set_cons_zero] <;> rfl) ?_
  refine wpV_v (i := 2) (v := .tuple #[.int .i64 1, .int .i64 0]) rfl rfl (by kernel_rfl) (by kernel_rfl) rfl (yb_call (f := 18) (args := #[.agg (frcC sz nz dz), .agg (frcC false 0 1)]) (fun _ => by kernel_rfl) fun W hW => HC6.out W) (by simp only [List.setIfInBounds_toArray, List.set_cons_succ, List.set_cons_zero] <;> rfl) ?_
  refine wpV_p (i := 3) (v := .tuple #[.int .i64 1, .int .i64 0]) rfl rfl (by kernel_rfl) (by kernel_rfl) rfl (fun _ => by kernel_rfl) (by simp only [List.setIfInBounds_toArray, List.set_cons_succ, List.set_cons_zero] <;> rfl) ?_
  refine wpV_p (i := 4) (v := .int .i64 1) rfl rfl (by kernel_rfl) (by kernel_rfl) rfl (fun _ => by kernel_rfl) (by simp only [List.setIfInBounds_toArray, List.set_cons_succ, List.set_cons_zero] <;> rfl) ?_
  refine wpV_p (i := 5) (v := .int .i64 0) rfl rfl (by kernel_rfl) (by kernel_rfl) rfl (fun _ => by kernel_rfl) (by simp only [List.setIfInBounds_toArray, List.set_cons_succ, List.set_cons_zero] <;> rfl) ?_
  refine wpV_p (i := 6) (v := .int .i64 1) rfl rfl (by kernel_rfl) (by kernel_rfl) rfl (fun _ => by kernel_rfl) (by simp only [List.setIfInBounds_toArray, List.set_cons_succ, List.set_cons_zero] <;> rfl) ?_
  refine wpV_p (i := 7) (v := .int .i64 0) rfl rfl (by kernel_rfl) (by kernel_rfl) rfl (fun _ => by kernel_rfl) (by simp only [List.setIfInBounds_toArray, List.set_cons_succ, List.set_cons_zero] <;> rfl) ?_
  refine wpV_done (by kernel_rfl) (fun W15 hW15 => ?_) _
  clear hW14
  refine (show Code.wp _ _ _ _ _ from ?_)
  refine wp_seq ?_
  refine wp_region_L (W0 := w) [(g9, .cells (frcC ss ns ds) 26 (0, 0)), (g8, .cells (frcC sr nr dr) 26 (0, 0)), (g7, .cells (frcC sq nq dq) 26 (0, 0)), (g6, .cells (frcC sp np dp) 26 (0, 0)), (g5, .cells #[.int .i64 0, .int .i64 0, .int .i64 0, .int .i64 0] 29 (0, 0)), (g4, .cells (frcC sl nl dl) 26 (0, 0)), (g3, .cells (frcC sz nz dz) 26 (0, 0)), (g2, .cells (frcC sy ny dy) 26 (0, 0)), (g1, .cells (frcC sx nx dx) 26 (0, 0))] (hW15) ?_
  refine wpL_p (v := .int .i64 0) rfl (by kernel_rfl) rfl (fun _ => by kernel_rfl) (by simp only [List.setIfInBounds_toArray, List.set_cons_succ, List.set_cons_zero] <;> rfl) ?_
  refine wpL_p (v := .int .i64 0) rfl (by kernel_rfl) rfl (fun _ => by kernel_rfl) (by simp only [List.setIfInBounds_toArray, List.set_cons_succ, List.set_cons_zero] <;> rfl) ?_
  refine wpL_p (v := .int .i64 0) rfl (by kernel_rfl) rfl (fun _ => by kernel_rfl) (by simp only [List.setIfInBounds_toArray, List.set_cons_succ, List.set_cons_zero] <;> rfl) ?_
  refine wpL_p (v := .int .i64 0) rfl (by kernel_rfl) rfl (fun _ => by kernel_rfl) (by simp only [List.setIfInBounds_toArray, List.set_cons_succ, List.set_cons_zero] <;> rfl) ?_
  refine wpL_p (v := .int .i64 0) rfl (by kernel_rfl) rfl (fun _ => by kernel_rfl) (by simp only [List.setIfInBounds_toArray, List.set_cons_succ, List.set_cons_zero] <;> rfl) ?_
  refine wpL_p (v := .int .i64 0) rfl (by kernel_rfl) rfl (fun _ => by kernel_rfl) (by simp only [List.setIfInBounds_toArray, List.set_cons_succ, List.set_cons_zero] <;> rfl) ?_
  refine wpL_p (v := .int .i64 0) rfl (by kernel_rfl) rfl (fun _ => by kernel_rfl) (by simp only [List.setIfInBounds_toArray, List.set_cons_succ, List.set_cons_zero] <;> rfl) ?_
  refine wpL_new (fun g => .slice (some ⟨g, 0, none⟩) 7 7) (obi := .cells #[.int .i64 0, .int .i64 0, .int .i64 0, .int .i64 0, .int .i64 0, .int .i64 0, .int .i64 0] 29 (0, 0)) rfl rfl (fun _ => by kernel_rfl) (fun _ => by simp only [List.setIfInBounds_toArray, List.set_cons_succ, List.set_cons_zero] <;> rfl) fun g10 Bg10 Fg10 => ?_
  try simp only [List.forall_mem_cons] at Fg10
  refine wpL_v (v := .bool true) rfl (by kernel_rfl) rfl (yb_call (f := 14) (args := #[.slice (some ⟨g10, 0, none⟩) 7 7]) (fun _ => by kernel_rfl) fun W hW => all_W 7 (by omega) rfl (hW.2 _ (.head _))) (by simp only [List.setIfInBounds_toArray, List.set_cons_succ, List.set_cons_zero] <;> rfl) ?_
  refine wpL_p (v := .bool true) rfl (by kernel_rfl) rfl (fun _ => by kernel_rfl) (by simp only [List.setIfInBounds_toArray, List.set_cons_succ, List.set_cons_zero] <;> rfl) ?_
  refine wpL_p (v := .int .i64 1) rfl (by kernel_rfl) rfl (fun _ => by kernel_rfl) (by simp only [List.setIfInBounds_toArray, List.set_cons_succ, List.set_cons_zero] <;> rfl) ?_
  refine wpL_p (v := .int .i64 1) rfl (by kernel_rfl) rfl (fun _ => by kernel_rfl) (by simp only [List.setIfInBounds_toArray, List.set_cons_succ, List.set_cons_zero] <;> rfl) ?_
  refine wpL_p (v := .bool true) rfl (by kernel_rfl) rfl (fun _ => by kernel_rfl) (by simp only [List.setIfInBounds_toArray, List.set_cons_succ, List.set_cons_zero] <;> rfl) ?_
  refine wpL_p (v := .bool true) rfl (by kernel_rfl) rfl (fun _ => by kernel_rfl) (by simp only [List.setIfInBounds_toArray, List.set_cons_succ, List.set_cons_zero] <;> rfl) ?_
  refine wpL_p (v := .bool true) rfl (by kernel_rfl) rfl (fun _ => by kernel_rfl) (by simp only [List.setIfInBounds_toArray, List.set_cons_succ, List.set_cons_zero] <;> rfl) ?_
  refine wpL_p (v := .int .i64 1) rfl (by kernel_rfl) rfl (fun _ => by kernel_rfl) (by simp only [List.setIfInBounds_toArray, List.set_cons_succ, List.set_cons_zero] <;> rfl) ?_
  refine wpL_p (v := .int .i64 1) rfl (by kernel_rfl) rfl (fun _ => by kernel_rfl) (by simp only [List.setIfInBounds_toArray, List.set_cons_succ, List.set_cons_zero] <;> rfl) ?_
  refine wpL_p (v := .int .i64 1) rfl (by kernel_rfl) rfl (fun _ => by kernel_rfl) (by simp only [List.setIfInBounds_toArray, List.set_cons_succ, List.set_cons_zero] <;> rfl) ?_
  refine wpL_p (v := .int .i64 1) rfl (by kernel_rfl) rfl (fun _ => by kernel_rfl) (by simp only [List.setIfInBounds_toArray, List.set_cons_succ, List.set_cons_zero] <;> rfl) ?_
  refine wpL_p (v := .bool true) rfl (by kernel_rfl) rfl (fun _ => by kernel_rfl) (by simp only [List.setIfInBounds_toArray, List.set_cons_succ, List.set_cons_zero] <;> rfl) ?_
  refine wpL_p (v := .bool true) rfl (by kernel_rfl) rfl (fun _ => by kernel_rfl) (by simp only [List.setIfInBounds_toArray, List.set_cons_succ, List.set_cons_zero] <;> rfl) ?_
  refine wpL_p (v := .bool true) rfl (by kernel_rfl) rfl (fun _ => by kernel_rfl) (by simp only [List.setIfInBounds_toArray, List.set_cons_succ, List.set_cons_zero] <;> rfl) ?_
  refine wpL_done (fun W16 hW16 => ?_)
  clear hW15
  refine (show Code.wp _ _ _ _ _ from ?_)
  refine wp_ret ?_
  go_ret
  exact ⟨rfl, hW16.1⟩
end Go.Proofs.YtkfcikijmkgahaaDoor
