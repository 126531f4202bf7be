import Derived.Test.YtkfcikijmkgahaaDoorKw00
/- Part of the proof: W0. -/
set_option linter.unusedVariables false
set_option linter.unusedSimpArgs false
set_option linter.unusedSectionVars false
namespace Go.Proofs.YtkfcikijmkgahaaDoor
open Go.RowKit Tw
set_option maxRecDepth 100000 in
set_option maxHeartbeats 4000000 in
theorem FracWrong_w0 (w : World) (a : Int) (d c : Nat) (sx : Bool) (nx dx : Nat) (Hnx : nx < R 8) (Hdx : dx < R 8) (hd : d < 4294967296) (Hway : c % 4 = 0)
    (HAw : Hid (∀ W, Below w.heap.size w W → Calls Tryd.prog 10 #[] W fun e w' => e = .returned (.bool true) ∧ Below W.heap.size W w'))
    (HM1 : Hid (∀ W, Calls Tryd.prog 11 #[.int .i64 (bits .or .i64 (a / 2 ^ 4) 1), .int .u32 ((d / 16 : Nat) : Int)] W fun e w' => e = .returned (.agg (frcC sx nx dx)) ∧ Below W.heap.size W w'))
    (HRx : Hid (∀ W, Calls Tryd.prog 24 #[.agg (frcC sx nx dx)] W fun e w' => e = .returned (.bool true) ∧ Below W.heap.size W w'))
    (HRb : Hid (∀ W, Calls Tryd.prog 24 #[.agg (frcC sx nx 0)] W fun e w' => e = .returned (.bool false) ∧ Below W.heap.size W w'))
    (HO0 : Hid (∀ W, Calls Tryd.prog 12 #[.agg (frcC sx nx dx), .agg (frcC sx nx 0)] W fun e w' => e = .returned (.tuple #[.agg (frcC false 0 0), .int .i64 2]) ∧ Below W.heap.size W w'))
    (HP0 : Hid (∀ W, Calls Tryd.prog 12 #[.agg (frcC sx nx 0), .agg (frcC sx nx dx)] W fun e w' => e = .returned (.tuple #[.agg (frcC false 0 0), .int .i64 2]) ∧ Below W.heap.size W w'))
    (HO1 : Hid (∀ W, Calls Tryd.prog 13 #[.agg (frcC sx nx dx), .agg (frcC sx nx 0)] W fun e w' => e = .returned (.tuple #[.agg (frcC false 0 0), .int .i64 2]) ∧ Below W.heap.size W w'))
    (HP1 : Hid (∀ W, Calls Tryd.prog 13 #[.agg (frcC sx nx 0), .agg (frcC sx nx dx)] W fun e w' => e = .returned (.tuple #[.agg (frcC false 0 0), .int .i64 2]) ∧ Below W.heap.size W w'))
    (HO2 : Hid (∀ W, Calls Tryd.prog 15 #[.agg (frcC sx nx dx), .agg (frcC sx nx 0)] W fun e w' => e = .returned (.tuple #[.agg (frcC false 0 0), .int .i64 2]) ∧ Below W.heap.size W w'))
    (HP2 : Hid (∀ W, Calls Tryd.prog 15 #[.agg (frcC sx nx 0), .agg (frcC sx nx dx)] W fun e w' => e = .returned (.tuple #[.agg (frcC false 0 0), .int .i64 2]) ∧ Below W.heap.size W w'))
    (HO3 : Hid (∀ W, Calls Tryd.prog 17 #[.agg (frcC sx nx dx), .agg (frcC sx nx 0)] W fun e w' => e = .returned (.tuple #[.agg (frcC false 0 0), .int .i64 2]) ∧ Below W.heap.size W w'))
    (HP3 : Hid (∀ W, Calls Tryd.prog 17 #[.agg (frcC sx nx 0), .agg (frcC sx nx dx)] W fun e w' => e = .returned (.tuple #[.agg (frcC false 0 0), .int .i64 2]) ∧ Below W.heap.size W w'))
    (HO4 : Hid (∀ W, Calls Tryd.prog 25 #[.agg (frcC sx nx dx), .agg (frcC sx nx 0)] W fun e w' => e = .returned (.tuple #[.agg (frcC false 0 0), .int .i64 2]) ∧ Below W.heap.size W w'))
    (HP4 : Hid (∀ W, Calls Tryd.prog 25 #[.agg (frcC sx nx 0), .agg (frcC sx nx dx)] W fun e w' => e = .returned (.tuple #[.agg (frcC false 0 0), .int .i64 2]) ∧ Below W.heap.size W w'))
    (HC1 : Hid (∀ W, Calls Tryd.prog 18 #[.agg (frcC sx nx dx), .agg (frcC sx nx 0)] W fun e w' => e = .returned (.tuple #[.int .i64 0, .int .i64 2]) ∧ Below W.heap.size W w'))
    (HC2 : Hid (∀ W, Calls Tryd.prog 18 #[.agg (frcC sx nx 0), .agg (frcC sx nx dx)] W fun e w' => e = .returned (.tuple #[.int .i64 0, .int .i64 2]) ∧ Below W.heap.size W w'))
    (HF : Hid (∀ W, Calls Tryd.prog 19 #[.agg (frcC sx nx 0)] W fun e w' => e = .returned (.tuple #[.int .i64 0, .int .i64 2]) ∧ Below W.heap.size W w'))
    (HT : Hid (∀ W, Below w.heap.size w W → Calls Tryd.prog 20 #[.agg (frcC sx nx 0)] W fun e w' => e = .returned (.tuple #[.string ⟨#[]⟩, .int .i64 2]) ∧ Below W.heap.size W w')) :
    Calls Tryd.prog 9 #[.int .i64 a, .int .u32 (d : Int), .int .u8 (c : Int)] w fun e w' => e = .returned (.bool true) ∧ Below w.heap.size w w' := by
  go_enter Tryd.func9, Tryd.ntmps9
  refine wp_seq ?_
  refine wp_region_L (W0 := w) [] (KS.start w) ?_
  refine wpL_p (v := .bool false) rfl (by kernel_rfl) rfl (fun _ => by kernel_rfl) (by simp only [List.setIfInBounds_toArray, List.set_cons_succ, List.set_cons_zero] <;> rfl) ?_
  refine wpL_done (fun W1 hW1 => ?_)
  refine (show Code.wp _ _ _ _ _ from ?_)
  refine wp_seq ?_
  refine wp_seq ?_
  refine wp_region_L (W0 := w) [] (hW1) ?_
  refine wpL_v (v := .bool true) rfl (by kernel_rfl) rfl (yb_call (f := 10) (args := #[]) (fun _ => by kernel_rfl) fun W hW => HAw.out W hW.1) (by simp only [List.setIfInBounds_toArray, List.set_cons_succ, List.set_cons_zero] <;> rfl) ?_
  refine wpL_p (v := .bool false) rfl (by kernel_rfl) rfl (fun _ => by kernel_rfl) (by simp only [List.setIfInBounds_toArray, List.set_cons_succ, List.set_cons_zero] <;> rfl) ?_
  refine wpL_done (fun W2 hW2 => ?_)
  clear hW1
  refine (show Code.wp _ _ _ _ _ from ?_)
  refine wp_cond_false rfl ?_
  refine wp_skip ?_
  refine (show Code.wp _ _ _ _ _ from ?_)
  refine wp_seq ?_
  refine wp_region_L (W0 := w) [] (hW2) ?_
  refine wpL_p (v := .int .i64 a) rfl (by kernel_rfl) rfl (fun _ => by kernel_rfl) (by simp only [List.setIfInBounds_toArray, List.set_cons_succ, List.set_cons_zero] <;> rfl) ?_
  refine wpL_p (v := .int .i64 (a / 2 ^ 4)) rfl (by kernel_rfl) rfl (run_shr4 rfl rfl rfl) (by simp only [List.setIfInBounds_toArray, List.set_cons_succ, List.set_cons_zero] <;> rfl) ?_
  refine wpL_p (v := .int .i64 (bits .or .i64 (a / 2 ^ 4) 1)) rfl (by kernel_rfl) rfl (fun _ => by kernel_rfl) (by simp only [List.setIfInBounds_toArray, List.set_cons_succ, List.set_cons_zero] <;> rfl) ?_
  refine wpL_p (v := .int .u32 (d : Int)) rfl (by kernel_rfl) rfl (fun _ => by kernel_rfl) (by simp only [List.setIfInBounds_toArray, List.set_cons_succ, List.set_cons_zero] <;> rfl) ?_
  refine wpL_p (v := .int .u32 ((d / 16 : Nat) : Int)) rfl (by kernel_rfl) rfl (run_shr4u rfl rfl rfl) (by simp only [List.setIfInBounds_toArray, List.set_cons_succ, List.set_cons_zero] <;> rfl) ?_
  refine wpL_v (v := .agg (frcC sx nx dx)) rfl (by kernel_rfl) rfl (yb_call (f := 11) (args := #[.int .i64 (bits .or .i64 (a / 2 ^ 4) 1), .int .u32 ((d / 16 : Nat) : Int)]) (fun _ => by kernel_rfl) fun W hW => HM1.out W) (by simp only [List.setIfInBounds_toArray, List.set_cons_succ, List.set_cons_zero] <;> rfl) ?_
  refine wpL_new (fun g => .pointer (some ⟨g, 0, none⟩)) (obi := .cells (frcC false 0 0) 26 (0, 0)) rfl rfl (fun _ => by rw [frc_zero]; rfl) (fun _ => by simp only [List.setIfInBounds_toArray, List.set_cons_succ, List.set_cons_zero] <;> rfl) fun g1 Bg1 Fg1 => ?_
  try simp only [List.forall_mem_cons] at Fg1
  refine wpL_s [(g1, .cells (frcC sx nx dx) 26 (0, 0))] rfl rfl (st_f (neg := sx) (n := nx) (d := dx) rfl (by kernel_rfl) (by kernel_rfl) (.head _) (by omega) size27 (List.forall_mem_cons.2 ⟨.inl rfl, (List.forall_mem_nil _)⟩)) ?_
  refine wpL_done (fun W3 hW3 => ?_)
  clear hW2
  refine (show Code.wp _ _ _ _ _ from ?_)
  refine wp_seq ?_
  refine wp_region_L (W0 := w) [(g1, .cells (frcC sx nx dx) 26 (0, 0))] (hW3) ?_
  refine wpL_v (v := .agg (frcC sx nx dx)) rfl (by kernel_rfl) rfl (yb_load rfl (by kernel_rfl) (.head _) Tryd.underlying26 rfl size27 (by simp) (frc_whole sx nx dx)) (by simp only [List.setIfInBounds_toArray, List.set_cons_succ, List.set_cons_zero] <;> rfl) ?_
  refine wpL_new (fun g => .pointer (some ⟨g, 0, none⟩)) (obi := .cells (frcC false 0 0) 26 (0, 0)) rfl rfl (fun _ => by rw [frc_zero]; rfl) (fun _ => by simp only [List.setIfInBounds_toArray, List.set_cons_succ, List.set_cons_zero] <;> rfl) fun g2 Bg2 Fg2 => ?_
  try simp only [List.forall_mem_cons] at Fg2
  refine wpL_s [(g2, .cells (frcC sx nx dx) 26 (0, 0)), (g1, .cells (frcC sx nx dx) 26 (0, 0))] rfl rfl (st_f (neg := sx) (n := nx) (d := dx) rfl (by kernel_rfl) (by kernel_rfl) (.head _) (by omega) size27 (List.forall_mem_cons.2 ⟨.inl rfl, (List.forall_mem_cons.2 ⟨.inr ⟨(.tail _ (.head _)), Fg2.1⟩, (List.forall_mem_nil _)⟩)⟩)) ?_
  refine wpL_done (fun W4 hW4 => ?_)
  clear hW3
  refine (show Code.wp _ _ _ _ _ from ?_)
  refine wp_seq ?_
  refine wp_seq ?_
  refine wp_region_L (W0 := w) [(g2, .cells (frcC sx nx dx) 26 (0, 0)), (g1, .cells (frcC sx nx dx) 26 (0, 0))] (hW4) ?_
  refine wpL_p (v := .int .u8 (c : Int)) rfl (by kernel_rfl) rfl (fun _ => by kernel_rfl) (by simp only [List.setIfInBounds_toArray, List.set_cons_succ, List.set_cons_zero] <;> rfl) ?_
  refine wpL_p (v := .int .u8 0) rfl (by kernel_rfl) rfl (run_bin rfl (vx := .int .u8 (c : Int)) (vy := .int .u8 4) (by kernel_rfl) (by kernel_rfl) fun w => run_rem4 Hway w) (by simp only [List.setIfInBounds_toArray, List.set_cons_succ, List.set_cons_zero] <;> rfl) ?_
  refine wpL_done (fun W5 hW5 => ?_)
  clear hW4
  refine (show Code.wp _ _ _ _ _ from ?_)
  refine wp_block ?_
  refine wp_seq ?_
  refine wp_region_L (W0 := w) [(g2, .cells (frcC sx nx dx) 26 (0, 0)), (g1, .cells (frcC sx nx dx) 26 (0, 0))] (hW5) ?_
  refine wpL_p (v := .bool true) rfl (by kernel_rfl) rfl (fun _ => by kernel_rfl) (by simp only [List.setIfInBounds_toArray, List.set_cons_succ, List.set_cons_zero] <;> rfl) ?_
  refine wpL_p (v := .bool true) rfl (by kernel_rfl) rfl (fun _ => by kernel_rfl) (by simp only [List.setIfInBounds_toArray, List.set_cons_succ, List.set_cons_zero] <;> rfl) ?_
  refine wpL_done (fun W6 hW6 => ?_)
  clear hW5
  refine (show Code.wp _ _ _ _ _ from ?_)
  refine wp_cond_true rfl ?_
  refine wp_region_L (W0 := w) [(g2, .cells (frcC sx nx dx) 26 (0, 0)), (g1, .cells (frcC sx nx dx) 26 (0, 0))] (hW6) ?_
  refine wpL_p (v := .agg (fa 8 (dg 0))) rfl (by kernel_rfl) rfl (fun _ => by kernel_rfl) (by simp only [List.setIfInBounds_toArray, List.set_cons_succ, List.set_cons_zero] <;> rfl) ?_
  refine wpL_p (v := .pointer (some ⟨g2, 9, none⟩)) rfl (by kernel_rfl) rfl (fun _ => by kernel_rfl) (by simp only [List.setIfInBounds_toArray, List.set_cons_succ, List.set_cons_zero] <;> rfl) ?_
  refine wpL_s [(g2, .cells (frcC sx nx 0) 26 (0, 0)), (g1, .cells (frcC sx nx dx) 26 (0, 0))] rfl rfl (st_den0 (s := sx) (n := nx) (d := dx) rfl (by kernel_rfl) (by kernel_rfl) (.head _) (by omega) (List.forall_mem_cons.2 ⟨.inl rfl, (List.forall_mem_cons.2 ⟨.inr ⟨(.tail _ (.head _)), Fg2.1⟩, (List.forall_mem_nil _)⟩)⟩)) ?_
  refine wpL_done (fun W7 hW7 => ?_)
  clear hW6
  refine (show Code.wp _ _ _ _ _ from ?_)
  refine wp_seq ?_
  refine wp_seq ?_
  refine wp_region_L (W0 := w) [(g2, .cells (frcC sx nx 0) 26 (0, 0)), (g1, .cells (frcC sx nx dx) 26 (0, 0))] (hW7) ?_
  refine wpL_v (v := .agg (frcC sx nx dx)) rfl (by kernel_rfl) rfl (yb_load rfl (by kernel_rfl) (.tail _ (.head _)) Tryd.underlying26 rfl size27 (by simp) (frc_whole sx nx dx)) (by simp only [List.setIfInBounds_toArray, List.set_cons_succ, List.set_cons_zero] <;> rfl) ?_
  refine wpL_v (v := .bool true) rfl (by kernel_rfl) rfl (yb_call (f := 24) (args := #[.agg (frcC sx nx dx)]) (fun _ => by kernel_rfl) fun W hW => HRx.out W) (by simp only [List.setIfInBounds_toArray, List.set_cons_succ, List.set_cons_zero] <;> rfl) ?_
  refine wpL_p (v := .bool false) rfl (by kernel_rfl) rfl (fun _ => by kernel_rfl) (by simp only [List.setIfInBounds_toArray, List.set_cons_succ, List.set_cons_zero] <;> rfl) ?_
  refine wpL_p (v := .bool false) rfl (by kernel_rfl) rfl (fun _ => by kernel_rfl) (by simp only [List.setIfInBounds_toArray, List.set_cons_succ, List.set_cons_zero] <;> rfl) ?_
  refine wpL_v (v := .agg (frcC sx nx 0)) rfl (by kernel_rfl) rfl (yb_load rfl (by kernel_rfl) (.head _) Tryd.underlying26 rfl size27 (by simp) (frc_whole sx nx 0)) (by simp only [List.setIfInBounds_toArray, List.set_cons_succ, List.set_cons_zero] <;> rfl) ?_
  refine wpL_v (v := .bool false) rfl (by kernel_rfl) rfl (yb_call (f := 24) (args := #[.agg (frcC sx nx 0)]) (fun _ => by kernel_rfl) fun W hW => HRb.out W) (by simp only [List.setIfInBounds_toArray, List.set_cons_succ, List.set_cons_zero] <;> rfl) ?_
  refine wpL_p (v := .bool false) rfl (by kernel_rfl) rfl (fun _ => by kernel_rfl) (by simp only [List.setIfInBounds_toArray, List.set_cons_succ, List.set_cons_zero] <;> rfl) ?_
  refine wpL_done (fun W8 hW8 => ?_)
  clear hW7
  refine (show Code.wp _ _ _ _ _ from ?_)
  refine wp_cond_false rfl ?_
  refine wp_skip ?_
  refine (show Code.wp _ _ _ _ _ from ?_)
  refine wp_seq ?_
  refine wp_region_L (W0 := w) [(g2, .cells (frcC sx nx 0) 26 (0, 0)), (g1, .cells (frcC sx nx dx) 26 (0, 0))] (hW8) ?_
  refine wpL_new (fun g => .slice (some ⟨g, 0, none⟩) 5 5) (obi := .cells #[.func (.func 12) #[] #[], .func (.func 13) #[] #[], .func (.func 15) #[] #[], .func (.func 17) #[] #[], .func (.func 25) #[] #[]] 31 (0, 0)) rfl rfl (fun _ => by kernel_rfl) (fun _ => by simp only [List.setIfInBounds_toArray, List.set_cons_succ, List.set_cons_zero] <;> rfl) fun g3 Bg3 Fg3 => ?_
  try simp only [List.forall_mem_cons] at Fg3
  refine wpL_p (v := .slice (some ⟨g3, 0, none⟩) 5 5) rfl (by kernel_rfl) rfl (fun _ => by kernel_rfl) (by simp only [List.setIfInBounds_toArray, List.set_cons_succ, List.set_cons_zero] <;> rfl) ?_
  refine wpL_done (fun W9 hW9 => ?_)
  clear hW8
  refine (show Code.wp _ _ _ _ _ from ?_)
  refine wp_seq ?_
  refine wp_seq ?_
  refine wp_region_L (W0 := w) [(g3, .cells #[.func (.func 12) #[] #[], .func (.func 13) #[] #[], .func (.func 15) #[] #[], .func (.func 17) #[] #[], .func (.func 25) #[] #[]] 31 (0, 0)), (g2, .cells (frcC sx nx 0) 26 (0, 0)), (g1, .cells (frcC sx nx dx) 26 (0, 0))] (hW9) ?_
  refine wpL_p (v := .slice (some ⟨g3, 0, none⟩) 5 5) rfl (by kernel_rfl) rfl (fun _ => by kernel_rfl) (by simp only [List.setIfInBounds_toArray, List.set_cons_succ, List.set_cons_zero] <;> rfl) ?_
  refine wpL_p (v := .int .i64 5) rfl (by kernel_rfl) rfl (fun _ => by kernel_rfl) (by simp only [List.setIfInBounds_toArray, List.set_cons_succ, List.set_cons_zero] <;> rfl) ?_
  refine wpL_p (v := .int .i64 0) rfl (by kernel_rfl) rfl (fun _ => by kernel_rfl) (by simp only [List.setIfInBounds_toArray, List.set_cons_succ, List.set_cons_zero] <;> rfl) ?_
  refine wpL_done (fun W10 hW10 => ?_)
  clear hW9
  refine (show Code.wp _ _ _ _ _ from ?_)
  refine wp_block ?_
  refine wp_loop_rounds 20 ?_
  refine (show Code.wp _ _ _ _ _ from ?_)
  refine wp_seq ?_
  refine wp_region_L (W0 := w) [(g3, .cells #[.func (.func 12) #[] #[], .func (.func 13) #[] #[], .func (.func 15) #[] #[], .func (.func 17) #[] #[], .func (.func 25) #[] #[]] 31 (0, 0)), (g2, .cells (frcC sx nx 0) 26 (0, 0)), (g1, .cells (frcC sx nx dx) 26 (0, 0))] (hW10) ?_
  refine wpL_p (v := .bool true) rfl (by kernel_rfl) rfl (fun _ => by kernel_rfl) (by simp only [List.setIfInBounds_toArray, List.set_cons_succ, List.set_cons_zero] <;> rfl) ?_
  refine wpL_done (fun W11 hW11 => ?_)
  clear hW10
  refine (show Code.wp _ _ _ _ _ from ?_)
  refine wp_seq ?_
  refine wp_cond_true rfl ?_
  refine wp_skip ?_
  refine (show Code.wp _ _ _ _ _ from ?_)
  refine wp_seq ?_
  refine wp_block ?_
  refine wp_seq ?_
  refine wp_region_L (W0 := w) [(g3, .cells #[.func (.func 12) #[] #[], .func (.func 13) #[] #[], .func (.func 15) #[] #[], .func (.func 17) #[] #[], .func (.func 25) #[] #[]] 31 (0, 0)), (g2, .cells (frcC sx nx 0) 26 (0, 0)), (g1, .cells (frcC sx nx dx) 26 (0, 0))] (hW11) ?_
  refine wpL_p (v := .pointer (some ⟨g3, 0, none⟩)) rfl (by kernel_rfl) rfl (fun _ => by kernel_rfl) (by simp only [List.setIfInBounds_toArray, List.set_cons_succ, List.set_cons_zero] <;> rfl) ?_
  refine wpL_v (v := .func (.func 12) #[] #[]) rfl (by kernel_rfl) rfl (yb_loadc (off := 0) rfl (by kernel_rfl) (.head _) Tryd.underlying31 rfl (by kernel_rfl)) (by simp only [List.setIfInBounds_toArray, List.set_cons_succ, List.set_cons_zero] <;> rfl) ?_
  refine wpL_p (v := .func (.func 12) #[] #[]) rfl (by kernel_rfl) rfl (fun _ => by kernel_rfl) (by simp only [List.setIfInBounds_toArray, List.set_cons_succ, List.set_cons_zero] <;> rfl) ?_
  refine wpL_done (fun W12 hW12 => ?_)
  clear hW11
  refine (show Code.wp _ _ _ _ _ from ?_)
  refine wp_seq ?_
  refine wp_region_L (W0 := w) [(g3, .cells #[.func (.func 12) #[] #[], .func (.func 13) #[] #[], .func (.func 15) #[] #[], .func (.func 17) #[] #[], .func (.func 25) #[] #[]] 31 (0, 0)), (g2, .cells (frcC sx nx 0) 26 (0, 0)), (g1, .cells (frcC sx nx dx) 26 (0, 0))] (hW12) ?_
  refine wpL_p (v := .func (.func 12) #[] #[]) rfl (by kernel_rfl) rfl (fun _ => by kernel_rfl) (by simp only [List.setIfInBounds_toArray, List.set_cons_succ, List.set_cons_zero] <;> rfl) ?_
  refine wpL_v (v := .agg (frcC sx nx dx)) rfl (by kernel_rfl) rfl (yb_load rfl (by kernel_rfl) (.tail _ (.tail _ (.head _))) Tryd.underlying26 rfl size27 (by simp) (frc_whole sx nx dx)) (by simp only [List.setIfInBounds_toArray, List.set_cons_succ, List.set_cons_zero] <;> rfl) ?_
  refine wpL_v (v := .agg (frcC sx nx 0)) rfl (by kernel_rfl) rfl (yb_load rfl (by kernel_rfl) (.tail _ (.head _)) Tryd.underlying26 rfl size27 (by simp) (frc_whole sx nx 0)) (by simp only [List.setIfInBounds_toArray, List.set_cons_succ, List.set_cons_zero] <;> rfl) ?_
  refine wpL_v (v := .tuple #[.agg (frcC false 0 0), .int .i64 2]) rfl (by kernel_rfl) rfl (yb_call (f := 12) (args := #[.agg (frcC sx nx dx), .agg (frcC sx nx 0)]) (fun _ => by kernel_rfl) fun W hW => HO0.out W) (by simp only [List.setIfInBounds_toArray, List.set_cons_succ, List.set_cons_zero] <;> rfl) ?_
  refine wpL_p (v := .tuple #[.agg (frcC false 0 0), .int .i64 2]) rfl (by kernel_rfl) rfl (fun _ => by kernel_rfl) (by simp only [List.setIfInBounds_toArray, List.set_cons_succ, List.set_cons_zero] <;> rfl) ?_
  refine wpL_p (v := .agg (frcC false 0 0)) rfl (by kernel_rfl) rfl (fun _ => by kernel_rfl) (by simp only [List.setIfInBounds_toArray, List.set_cons_succ, List.set_cons_zero] <;> rfl) ?_
  refine wpL_p (v := .int .i64 2) rfl (by kernel_rfl) rfl (fun _ => by kernel_rfl) (by simp only [List.setIfInBounds_toArray, List.set_cons_succ, List.set_cons_zero] <;> rfl) ?_
  refine wpL_new (fun g => .pointer (some ⟨g, 0, none⟩)) (obi := .cells (frcC false 0 0) 26 (0, 0)) rfl rfl (fun _ => by rw [frc_zero]; rfl) (fun _ => by simp only [List.setIfInBounds_toArray, List.set_cons_succ, List.set_cons_zero] <;> rfl) fun g4 Bg4 Fg4 => ?_
  try simp only [List.forall_mem_cons] at Fg4
  refine wpL_s [(g4, .cells (frcC false 0 0) 26 (0, 0)), (g3, .cells #[.func (.func 12) #[] #[], .func (.func 13) #[] #[], .func (.func 15) #[] #[], .func (.func 17) #[] #[], .func (.func 25) #[] #[]] 31 (0, 0)), (g2, .cells (frcC sx nx 0) 26 (0, 0)), (g1, .cells (frcC sx nx dx) 26 (0, 0))] rfl rfl (st_f (neg := false) (n := 0) (d := 0) rfl (by kernel_rfl) (by kernel_rfl) (.head _) (by omega) size27 (List.forall_mem_cons.2 ⟨.inl rfl, (List.forall_mem_cons.2 ⟨.inr ⟨(.tail _ (.head _)), Fg4.1⟩, (List.forall_mem_cons.2 ⟨.inr ⟨(.tail _ (.tail _ (.head _))), Fg4.2.1⟩, (List.forall_mem_cons.2 ⟨.inr ⟨(.tail _ (.tail _ (.tail _ (.head _)))), Fg4.2.2.1⟩, (List.forall_mem_nil _)⟩)⟩)⟩)⟩)) ?_
  refine wpL_p (v := .int .i64 2) rfl (by kernel_rfl) rfl (fun _ => by kernel_rfl) (by simp only [List.setIfInBounds_toArray, List.set_cons_succ, List.set_cons_zero] <;> rfl) ?_
  refine wpL_done (fun W13 hW13 => ?_)
  clear hW12
  refine (show Code.wp _ _ _ _ _ from ?_)
  refine wp_seq ?_
  refine wp_region_L (W0 := w) [(g4, .cells (frcC false 0 0) 26 (0, 0)), (g3, .cells #[.func (.func 12) #[] #[], .func (.func 13) #[] #[], .func (.func 15) #[] #[], .func (.func 17) #[] #[], .func (.func 25) #[] #[]] 31 (0, 0)), (g2, .cells (frcC sx nx 0) 26 (0, 0)), (g1, .cells (frcC sx nx dx) 26 (0, 0))] (hW13) ?_
  refine wpL_p (v := .func (.func 12) #[] #[]) rfl (by kernel_rfl) rfl (fun _ => by kernel_rfl) (by simp only [List.setIfInBounds_toArray, List.set_cons_succ, List.set_cons_zero] <;> rfl) ?_
  refine wpL_v (v := .agg (frcC sx nx 0)) rfl (by kernel_rfl) rfl (yb_load rfl (by kernel_rfl) (.tail _ (.tail _ (.head _))) Tryd.underlying26 rfl size27 (by simp) (frc_whole sx nx 0)) (by simp only [List.setIfInBounds_toArray, List.set_cons_succ, List.set_cons_zero] <;> rfl) ?_
  refine wpL_v (v := .agg (frcC sx nx dx)) rfl (by kernel_rfl) rfl (yb_load rfl (by kernel_rfl) (.tail _ (.tail _ (.tail _ (.head _)))) Tryd.underlying26 rfl size27 (by simp) (frc_whole sx nx dx)) (by simp only [List.setIfInBounds_toArray, List.set_cons_succ, List.set_cons_zero] <;> rfl) ?_
  refine wpL_v (v := .tuple #[.agg (frcC false 0 0), .int .i64 2]) rfl (by kernel_rfl) rfl (yb_call (f := 12) (args := #[.agg (frcC sx nx 0), .agg (frcC sx nx dx)]) (fun _ => by kernel_rfl) fun W hW => HP0.out W) (by simp only [List.setIfInBounds_toArray, List.set_cons_succ, List.set_cons_zero] <;> rfl) ?_
  refine wpL_p (v := .tuple #[.agg (frcC false 0 0), .int .i64 2]) rfl (by kernel_rfl) rfl (fun _ => by kernel_rfl) (by simp only [List.setIfInBounds_toArray, List.set_cons_succ, List.set_cons_zero] <;> rfl) ?_
  refine wpL_p (v := .agg (frcC false 0 0)) rfl (by kernel_rfl) rfl (fun _ => by kernel_rfl) (by simp only [List.setIfInBounds_toArray, List.set_cons_succ, List.set_cons_zero] <;> rfl) ?_
  refine wpL_p (v := .int .i64 2) rfl (by kernel_rfl) rfl (fun _ => by kernel_rfl) (by simp only [List.setIfInBounds_toArray, List.set_cons_succ, List.set_cons_zero] <;> rfl) ?_
  refine wpL_new (fun g => .pointer (some ⟨g, 0, none⟩)) (obi := .cells (frcC false 0 0) 26 (0, 0)) rfl rfl (fun _ => by rw [frc_zero]; rfl) (fun _ => by simp only [List.setIfInBounds_toArray, List.set_cons_succ, List.set_cons_zero] <;> rfl) fun g5 Bg5 Fg5 => ?_
  try simp only [List.forall_mem_cons] at Fg5
  refine wpL_s [(g5, .cells (frcC false 0 0) 26 (0, 0)), (g4, .cells (frcC false 0 0) 26 (0, 0)), (g3, .cells #[.func (.func 12) #[] #[], .func (.func 13) #[] #[], .func (.func 15) #[] #[], .func (.func 17) #[] #[], .func (.func 25) #[] #[]] 31 (0, 0)), (g2, .cells (frcC sx nx 0) 26 (0, 0)), (g1, .cells (frcC sx nx dx) 26 (0, 0))] rfl rfl (st_f (neg := false) (n := 0) (d := 0) rfl (by kernel_rfl) (by kernel_rfl) (.head _) (by omega) size27 (List.forall_mem_cons.2 ⟨.inl rfl, (List.forall_mem_cons.2 ⟨.inr ⟨(.tail _ (.head _)), Fg5.1⟩, (List.forall_mem_cons.2 ⟨.inr ⟨(.tail _ (.tail _ (.head _))), Fg5.2.1⟩, (List.forall_mem_cons.2 ⟨.inr ⟨(.tail _ (.tail _ (.tail _ (.head _)))), Fg5.2.2.1⟩, (List.forall_mem_cons.2 ⟨.inr ⟨(.tail _ (.tail _ (.tail _ (.tail _ (.head _))))), Fg5.2.2.2.1⟩, (List.forall_mem_nil _)⟩)⟩)⟩)⟩)⟩)) ?_
  refine wpL_p (v := .int .i64 2) rfl (by kernel_rfl) rfl (fun _ => by kernel_rfl) (by simp only [List.setIfInBounds_toArray, List.set_cons_succ, List.set_cons_zero] <;> rfl) ?_
  refine wpL_done (fun W14 hW14 => ?_)
  clear hW13
  refine (show Code.wp _ _ _ _ _ from ?_)
  refine wp_seq ?_
  refine wp_region_L (W0 := w) [(g5, .cells (frcC false 0 0) 26 (0, 0)), (g4, .cells (frcC false 0 0) 26 (0, 0)), (g3, .cells #[.func (.func 12) #[] #[], .func (.func 13) #[] #[], .func (.func 15) #[] #[], .func (.func 17) #[] #[], .func (.func 25) #[] #[]] 31 (0, 0)), (g2, .cells (frcC sx nx 0) 26 (0, 0)), (g1, .cells (frcC sx nx dx) 26 (0, 0))] (hW14) ?_
  refine wpL_p (v := .int .i64 2) rfl (by kernel_rfl) rfl (fun _ => by kernel_rfl) (by simp only [List.setIfInBounds_toArray, List.set_cons_succ, List.set_cons_zero] <;> rfl) ?_
  refine wpL_p (v := .bool false) rfl (by kernel_rfl) rfl (fun _ => by kernel_rfl) (by simp only [List.setIfInBounds_toArray, List.set_cons_succ, List.set_cons_zero] <;> rfl) ?_
  refine wpL_p (v := .bool false) rfl (by kernel_rfl) rfl (fun _ => by kernel_rfl) (by simp only [List.setIfInBounds_toArray, List.set_cons_succ, List.set_cons_zero] <;> rfl) ?_
  refine wpL_p (v := .int .i64 2) rfl (by kernel_rfl) rfl (fun _ => by kernel_rfl) (by simp only [List.setIfInBounds_toArray, List.set_cons_succ, List.set_cons_zero] <;> rfl) ?_
  refine wpL_p (v := .bool false) rfl (by kernel_rfl) rfl (fun _ => by kernel_rfl) (by simp only [List.setIfInBounds_toArray, List.set_cons_succ, List.set_cons_zero] <;> rfl) ?_
  refine wpL_p (v := .bool false) rfl (by kernel_rfl) rfl (fun _ => by kernel_rfl) (by simp only [List.setIfInBounds_toArray, List.set_cons_succ, List.set_cons_zero] <;> rfl) ?_
  refine wpL_p (v := .bool false) rfl (by kernel_rfl) rfl (fun _ => by kernel_rfl) (by simp only [List.setIfInBounds_toArray, List.set_cons_succ, List.set_cons_zero] <;> rfl) ?_
  refine wpL_v (v := .agg (frcC false 0 0)) rfl (by kernel_rfl) rfl (yb_load rfl (by kernel_rfl) (.tail _ (.head _)) Tryd.underlying26 rfl size27 (by simp) (frc_whole false 0 0)) (by simp only [List.setIfInBounds_toArray, List.set_cons_succ, List.set_cons_zero] <;> rfl) ?_
  refine wpL_p (v := .agg (frcC false 0 0)) rfl (by kernel_rfl) rfl (fun _ => by kernel_rfl) (by simp only [List.setIfInBounds_toArray, List.set_cons_succ, List.set_cons_zero] <;> rfl) ?_
  refine wpL_p (v := .bool false) rfl (by kernel_rfl) rfl (run_bin rfl (vx := .agg (frcC false 0 0)) (vy := .agg (frcC false 0 0)) (by kernel_rfl) (by kernel_rfl) fun w => run_neq27s (lt8 (by omega)) (lt8 (by omega)) w) (by simp only [List.setIfInBounds_toArray, List.set_cons_succ, List.set_cons_zero] <;> rfl) ?_
  refine wpL_p (v := .bool false) rfl (by kernel_rfl) rfl (fun _ => by kernel_rfl) (by simp only [List.setIfInBounds_toArray, List.set_cons_succ, List.set_cons_zero] <;> rfl) ?_
  refine wpL_p (v := .bool false) rfl (by kernel_rfl) rfl (fun _ => by kernel_rfl) (by simp only [List.setIfInBounds_toArray, List.set_cons_succ, List.set_cons_zero] <;> rfl) ?_
  refine wpL_v (v := .agg (frcC false 0 0)) rfl (by kernel_rfl) rfl (yb_load rfl (by kernel_rfl) (.head _) Tryd.underlying26 rfl size27 (by simp) (frc_whole false 0 0)) (by simp only [List.setIfInBounds_toArray, List.set_cons_succ, List.set_cons_zero] <;> rfl) ?_
  refine wpL_p (v := .agg (frcC false 0 0)) rfl (by kernel_rfl) rfl (fun _ => by kernel_rfl) (by simp only [List.setIfInBounds_toArray, List.set_cons_succ, List.set_cons_zero] <;> rfl) ?_
  refine wpL_p (v := .bool false) rfl (by kernel_rfl) rfl (run_bin rfl (vx := .agg (frcC false 0 0)) (vy := .agg (frcC false 0 0)) (by kernel_rfl) (by kernel_rfl) fun w => run_neq27s (lt8 (by omega)) (lt8 (by omega)) w) (by simp only [List.setIfInBounds_toArray, List.set_cons_succ, List.set_cons_zero] <;> rfl) ?_
  refine wpL_p (v := .bool false) rfl (by kernel_rfl) rfl (fun _ => by kernel_rfl) (by simp only [List.setIfInBounds_toArray, List.set_cons_succ, List.set_cons_zero] <;> rfl) ?_
  refine wpL_done (fun W15 hW15 => ?_)
  clear hW14
  refine (show Code.wp _ _ _ _ _ from ?_)
  refine wp_cond_false rfl ?_
  refine wp_skip ?_
  refine (show Code.wp _ _ _ _ _ from ?_)
  refine wp_region_L (W0 := w) [(g5, .cells (frcC false 0 0) 26 (0, 0)), (g4, .cells (frcC false 0 0) 26 (0, 0)), (g3, .cells #[.func (.func 12) #[] #[], .func (.func 13) #[] #[], .func (.func 15) #[] #[], .func (.func 17) #[] #[], .func (.func 25) #[] #[]] 31 (0, 0)), (g2, .cells (frcC sx nx 0) 26 (0, 0)), (g1, .cells (frcC sx nx dx) 26 (0, 0))] (hW15) ?_
  refine wpL_p (v := .int .i64 1) rfl (by kernel_rfl) rfl (fun _ => by kernel_rfl) (by simp only [List.setIfInBounds_toArray, List.set_cons_succ, List.set_cons_zero] <;> rfl) ?_
  refine wpL_p (v := .int .i64 1) rfl (by kernel_rfl) rfl (fun _ => by kernel_rfl) (by simp only [List.setIfInBounds_toArray, List.set_cons_succ, List.set_cons_zero] <;> rfl) ?_
  refine wpL_done (fun W16 hW16 => ?_)
  clear hW15
  refine (show Code.wp _ _ _ _ _ from ?_)
  refine wp_seq ?_
  refine wp_region_L (W0 := w) [(g5, .cells (frcC false 0 0) 26 (0, 0)), (g4, .cells (frcC false 0 0) 26 (0, 0)), (g3, .cells #[.func (.func 12) #[] #[], .func (.func 13) #[] #[], .func (.func 15) #[] #[], .func (.func 17) #[] #[], .func (.func 25) #[] #[]] 31 (0, 0)), (g2, .cells (frcC sx nx 0) 26 (0, 0)), (g1, .cells (frcC sx nx dx) 26 (0, 0))] (hW16) ?_
  refine wpL_p (v := .bool true) rfl (by kernel_rfl) rfl (fun _ => by kernel_rfl) (by simp only [List.setIfInBounds_toArray, List.set_cons_succ, List.set_cons_zero] <;> rfl) ?_
  refine wpL_done (fun W17 hW17 => ?_)
  clear hW16
  refine (show Code.wp _ _ _ _ _ from ?_)
  refine wp_seq ?_
  refine wp_cond_true rfl ?_
  refine wp_skip ?_
  refine (show Code.wp _ _ _ _ _ from ?_)
  refine wp_seq ?_
  refine wp_block ?_
  refine wp_seq ?_
  refine wp_region_L (W0 := w) [(g5, .cells (frcC false 0 0) 26 (0, 0)), (g4, .cells (frcC false 0 0) 26 (0, 0)), (g3, .cells #[.func (.func 12) #[] #[], .func (.func 13) #[] #[], .func (.func 15) #[] #[], .func (.func 17) #[] #[], .func (.func 25) #[] #[]] 31 (0, 0)), (g2, .cells (frcC sx nx 0) 26 (0, 0)), (g1, .cells (frcC sx nx dx) 26 (0, 0))] (hW17) ?_
  refine wpL_p (v := .pointer (some ⟨g3, 1, none⟩)) rfl (by kernel_rfl) rfl (fun _ => by kernel_rfl) (by simp only [List.setIfInBounds_toArray, List.set_cons_succ, List.set_cons_zero] <;> rfl) ?_
  refine wpL_v (v := .func (.func 13) #[] #[]) rfl (by kernel_rfl) rfl (yb_loadc (off := 1) rfl (by kernel_rfl) (.tail _ (.tail _ (.head _))) Tryd.underlying31 rfl (by kernel_rfl)) (by simp only [List.setIfInBounds_toArray, List.set_cons_succ, List.set_cons_zero] <;> rfl) ?_
  refine wpL_p (v := .func (.func 13) #[] #[]) rfl (by kernel_rfl) rfl (fun _ => by kernel_rfl) (by simp only [List.setIfInBounds_toArray, List.set_cons_succ, List.set_cons_zero] <;> rfl) ?_
  refine wpL_done (fun W18 hW18 => ?_)
  clear hW17
  refine (show Code.wp _ _ _ _ _ from ?_)
  refine wp_seq ?_
  refine wp_region_L (W0 := w) [(g5, .cells (frcC false 0 0) 26 (0, 0)), (g4, .cells (frcC false 0 0) 26 (0, 0)), (g3, .cells #[.func (.func 12) #[] #[], .func (.func 13) #[] #[], .func (.func 15) #[] #[], .func (.func 17) #[] #[], .func (.func 25) #[] #[]] 31 (0, 0)), (g2, .cells (frcC sx nx 0) 26 (0, 0)), (g1, .cells (frcC sx nx dx) 26 (0, 0))] (hW18) ?_
  refine wpL_p (v := .func (.func 13) #[] #[]) rfl (by kernel_rfl) rfl (fun _ => by kernel_rfl) (by simp only [List.setIfInBounds_toArray, List.set_cons_succ, List.set_cons_zero] <;> rfl) ?_
  refine wpL_v (v := .agg (frcC sx nx dx)) rfl (by kernel_rfl) rfl (yb_load rfl (by kernel_rfl) (.tail _ (.tail _ (.tail _ (.tail _ (.head _))))) Tryd.underlying26 rfl size27 (by simp) (frc_whole sx nx dx)) (by simp only [List.setIfInBounds_toArray, List.set_cons_succ, List.set_cons_zero] <;> rfl) ?_
  refine wpL_v (v := .agg (frcC sx nx 0)) rfl (by kernel_rfl) rfl (yb_load rfl (by kernel_rfl) (.tail _ (.tail _ (.tail _ (.head _)))) Tryd.underlying26 rfl size27 (by simp) (frc_whole sx nx 0)) (by simp only [List.setIfInBounds_toArray, List.set_cons_succ, List.set_cons_zero] <;> rfl) ?_
  refine wpL_v (v := .tuple #[.agg (frcC false 0 0), .int .i64 2]) rfl (by kernel_rfl) rfl (yb_call (f := 13) (args := #[.agg (frcC sx nx dx), .agg (frcC sx nx 0)]) (fun _ => by kernel_rfl) fun W hW => HO1.out W) (by simp only [List.setIfInBounds_toArray, List.set_cons_succ, List.set_cons_zero] <;> rfl) ?_
  refine wpL_p (v := .tuple #[.agg (frcC false 0 0), .int .i64 2]) rfl (by kernel_rfl) rfl (fun _ => by kernel_rfl) (by simp only [List.setIfInBounds_toArray, List.set_cons_succ, List.set_cons_zero] <;> rfl) ?_
  refine wpL_p (v := .agg (frcC false 0 0)) rfl (by kernel_rfl) rfl (fun _ => by kernel_rfl) (by simp only [List.setIfInBounds_toArray, List.set_cons_succ, List.set_cons_zero] <;> rfl) ?_
  refine wpL_p (v := .int .i64 2) rfl (by kernel_rfl) rfl (fun _ => by kernel_rfl) (by simp only [List.setIfInBounds_toArray, List.set_cons_succ, List.set_cons_zero] <;> rfl) ?_
  refine wpL_new (fun g => .pointer (some ⟨g, 0, none⟩)) (obi := .cells (frcC false 0 0) 26 (0, 0)) rfl rfl (fun _ => by rw [frc_zero]; rfl) (fun _ => by simp only [List.setIfInBounds_toArray, List.set_cons_succ, List.set_cons_zero] <;> rfl) fun g6 Bg6 Fg6 => ?_
  try simp only [List.forall_mem_cons] at Fg6
  refine wpL_s [(g6, .cells (frcC false 0 0) 26 (0, 0)), (g5, .cells (frcC false 0 0) 26 (0, 0)), (g4, .cells (frcC false 0 0) 26 (0, 0)), (g3, .cells #[.func (.func 12) #[] #[], .func (.func 13) #[] #[], .func (.func 15) #[] #[], .func (.func 17) #[] #[], .func (.func 25) #[] #[]] 31 (0, 0)), (g2, .cells (frcC sx nx 0) 26 (0, 0)), (g1, .cells (frcC sx nx dx) 26 (0, 0))] rfl rfl (st_f (neg := false) (n := 0) (d := 0) rfl (by kernel_rfl) (by kernel_rfl) (.head _) (by omega) size27 (List.forall_mem_cons.2 ⟨.inl rfl, (List.forall_mem_cons.2 ⟨.inr ⟨(.tail _ (.head _)), Fg6.1⟩, (List.forall_mem_cons.2 ⟨.inr ⟨(.tail _ (.tail _ (.head _))), Fg6.2.1⟩, (List.forall_mem_cons.2 ⟨.inr ⟨(.tail _ (.tail _ (.tail _ (.head _)))), Fg6.2.2.1⟩, (List.forall_mem_cons.2 ⟨.inr ⟨(.tail _ (.tail _ (.tail _ (.tail _ (.head _))))), Fg6.2.2.2.1⟩, (List.forall_mem_cons.2 ⟨.inr ⟨(.tail _ (.tail _ (.tail _ (.tail _ (.tail _ (.head _)))))), Fg6.2.2.2.2.1⟩, (List.forall_mem_nil _)⟩)⟩)⟩)⟩)⟩)⟩)) ?_
  refine wpL_p (v := .int .i64 2) rfl (by kernel_rfl) rfl (fun _ => by kernel_rfl) (by simp only [List.setIfInBounds_toArray, List.set_cons_succ, List.set_cons_zero] <;> rfl) ?_
  refine wpL_done (fun W19 hW19 => ?_)
  clear hW18
  refine (show Code.wp _ _ _ _ _ from ?_)
  refine wp_seq ?_
  refine wp_region_L (W0 := w) [(g6, .cells (frcC false 0 0) 26 (0, 0)), (g5, .cells (frcC false 0 0) 26 (0, 0)), (g4, .cells (frcC false 0 0) 26 (0, 0)), (g3, .cells #[.func (.func 12) #[] #[], .func (.func 13) #[] #[], .func (.func 15) #[] #[], .func (.func 17) #[] #[], .func (.func 25) #[] #[]] 31 (0, 0)), (g2, .cells (frcC sx nx 0) 26 (0, 0)), (g1, .cells (frcC sx nx dx) 26 (0, 0))] (hW19) ?_
  refine wpL_p (v := .func (.func 13) #[] #[]) rfl (by kernel_rfl) rfl (fun _ => by kernel_rfl) (by simp only [List.setIfInBounds_toArray, List.set_cons_succ, List.set_cons_zero] <;> rfl) ?_
  refine wpL_v (v := .agg (frcC sx nx 0)) rfl (by kernel_rfl) rfl (yb_load rfl (by kernel_rfl) (.tail _ (.tail _ (.tail _ (.tail _ (.head _))))) Tryd.underlying26 rfl size27 (by simp) (frc_whole sx nx 0)) (by simp only [List.setIfInBounds_toArray, List.set_cons_succ, List.set_cons_zero] <;> rfl) ?_
  refine wpL_v (v := .agg (frcC sx nx dx)) rfl (by kernel_rfl) rfl (yb_load rfl (by kernel_rfl) (.tail _ (.tail _ (.tail _ (.tail _ (.tail _ (.head _)))))) Tryd.underlying26 rfl size27 (by simp) (frc_whole sx nx dx)) (by simp only [List.setIfInBounds_toArray, List.set_cons_succ, List.set_cons_zero] <;> rfl) ?_
  refine wpL_v (v := .tuple #[.agg (frcC false 0 0), .int .i64 2]) rfl (by kernel_rfl) rfl (yb_call (f := 13) (args := #[.agg (frcC sx nx 0), .agg (frcC sx nx dx)]) (fun _ => by kernel_rfl) fun W hW => HP1.out W) (by simp only [List.setIfInBounds_toArray, List.set_cons_succ, List.set_cons_zero] <;> rfl) ?_
  refine wpL_p (v := .tuple #[.agg (frcC false 0 0), .int .i64 2]) rfl (by kernel_rfl) rfl (fun _ => by kernel_rfl) (by simp only [List.setIfInBounds_toArray, List.set_cons_succ, List.set_cons_zero] <;> rfl) ?_
  refine wpL_p (v := .agg (frcC false 0 0)) rfl (by kernel_rfl) rfl (fun _ => by kernel_rfl) (by simp only [List.setIfInBounds_toArray, List.set_cons_succ, List.set_cons_zero] <;> rfl) ?_
  refine wpL_p (v := .int .i64 2) rfl (by kernel_rfl) rfl (fun _ => by kernel_rfl) (by simp only [List.setIfInBounds_toArray, List.set_cons_succ, List.set_cons_zero] <;> rfl) ?_
  refine wpL_new (fun g => .pointer (some ⟨g, 0, none⟩)) (obi := .cells (frcC false 0 0) 26 (0, 0)) rfl rfl (fun _ => by rw [frc_zero]; rfl) (fun _ => by simp only [List.setIfInBounds_toArray, List.set_cons_succ, List.set_cons_zero] <;> rfl) fun g7 Bg7 Fg7 => ?_
  try simp only [List.forall_mem_cons] at Fg7
  refine wpL_s [(g7, .cells (frcC false 0 0) 26 (0, 0)), (g6, .cells (frcC false 0 0) 26 (0, 0)), (g5, .cells (frcC false 0 0) 26 (0, 0)), (g4, .cells (frcC false 0 0) 26 (0, 0)), (g3, .cells #[.func (.func 12) #[] #[], .func (.func 13) #[] #[], .func (.func 15) #[] #[], .func (.func 17) #[] #[], .func (.func 25) #[] #[]] 31 (0, 0)), (g2, .cells (frcC sx nx 0) 26 (0, 0)), (g1, .cells (frcC sx nx dx) 26 (0, 0))] rfl rfl (st_f (neg := false) (n := 0) (d := 0) rfl (by kernel_rfl) (by kernel_rfl) (.head _) (by omega) size27 (List.forall_mem_cons.2 ⟨.inl rfl, (List.forall_mem_cons.2 ⟨.inr ⟨(.tail _ (.head _)), Fg7.1⟩, (List.forall_mem_cons.2 ⟨.inr ⟨(.tail _ (.tail _ (.head _))), Fg7.2.1⟩, (List.forall_mem_cons.2 ⟨.inr ⟨(.tail _ (.tail _ (.tail _ (.head _)))), Fg7.2.2.1⟩, (List.forall_mem_cons.2 ⟨.inr ⟨(.tail _ (.tail _ (.tail _ (.tail _ (.head _))))), Fg7.2.2.2.1⟩, (List.forall_mem_cons.2 ⟨.inr ⟨(.tail _ (.tail _ (.tail _ (.tail _ (.tail _ (.head _)))))), Fg7.2.2.2.2.1⟩, (List.forall_mem_cons.2 ⟨.inr ⟨(.tail _ (.tail _ (.tail _ (.tail _ (.tail _ (.tail _ (.head _))))))), Fg7.2.2.2.2.2.1⟩, (List.forall_mem_nil _)⟩)⟩)⟩)⟩)⟩)⟩)⟩)) ?_
  refine wpL_p (v := .int .i64 2) rfl (by kernel_rfl) rfl (fun _ => by kernel_rfl) (by simp only [List.setIfInBounds_toArray, List.set_cons_succ, List.set_cons_zero] <;> rfl) ?_
  refine wpL_done (fun W20 hW20 => ?_)
  clear hW19
  refine (show Code.wp _ _ _ _ _ from ?_)
  refine wp_seq ?_
  refine wp_region_L (W0 := w) [(g7, .cells (frcC false 0 0) 26 (0, 0)), (g6, .cells (frcC false 0 0) 26 (0, 0)), (g5, .cells (frcC false 0 0) 26 (0, 0)), (g4, .cells (frcC false 0 0) 26 (0, 0)), (g3, .cells #[.func (.func 12) #[] #[], .func (.func 13) #[] #[], .func (.func 15) #[] #[], .func (.func 17) #[] #[], .func (.func 25) #[] #[]] 31 (0, 0)), (g2, .cells (frcC sx nx 0) 26 (0, 0)), (g1, .cells (frcC sx nx dx) 26 (0, 0))] (hW20) ?_
  refine wpL_p (v := .int .i64 2) rfl (by kernel_rfl) rfl (fun _ => by kernel_rfl) (by simp only [List.setIfInBounds_toArray, List.set_cons_succ, List.set_cons_zero] <;> rfl) ?_
  refine wpL_p (v := .bool false) rfl (by kernel_rfl) rfl (fun _ => by kernel_rfl) (by simp only [List.setIfInBounds_toArray, List.set_cons_succ, List.set_cons_zero] <;> rfl) ?_
  refine wpL_p (v := .bool false) rfl (by kernel_rfl) rfl (fun _ => by kernel_rfl) (by simp only [List.setIfInBounds_toArray, List.set_cons_succ, List.set_cons_zero] <;> rfl) ?_
  refine wpL_p (v := .int .i64 2) rfl (by kernel_rfl) rfl (fun _ => by kernel_rfl) (by simp only [List.setIfInBounds_toArray, List.set_cons_succ, List.set_cons_zero] <;> rfl) ?_
  refine wpL_p (v := .bool false) rfl (by kernel_rfl) rfl (fun _ => by kernel_rfl) (by simp only [List.setIfInBounds_toArray, List.set_cons_succ, List.set_cons_zero] <;> rfl) ?_
  refine wpL_p (v := .bool false) rfl (by kernel_rfl) rfl (fun _ => by kernel_rfl) (by simp only [List.setIfInBounds_toArray, List.set_cons_succ, List.set_cons_zero] <;> rfl) ?_
  refine wpL_p (v := .bool false) rfl (by kernel_rfl) rfl (fun _ => by kernel_rfl) (by simp only [List.setIfInBounds_toArray, List.set_cons_succ, List.set_cons_zero] <;> rfl) ?_
  refine wpL_v (v := .agg (frcC false 0 0)) rfl (by kernel_rfl) rfl (yb_load rfl (by kernel_rfl) (.tail _ (.head _)) Tryd.underlying26 rfl size27 (by simp) (frc_whole false 0 0)) (by simp only [List.setIfInBounds_toArray, List.set_cons_succ, List.set_cons_zero] <;> rfl) ?_
  refine wpL_p (v := .agg (frcC false 0 0)) rfl (by kernel_rfl) rfl (fun _ => by kernel_rfl) (by simp only [List.setIfInBounds_toArray, List.set_cons_succ, List.set_cons_zero] <;> rfl) ?_
  refine wpL_p (v := .bool false) rfl (by kernel_rfl) rfl (run_bin rfl (vx := .agg (frcC false 0 0)) (vy := .agg (frcC false 0 0)) (by kernel_rfl) (by kernel_rfl) fun w => run_neq27s (lt8 (by omega)) (lt8 (by omega)) w) (by simp only [List.setIfInBounds_toArray, List.set_cons_succ, List.set_cons_zero] <;> rfl) ?_
  refine wpL_p (v := .bool false) rfl (by kernel_rfl) rfl (fun _ => by kernel_rfl) (by simp only [List.setIfInBounds_toArray, List.set_cons_succ, List.set_cons_zero] <;> rfl) ?_
  refine wpL_p (v := .bool false) rfl (by kernel_rfl) rfl (fun _ => by kernel_rfl) (by simp only [List.setIfInBounds_toArray, List.set_cons_succ, List.set_cons_zero] <;> rfl) ?_
  refine wpL_v (v := .agg (frcC false 0 0)) rfl (by kernel_rfl) rfl (yb_load rfl (by kernel_rfl) (.head _) Tryd.underlying26 rfl size27 (by simp) (frc_whole false 0 0)) (by simp only [List.setIfInBounds_toArray, List.set_cons_succ, List.set_cons_zero] <;> rfl) ?_
  refine wpL_p (v := .agg (frcC false 0 0)) rfl (by kernel_rfl) rfl (fun _ => by kernel_rfl) (by simp only [List.setIfInBounds_toArray, List.set_cons_succ, List.set_cons_zero] <;> rfl) ?_
  refine wpL_p (v := .bool false) rfl (by kernel_rfl) rfl (run_bin rfl (vx := .agg (frcC false 0 0)) (vy := .agg (frcC false 0 0)) (by kernel_rfl) (by kernel_rfl) fun w => run_neq27s (lt8 (by omega)) (lt8 (by omega)) w) (by simp only [List.setIfInBounds_toArray, List.set_cons_succ, List.set_cons_zero] <;> rfl) ?_
  refine wpL_p (v := .bool false) rfl (by kernel_rfl) rfl (fun _ => by kernel_rfl) (by simp only [List.setIfInBounds_toArray, List.set_cons_succ, List.set_cons_zero] <;> rfl) ?_
  refine wpL_done (fun W21 hW21 => ?_)
  clear hW20
  refine (show Code.wp _ _ _ _ _ from ?_)
  refine wp_cond_false rfl ?_
  refine wp_skip ?_
  refine (show Code.wp _ _ _ _ _ from ?_)
  refine wp_region_L (W0 := w) [(g7, .cells (frcC false 0 0) 26 (0, 0)), (g6, .cells (frcC false 0 0) 26 (0, 0)), (g5, .cells (frcC false 0 0) 26 (0, 0)), (g4, .cells (frcC false 0 0) 26 (0, 0)), (g3, .cells #[.func (.func 12) #[] #[], .func (.func 13) #[] #[], .func (.func 15) #[] #[], .func (.func 17) #[] #[], .func (.func 25) #[] #[]] 31 (0, 0)), (g2, .cells (frcC sx nx 0) 26 (0, 0)), (g1, .cells (frcC sx nx dx) 26 (0, 0))] (hW21) ?_
  refine wpL_p (v := .int .i64 2) rfl (by kernel_rfl) rfl (fun _ => by kernel_rfl) (by simp only [List.setIfInBounds_toArray, List.set_cons_succ, List.set_cons_zero] <;> rfl) ?_
  refine wpL_p (v := .int .i64 2) rfl (by kernel_rfl) rfl (fun _ => by kernel_rfl) (by simp only [List.setIfInBounds_toArray, List.set_cons_succ, List.set_cons_zero] <;> rfl) ?_
  refine wpL_done (fun W22 hW22 => ?_)
  clear hW21
  refine (show Code.wp _ _ _ _ _ from ?_)
  refine wp_seq ?_
  refine wp_region_L (W0 := w) [(g7, .cells (frcC false 0 0) 26 (0, 0)), (g6, .cells (frcC false 0 0) 26 (0, 0)), (g5, .cells (frcC false 0 0) 26 (0, 0)), (g4, .cells (frcC false 0 0) 26 (0, 0)), (g3, .cells #[.func (.func 12) #[] #[], .func (.func 13) #[] #[], .func (.func 15) #[] #[], .func (.func 17) #[] #[], .func (.func 25) #[] #[]] 31 (0, 0)), (g2, .cells (frcC sx nx 0) 26 (0, 0)), (g1, .cells (frcC sx nx dx) 26 (0, 0))] (hW22) ?_
  refine wpL_p (v := .bool true) rfl (by kernel_rfl) rfl (fun _ => by kernel_rfl) (by simp only [List.setIfInBounds_toArray, List.set_cons_succ, List.set_cons_zero] <;> rfl) ?_
  refine wpL_done (fun W23 hW23 => ?_)
  clear hW22
  refine (show Code.wp _ _ _ _ _ from ?_)
  refine wp_seq ?_
  refine wp_cond_true rfl ?_
  refine wp_skip ?_
  refine (show Code.wp _ _ _ _ _ from ?_)
  refine wp_seq ?_
  refine wp_block ?_
  refine wp_seq ?_
  refine wp_region_L (W0 := w) [(g7, .cells (frcC false 0 0) 26 (0, 0)), (g6, .cells (frcC false 0 0) 26 (0, 0)), (g5, .cells (frcC false 0 0) 26 (0, 0)), (g4, .cells (frcC false 0 0) 26 (0, 0)), (g3, .cells #[.func (.func 12) #[] #[], .func (.func 13) #[] #[], .func (.func 15) #[] #[], .func (.func 17) #[] #[], .func (.func 25) #[] #[]] 31 (0, 0)), (g2, .cells (frcC sx nx 0) 26 (0, 0)), (g1, .cells (frcC sx nx dx) 26 (0, 0))] (hW23) ?_
  refine wpL_p (v := .pointer (some ⟨g3, 2, none⟩)) rfl (by kernel_rfl) rfl (fun _ => by kernel_rfl) (by simp only [List.setIfInBounds_toArray, List.set_cons_succ, List.set_cons_zero] <;> rfl) ?_
  refine wpL_v (v := .func (.func 15) #[] #[]) rfl (by kernel_rfl) rfl (yb_loadc (off := 2) rfl (by kernel_rfl) (.tail _ (.tail _ (.tail _ (.tail _ (.head _))))) Tryd.underlying31 rfl (by kernel_rfl)) (by simp only [List.setIfInBounds_toArray, List.set_cons_succ, List.set_cons_zero] <;> rfl) ?_
  refine wpL_p (v := .func (.func 15) #[] #[]) rfl (by kernel_rfl) rfl (fun _ => by kernel_rfl) (by simp only [List.setIfInBounds_toArray, List.set_cons_succ, List.set_cons_zero] <;> rfl) ?_
  refine wpL_done (fun W24 hW24 => ?_)
  clear hW23
  refine (show Code.wp _ _ _ _ _ from ?_)
  refine wp_seq ?_
  refine wp_region_L (W0 := w) [(g7, .cells (frcC false 0 0) 26 (0, 0)), (g6, .cells (frcC false 0 0) 26 (0, 0)), (g5, .cells (frcC false 0 0) 26 (0, 0)), (g4, .cells (frcC false 0 0) 26 (0, 0)), (g3, .cells #[.func (.func 12) #[] #[], .func (.func 13) #[] #[], .func (.func 15) #[] #[], .func (.func 17) #[] #[], .func (.func 25) #[] #[]] 31 (0, 0)), (g2, .cells (frcC sx nx 0) 26 (0, 0)), (g1, .cells (frcC sx nx dx) 26 (0, 0))] (hW24) ?_
  refine wpL_p (v := .func (.func 15) #[] #[]) rfl (by kernel_rfl) rfl (fun _ => by kernel_rfl) (by simp only [List.setIfInBounds_toArray, List.set_cons_succ, List.set_cons_zero] <;> rfl) ?_
  refine wpL_v (v := .agg (frcC sx nx dx)) rfl (by kernel_rfl) rfl (yb_load rfl (by kernel_rfl) (.tail _ (.tail _ (.tail _ (.tail _ (.tail _ (.tail _ (.head _))))))) Tryd.underlying26 rfl size27 (by simp) (frc_whole sx nx dx)) (by simp only [List.setIfInBounds_toArray, List.set_cons_succ, List.set_cons_zero] <;> rfl) ?_
  refine wpL_v (v := .agg (frcC sx nx 0)) rfl (by kernel_rfl) rfl (yb_load rfl (by kernel_rfl) (.tail _ (.tail _ (.tail _ (.tail _ (.tail _ (.head _)))))) Tryd.underlying26 rfl size27 (by simp) (frc_whole sx nx 0)) (by simp only [List.setIfInBounds_toArray, List.set_cons_succ, List.set_cons_zero] <;> rfl) ?_
  refine wpL_v (v := .tuple #[.agg (frcC false 0 0), .int .i64 2]) rfl (by kernel_rfl) rfl (yb_call (f := 15) (args := #[.agg (frcC sx nx dx), .agg (frcC sx nx 0)]) (fun _ => by kernel_rfl) fun W hW => HO2.out W) (by simp only [List.setIfInBounds_toArray, List.set_cons_succ, List.set_cons_zero] <;> rfl) ?_
  refine wpL_p (v := .tuple #[.agg (frcC false 0 0), .int .i64 2]) rfl (by kernel_rfl) rfl (fun _ => by kernel_rfl) (by simp only [List.setIfInBounds_toArray, List.set_cons_succ, List.set_cons_zero] <;> rfl) ?_
  refine wpL_p (v := .agg (frcC false 0 0)) rfl (by kernel_rfl) rfl (fun _ => by kernel_rfl) (by simp only [List.setIfInBounds_toArray, List.set_cons_succ, List.set_cons_zero] <;> rfl) ?_
  refine wpL_p (v := .int .i64 2) rfl (by kernel_rfl) rfl (fun _ => by kernel_rfl) (by simp only [List.setIfInBounds_toArray, List.set_cons_succ, List.set_cons_zero] <;> rfl) ?_
  refine wpL_new (fun g => .pointer (some ⟨g, 0, none⟩)) (obi := .cells (frcC false 0 0) 26 (0, 0)) rfl rfl (fun _ => by rw [frc_zero]; rfl) (fun _ => by simp only [List.setIfInBounds_toArray, List.set_cons_succ, List.set_cons_zero] <;> rfl) fun g8 Bg8 Fg8 => ?_
  try simp only [List.forall_mem_cons] at Fg8
  refine wpL_s [(g8, .cells (frcC false 0 0) 26 (0, 0)), (g7, .cells (frcC false 0 0) 26 (0, 0)), (g6, .cells (frcC false 0 0) 26 (0, 0)), (g5, .cells (frcC false 0 0) 26 (0, 0)), (g4, .cells (frcC false 0 0) 26 (0, 0)), (g3, .cells #[.func (.func 12) #[] #[], .func (.func 13) #[] #[], .func (.func 15) #[] #[], .func (.func 17) #[] #[], .func (.func 25) #[] #[]] 31 (0, 0)), (g2, .cells (frcC sx nx 0) 26 (0, 0)), (g1, .cells (frcC sx nx dx) 26 (0, 0))] rfl rfl (st_f (neg := false) (n := 0) (d := 0) rfl (by kernel_rfl) (by kernel_rfl) (.head _) (by omega) size27 (List.forall_mem_cons.2 ⟨.inl rfl, (List.forall_mem_cons.2 ⟨.inr ⟨(.tail _ (.head _)), Fg8.1⟩, (List.forall_mem_cons.2 ⟨.inr ⟨(.tail _ (.tail _ (.head _))), Fg8.2.1⟩, (List.forall_mem_cons.2 ⟨.inr ⟨(.tail _ (.tail _ (.tail _ (.head _)))), Fg8.2.2.1⟩, (List.forall_mem_cons.2 ⟨.inr ⟨(.tail _ (.tail _ (.tail _ (.tail _ (.head _))))), Fg8.2.2.2.1⟩, (List.forall_mem_cons.2 ⟨.inr ⟨(.tail _ (.tail _ (.tail _ (.tail _ (.tail _ (.head _)))))), Fg8.2.2.2.2.1⟩, (List.forall_mem_cons.2 ⟨.inr ⟨(.tail _ (.tail _ (.tail _ (.tail _ (.tail _ (.tail _ (.head _))))))), Fg8.2.2.2.2.2.1⟩, (List.forall_mem_cons.2 ⟨.inr ⟨(.tail _ (.tail _ (.tail _ (.tail _ (.tail _ (.tail _ (.tail _ (.head _)))))))), Fg8.2.2.2.2.2.2.1⟩, (List.forall_mem_nil _)⟩)⟩)⟩)⟩)⟩)⟩)⟩)⟩)) ?_
  refine wpL_p (v := .int .i64 2) rfl (by kernel_rfl) rfl (fun _ => by kernel_rfl) (by simp only [List.setIfInBounds_toArray, List.set_cons_succ, List.set_cons_zero] <;> rfl) ?_
  refine wpL_done (fun W25 hW25 => ?_)
  clear hW24
  refine (show Code.wp _ _ _ _ _ from ?_)
  refine wp_seq ?_
  refine wp_region_L (W0 := w) [(g8, .cells (frcC false 0 0) 26 (0, 0)), (g7, .cells (frcC false 0 0) 26 (0, 0)), (g6, .cells (frcC false 0 0) 26 (0, 0)), (g5, .cells (frcC false 0 0) 26 (0, 0)), (g4, .cells (frcC false 0 0) 26 (0, 0)), (g3, .cells #[.func (.func 12) #[] #[], .func (.func 13) #[] #[], .func (.func 15) #[] #[], .func (.func 17) #[] #[], .func (.func 25) #[] #[]] 31 (0, 0)), (g2, .cells (frcC sx nx 0) 26 (0, 0)), (g1, .cells (frcC sx nx dx) 26 (0, 0))] (hW25) ?_
  refine wpL_p (v := .func (.func 15) #[] #[]) rfl (by kernel_rfl) rfl (fun _ => by kernel_rfl) (by simp only [List.setIfInBounds_toArray, List.set_cons_succ, List.set_cons_zero] <;> rfl) ?_
  refine wpL_v (v := .agg (frcC sx nx 0)) rfl (by kernel_rfl) rfl (yb_load rfl (by kernel_rfl) (.tail _ (.tail _ (.tail _ (.tail _ (.tail _ (.tail _ (.head _))))))) Tryd.underlying26 rfl size27 (by simp) (frc_whole sx nx 0)) (by simp only [List.setIfInBounds_toArray, List.set_cons_succ, List.set_cons_zero] <;> rfl) ?_
  refine wpL_v (v := .agg (frcC sx nx dx)) rfl (by kernel_rfl) rfl (yb_load rfl (by kernel_rfl) (.tail _ (.tail _ (.tail _ (.tail _ (.tail _ (.tail _ (.tail _ (.head _)))))))) Tryd.underlying26 rfl size27 (by simp) (frc_whole sx nx dx)) (by simp only [List.setIfInBounds_toArray, List.set_cons_succ, List.set_cons_zero] <;> rfl) ?_
  refine wpL_v (v := .tuple #[.agg (frcC false 0 0), .int .i64 2]) rfl (by kernel_rfl) rfl (yb_call (f := 15) (args := #[.agg (frcC sx nx 0), .agg (frcC sx nx dx)]) (fun _ => by kernel_rfl) fun W hW => HP2.out W) (by simp only [List.setIfInBounds_toArray, List.set_cons_succ, List.set_cons_zero] <;> rfl) ?_
  refine wpL_p (v := .tuple #[.agg (frcC false 0 0), .int .i64 2]) rfl (by kernel_rfl) rfl (fun _ => by kernel_rfl) (by simp only [List.setIfInBounds_toArray, List.set_cons_succ, List.set_cons_zero] <;> rfl) ?_
  refine wpL_p (v := .agg (frcC false 0 0)) rfl (by kernel_rfl) rfl (fun _ => by kernel_rfl) (by simp only [List.setIfInBounds_toArray, List.set_cons_succ, List.set_cons_zero] <;> rfl) ?_
  refine wpL_p (v := .int .i64 2) rfl (by kernel_rfl) rfl (fun _ => by kernel_rfl) (by simp only [List.setIfInBounds_toArray, List.set_cons_succ, List.set_cons_zero] <;> rfl) ?_
  refine wpL_new (fun g => .pointer (some ⟨g, 0, none⟩)) (obi := .cells (frcC false 0 0) 26 (0, 0)) rfl rfl (fun _ => by rw [frc_zero]; rfl) (fun _ => by simp only [List.setIfInBounds_toArray, List.set_cons_succ, List.set_cons_zero] <;> rfl) fun g9 Bg9 Fg9 => ?_
  try simp only [List.forall_mem_cons] at Fg9
  refine wpL_s [(g9, .cells (frcC false 0 0) 26 (0, 0)), (g8, .cells (frcC false 0 0) 26 (0, 0)), (g7, .cells (frcC false 0 0) 26 (0, 0)), (g6, .cells (frcC false 0 0) 26 (0, 0)), (g5, .cells (frcC false 0 0) 26 (0, 0)), (g4, .cells (frcC false 0 0) 26 (0, 0)), (g3, .cells #[.func (.func 12) #[] #[], .func (.func 13) #[] #[], .func (.func 15) #[] #[], .func (.func 17) #[] #[], .func (.func 25) #[] #[]] 31 (0, 0)), (g2, .cells (frcC sx nx 0) 26 (0, 0)), (g1, .cells (frcC sx nx dx) 26 (0, 0))] rfl rfl (st_f (neg := false) (n := 0) (d := 0) rfl (by kernel_rfl) (by kernel_rfl) (.head _) (by omega) size27 (List.forall_mem_cons.2 ⟨.inl rfl, (List.forall_mem_cons.2 ⟨.inr ⟨(.tail _ (.head _)), Fg9.1⟩, (List.forall_mem_cons.2 ⟨.inr ⟨(.tail _ (.tail _ (.head _))), Fg9.2.1⟩, (List.forall_mem_cons.2 ⟨.inr ⟨(.tail _ (.tail _ (.tail _ (.head _)))), Fg9.2.2.1⟩, (List.forall_mem_cons.2 ⟨.inr ⟨(.tail _ (.tail _ (.tail _ (.tail _ (.head _))))), Fg9.2.2.2.1⟩, (List.forall_mem_cons.2 ⟨.inr ⟨(.tail _ (.tail _ (.tail _ (.tail _ (.tail _ (.head _)))))), Fg9.2.2.2.2.1⟩, (List.forall_mem_cons.2 ⟨.inr ⟨(.tail _ (.tail _ (.tail _ (.tail _ (.tail _ (.tail _ (.head _))))))), Fg9.2.2.2.2.2.1⟩, (List.forall_mem_cons.2 ⟨.inr ⟨(.tail _ (.tail _ (.tail _ (.tail _ (.tail _ (.tail _ (.tail _ (.head _)))))))), Fg9.2.2.2.2.2.2.1⟩, (List.forall_mem_cons.2 ⟨.inr ⟨(.tail _ (.tail _ (.tail _ (.tail _ (.tail _ (.tail _ (.tail _ (.tail _ (.head _))))))))), Fg9.2.2.2.2.2.2.2.1⟩, (List.forall_mem_nil _)⟩)⟩)⟩)⟩)⟩)⟩)⟩)⟩)⟩)) ?_
  refine wpL_p (v := .int .i64 2) rfl (by kernel_rfl) rfl (fun _ => by kernel_rfl) (by simp only [List.setIfInBounds_toArray, List.set_cons_succ, List.set_cons_zero] <;> rfl) ?_
  refine wpL_done (fun W26 hW26 => ?_)
  clear hW25
  refine (show Code.wp _ _ _ _ _ from ?_)
  refine wp_seq ?_
  refine wp_region_L (W0 := w) [(g9, .cells (frcC false 0 0) 26 (0, 0)), (g8, .cells (frcC false 0 0) 26 (0, 0)), (g7, .cells (frcC false 0 0) 26 (0, 0)), (g6, .cells (frcC false 0 0) 26 (0, 0)), (g5, .cells (frcC false 0 0) 26 (0, 0)), (g4, .cells (frcC false 0 0) 26 (0, 0)), (g3, .cells #[.func (.func 12) #[] #[], .func (.func 13) #[] #[], .func (.func 15) #[] #[], .func (.func 17) #[] #[], .func (.func 25) #[] #[]] 31 (0, 0)), (g2, .cells (frcC sx nx 0) 26 (0, 0)), (g1, .cells (frcC sx nx dx) 26 (0, 0))] (hW26) ?_
  refine wpL_p (v := .int .i64 2) rfl (by kernel_rfl) rfl (fun _ => by kernel_rfl) (by simp only [List.setIfInBounds_toArray, List.set_cons_succ, List.set_cons_zero] <;> rfl) ?_
  refine wpL_p (v := .bool false) rfl (by kernel_rfl) rfl (fun _ => by kernel_rfl) (by simp only [List.setIfInBounds_toArray, List.set_cons_succ, List.set_cons_zero] <;> rfl) ?_
  refine wpL_p (v := .bool false) rfl (by kernel_rfl) rfl (fun _ => by kernel_rfl) (by simp only [List.setIfInBounds_toArray, List.set_cons_succ, List.set_cons_zero] <;> rfl) ?_
  refine wpL_p (v := .int .i64 2) rfl (by kernel_rfl) rfl (fun _ => by kernel_rfl) (by simp only [List.setIfInBounds_toArray, List.set_cons_succ, List.set_cons_zero] <;> rfl) ?_
  refine wpL_p (v := .bool false) rfl (by kernel_rfl) rfl (fun _ => by kernel_rfl) (by simp only [List.setIfInBounds_toArray, List.set_cons_succ, List.set_cons_zero] <;> rfl) ?_
  refine wpL_p (v := .bool false) rfl (by kernel_rfl) rfl (fun _ => by kernel_rfl) (by simp only [List.setIfInBounds_toArray, List.set_cons_succ, List.set_cons_zero] <;> rfl) ?_
  refine wpL_p (v := .bool false) rfl (by kernel_rfl) rfl (fun _ => by kernel_rfl) (by simp only [List.setIfInBounds_toArray, List.set_cons_succ, List.set_cons_zero] <;> rfl) ?_
  refine wpL_v (v := .agg (frcC false 0 0)) rfl (by kernel_rfl) rfl (yb_load rfl (by kernel_rfl) (.tail _ (.head _)) Tryd.underlying26 rfl size27 (by simp) (frc_whole false 0 0)) (by simp only [List.setIfInBounds_toArray, List.set_cons_succ, List.set_cons_zero] <;> rfl) ?_
  refine wpL_p (v := .agg (frcC false 0 0)) rfl (by kernel_rfl) rfl (fun _ => by kernel_rfl) (by simp only [List.setIfInBounds_toArray, List.set_cons_succ, List.set_cons_zero] <;> rfl) ?_
  refine wpL_p (v := .bool false) rfl (by kernel_rfl) rfl (run_bin rfl (vx := .agg (frcC false 0 0)) (vy := .agg (frcC false 0 0)) (by kernel_rfl) (by kernel_rfl) fun w => run_neq27s (lt8 (by omega)) (lt8 (by omega)) w) (by simp only [List.setIfInBounds_toArray, List.set_cons_succ, List.set_cons_zero] <;> rfl) ?_
  refine wpL_p (v := .bool false) rfl (by kernel_rfl) rfl (fun _ => by kernel_rfl) (by simp only [List.setIfInBounds_toArray, List.set_cons_succ, List.set_cons_zero] <;> rfl) ?_
  refine wpL_p (v := .bool false) rfl (by kernel_rfl) rfl (fun _ => by kernel_rfl) (by simp only [List.setIfInBounds_toArray, List.set_cons_succ, List.set_cons_zero] <;> rfl) ?_
  refine wpL_v (v := .agg (frcC false 0 0)) rfl (by kernel_rfl) rfl (yb_load rfl (by kernel_rfl) (.head _) Tryd.underlying26 rfl size27 (by simp) (frc_whole false 0 0)) (by simp only [List.setIfInBounds_toArray, List.set_cons_succ, List.set_cons_zero] <;> rfl) ?_
  refine wpL_p (v := .agg (frcC false 0 0)) rfl (by kernel_rfl) rfl (fun _ => by kernel_rfl) (by simp only [List.setIfInBounds_toArray, List.set_cons_succ, List.set_cons_zero] <;> rfl) ?_
  refine wpL_p (v := .bool false) rfl (by kernel_rfl) rfl (run_bin rfl (vx := .agg (frcC false 0 0)) (vy := .agg (frcC false 0 0)) (by kernel_rfl) (by kernel_rfl) fun w => run_neq27s (lt8 (by omega)) (lt8 (by omega)) w) (by simp only [List.setIfInBounds_toArray, List.set_cons_succ, List.set_cons_zero] <;> rfl) ?_
  refine wpL_p (v := .bool false) rfl (by kernel_rfl) rfl (fun _ => by kernel_rfl) (by simp only [List.setIfInBounds_toArray, List.set_cons_succ, List.set_cons_zero] <;> rfl) ?_
  refine wpL_done (fun W27 hW27 => ?_)
  clear hW26
  refine (show Code.wp _ _ _ _ _ from ?_)
  refine wp_cond_false rfl ?_
  refine wp_skip ?_
  refine (show Code.wp _ _ _ _ _ from ?_)
  refine wp_region_L (W0 := w) [(g9, .cells (frcC false 0 0) 26 (0, 0)), (g8, .cells (frcC false 0 0) 26 (0, 0)), (g7, .cells (frcC false 0 0) 26 (0, 0)), (g6, .cells (frcC false 0 0) 26 (0, 0)), (g5, .cells (frcC false 0 0) 26 (0, 0)), (g4, .cells (frcC false 0 0) 26 (0, 0)), (g3, .cells #[.func (.func 12) #[] #[], .func (.func 13) #[] #[], .func (.func 15) #[] #[], .func (.func 17) #[] #[], .func (.func 25) #[] #[]] 31 (0, 0)), (g2, .cells (frcC sx nx 0) 26 (0, 0)), (g1, .cells (frcC sx nx dx) 26 (0, 0))] (hW27) ?_
  refine wpL_p (v := .int .i64 3) rfl (by kernel_rfl) rfl (fun _ => by kernel_rfl) (by simp only [List.setIfInBounds_toArray, List.set_cons_succ, List.set_cons_zero] <;> rfl) ?_
  refine wpL_p (v := .int .i64 3) rfl (by kernel_rfl) rfl (fun _ => by kernel_rfl) (by simp only [List.setIfInBounds_toArray, List.set_cons_succ, List.set_cons_zero] <;> rfl) ?_
  refine wpL_done (fun W28 hW28 => ?_)
  clear hW27
  refine (show Code.wp _ _ _ _ _ from ?_)
  refine wp_seq ?_
  refine wp_region_L (W0 := w) [(g9, .cells (frcC false 0 0) 26 (0, 0)), (g8, .cells (frcC false 0 0) 26 (0, 0)), (g7, .cells (frcC false 0 0) 26 (0, 0)), (g6, .cells (frcC false 0 0) 26 (0, 0)), (g5, .cells (frcC false 0 0) 26 (0, 0)), (g4, .cells (frcC false 0 0) 26 (0, 0)), (g3, .cells #[.func (.func 12) #[] #[], .func (.func 13) #[] #[], .func (.func 15) #[] #[], .func (.func 17) #[] #[], .func (.func 25) #[] #[]] 31 (0, 0)), (g2, .cells (frcC sx nx 0) 26 (0, 0)), (g1, .cells (frcC sx nx dx) 26 (0, 0))] (hW28) ?_
  refine wpL_p (v := .bool true) rfl (by kernel_rfl) rfl (fun _ => by kernel_rfl) (by simp only [List.setIfInBounds_toArray, List.set_cons_succ, List.set_cons_zero] <;> rfl) ?_
  refine wpL_done (fun W29 hW29 => ?_)
  clear hW28
  refine (show Code.wp _ _ _ _ _ from ?_)
  refine wp_seq ?_
  refine wp_cond_true rfl ?_
  refine wp_skip ?_
  refine (show Code.wp _ _ _ _ _ from ?_)
  refine wp_seq ?_
  refine wp_block ?_
  refine wp_seq ?_
  refine wp_region_L (W0 := w) [(g9, .cells (frcC false 0 0) 26 (0, 0)), (g8, .cells (frcC false 0 0) 26 (0, 0)), (g7, .cells (frcC false 0 0) 26 (0, 0)), (g6, .cells (frcC false 0 0) 26 (0, 0)), (g5, .cells (frcC false 0 0) 26 (0, 0)), (g4, .cells (frcC false 0 0) 26 (0, 0)), (g3, .cells #[.func (.func 12) #[] #[], .func (.func 13) #[] #[], .func (.func 15) #[] #[], .func (.func 17) #[] #[], .func (.func 25) #[] #[]] 31 (0, 0)), (g2, .cells (frcC sx nx 0) 26 (0, 0)), (g1, .cells (frcC sx nx dx) 26 (0, 0))] (hW29) ?_
  refine wpL_p (v := .pointer (some ⟨g3, 3, none⟩)) rfl (by kernel_rfl) rfl (fun _ => by kernel_rfl) (by simp only [List.setIfInBounds_toArray, List.set_cons_succ, List.set_cons_zero] <;> rfl) ?_
  refine wpL_v (v := .func (.func 17) #[] #[]) rfl (by kernel_rfl) rfl (yb_loadc (off := 3) rfl (by kernel_rfl) (.tail _ (.tail _ (.tail _ (.tail _ (.tail _ (.tail _ (.head _))))))) Tryd.underlying31 rfl (by kernel_rfl)) (by simp only [List.setIfInBounds_toArray, List.set_cons_succ, List.set_cons_zero] <;> rfl) ?_
  refine wpL_p (v := .func (.func 17) #[] #[]) rfl (by kernel_rfl) rfl (fun _ => by kernel_rfl) (by simp only [List.setIfInBounds_toArray, List.set_cons_succ, List.set_cons_zero] <;> rfl) ?_
  refine wpL_done (fun W30 hW30 => ?_)
  clear hW29
  refine (show Code.wp _ _ _ _ _ from ?_)
  refine wp_seq ?_
  refine wp_region_L (W0 := w) [(g9, .cells (frcC false 0 0) 26 (0, 0)), (g8, .cells (frcC false 0 0) 26 (0, 0)), (g7, .cells (frcC false 0 0) 26 (0, 0)), (g6, .cells (frcC false 0 0) 26 (0, 0)), (g5, .cells (frcC false 0 0) 26 (0, 0)), (g4, .cells (frcC false 0 0) 26 (0, 0)), (g3, .cells #[.func (.func 12) #[] #[], .func (.func 13) #[] #[], .func (.func 15) #[] #[], .func (.func 17) #[] #[], .func (.func 25) #[] #[]] 31 (0, 0)), (g2, .cells (frcC sx nx 0) 26 (0, 0)), (g1, .cells (frcC sx nx dx) 26 (0, 0))] (hW30) ?_
  refine wpL_p (v := .func (.func 17) #[] #[]) rfl (by kernel_rfl) rfl (fun _ => by kernel_rfl) (by simp only [List.setIfInBounds_toArray, List.set_cons_succ, List.set_cons_zero] <;> rfl) ?_
  refine wpL_v (v := .agg (frcC sx nx dx)) rfl (by kernel_rfl) rfl (yb_load rfl (by kernel_rfl) (.tail _ (.tail _ (.tail _ (.tail _ (.tail _ (.tail _ (.tail _ (.tail _ (.head _))))))))) Tryd.underlying26 rfl size27 (by simp) (frc_whole sx nx dx)) (by simp only [List.setIfInBounds_toArray, List.set_cons_succ, List.set_cons_zero] <;> rfl) ?_
  refine wpL_v (v := .agg (frcC sx nx 0)) rfl (by kernel_rfl) rfl (yb_load rfl (by kernel_rfl) (.tail _ (.tail _ (.tail _ (.tail _ (.tail _ (.tail _ (.tail _ (.head _)))))))) Tryd.underlying26 rfl size27 (by simp) (frc_whole sx nx 0)) (by simp only [List.setIfInBounds_toArray, List.set_cons_succ, List.set_cons_zero] <;> rfl) ?_
  refine wpL_v (v := .tuple #[.agg (frcC false 0 0), .int .i64 2]) rfl (by kernel_rfl) rfl (yb_call (f := 17) (args := #[.agg (frcC sx nx dx), .agg (frcC sx nx 0)]) (fun _ => by kernel_rfl) fun W hW => HO3.out W) (by simp only [List.setIfInBounds_toArray, List.set_cons_succ, List.set_cons_zero] <;> rfl) ?_
  refine wpL_p (v := .tuple #[.agg (frcC false 0 0), .int .i64 2]) rfl (by kernel_rfl) rfl (fun _ => by kernel_rfl) (by simp only [List.setIfInBounds_toArray, List.set_cons_succ, List.set_cons_zero] <;> rfl) ?_
  refine wpL_p (v := .agg (frcC false 0 0)) rfl (by kernel_rfl) rfl (fun _ => by kernel_rfl) (by simp only [List.setIfInBounds_toArray, List.set_cons_succ, List.set_cons_zero] <;> rfl) ?_
  refine wpL_p (v := .int .i64 2) rfl (by kernel_rfl) rfl (fun _ => by kernel_rfl) (by simp only [List.setIfInBounds_toArray, List.set_cons_succ, List.set_cons_zero] <;> rfl) ?_
  refine wpL_new (fun g => .pointer (some ⟨g, 0, none⟩)) (obi := .cells (frcC false 0 0) 26 (0, 0)) rfl rfl (fun _ => by rw [frc_zero]; rfl) (fun _ => by simp only [List.setIfInBounds_toArray, List.set_cons_succ, List.set_cons_zero] <;> rfl) fun g10 Bg10 Fg10 => ?_
  try simp only [List.forall_mem_cons] at Fg10
  refine wpL_s [(g10, .cells (frcC false 0 0) 26 (0, 0)), (g9, .cells (frcC false 0 0) 26 (0, 0)), (g8, .cells (frcC false 0 0) 26 (0, 0)), (g7, .cells (frcC false 0 0) 26 (0, 0)), (g6, .cells (frcC false 0 0) 26 (0, 0)), (g5, .cells (frcC false 0 0) 26 (0, 0)), (g4, .cells (frcC false 0 0) 26 (0, 0)), (g3, .cells #[.func (.func 12) #[] #[], .func (.func 13) #[] #[], .func (.func 15) #[] #[], .func (.func 17) #[] #[], .func (.func 25) #[] #[]] 31 (0, 0)), (g2, .cells (frcC sx nx 0) 26 (0, 0)), (g1, .cells (frcC sx nx dx) 26 (0, 0))] rfl rfl (st_f (neg := false) (n := 0) (d := 0) rfl (by kernel_rfl) (by kernel_rfl) (.head _) (by omega) size27 (List.forall_mem_cons.2 ⟨.inl rfl, (List.forall_mem_cons.2 ⟨.inr ⟨(.tail _ (.head _)), Fg10.1⟩, (List.forall_mem_cons.2 ⟨.inr ⟨(.tail _ (.tail _ (.head _))), Fg10.2.1⟩, (List.forall_mem_cons.2 ⟨.inr ⟨(.tail _ (.tail _ (.tail _ (.head _)))), Fg10.2.2.1⟩, (List.forall_mem_cons.2 ⟨.inr ⟨(.tail _ (.tail _ (.tail _ (.tail _ (.head _))))), Fg10.2.2.2.1⟩, (List.forall_mem_cons.2 ⟨.inr ⟨(.tail _ (.tail _ (.tail _ (.tail _ (.tail _ (.head _)))))), Fg10.2.2.2.2.1⟩, (List.forall_mem_cons.2 ⟨.inr ⟨(.tail _ (.tail _ (.tail _ (.tail _ (.tail _ (.tail _ (.head _))))))), Fg10.2.2.2.2.2.1⟩, (List.forall_mem_cons.2 ⟨.inr ⟨(.tail _ (.tail _ (.tail _ (.tail _ (.tail _ (.tail _ (.tail _ (.head _)))))))), Fg10.2.2.2.2.2.2.1⟩, (List.forall_mem_cons.2 ⟨.inr ⟨(.tail _ (.tail _ (.tail _ (.tail _ (.tail _ (.tail _ (.tail _ (.tail _ (.head _))))))))), Fg10.2.2.2.2.2.2.2.1⟩, (List.forall_mem_cons.2 ⟨.inr ⟨(.tail _ (.tail _ (.tail _ (.tail _ (.tail _ (.tail _ (.tail _ (.tail _ (.tail _ (.head _)))))))))), Fg10.2.2.2.2.2.2.2.2.1⟩, (List.forall_mem_nil _)⟩)⟩)⟩)⟩)⟩)⟩)⟩)⟩)⟩)⟩)) ?_
  refine wpL_p (v := .int .i64 2) rfl (by kernel_rfl) rfl (fun _ => by kernel_rfl) (by simp only [List.setIfInBounds_toArray, List.set_cons_succ, List.set_cons_zero] <;> rfl) ?_
  refine wpL_done (fun W31 hW31 => ?_)
  clear hW30
  refine (show Code.wp _ _ _ _ _ from ?_)
  refine wp_seq ?_
  refine wp_region_L (W0 := w) [(g10, .cells (frcC false 0 0) 26 (0, 0)), (g9, .cells (frcC false 0 0) 26 (0, 0)), (g8, .cells (frcC false 0 0) 26 (0, 0)), (g7, .cells (frcC false 0 0) 26 (0, 0)), (g6, .cells (frcC false 0 0) 26 (0, 0)), (g5, .cells (frcC false 0 0) 26 (0, 0)), (g4, .cells (frcC false 0 0) 26 (0, 0)), (g3, .cells #[.func (.func 12) #[] #[], .func (.func 13) #[] #[], .func (.func 15) #[] #[], .func (.func 17) #[] #[], .func (.func 25) #[] #[]] 31 (0, 0)), (g2, .cells (frcC sx nx 0) 26 (0, 0)), (g1, .cells (frcC sx nx dx) 26 (0, 0))] (hW31) ?_
  refine wpL_p (v := .func (.func 17) #[] #[]) rfl (by kernel_rfl) rfl (fun _ => by kernel_rfl) (by simp only [List.setIfInBounds_toArray, List.set_cons_succ, List.set_cons_zero] <;> rfl) ?_
  refine wpL_v (v := .agg (frcC sx nx 0)) rfl (by kernel_rfl) rfl (yb_load rfl (by kernel_rfl) (.tail _ (.tail _ (.tail _ (.tail _ (.tail _ (.tail _ (.tail _ (.tail _ (.head _))))))))) Tryd.underlying26 rfl size27 (by simp) (frc_whole sx nx 0)) (by simp only [List.setIfInBounds_toArray, List.set_cons_succ, List.set_cons_zero] <;> rfl) ?_
  refine wpL_v (v := .agg (frcC sx nx dx)) rfl (by kernel_rfl) rfl (yb_load rfl (by kernel_rfl) (.tail _ (.tail _ (.tail _ (.tail _ (.tail _ (.tail _ (.tail _ (.tail _ (.tail _ (.head _)))))))))) Tryd.underlying26 rfl size27 (by simp) (frc_whole sx nx dx)) (by simp only [List.setIfInBounds_toArray, List.set_cons_succ, List.set_cons_zero] <;> rfl) ?_
  refine wpL_v (v := .tuple #[.agg (frcC false 0 0), .int .i64 2]) rfl (by kernel_rfl) rfl (yb_call (f := 17) (args := #[.agg (frcC sx nx 0), .agg (frcC sx nx dx)]) (fun _ => by kernel_rfl) fun W hW => HP3.out W) (by simp only [List.setIfInBounds_toArray, List.set_cons_succ, List.set_cons_zero] <;> rfl) ?_
  refine wpL_p (v := .tuple #[.agg (frcC false 0 0), .int .i64 2]) rfl (by kernel_rfl) rfl (fun _ => by kernel_rfl) (by simp only [List.setIfInBounds_toArray, List.set_cons_succ, List.set_cons_zero] <;> rfl) ?_
  refine wpL_p (v := .agg (frcC false 0 0)) rfl (by kernel_rfl) rfl (fun _ => by kernel_rfl) (by simp only [List.setIfInBounds_toArray, List.set_cons_succ, List.set_cons_zero] <;> rfl) ?_
  refine wpL_p (v := .int .i64 2) rfl (by kernel_rfl) rfl (fun _ => by kernel_rfl) (by simp only [List.setIfInBounds_toArray, List.set_cons_succ, List.set_cons_zero] <;> rfl) ?_
  refine wpL_new (fun g => .pointer (some ⟨g, 0, none⟩)) (obi := .cells (frcC false 0 0) 26 (0, 0)) rfl rfl (fun _ => by rw [frc_zero]; rfl) (fun _ => by simp only [List.setIfInBounds_toArray, List.set_cons_succ, List.set_cons_zero] <;> rfl) fun g11 Bg11 Fg11 => ?_
  try simp only [List.forall_mem_cons] at Fg11
  refine wpL_s [(g11, .cells (frcC false 0 0) 26 (0, 0)), (g10, .cells (frcC false 0 0) 26 (0, 0)), (g9, .cells (frcC false 0 0) 26 (0, 0)), (g8, .cells (frcC false 0 0) 26 (0, 0)), (g7, .cells (frcC false 0 0) 26 (0, 0)), (g6, .cells (frcC false 0 0) 26 (0, 0)), (g5, .cells (frcC false 0 0) 26 (0, 0)), (g4, .cells (frcC false 0 0) 26 (0, 0)), (g3, .cells #[.func (.func 12) #[] #[], .func (.func 13) #[] #[], .func (.func 15) #[] #[], .func (.func 17) #[] #[], .func (.func 25) #[] #[]] 31 (0, 0)), (g2, .cells (frcC sx nx 0) 26 (0, 0)), (g1, .cells (frcC sx nx dx) 26 (0, 0))] rfl rfl (st_f (neg := false) (n := 0) (d := 0) rfl (by kernel_rfl) (by kernel_rfl) (.head _) (by omega) size27 (List.forall_mem_cons.2 ⟨.inl rfl, (List.forall_mem_cons.2 ⟨.inr ⟨(.tail _ (.head _)), Fg11.1⟩, (List.forall_mem_cons.2 ⟨.inr ⟨(.tail _ (.tail _ (.head _))), Fg11.2.1⟩, (List.forall_mem_cons.2 ⟨.inr ⟨(.tail _ (.tail _ (.tail _ (.head _)))), Fg11.2.2.1⟩, (List.forall_mem_cons.2 ⟨.inr ⟨(.tail _ (.tail _ (.tail _ (.tail _ (.head _))))), Fg11.2.2.2.1⟩, (List.forall_mem_cons.2 ⟨.inr ⟨(.tail _ (.tail _ (.tail _ (.tail _ (.tail _ (.head _)))))), Fg11.2.2.2.2.1⟩, (List.forall_mem_cons.2 ⟨.inr ⟨(.tail _ (.tail _ (.tail _ (.tail _ (.tail _ (.tail _ (.head _))))))), Fg11.2.2.2.2.2.1⟩, (List.forall_mem_cons.2 ⟨.inr ⟨(.tail _ (.tail _ (.tail _ (.tail _ (.tail _ (.tail _ (.tail _ (.head _)))))))), Fg11.2.2.2.2.2.2.1⟩, (List.forall_mem_cons.2 ⟨.inr ⟨(.tail _ (.tail _ (.tail _ (.tail _ (.tail _ (.tail _ (.tail _ (.tail _ (.head _))))))))), Fg11.2.2.2.2.2.2.2.1⟩, (List.forall_mem_cons.2 ⟨.inr ⟨(.tail _ (.tail _ (.tail _ (.tail _ (.tail _ (.tail _ (.tail _ (.tail _ (.tail _ (.head _)))))))))), Fg11.2.2.2.2.2.2.2.2.1⟩, (List.forall_mem_cons.2 ⟨.inr ⟨(.tail _ (.tail _ (.tail _ (.tail _ (.tail _ (.tail _ (.tail _ (.tail _ (.tail _ (.tail _ (.head _))))))))))), Fg11.2.2.2.2.2.2.2.2.2.1⟩, (List.forall_mem_nil _)⟩)⟩)⟩)⟩)⟩)⟩)⟩)⟩)⟩)⟩)⟩)) ?_
  refine wpL_p (v := .int .i64 2) rfl (by kernel_rfl) rfl (fun _ => by kernel_rfl) (by simp only [List.setIfInBounds_toArray, List.set_cons_succ, List.set_cons_zero] <;> rfl) ?_
  refine wpL_done (fun W32 hW32 => ?_)
  clear hW31
  refine (show Code.wp _ _ _ _ _ from ?_)
  refine wp_seq ?_
  refine wp_region_L (W0 := w) [(g11, .cells (frcC false 0 0) 26 (0, 0)), (g10, .cells (frcC false 0 0) 26 (0, 0)), (g9, .cells (frcC false 0 0) 26 (0, 0)), (g8, .cells (frcC false 0 0) 26 (0, 0)), (g7, .cells (frcC false 0 0) 26 (0, 0)), (g6, .cells (frcC false 0 0) 26 (0, 0)), (g5, .cells (frcC false 0 0) 26 (0, 0)), (g4, .cells (frcC false 0 0) 26 (0, 0)), (g3, .cells #[.func (.func 12) #[] #[], .func (.func 13) #[] #[], .func (.func 15) #[] #[], .func (.func 17) #[] #[], .func (.func 25) #[] #[]] 31 (0, 0)), (g2, .cells (frcC sx nx 0) 26 (0, 0)), (g1, .cells (frcC sx nx dx) 26 (0, 0))] (hW32) ?_
  refine wpL_p (v := .int .i64 2) rfl (by kernel_rfl) rfl (fun _ => by kernel_rfl) (by simp only [List.setIfInBounds_toArray, List.set_cons_succ, List.set_cons_zero] <;> rfl) ?_
  refine wpL_p (v := .bool false) rfl (by kernel_rfl) rfl (fun _ => by kernel_rfl) (by simp only [List.setIfInBounds_toArray, List.set_cons_succ, List.set_cons_zero] <;> rfl) ?_
  refine wpL_p (v := .bool false) rfl (by kernel_rfl) rfl (fun _ => by kernel_rfl) (by simp only [List.setIfInBounds_toArray, List.set_cons_succ, List.set_cons_zero] <;> rfl) ?_
  refine wpL_p (v := .int .i64 2) rfl (by kernel_rfl) rfl (fun _ => by kernel_rfl) (by simp only [List.setIfInBounds_toArray, List.set_cons_succ, List.set_cons_zero] <;> rfl) ?_
  refine wpL_p (v := .bool false) rfl (by kernel_rfl) rfl (fun _ => by kernel_rfl) (by simp only [List.setIfInBounds_toArray, List.set_cons_succ, List.set_cons_zero] <;> rfl) ?_
  refine wpL_p (v := .bool false) rfl (by kernel_rfl) rfl (fun _ => by kernel_rfl) (by simp only [List.setIfInBounds_toArray, List.set_cons_succ, List.set_cons_zero] <;> rfl) ?_
  refine wpL_p (v := .bool false) rfl (by kernel_rfl) rfl (fun _ => by kernel_rfl) (by simp only [List.setIfInBounds_toArray, List.set_cons_succ, List.set_cons_zero] <;> rfl) ?_
  refine wpL_v (v := .agg (frcC false 0 0)) rfl (by kernel_rfl) rfl (yb_load rfl (by kernel_rfl) (.tail _ (.head _)) Tryd.underlying26 rfl size27 (by simp) (frc_whole false 0 0)) (by simp only [List.setIfInBounds_toArray, List.set_cons_succ, List.set_cons_zero] <;> rfl) ?_
  refine wpL_p (v := .agg (frcC false 0 0)) rfl (by kernel_rfl) rfl (fun _ => by kernel_rfl) (by simp only [List.setIfInBounds_toArray, List.set_cons_succ, List.set_cons_zero] <;> rfl) ?_
  refine wpL_p (v := .bool false) rfl (by kernel_rfl) rfl (run_bin rfl (vx := .agg (frcC false 0 0)) (vy := .agg (frcC false 0 0)) (by kernel_rfl) (by kernel_rfl) fun w => run_neq27s (lt8 (by omega)) (lt8 (by omega)) w) (by simp only [List.setIfInBounds_toArray, List.set_cons_succ, List.set_cons_zero] <;> rfl) ?_
  refine wpL_p (v := .bool false) rfl (by kernel_rfl) rfl (fun _ => by kernel_rfl) (by simp only [List.setIfInBounds_toArray, List.set_cons_succ, List.set_cons_zero] <;> rfl) ?_
  refine wpL_p (v := .bool false) rfl (by kernel_rfl) rfl (fun _ => by kernel_rfl) (by simp only [List.setIfInBounds_toArray, List.set_cons_succ, List.set_cons_zero] <;> rfl) ?_
  refine wpL_v (v := .agg (frcC false 0 0)) rfl (by kernel_rfl) rfl (yb_load rfl (by kernel_rfl) (.head _) Tryd.underlying26 rfl size27 (by simp) (frc_whole false 0 0)) (by simp only [List.setIfInBounds_toArray, List.set_cons_succ, List.set_cons_zero] <;> rfl) ?_
  refine wpL_p (v := .agg (frcC false 0 0)) rfl (by kernel_rfl) rfl (fun _ => by kernel_rfl) (by simp only [List.setIfInBounds_toArray, List.set_cons_succ, List.set_cons_zero] <;> rfl) ?_
  refine wpL_p (v := .bool false) rfl (by kernel_rfl) rfl (run_bin rfl (vx := .agg (frcC false 0 0)) (vy := .agg (frcC false 0 0)) (by kernel_rfl) (by kernel_rfl) fun w => run_neq27s (lt8 (by omega)) (lt8 (by omega)) w) (by simp only [List.setIfInBounds_toArray, List.set_cons_succ, List.set_cons_zero] <;> rfl) ?_
  refine wpL_p (v := .bool false) rfl (by kernel_rfl) rfl (fun _ => by kernel_rfl) (by simp only [List.setIfInBounds_toArray, List.set_cons_succ, List.set_cons_zero] <;> rfl) ?_
  refine wpL_done (fun W33 hW33 => ?_)
  clear hW32
  refine (show Code.wp _ _ _ _ _ from ?_)
  refine wp_cond_false rfl ?_
  refine wp_skip ?_
  refine (show Code.wp _ _ _ _ _ from ?_)
  refine wp_region_L (W0 := w) [(g11, .cells (frcC false 0 0) 26 (0, 0)), (g10, .cells (frcC false 0 0) 26 (0, 0)), (g9, .cells (frcC false 0 0) 26 (0, 0)), (g8, .cells (frcC false 0 0) 26 (0, 0)), (g7, .cells (frcC false 0 0) 26 (0, 0)), (g6, .cells (frcC false 0 0) 26 (0, 0)), (g5, .cells (frcC false 0 0) 26 (0, 0)), (g4, .cells (frcC false 0 0) 26 (0, 0)), (g3, .cells #[.func (.func 12) #[] #[], .func (.func 13) #[] #[], .func (.func 15) #[] #[], .func (.func 17) #[] #[], .func (.func 25) #[] #[]] 31 (0, 0)), (g2, .cells (frcC sx nx 0) 26 (0, 0)), (g1, .cells (frcC sx nx dx) 26 (0, 0))] (hW33) ?_
  refine wpL_p (v := .int .i64 4) rfl (by kernel_rfl) rfl (fun _ => by kernel_rfl) (by simp only [List.setIfInBounds_toArray, List.set_cons_succ, List.set_cons_zero] <;> rfl) ?_
  refine wpL_p (v := .int .i64 4) rfl (by kernel_rfl) rfl (fun _ => by kernel_rfl) (by simp only [List.setIfInBounds_toArray, List.set_cons_succ, List.set_cons_zero] <;> rfl) ?_
  refine wpL_done (fun W34 hW34 => ?_)
  clear hW33
  refine (show Code.wp _ _ _ _ _ from ?_)
  refine wp_seq ?_
  refine wp_region_L (W0 := w) [(g11, .cells (frcC false 0 0) 26 (0, 0)), (g10, .cells (frcC false 0 0) 26 (0, 0)), (g9, .cells (frcC false 0 0) 26 (0, 0)), (g8, .cells (frcC false 0 0) 26 (0, 0)), (g7, .cells (frcC false 0 0) 26 (0, 0)), (g6, .cells (frcC false 0 0) 26 (0, 0)), (g5, .cells (frcC false 0 0) 26 (0, 0)), (g4, .cells (frcC false 0 0) 26 (0, 0)), (g3, .cells #[.func (.func 12) #[] #[], .func (.func 13) #[] #[], .func (.func 15) #[] #[], .func (.func 17) #[] #[], .func (.func 25) #[] #[]] 31 (0, 0)), (g2, .cells (frcC sx nx 0) 26 (0, 0)), (g1, .cells (frcC sx nx dx) 26 (0, 0))] (hW34) ?_
  refine wpL_p (v := .bool true) rfl (by kernel_rfl) rfl (fun _ => by kernel_rfl) (by simp only [List.setIfInBounds_toArray, List.set_cons_succ, List.set_cons_zero] <;> rfl) ?_
  refine wpL_done (fun W35 hW35 => ?_)
  clear hW34
  refine (show Code.wp _ _ _ _ _ from ?_)
  refine wp_seq ?_
  refine wp_cond_true rfl ?_
  refine wp_skip ?_
  refine (show Code.wp _ _ _ _ _ from ?_)
  refine wp_seq ?_
  refine wp_block ?_
  refine wp_seq ?_
  refine wp_region_L (W0 := w) [(g11, .cells (frcC false 0 0) 26 (0, 0)), (g10, .cells (frcC false 0 0) 26 (0, 0)), (g9, .cells (frcC false 0 0) 26 (0, 0)), (g8, .cells (frcC false 0 0) 26 (0, 0)), (g7, .cells (frcC false 0 0) 26 (0, 0)), (g6, .cells (frcC false 0 0) 26 (0, 0)), (g5, .cells (frcC false 0 0) 26 (0, 0)), (g4, .cells (frcC false 0 0) 26 (0, 0)), (g3, .cells #[.func (.func 12) #[] #[], .func (.func 13) #[] #[], .func (.func 15) #[] #[], .func (.func 17) #[] #[], .func (.func 25) #[] #[]] 31 (0, 0)), (g2, .cells (frcC sx nx 0) 26 (0, 0)), (g1, .cells (frcC sx nx dx) 26 (0, 0))] (hW35) ?_
  refine wpL_p (v := .pointer (some ⟨g3, 4, none⟩)) rfl (by kernel_rfl) rfl (fun _ => by kernel_rfl) (by simp only [List.setIfInBounds_toArray, List.set_cons_succ, List.set_cons_zero] <;> rfl) ?_
  refine wpL_v (v := .func (.func 25) #[] #[]) rfl (by kernel_rfl) rfl (yb_loadc (off := 4) rfl (by kernel_rfl) (.tail _ (.tail _ (.tail _ (.tail _ (.tail _ (.tail _ (.tail _ (.tail _ (.head _))))))))) Tryd.underlying31 rfl (by kernel_rfl)) (by simp only [List.setIfInBounds_toArray, List.set_cons_succ, List.set_cons_zero] <;> rfl) ?_
  refine wpL_p (v := .func (.func 25) #[] #[]) rfl (by kernel_rfl) rfl (fun _ => by kernel_rfl) (by simp only [List.setIfInBounds_toArray, List.set_cons_succ, List.set_cons_zero] <;> rfl) ?_
  refine wpL_done (fun W36 hW36 => ?_)
  clear hW35
  refine (show Code.wp _ _ _ _ _ from ?_)
  refine wp_seq ?_
  refine wp_region_L (W0 := w) [(g11, .cells (frcC false 0 0) 26 (0, 0)), (g10, .cells (frcC false 0 0) 26 (0, 0)), (g9, .cells (frcC false 0 0) 26 (0, 0)), (g8, .cells (frcC false 0 0) 26 (0, 0)), (g7, .cells (frcC false 0 0) 26 (0, 0)), (g6, .cells (frcC false 0 0) 26 (0, 0)), (g5, .cells (frcC false 0 0) 26 (0, 0)), (g4, .cells (frcC false 0 0) 26 (0, 0)), (g3, .cells #[.func (.func 12) #[] #[], .func (.func 13) #[] #[], .func (.func 15) #[] #[], .func (.func 17) #[] #[], .func (.func 25) #[] #[]] 31 (0, 0)), (g2, .cells (frcC sx nx 0) 26 (0, 0)), (g1, .cells (frcC sx nx dx) 26 (0, 0))] (hW36) ?_
  refine wpL_p (v := .func (.func 25) #[] #[]) rfl (by kernel_rfl) rfl (fun _ => by kernel_rfl) (by simp only [List.setIfInBounds_toArray, List.set_cons_succ, List.set_cons_zero] <;> rfl) ?_
  refine wpL_v (v := .agg (frcC sx nx dx)) rfl (by kernel_rfl) rfl (yb_load rfl (by kernel_rfl) (.tail _ (.tail _ (.tail _ (.tail _ (.tail _ (.tail _ (.tail _ (.tail _ (.tail _ (.tail _ (.head _))))))))))) Tryd.underlying26 rfl size27 (by simp) (frc_whole sx nx dx)) (by simp only [List.setIfInBounds_toArray, List.set_cons_succ, List.set_cons_zero] <;> rfl) ?_
  refine wpL_v (v := .agg (frcC sx nx 0)) rfl (by kernel_rfl) rfl (yb_load rfl (by kernel_rfl) (.tail _ (.tail _ (.tail _ (.tail _ (.tail _ (.tail _ (.tail _ (.tail _ (.tail _ (.head _)))))))))) Tryd.underlying26 rfl size27 (by simp) (frc_whole sx nx 0)) (by simp only [List.setIfInBounds_toArray, List.set_cons_succ, List.set_cons_zero] <;> rfl) ?_
  refine wpL_v (v := .tuple #[.agg (frcC false 0 0), .int .i64 2]) rfl (by kernel_rfl) rfl (yb_call (f := 25) (args := #[.agg (frcC sx nx dx), .agg (frcC sx nx 0)]) (fun _ => by kernel_rfl) fun W hW => HO4.out W) (by simp only [List.setIfInBounds_toArray, List.set_cons_succ, List.set_cons_zero] <;> rfl) ?_
  refine wpL_p (v := .tuple #[.agg (frcC false 0 0), .int .i64 2]) rfl (by kernel_rfl) rfl (fun _ => by kernel_rfl) (by simp only [List.setIfInBounds_toArray, List.set_cons_succ, List.set_cons_zero] <;> rfl) ?_
  refine wpL_p (v := .agg (frcC false 0 0)) rfl (by kernel_rfl) rfl (fun _ => by kernel_rfl) (by simp only [List.setIfInBounds_toArray, List.set_cons_succ, List.set_cons_zero] <;> rfl) ?_
  refine wpL_p (v := .int .i64 2) rfl (by kernel_rfl) rfl (fun _ => by kernel_rfl) (by simp only [List.setIfInBounds_toArray, List.set_cons_succ, List.set_cons_zero] <;> rfl) ?_
  refine wpL_new (fun g => .pointer (some ⟨g, 0, none⟩)) (obi := .cells (frcC false 0 0) 26 (0, 0)) rfl rfl (fun _ => by rw [frc_zero]; rfl) (fun _ => by simp only [List.setIfInBounds_toArray, List.set_cons_succ, List.set_cons_zero] <;> rfl) fun g12 Bg12 Fg12 => ?_
  try simp only [List.forall_mem_cons] at Fg12
  refine wpL_s [(g12, .cells (frcC false 0 0) 26 (0, 0)), (g11, .cells (frcC false 0 0) 26 (0, 0)), (g10, .cells (frcC false 0 0) 26 (0, 0)), (g9, .cells (frcC false 0 0) 26 (0, 0)), (g8, .cells (frcC false 0 0) 26 (0, 0)), (g7, .cells (frcC false 0 0) 26 (0, 0)), (g6, .cells (frcC false 0 0) 26 (0, 0)), (g5, .cells (frcC false 0 0) 26 (0, 0)), (g4, .cells (frcC false 0 0) 26 (0, 0)), (g3, .cells #[.func (.func 12) #[] #[], .func (.func 13) #[] #[], .func (.func 15) #[] #[], .func (.func 17) #[] #[], .func (.func 25) #[] #[]] 31 (0, 0)), (g2, .cells (frcC sx nx 0) 26 (0, 0)), (g1, .cells (frcC sx nx dx) 26 (0, 0))] rfl rfl (st_f (neg := false) (n := 0) (d := 0) rfl (by kernel_rfl) (by kernel_rfl) (.head _) (by omega) size27 (List.forall_mem_cons.2 ⟨.inl rfl, (List.forall_mem_cons.2 ⟨.inr ⟨(.tail _ (.head _)), Fg12.1⟩, (List.forall_mem_cons.2 ⟨.inr ⟨(.tail _ (.tail _ (.head _))), Fg12.2.1⟩, (List.forall_mem_cons.2 ⟨.inr ⟨(.tail _ (.tail _ (.tail _ (.head _)))), Fg12.2.2.1⟩, (List.forall_mem_cons.2 ⟨.inr ⟨(.tail _ (.tail _ (.tail _ (.tail _ (.head _))))), Fg12.2.2.2.1⟩, (List.forall_mem_cons.2 ⟨.inr ⟨(.tail _ (.tail _ (.tail _ (.tail _ (.tail _ (.head _)))))), Fg12.2.2.2.2.1⟩, (List.forall_mem_cons.2 ⟨.inr ⟨(.tail _ (.tail _ (.tail _ (.tail _ (.tail _ (.tail _ (.head _))))))), Fg12.2.2.2.2.2.1⟩, (List.forall_mem_cons.2 ⟨.inr ⟨(.tail _ (.tail _ (.tail _ (.tail _ (.tail _ (.tail _ (.tail _ (.head _)))))))), Fg12.2.2.2.2.2.2.1⟩, (List.forall_mem_cons.2 ⟨.inr ⟨(.tail _ (.tail _ (.tail _ (.tail _ (.tail _ (.tail _ (.tail _ (.tail _ (.head _))))))))), Fg12.2.2.2.2.2.2.2.1⟩, (List.forall_mem_cons.2 ⟨.inr ⟨(.tail _ (.tail _ (.tail _ (.tail _ (.tail _ (.tail _ (.tail _ (.tail _ (.tail _ (.head _)))))))))), Fg12.2.2.2.2.2.2.2.2.1⟩, (List.forall_mem_cons.2 ⟨.inr ⟨(.tail _ (.tail _ (.tail _ (.tail _ (.tail _ (.tail _ (.tail _ (.tail _ (.tail _ (.tail _ (.head _))))))))))), Fg12.2.2.2.2.2.2.2.2.2.1⟩, (List.forall_mem_cons.2 ⟨.inr ⟨(.tail _ (.tail _ (.tail _ (.tail _ (.tail _ (.tail _ (.tail _ (.tail _ (.tail _ (.tail _ (.tail _ (.head _)))))))))))), Fg12.2.2.2.2.2.2.2.2.2.2.1⟩, (List.forall_mem_nil _)⟩)⟩)⟩)⟩)⟩)⟩)⟩)⟩)⟩)⟩)⟩)⟩)) ?_
  refine wpL_p (v := .int .i64 2) rfl (by kernel_rfl) rfl (fun _ => by kernel_rfl) (by simp only [List.setIfInBounds_toArray, List.set_cons_succ, List.set_cons_zero] <;> rfl) ?_
  refine wpL_done (fun W37 hW37 => ?_)
  clear hW36
  refine (show Code.wp _ _ _ _ _ from ?_)
  refine wp_seq ?_
  refine wp_region_L (W0 := w) [(g12, .cells (frcC false 0 0) 26 (0, 0)), (g11, .cells (frcC false 0 0) 26 (0, 0)), (g10, .cells (frcC false 0 0) 26 (0, 0)), (g9, .cells (frcC false 0 0) 26 (0, 0)), (g8, .cells (frcC false 0 0) 26 (0, 0)), (g7, .cells (frcC false 0 0) 26 (0, 0)), (g6, .cells (frcC false 0 0) 26 (0, 0)), (g5, .cells (frcC false 0 0) 26 (0, 0)), (g4, .cells (frcC false 0 0) 26 (0, 0)), (g3, .cells #[.func (.func 12) #[] #[], .func (.func 13) #[] #[], .func (.func 15) #[] #[], .func (.func 17) #[] #[], .func (.func 25) #[] #[]] 31 (0, 0)), (g2, .cells (frcC sx nx 0) 26 (0, 0)), (g1, .cells (frcC sx nx dx) 26 (0, 0))] (hW37) ?_
  refine wpL_p (v := .func (.func 25) #[] #[]) rfl (by kernel_rfl) rfl (fun _ => by kernel_rfl) (by simp only [List.setIfInBounds_toArray, List.set_cons_succ, List.set_cons_zero] <;> rfl) ?_
  refine wpL_v (v := .agg (frcC sx nx 0)) rfl (by kernel_rfl) rfl (yb_load rfl (by kernel_rfl) (.tail _ (.tail _ (.tail _ (.tail _ (.tail _ (.tail _ (.tail _ (.tail _ (.tail _ (.tail _ (.head _))))))))))) Tryd.underlying26 rfl size27 (by simp) (frc_whole sx nx 0)) (by simp only [List.setIfInBounds_toArray, List.set_cons_succ, List.set_cons_zero] <;> rfl) ?_
  refine wpL_v (v := .agg (frcC sx nx dx)) rfl (by kernel_rfl) rfl (yb_load rfl (by kernel_rfl) (.tail _ (.tail _ (.tail _ (.tail _ (.tail _ (.tail _ (.tail _ (.tail _ (.tail _ (.tail _ (.tail _ (.head _)))))))))))) Tryd.underlying26 rfl size27 (by simp) (frc_whole sx nx dx)) (by simp only [List.setIfInBounds_toArray, List.set_cons_succ, List.set_cons_zero] <;> rfl) ?_
  refine wpL_v (v := .tuple #[.agg (frcC false 0 0), .int .i64 2]) rfl (by kernel_rfl) rfl (yb_call (f := 25) (args := #[.agg (frcC sx nx 0), .agg (frcC sx nx dx)]) (fun _ => by kernel_rfl) fun W hW => HP4.out W) (by simp only [List.setIfInBounds_toArray, List.set_cons_succ, List.set_cons_zero] <;> rfl) ?_
  refine wpL_p (v := .tuple #[.agg (frcC false 0 0), .int .i64 2]) rfl (by kernel_rfl) rfl (fun _ => by kernel_rfl) (by simp only [List.setIfInBounds_toArray, List.set_cons_succ, List.set_cons_zero] <;> rfl) ?_
  refine wpL_p (v := .agg (frcC false 0 0)) rfl (by kernel_rfl) rfl (fun _ => by kernel_rfl) (by simp only [List.setIfInBounds_toArray, List.set_cons_succ, List.set_cons_zero] <;> rfl) ?_
  refine wpL_p (v := .int .i64 2) rfl (by kernel_rfl) rfl (fun _ => by kernel_rfl) (by simp only [List.setIfInBounds_toArray, List.set_cons_succ, List.set_cons_zero] <;> rfl) ?_
  refine wpL_new (fun g => .pointer (some ⟨g, 0, none⟩)) (obi := .cells (frcC false 0 0) 26 (0, 0)) rfl rfl (fun _ => by rw [frc_zero]; rfl) (fun _ => by simp only [List.setIfInBounds_toArray, List.set_cons_succ, List.set_cons_zero] <;> rfl) fun g13 Bg13 Fg13 => ?_
  try simp only [List.forall_mem_cons] at Fg13
  refine wpL_s [(g13, .cells (frcC false 0 0) 26 (0, 0)), (g12, .cells (frcC false 0 0) 26 (0, 0)), (g11, .cells (frcC false 0 0) 26 (0, 0)), (g10, .cells (frcC false 0 0) 26 (0, 0)), (g9, .cells (frcC false 0 0) 26 (0, 0)), (g8, .cells (frcC false 0 0) 26 (0, 0)), (g7, .cells (frcC false 0 0) 26 (0, 0)), (g6, .cells (frcC false 0 0) 26 (0, 0)), (g5, .cells (frcC false 0 0) 26 (0, 0)), (g4, .cells (frcC false 0 0) 26 (0, 0)), (g3, .cells #[.func (.func 12) #[] #[], .func (.func 13) #[] #[], .func (.func 15) #[] #[], .func (.func 17) #[] #[], .func (.func 25) #[] #[]] 31 (0, 0)), (g2, .cells (frcC sx nx 0) 26 (0, 0)), (g1, .cells (frcC sx nx dx) 26 (0, 0))] rfl rfl (st_f (neg := false) (n := 0) (d := 0) rfl (by kernel_rfl) (by kernel_rfl) (.head _) (by omega) size27 (List.forall_mem_cons.2 ⟨.inl rfl, (List.forall_mem_cons.2 ⟨.inr ⟨(.tail _ (.head _)), Fg13.1⟩, (List.forall_mem_cons.2 ⟨.inr ⟨(.tail _ (.tail _ (.head _))), Fg13.2.1⟩, (List.forall_mem_cons.2 ⟨.inr ⟨(.tail _ (.tail _ (.tail _ (.head _)))), Fg13.2.2.1⟩, (List.forall_mem_cons.2 ⟨.inr ⟨(.tail _ (.tail _ (.tail _ (.tail _ (.head _))))), Fg13.2.2.2.1⟩, (List.forall_mem_cons.2 ⟨.inr ⟨(.tail _ (.tail _ (.tail _ (.tail _ (.tail _ (.head _)))))), Fg13.2.2.2.2.1⟩, (List.forall_mem_cons.2 ⟨.inr ⟨(.tail _ (.tail _ (.tail _ (.tail _ (.tail _ (.tail _ (.head _))))))), Fg13.2.2.2.2.2.1⟩, (List.forall_mem_cons.2 ⟨.inr ⟨(.tail _ (.tail _ (.tail _ (.tail _ (.tail _ (.tail _ (.tail _ (.head _)))))))), Fg13.2.2.2.2.2.2.1⟩, (List.forall_mem_cons.2 ⟨.inr ⟨(.tail _ (.tail _ (.tail _ (.tail _ (.tail _ (.tail _ (.tail _ (.tail _ (.head _))))))))), Fg13.2.2.2.2.2.2.2.1⟩, (List.forall_mem_cons.2 ⟨.inr ⟨(.tail _ (.tail _ (.tail _ (.tail _ (.tail _ (.tail _ (.tail _ (.tail _ (.tail _ (.head _)))))))))), Fg13.2.2.2.2.2.2.2.2.1⟩, (List.forall_mem_cons.2 ⟨.inr ⟨(.tail _ (.tail _ (.tail _ (.tail _ (.tail _ (.tail _ (.tail _ (.tail _ (.tail _ (.tail _ (.head _))))))))))), Fg13.2.2.2.2.2.2.2.2.2.1⟩, (List.forall_mem_cons.2 ⟨.inr ⟨(.tail _ (.tail _ (.tail _ (.tail _ (.tail _ (.tail _ (.tail _ (.tail _ (.tail _ (.tail _ (.tail _ (.head _)))))))))))), Fg13.2.2.2.2.2.2.2.2.2.2.1⟩, (List.forall_mem_cons.2 ⟨.inr ⟨(.tail _ (.tail _ (.tail _ (.tail _ (.tail _ (.tail _ (.tail _ (.tail _ (.tail _ (.tail _ (.tail _ (.tail _ (.head _))))))))))))), Fg13.2.2.2.2.2.2.2.2.2.2.2.1⟩, (List.forall_mem_nil _)⟩)⟩)⟩)⟩)⟩)⟩)⟩)⟩)⟩)⟩)⟩)⟩)⟩)) ?_
  refine wpL_p (v := .int .i64 2) rfl (by kernel_rfl) rfl (fun _ => by kernel_rfl) (by simp only [List.setIfInBounds_toArray, List.set_cons_succ, List.set_cons_zero] <;> rfl) ?_
  refine wpL_done (fun W38 hW38 => ?_)
  clear hW37
  refine (show Code.wp _ _ _ _ _ from ?_)
  refine wp_seq ?_
  refine wp_region_L (W0 := w) [(g13, .cells (frcC false 0 0) 26 (0, 0)), (g12, .cells (frcC false 0 0) 26 (0, 0)), (g11, .cells (frcC false 0 0) 26 (0, 0)), (g10, .cells (frcC false 0 0) 26 (0, 0)), (g9, .cells (frcC false 0 0) 26 (0, 0)), (g8, .cells (frcC false 0 0) 26 (0, 0)), (g7, .cells (frcC false 0 0) 26 (0, 0)), (g6, .cells (frcC false 0 0) 26 (0, 0)), (g5, .cells (frcC false 0 0) 26 (0, 0)), (g4, .cells (frcC false 0 0) 26 (0, 0)), (g3, .cells #[.func (.func 12) #[] #[], .func (.func 13) #[] #[], .func (.func 15) #[] #[], .func (.func 17) #[] #[], .func (.func 25) #[] #[]] 31 (0, 0)), (g2, .cells (frcC sx nx 0) 26 (0, 0)), (g1, .cells (frcC sx nx dx) 26 (0, 0))] (hW38) ?_
  refine wpL_p (v := .int .i64 2) rfl (by kernel_rfl) rfl (fun _ => by kernel_rfl) (by simp only [List.setIfInBounds_toArray, List.set_cons_succ, List.set_cons_zero] <;> rfl) ?_
  refine wpL_p (v := .bool false) rfl (by kernel_rfl) rfl (fun _ => by kernel_rfl) (by simp only [List.setIfInBounds_toArray, List.set_cons_succ, List.set_cons_zero] <;> rfl) ?_
  refine wpL_p (v := .bool false) rfl (by kernel_rfl) rfl (fun _ => by kernel_rfl) (by simp only [List.setIfInBounds_toArray, List.set_cons_succ, List.set_cons_zero] <;> rfl) ?_
  refine wpL_p (v := .int .i64 2) rfl (by kernel_rfl) rfl (fun _ => by kernel_rfl) (by simp only [List.setIfInBounds_toArray, List.set_cons_succ, List.set_cons_zero] <;> rfl) ?_
  refine wpL_p (v := .bool false) rfl (by kernel_rfl) rfl (fun _ => by kernel_rfl) (by simp only [List.setIfInBounds_toArray, List.set_cons_succ, List.set_cons_zero] <;> rfl) ?_
  refine wpL_p (v := .bool false) rfl (by kernel_rfl) rfl (fun _ => by kernel_rfl) (by simp only [List.setIfInBounds_toArray, List.set_cons_succ, List.set_cons_zero] <;> rfl) ?_
  refine wpL_p (v := .bool false) rfl (by kernel_rfl) rfl (fun _ => by kernel_rfl) (by simp only [List.setIfInBounds_toArray, List.set_cons_succ, List.set_cons_zero] <;> rfl) ?_
  refine wpL_v (v := .agg (frcC false 0 0)) rfl (by kernel_rfl) rfl (yb_load rfl (by kernel_rfl) (.tail _ (.head _)) Tryd.underlying26 rfl size27 (by simp) (frc_whole false 0 0)) (by simp only [List.setIfInBounds_toArray, List.set_cons_succ, List.set_cons_zero] <;> rfl) ?_
  refine wpL_p (v := .agg (frcC false 0 0)) rfl (by kernel_rfl) rfl (fun _ => by kernel_rfl) (by simp only [List.setIfInBounds_toArray, List.set_cons_succ, List.set_cons_zero] <;> rfl) ?_
  refine wpL_p (v := .bool false) rfl (by kernel_rfl) rfl (run_bin rfl (vx := .agg (frcC false 0 0)) (vy := .agg (frcC false 0 0)) (by kernel_rfl) (by kernel_rfl) fun w => run_neq27s (lt8 (by omega)) (lt8 (by omega)) w) (by simp only [List.setIfInBounds_toArray, List.set_cons_succ, List.set_cons_zero] <;> rfl) ?_
  refine wpL_p (v := .bool false) rfl (by kernel_rfl) rfl (fun _ => by kernel_rfl) (by simp only [List.setIfInBounds_toArray, List.set_cons_succ, List.set_cons_zero] <;> rfl) ?_
  refine wpL_p (v := .bool false) rfl (by kernel_rfl) rfl (fun _ => by kernel_rfl) (by simp only [List.setIfInBounds_toArray, List.set_cons_succ, List.set_cons_zero] <;> rfl) ?_
  refine wpL_v (v := .agg (frcC false 0 0)) rfl (by kernel_rfl) rfl (yb_load rfl (by kernel_rfl) (.head _) Tryd.underlying26 rfl size27 (by simp) (frc_whole false 0 0)) (by simp only [List.setIfInBounds_toArray, List.set_cons_succ, List.set_cons_zero] <;> rfl) ?_
  refine wpL_p (v := .agg (frcC false 0 0)) rfl (by kernel_rfl) rfl (fun _ => by kernel_rfl) (by simp only [List.setIfInBounds_toArray, List.set_cons_succ, List.set_cons_zero] <;> rfl) ?_
  refine wpL_p (v := .bool false) rfl (by kernel_rfl) rfl (run_bin rfl (vx := .agg (frcC false 0 0)) (vy := .agg (frcC false 0 0)) (by kernel_rfl) (by kernel_rfl) fun w => run_neq27s (lt8 (by omega)) (lt8 (by omega)) w) (by simp only [List.setIfInBounds_toArray, List.set_cons_succ, List.set_cons_zero] <;> rfl) ?_
  refine wpL_p (v := .bool false) rfl (by kernel_rfl) rfl (fun _ => by kernel_rfl) (by simp only [List.setIfInBounds_toArray, List.set_cons_succ, List.set_cons_zero] <;> rfl) ?_
  refine wpL_done (fun W39 hW39 => ?_)
  clear hW38
  refine (show Code.wp _ _ _ _ _ from ?_)
  refine wp_cond_false rfl ?_
  refine wp_skip ?_
  refine (show Code.wp _ _ _ _ _ from ?_)
  refine wp_region_L (W0 := w) [(g13, .cells (frcC false 0 0) 26 (0, 0)), (g12, .cells (frcC false 0 0) 26 (0, 0)), (g11, .cells (frcC false 0 0) 26 (0, 0)), (g10, .cells (frcC false 0 0) 26 (0, 0)), (g9, .cells (frcC false 0 0) 26 (0, 0)), (g8, .cells (frcC false 0 0) 26 (0, 0)), (g7, .cells (frcC false 0 0) 26 (0, 0)), (g6, .cells (frcC false 0 0) 26 (0, 0)), (g5, .cells (frcC false 0 0) 26 (0, 0)), (g4, .cells (frcC false 0 0) 26 (0, 0)), (g3, .cells #[.func (.func 12) #[] #[], .func (.func 13) #[] #[], .func (.func 15) #[] #[], .func (.func 17) #[] #[], .func (.func 25) #[] #[]] 31 (0, 0)), (g2, .cells (frcC sx nx 0) 26 (0, 0)), (g1, .cells (frcC sx nx dx) 26 (0, 0))] (hW39) ?_
  refine wpL_p (v := .int .i64 5) rfl (by kernel_rfl) rfl (fun _ => by kernel_rfl) (by simp only [List.setIfInBounds_toArray, List.set_cons_succ, List.set_cons_zero] <;> rfl) ?_
  refine wpL_p (v := .int .i64 5) rfl (by kernel_rfl) rfl (fun _ => by kernel_rfl) (by simp only [List.setIfInBounds_toArray, List.set_cons_succ, List.set_cons_zero] <;> rfl) ?_
  refine wpL_done (fun W40 hW40 => ?_)
  clear hW39
  refine (show Code.wp _ _ _ _ _ from ?_)
  refine wp_seq ?_
  refine wp_region_L (W0 := w) [(g13, .cells (frcC false 0 0) 26 (0, 0)), (g12, .cells (frcC false 0 0) 26 (0, 0)), (g11, .cells (frcC false 0 0) 26 (0, 0)), (g10, .cells (frcC false 0 0) 26 (0, 0)), (g9, .cells (frcC false 0 0) 26 (0, 0)), (g8, .cells (frcC false 0 0) 26 (0, 0)), (g7, .cells (frcC false 0 0) 26 (0, 0)), (g6, .cells (frcC false 0 0) 26 (0, 0)), (g5, .cells (frcC false 0 0) 26 (0, 0)), (g4, .cells (frcC false 0 0) 26 (0, 0)), (g3, .cells #[.func (.func 12) #[] #[], .func (.func 13) #[] #[], .func (.func 15) #[] #[], .func (.func 17) #[] #[], .func (.func 25) #[] #[]] 31 (0, 0)), (g2, .cells (frcC sx nx 0) 26 (0, 0)), (g1, .cells (frcC sx nx dx) 26 (0, 0))] (hW40) ?_
  refine wpL_p (v := .bool false) rfl (by kernel_rfl) rfl (fun _ => by kernel_rfl) (by simp only [List.setIfInBounds_toArray, List.set_cons_succ, List.set_cons_zero] <;> rfl) ?_
  refine wpL_done (fun W41 hW41 => ?_)
  clear hW40
  refine (show Code.wp _ _ _ _ _ from ?_)
  refine wp_seq ?_
  refine wp_cond_false rfl ?_
  refine wp_exit ?_
  refine (show Code.wp _ _ _ _ _ from ?_)
  refine wp_seq ?_
  refine wp_region_L (W0 := w) [(g13, .cells (frcC false 0 0) 26 (0, 0)), (g12, .cells (frcC false 0 0) 26 (0, 0)), (g11, .cells (frcC false 0 0) 26 (0, 0)), (g10, .cells (frcC false 0 0) 26 (0, 0)), (g9, .cells (frcC false 0 0) 26 (0, 0)), (g8, .cells (frcC false 0 0) 26 (0, 0)), (g7, .cells (frcC false 0 0) 26 (0, 0)), (g6, .cells (frcC false 0 0) 26 (0, 0)), (g5, .cells (frcC false 0 0) 26 (0, 0)), (g4, .cells (frcC false 0 0) 26 (0, 0)), (g3, .cells #[.func (.func 12) #[] #[], .func (.func 13) #[] #[], .func (.func 15) #[] #[], .func (.func 17) #[] #[], .func (.func 25) #[] #[]] 31 (0, 0)), (g2, .cells (frcC sx nx 0) 26 (0, 0)), (g1, .cells (frcC sx nx dx) 26 (0, 0))] (hW41) ?_
  refine wpL_v (v := .agg (frcC sx nx dx)) rfl (by kernel_rfl) rfl (yb_load rfl (by kernel_rfl) (.tail _ (.tail _ (.tail _ (.tail _ (.tail _ (.tail _ (.tail _ (.tail _ (.tail _ (.tail _ (.tail _ (.tail _ (.head _))))))))))))) Tryd.underlying26 rfl size27 (by simp) (frc_whole sx nx dx)) (by simp only [List.setIfInBounds_toArray, List.set_cons_succ, List.set_cons_zero] <;> rfl) ?_
  refine wpL_v (v := .agg (frcC sx nx 0)) rfl (by kernel_rfl) rfl (yb_load rfl (by kernel_rfl) (.tail _ (.tail _ (.tail _ (.tail _ (.tail _ (.tail _ (.tail _ (.tail _ (.tail _ (.tail _ (.tail _ (.head _)))))))))))) Tryd.underlying26 rfl size27 (by simp) (frc_whole sx nx 0)) (by simp only [List.setIfInBounds_toArray, List.set_cons_succ, List.set_cons_zero] <;> rfl) ?_
  refine wpL_v (v := .tuple #[.int .i64 0, .int .i64 2]) rfl (by kernel_rfl) rfl (yb_call (f := 18) (args := #[.agg (frcC sx nx dx), .agg (frcC sx nx 0)]) (fun _ => by kernel_rfl) fun W hW => HC1.out W) (by simp only [List.setIfInBounds_toArray, List.set_cons_succ, List.set_cons_zero] <;> rfl) ?_
  refine wpL_p (v := .tuple #[.int .i64 0, .int .i64 2]) rfl (by kernel_rfl) rfl (fun _ => by kernel_rfl) (by simp only [List.setIfInBounds_toArray, List.set_cons_succ, List.set_cons_zero] <;> rfl) ?_
  refine wpL_p (v := .int .i64 0) rfl (by kernel_rfl) rfl (fun _ => by kernel_rfl) (by simp only [List.setIfInBounds_toArray, List.set_cons_succ, List.set_cons_zero] <;> rfl) ?_
  refine wpL_p (v := .int .i64 2) rfl (by kernel_rfl) rfl (fun _ => by kernel_rfl) (by simp only [List.setIfInBounds_toArray, List.set_cons_succ, List.set_cons_zero] <;> rfl) ?_
  refine wpL_p (v := .int .i64 0) rfl (by kernel_rfl) rfl (fun _ => by kernel_rfl) (by simp only [List.setIfInBounds_toArray, List.set_cons_succ, List.set_cons_zero] <;> rfl) ?_
  refine wpL_p (v := .int .i64 2) rfl (by kernel_rfl) rfl (fun _ => by kernel_rfl) (by simp only [List.setIfInBounds_toArray, List.set_cons_succ, List.set_cons_zero] <;> rfl) ?_
  refine wpL_done (fun W42 hW42 => ?_)
  clear hW41
  refine (show Code.wp _ _ _ _ _ from ?_)
  refine wp_seq ?_
  refine wp_region_L (W0 := w) [(g13, .cells (frcC false 0 0) 26 (0, 0)), (g12, .cells (frcC false 0 0) 26 (0, 0)), (g11, .cells (frcC false 0 0) 26 (0, 0)), (g10, .cells (frcC false 0 0) 26 (0, 0)), (g9, .cells (frcC false 0 0) 26 (0, 0)), (g8, .cells (frcC false 0 0) 26 (0, 0)), (g7, .cells (frcC false 0 0) 26 (0, 0)), (g6, .cells (frcC false 0 0) 26 (0, 0)), (g5, .cells (frcC false 0 0) 26 (0, 0)), (g4, .cells (frcC false 0 0) 26 (0, 0)), (g3, .cells #[.func (.func 12) #[] #[], .func (.func 13) #[] #[], .func (.func 15) #[] #[], .func (.func 17) #[] #[], .func (.func 25) #[] #[]] 31 (0, 0)), (g2, .cells (frcC sx nx 0) 26 (0, 0)), (g1, .cells (frcC sx nx dx) 26 (0, 0))] (hW42) ?_
  refine wpL_v (v := .agg (frcC sx nx 0)) rfl (by kernel_rfl) rfl (yb_load rfl (by kernel_rfl) (.tail _ (.tail _ (.tail _ (.tail _ (.tail _ (.tail _ (.tail _ (.tail _ (.tail _ (.tail _ (.tail _ (.head _)))))))))))) Tryd.underlying26 rfl size27 (by simp) (frc_whole sx nx 0)) (by simp only [List.setIfInBounds_toArray, List.set_cons_succ, List.set_cons_zero] <;> rfl) ?_
  refine wpL_v (v := .agg (frcC sx nx dx)) rfl (by kernel_rfl) rfl (yb_load rfl (by kernel_rfl) (.tail _ (.tail _ (.tail _ (.tail _ (.tail _ (.tail _ (.tail _ (.tail _ (.tail _ (.tail _ (.tail _ (.tail _ (.head _))))))))))))) Tryd.underlying26 rfl size27 (by simp) (frc_whole sx nx dx)) (by simp only [List.setIfInBounds_toArray, List.set_cons_succ, List.set_cons_zero] <;> rfl) ?_
  refine wpL_v (v := .tuple #[.int .i64 0, .int .i64 2]) rfl (by kernel_rfl) rfl (yb_call (f := 18) (args := #[.agg (frcC sx nx 0), .agg (frcC sx nx dx)]) (fun _ => by kernel_rfl) fun W hW => HC2.out W) (by simp only [List.setIfInBounds_toArray, List.set_cons_succ, List.set_cons_zero] <;> rfl) ?_
  refine wpL_p (v := .tuple #[.int .i64 0, .int .i64 2]) rfl (by kernel_rfl) rfl (fun _ => by kernel_rfl) (by simp only [List.setIfInBounds_toArray, List.set_cons_succ, List.set_cons_zero] <;> rfl) ?_
  refine wpL_p (v := .int .i64 0) rfl (by kernel_rfl) rfl (fun _ => by kernel_rfl) (by simp only [List.setIfInBounds_toArray, List.set_cons_succ, List.set_cons_zero] <;> rfl) ?_
  refine wpL_p (v := .int .i64 2) rfl (by kernel_rfl) rfl (fun _ => by kernel_rfl) (by simp only [List.setIfInBounds_toArray, List.set_cons_succ, List.set_cons_zero] <;> rfl) ?_
  refine wpL_p (v := .int .i64 0) rfl (by kernel_rfl) rfl (fun _ => by kernel_rfl) (by simp only [List.setIfInBounds_toArray, List.set_cons_succ, List.set_cons_zero] <;> rfl) ?_
  refine wpL_p (v := .int .i64 2) rfl (by kernel_rfl) rfl (fun _ => by kernel_rfl) (by simp only [List.setIfInBounds_toArray, List.set_cons_succ, List.set_cons_zero] <;> rfl) ?_
  refine wpL_done (fun W43 hW43 => ?_)
  clear hW42
  refine (show Code.wp _ _ _ _ _ from ?_)
  refine wp_seq ?_
  refine wp_region_L (W0 := w) [(g13, .cells (frcC false 0 0) 26 (0, 0)), (g12, .cells (frcC false 0 0) 26 (0, 0)), (g11, .cells (frcC false 0 0) 26 (0, 0)), (g10, .cells (frcC false 0 0) 26 (0, 0)), (g9, .cells (frcC false 0 0) 26 (0, 0)), (g8, .cells (frcC false 0 0) 26 (0, 0)), (g7, .cells (frcC false 0 0) 26 (0, 0)), (g6, .cells (frcC false 0 0) 26 (0, 0)), (g5, .cells (frcC false 0 0) 26 (0, 0)), (g4, .cells (frcC false 0 0) 26 (0, 0)), (g3, .cells #[.func (.func 12) #[] #[], .func (.func 13) #[] #[], .func (.func 15) #[] #[], .func (.func 17) #[] #[], .func (.func 25) #[] #[]] 31 (0, 0)), (g2, .cells (frcC sx nx 0) 26 (0, 0)), (g1, .cells (frcC sx nx dx) 26 (0, 0))] (hW43) ?_
  refine wpL_v (v := .agg (frcC sx nx 0)) rfl (by kernel_rfl) rfl (yb_load rfl (by kernel_rfl) (.tail _ (.tail _ (.tail _ (.tail _ (.tail _ (.tail _ (.tail _ (.tail _ (.tail _ (.tail _ (.tail _ (.head _)))))))))))) Tryd.underlying26 rfl size27 (by simp) (frc_whole sx nx 0)) (by simp only [List.setIfInBounds_toArray, List.set_cons_succ, List.set_cons_zero] <;> rfl) ?_
  refine wpL_v (v := .tuple #[.int .i64 0, .int .i64 2]) rfl (by kernel_rfl) rfl (yb_call (f := 19) (args := #[.agg (frcC sx nx 0)]) (fun _ => by kernel_rfl) fun W hW => HF.out W) (by simp only [List.setIfInBounds_toArray, List.set_cons_succ, List.set_cons_zero] <;> rfl) ?_
  refine wpL_p (v := .tuple #[.int .i64 0, .int .i64 2]) rfl (by kernel_rfl) rfl (fun _ => by kernel_rfl) (by simp only [List.setIfInBounds_toArray, List.set_cons_succ, List.set_cons_zero] <;> rfl) ?_
  refine wpL_p (v := .int .i64 0) rfl (by kernel_rfl) rfl (fun _ => by kernel_rfl) (by simp only [List.setIfInBounds_toArray, List.set_cons_succ, List.set_cons_zero] <;> rfl) ?_
  refine wpL_p (v := .int .i64 2) rfl (by kernel_rfl) rfl (fun _ => by kernel_rfl) (by simp only [List.setIfInBounds_toArray, List.set_cons_succ, List.set_cons_zero] <;> rfl) ?_
  refine wpL_p (v := .int .i64 0) rfl (by kernel_rfl) rfl (fun _ => by kernel_rfl) (by simp only [List.setIfInBounds_toArray, List.set_cons_succ, List.set_cons_zero] <;> rfl) ?_
  refine wpL_p (v := .int .i64 2) rfl (by kernel_rfl) rfl (fun _ => by kernel_rfl) (by simp only [List.setIfInBounds_toArray, List.set_cons_succ, List.set_cons_zero] <;> rfl) ?_
  refine wpL_done (fun W44 hW44 => ?_)
  clear hW43
  refine (show Code.wp _ _ _ _ _ from ?_)
  refine wp_seq ?_
  refine wp_region_L (W0 := w) [(g13, .cells (frcC false 0 0) 26 (0, 0)), (g12, .cells (frcC false 0 0) 26 (0, 0)), (g11, .cells (frcC false 0 0) 26 (0, 0)), (g10, .cells (frcC false 0 0) 26 (0, 0)), (g9, .cells (frcC false 0 0) 26 (0, 0)), (g8, .cells (frcC false 0 0) 26 (0, 0)), (g7, .cells (frcC false 0 0) 26 (0, 0)), (g6, .cells (frcC false 0 0) 26 (0, 0)), (g5, .cells (frcC false 0 0) 26 (0, 0)), (g4, .cells (frcC false 0 0) 26 (0, 0)), (g3, .cells #[.func (.func 12) #[] #[], .func (.func 13) #[] #[], .func (.func 15) #[] #[], .func (.func 17) #[] #[], .func (.func 25) #[] #[]] 31 (0, 0)), (g2, .cells (frcC sx nx 0) 26 (0, 0)), (g1, .cells (frcC sx nx dx) 26 (0, 0))] (hW44) ?_
  refine wpL_v (v := .agg (frcC sx nx 0)) rfl (by kernel_rfl) rfl (yb_load rfl (by kernel_rfl) (.tail _ (.tail _ (.tail _ (.tail _ (.tail _ (.tail _ (.tail _ (.tail _ (.tail _ (.tail _ (.tail _ (.head _)))))))))))) Tryd.underlying26 rfl size27 (by simp) (frc_whole sx nx 0)) (by simp only [List.setIfInBounds_toArray, List.set_cons_succ, List.set_cons_zero] <;> rfl) ?_
  refine wpL_v (v := .tuple #[.string ⟨#[]⟩, .int .i64 2]) rfl (by kernel_rfl) rfl (yb_call (f := 20) (args := #[.agg (frcC sx nx 0)]) (fun _ => by kernel_rfl) fun W hW => HT.out W hW.1) (by simp only [List.setIfInBounds_toArray, List.set_cons_succ, List.set_cons_zero] <;> rfl) ?_
  refine wpL_p (v := .tuple #[.string ⟨#[]⟩, .int .i64 2]) rfl (by kernel_rfl) rfl (fun _ => by kernel_rfl) (by simp only [List.setIfInBounds_toArray, List.set_cons_succ, List.set_cons_zero] <;> rfl) ?_
  refine wpL_p (v := .string ⟨#[]⟩) rfl (by kernel_rfl) rfl (fun _ => by kernel_rfl) (by simp only [List.setIfInBounds_toArray, List.set_cons_succ, List.set_cons_zero] <;> rfl) ?_
  refine wpL_p (v := .int .i64 2) rfl (by kernel_rfl) rfl (fun _ => by kernel_rfl) (by simp only [List.setIfInBounds_toArray, List.set_cons_succ, List.set_cons_zero] <;> rfl) ?_
  refine wpL_p (v := .string ⟨#[]⟩) rfl (by kernel_rfl) rfl (fun _ => by kernel_rfl) (by simp only [List.setIfInBounds_toArray, List.set_cons_succ, List.set_cons_zero] <;> rfl) ?_
  refine wpL_p (v := .int .i64 2) rfl (by kernel_rfl) rfl (fun _ => by kernel_rfl) (by simp only [List.setIfInBounds_toArray, List.set_cons_succ, List.set_cons_zero] <;> rfl) ?_
  refine wpL_done (fun W45 hW45 => ?_)
  clear hW44
  refine (show Code.wp _ _ _ _ _ from ?_)
  refine wp_seq ?_
  refine wp_region_L (W0 := w) [(g13, .cells (frcC false 0 0) 26 (0, 0)), (g12, .cells (frcC false 0 0) 26 (0, 0)), (g11, .cells (frcC false 0 0) 26 (0, 0)), (g10, .cells (frcC false 0 0) 26 (0, 0)), (g9, .cells (frcC false 0 0) 26 (0, 0)), (g8, .cells (frcC false 0 0) 26 (0, 0)), (g7, .cells (frcC false 0 0) 26 (0, 0)), (g6, .cells (frcC false 0 0) 26 (0, 0)), (g5, .cells (frcC false 0 0) 26 (0, 0)), (g4, .cells (frcC false 0 0) 26 (0, 0)), (g3, .cells #[.func (.func 12) #[] #[], .func (.func 13) #[] #[], .func (.func 15) #[] #[], .func (.func 17) #[] #[], .func (.func 25) #[] #[]] 31 (0, 0)), (g2, .cells (frcC sx nx 0) 26 (0, 0)), (g1, .cells (frcC sx nx dx) 26 (0, 0))] (hW45) ?_
  refine wpL_p (v := .int .i64 2) rfl (by kernel_rfl) rfl (fun _ => by kernel_rfl) (by simp only [List.setIfInBounds_toArray, List.set_cons_succ, List.set_cons_zero] <;> rfl) ?_
  refine wpL_p (v := .bool true) rfl (by kernel_rfl) rfl (fun _ => by kernel_rfl) (by simp only [List.setIfInBounds_toArray, List.set_cons_succ, List.set_cons_zero] <;> rfl) ?_
  refine wpL_p (v := .bool true) rfl (by kernel_rfl) rfl (fun _ => by kernel_rfl) (by simp only [List.setIfInBounds_toArray, List.set_cons_succ, List.set_cons_zero] <;> rfl) ?_
  refine wpL_p (v := .int .i64 2) rfl (by kernel_rfl) rfl (fun _ => by kernel_rfl) (by simp only [List.setIfInBounds_toArray, List.set_cons_succ, List.set_cons_zero] <;> rfl) ?_
  refine wpL_p (v := .bool true) rfl (by kernel_rfl) rfl (fun _ => by kernel_rfl) (by simp only [List.setIfInBounds_toArray, List.set_cons_succ, List.set_cons_zero] <;> rfl) ?_
  refine wpL_p (v := .bool true) rfl (by kernel_rfl) rfl (fun _ => by kernel_rfl) (by simp only [List.setIfInBounds_toArray, List.set_cons_succ, List.set_cons_zero] <;> rfl) ?_
  refine wpL_p (v := .bool true) rfl (by kernel_rfl) rfl (fun _ => by kernel_rfl) (by simp only [List.setIfInBounds_toArray, List.set_cons_succ, List.set_cons_zero] <;> rfl) ?_
  refine wpL_p (v := .int .i64 2) rfl (by kernel_rfl) rfl (fun _ => by kernel_rfl) (by simp only [List.setIfInBounds_toArray, List.set_cons_succ, List.set_cons_zero] <;> rfl) ?_
  refine wpL_p (v := .bool true) rfl (by kernel_rfl) rfl (fun _ => by kernel_rfl) (by simp only [List.setIfInBounds_toArray, List.set_cons_succ, List.set_cons_zero] <;> rfl) ?_
  refine wpL_p (v := .bool true) rfl (by kernel_rfl) rfl (fun _ => by kernel_rfl) (by simp only [List.setIfInBounds_toArray, List.set_cons_succ, List.set_cons_zero] <;> rfl) ?_
  refine wpL_p (v := .bool true) rfl (by kernel_rfl) rfl (fun _ => by kernel_rfl) (by simp only [List.setIfInBounds_toArray, List.set_cons_succ, List.set_cons_zero] <;> rfl) ?_
  refine wpL_p (v := .int .i64 2) rfl (by kernel_rfl) rfl (fun _ => by kernel_rfl) (by simp only [List.setIfInBounds_toArray, List.set_cons_succ, List.set_cons_zero] <;> rfl) ?_
  refine wpL_p (v := .bool true) rfl (by kernel_rfl) rfl (fun _ => by kernel_rfl) (by simp only [List.setIfInBounds_toArray, List.set_cons_succ, List.set_cons_zero] <;> rfl) ?_
  refine wpL_p (v := .bool true) rfl (by kernel_rfl) rfl (fun _ => by kernel_rfl) (by simp only [List.setIfInBounds_toArray, List.set_cons_succ, List.set_cons_zero] <;> rfl) ?_
  refine wpL_p (v := .bool true) rfl (by kernel_rfl) rfl (fun _ => by kernel_rfl) (by simp only [List.setIfInBounds_toArray, List.set_cons_succ, List.set_cons_zero] <;> rfl) ?_
  refine wpL_p (v := .int .i64 0) rfl (by kernel_rfl) rfl (fun _ => by kernel_rfl) (by simp only [List.setIfInBounds_toArray, List.set_cons_succ, List.set_cons_zero] <;> rfl) ?_
  refine wpL_p (v := .bool true) rfl (by kernel_rfl) rfl (fun _ => by kernel_rfl) (by simp only [List.setIfInBounds_toArray, List.set_cons_succ, List.set_cons_zero] <;> rfl) ?_
  refine wpL_p (v := .bool true) rfl (by kernel_rfl) rfl (fun _ => by kernel_rfl) (by simp only [List.setIfInBounds_toArray, List.set_cons_succ, List.set_cons_zero] <;> rfl) ?_
  refine wpL_p (v := .bool true) rfl (by kernel_rfl) rfl (fun _ => by kernel_rfl) (by simp only [List.setIfInBounds_toArray, List.set_cons_succ, List.set_cons_zero] <;> rfl) ?_
  refine wpL_p (v := .int .i64 0) rfl (by kernel_rfl) rfl (fun _ => by kernel_rfl) (by simp only [List.setIfInBounds_toArray, List.set_cons_succ, List.set_cons_zero] <;> rfl) ?_
  refine wpL_p (v := .bool true) rfl (by kernel_rfl) rfl (fun _ => by kernel_rfl) (by simp only [List.setIfInBounds_toArray, List.set_cons_succ, List.set_cons_zero] <;> rfl) ?_
  refine wpL_p (v := .bool true) rfl (by kernel_rfl) rfl (fun _ => by kernel_rfl) (by simp only [List.setIfInBounds_toArray, List.set_cons_succ, List.set_cons_zero] <;> rfl) ?_
  refine wpL_p (v := .bool true) rfl (by kernel_rfl) rfl (fun _ => by kernel_rfl) (by simp only [List.setIfInBounds_toArray, List.set_cons_succ, List.set_cons_zero] <;> rfl) ?_
  refine wpL_p (v := .int .i64 0) rfl (by kernel_rfl) rfl (fun _ => by kernel_rfl) (by simp only [List.setIfInBounds_toArray, List.set_cons_succ, List.set_cons_zero] <;> rfl) ?_
  refine wpL_p (v := .bool true) rfl (by kernel_rfl) rfl (fun _ => by kernel_rfl) (by simp only [List.setIfInBounds_toArray, List.set_cons_succ, List.set_cons_zero] <;> rfl) ?_
  refine wpL_p (v := .bool true) rfl (by kernel_rfl) rfl (fun _ => by kernel_rfl) (by simp only [List.setIfInBounds_toArray, List.set_cons_succ, List.set_cons_zero] <;> rfl) ?_
  refine wpL_p (v := .bool true) rfl (by kernel_rfl) rfl (fun _ => by kernel_rfl) (by simp only [List.setIfInBounds_toArray, List.set_cons_succ, List.set_cons_zero] <;> rfl) ?_
  refine wpL_p (v := .string ⟨#[]⟩) rfl (by kernel_rfl) rfl (fun _ => by kernel_rfl) (by simp only [List.setIfInBounds_toArray, List.set_cons_succ, List.set_cons_zero] <;> rfl) ?_
  refine wpL_p (v := .bool true) rfl (by kernel_rfl) rfl (fun _ => by kernel_rfl) (by simp only [List.setIfInBounds_toArray, List.set_cons_succ, List.set_cons_zero] <;> rfl) ?_
  refine wpL_p (v := .bool true) rfl (by kernel_rfl) rfl (fun _ => by kernel_rfl) (by simp only [List.setIfInBounds_toArray, List.set_cons_succ, List.set_cons_zero] <;> rfl) ?_
  refine wpL_p (v := .bool true) rfl (by kernel_rfl) rfl (fun _ => by kernel_rfl) (by simp only [List.setIfInBounds_toArray, List.set_cons_succ, List.set_cons_zero] <;> rfl) ?_
  refine wpL_done (fun W46 hW46 => ?_)
  clear hW45
  refine (show Code.wp _ _ _ _ _ from ?_)
  refine wp_ret ?_
  go_ret
  exact ⟨rfl, hW46.1⟩
end Go.Proofs.YtkfcikijmkgahaaDoor
