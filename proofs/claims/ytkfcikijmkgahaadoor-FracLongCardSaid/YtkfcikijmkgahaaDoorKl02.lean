import Derived.Test.YtkfcikijmkgahaaDoorKl00
/- Part of the proof: L2. -/
set_option linter.unusedVariables false
set_option linter.unusedSimpArgs false
set_option linter.unusedSectionVars false
namespace Go.Proofs.YtkfcikijmkgahaaDoor
open Go.RowKit Tw
set_option maxRecDepth 100000 in
set_option maxHeartbeats 4000000 in
theorem FracLong_w2 (w : World) (n a b : Nat) (sx : Bool) (nx dx : Nat) (Hnx : nx < R 8) (Hdx : dx < R 8) (sp : Bool) (np dp : Nat) (Hnp : np < R 8) (Hdp : dp < R 8) (st : Bool) (nt dt : Nat) (Hnt : nt < R 8) (Hdt : dt < R 8) (su : Bool) (nu du : Nat) (Hnu : nu < R 8) (Hdu : du < R 8) (sq : Bool) (nq dq : Nat) (Hnq : nq < R 8) (Hdq : dq < R 8) (o A B C : Nat) (Hor : bits .or .u32 (n : Int) 1 = (o : Int)) (Ho : o < 4294967296) (HA : a % 225 = A) (HB : b % 225 = B) (HC : bl o = C) (HC32 : C ≤ 32) (ha : a < 256) (hb : b < 256) (Hlong : ¬ C + A + B > 256)
    (Hne_0 : decide (sx = false ∧ nx = 0 ∧ dx = 0) = false)
    (HAw : Hid (∀ W, Below w.heap.size w W → Calls Tryd.prog 10 #[] W fun e w' => e = .returned (.bool true) ∧ Below W.heap.size W w'))
    (HOo : Hid (∀ W, Calls Tryd.prog 16 #[.int .i64 (o : Int)] W fun e w' => e = .returned (.agg (frcC false o 1)) ∧ Below W.heap.size W w'))
    (HPa : Hid (∀ W, Calls Tryd.prog 23 #[.int .i64 (A : Int)] W fun e w' => e = .returned (.tuple #[.agg (frcC false (2 ^ A) 1), .int .i64 0]) ∧ Below W.heap.size W w'))
    (HPb : Hid (∀ W, Calls Tryd.prog 23 #[.int .i64 (B : Int)] W fun e w' => e = .returned (.tuple #[.agg (frcC false (2 ^ B) 1), .int .i64 0]) ∧ Below W.heap.size W w'))
    (HM1 : Hid (∀ W, Calls Tryd.prog 15 #[.agg (frcC false (2 ^ A) 1), .agg (frcC false o 1)] W fun e w' => e = .returned (.tuple #[.agg (frcC sx nx dx), .int .i64 0]) ∧ Below W.heap.size W w'))
    (HM2 : Hid (∀ W, Calls Tryd.prog 15 #[.agg (frcC sx nx dx), .agg (frcC false (2 ^ B) 1)] W fun e w' => e = .returned (.tuple #[.agg (frcC sp np dp), .int .i64 0]) ∧ Below W.heap.size W w'))
    (HO1 : Hid (∀ W, Calls Tryd.prog 16 #[.int .i64 1] W fun e w' => e = .returned (.agg (frcC false 1 1)) ∧ Below W.heap.size W w'))
    (HD1 : Hid (∀ W, Calls Tryd.prog 17 #[.agg (frcC false 1 1), .agg (frcC sx nx dx)] W fun e w' => e = .returned (.tuple #[.agg (frcC st nt dt), .int .i64 0]) ∧ Below W.heap.size W w'))
    (HD2 : Hid (∀ W, Calls Tryd.prog 17 #[.agg (frcC st nt dt), .agg (frcC false (2 ^ B) 1)] W fun e w' => e = .returned (.tuple #[.agg (frcC su nu du), .int .i64 0]) ∧ Below W.heap.size W w'))
    (HD3 : Hid (∀ W, Calls Tryd.prog 17 #[.agg (frcC sx nx dx), .agg (frcC false (2 ^ B) 1)] W fun e w' => e = .returned (.tuple #[.agg (frcC sq nq dq), .int .i64 0]) ∧ Below W.heap.size W w'))
    (HM3 : Hid (∀ W, Calls Tryd.prog 15 #[.agg (frcC sq nq dq), .agg (frcC false (2 ^ B) 1)] W fun e w' => e = .returned (.tuple #[.agg (frcC sx nx dx), .int .i64 0]) ∧ Below W.heap.size W w'))
    (HD4 : Hid (∀ W, Calls Tryd.prog 17 #[.agg (frcC false 1 1), .agg (frcC sp np dp)] W fun e w' => e = .returned (.tuple #[.agg (frcC su nu du), .int .i64 0]) ∧ Below W.heap.size W w')) :
    Calls Tryd.prog 8 #[.int .u32 (n : Int), .int .u8 (a : Int), .int .u8 (b : Int)] w fun e w' => e = .returned (.bool true) ∧ Below w.heap.size w w' := by
  go_enter Tryd.func8, Tryd.ntmps8
  refine wp_seq ?_
  refine wp_region_L (W0 := w) [] (KS.start w) ?_
  refine wpL_p (v := .bool false) rfl (by kernel_rfl) rfl (fun _ => by kernel_rfl) (by simp only [List.setIfInBounds_toArray, List.set_cons_succ, List.set_cons_zero] <;> rfl) ?_
  refine wpL_done (fun W1 hW1 => ?_)
  refine (show Code.wp _ _ _ _ _ from ?_)
  refine wp_seq ?_
  refine wp_seq ?_
  refine wp_region_L (W0 := w) [] (hW1) ?_
  refine wpL_v (v := .bool true) rfl (by kernel_rfl) rfl (yb_call (f := 10) (args := #[]) (fun _ => by kernel_rfl) fun W hW => HAw.out W hW.1) (by simp only [List.setIfInBounds_toArray, List.set_cons_succ, List.set_cons_zero] <;> rfl) ?_
  refine wpL_p (v := .bool false) rfl (by kernel_rfl) rfl (fun _ => by kernel_rfl) (by simp only [List.setIfInBounds_toArray, List.set_cons_succ, List.set_cons_zero] <;> rfl) ?_
  refine wpL_done (fun W2 hW2 => ?_)
  clear hW1
  refine (show Code.wp _ _ _ _ _ from ?_)
  refine wp_cond_false rfl ?_
  refine wp_skip ?_
  refine (show Code.wp _ _ _ _ _ from ?_)
  refine wp_seq ?_
  refine wp_region_L (W0 := w) [] (hW2) ?_
  refine wpL_p (v := .int .u32 (n : Int)) rfl (by kernel_rfl) rfl (fun _ => by kernel_rfl) (by simp only [List.setIfInBounds_toArray, List.set_cons_succ, List.set_cons_zero] <;> rfl) ?_
  refine wpL_p (v := .int .u32 (o : Int)) rfl (by kernel_rfl) rfl (fun _ => by rw [← Hor]; kernel_rfl) (by simp only [List.setIfInBounds_toArray, List.set_cons_succ, List.set_cons_zero] <;> rfl) ?_
  refine wpL_p (v := .int .i64 (o : Int)) rfl (by kernel_rfl) rfl (run_conv32 rfl (by kernel_rfl) Ho) (by simp only [List.setIfInBounds_toArray, List.set_cons_succ, List.set_cons_zero] <;> rfl) ?_
  refine wpL_v (v := .agg (frcC false o 1)) rfl (by kernel_rfl) rfl (yb_call (f := 16) (args := #[.int .i64 (o : Int)]) (fun _ => by kernel_rfl) fun W hW => HOo.out W) (by simp only [List.setIfInBounds_toArray, List.set_cons_succ, List.set_cons_zero] <;> rfl) ?_
  refine wpL_new (fun g => .pointer (some ⟨g, 0, none⟩)) (obi := .cells (frcC false 0 0) 26 (0, 0)) rfl rfl (fun _ => by rw [frc_zero]; rfl) (fun _ => by simp only [List.setIfInBounds_toArray, List.set_cons_succ, List.set_cons_zero] <;> rfl) fun g1 Bg1 Fg1 => ?_
  try simp only [List.forall_mem_cons] at Fg1
  refine wpL_s [(g1, .cells (frcC false o 1) 26 (0, 0))] rfl rfl (st_f (neg := false) (n := o) (d := 1) rfl (by kernel_rfl) (by kernel_rfl) (.head _) (by omega) size27 (List.forall_mem_cons.2 ⟨.inl rfl, (List.forall_mem_nil _)⟩)) ?_
  refine wpL_done (fun W3 hW3 => ?_)
  clear hW2
  refine (show Code.wp _ _ _ _ _ from ?_)
  refine wp_seq ?_
  refine wp_region_L (W0 := w) [(g1, .cells (frcC false o 1) 26 (0, 0))] (hW3) ?_
  refine wpL_p (v := .int .i64 0) rfl (by kernel_rfl) rfl (fun _ => by kernel_rfl) (by simp only [List.setIfInBounds_toArray, List.set_cons_succ, List.set_cons_zero] <;> rfl) ?_
  refine wpL_done (fun W4 hW4 => ?_)
  clear hW3
  refine (show Code.wp _ _ _ _ _ from ?_)
  refine wp_seq ?_
  refine wp_seq ?_
  refine wp_region_L (W0 := w) [(g1, .cells (frcC false o 1) 26 (0, 0))] (hW4) ?_
  refine wpL_p (v := .int .u32 (n : Int)) rfl (by kernel_rfl) rfl (fun _ => by kernel_rfl) (by simp only [List.setIfInBounds_toArray, List.set_cons_succ, List.set_cons_zero] <;> rfl) ?_
  refine wpL_p (v := .int .u32 (o : Int)) rfl (by kernel_rfl) rfl (fun _ => by rw [← Hor]; kernel_rfl) (by simp only [List.setIfInBounds_toArray, List.set_cons_succ, List.set_cons_zero] <;> rfl) ?_
  refine wpL_p (v := .int .u32 (o : Int)) rfl (by kernel_rfl) rfl (fun _ => by kernel_rfl) (by simp only [List.setIfInBounds_toArray, List.set_cons_succ, List.set_cons_zero] <;> rfl) ?_
  refine wpL_done (fun W5 hW5 => ?_)
  clear hW4
  refine (show Code.wp _ _ _ _ _ from ?_)
  refine wp_block ?_
  go_loopw [8, 9] (fun x y wr => ∃ i m : Nat, i + bl m = C ∧ m < 4294967296 ∧ x = .int .i64 (i : Int) ∧ y = .int .u32 (m : Int) ∧ KS w [(g1, .cells (frcC false o 1) 26 (0, 0))] wr) (fun _ y _ => (intOf y).toNat)
  case atStart => exact ⟨0, o, by omega, Ho, rfl, rfl, hW5⟩
  case round =>
    obtain ⟨i, m, hi, hm32, rfl, rfl, hKS⟩ := hrel
    by_cases hm : 0 < m
    · have hbl := bl_half hm
      refine wp_seq ?_
      refine wp_seq ?_
      refine wp_region_L (W0 := w) [(g1, .cells (frcC false o 1) 26 (0, 0))] (hKS) ?_
      refine wpL_p (v := .int .u32 (m : Int)) rfl (by kernel_rfl) rfl (fun _ => by kernel_rfl) (by simp only [List.setIfInBounds_toArray, List.set_cons_succ, List.set_cons_zero] <;> rfl) ?_
      refine wpL_p (v := .bool true) rfl (by kernel_rfl) rfl (run_bin rfl (vx := .int .u32 (m : Int)) (vy := .int .u32 0) (by kernel_rfl) (by kernel_rfl) fun w => run_gtrmy hm w) (by simp only [List.setIfInBounds_toArray, List.set_cons_succ, List.set_cons_zero] <;> rfl) ?_
      refine wpL_done (fun W6 hW6 => ?_)
      refine (show Code.wp _ _ _ _ _ from ?_)
      refine wp_cond_true rfl ?_
      refine wp_skip ?_
      refine (show Code.wp _ _ _ _ _ from ?_)
      refine wp_seq ?_
      refine wp_block ?_
      refine wp_region_L (W0 := w) [(g1, .cells (frcC false o 1) 26 (0, 0))] (hW6) ?_
      refine wpL_p (v := .int .i64 (i : Int)) rfl (by kernel_rfl) rfl (fun _ => by kernel_rfl) (by simp only [List.setIfInBounds_toArray, List.set_cons_succ, List.set_cons_zero] <;> rfl) ?_
      refine wpL_p (v := .int .i64 ((i + 1 : Nat) : Int)) rfl (by kernel_rfl) rfl (run_bin rfl (vx := .int .i64 (i : Int)) (vy := .int .i64 1) (by kernel_rfl) (by kernel_rfl) fun w => run_addn (x := i) (y := 1) (by omega) w) (by simp only [List.setIfInBounds_toArray, List.set_cons_succ, List.set_cons_zero] <;> rfl) ?_
      refine wpL_p (v := .int .i64 ((i + 1 : Nat) : Int)) rfl (by kernel_rfl) rfl (fun _ => by kernel_rfl) (by simp only [List.setIfInBounds_toArray, List.set_cons_succ, List.set_cons_zero] <;> rfl) ?_
      refine wpL_done (fun W7 hW7 => ?_)
      clear hW6
      refine (show Code.wp _ _ _ _ _ from ?_)
      refine wp_region_L (W0 := w) [(g1, .cells (frcC false o 1) 26 (0, 0))] (hW7) ?_
      refine wpL_p (v := .int .u32 (m : Int)) rfl (by kernel_rfl) rfl (fun _ => by kernel_rfl) (by simp only [List.setIfInBounds_toArray, List.set_cons_succ, List.set_cons_zero] <;> rfl) ?_
      refine wpL_p (v := .int .u32 ((m / 2 : Nat) : Int)) rfl (by kernel_rfl) rfl (run_bin rfl (vx := .int .u32 (m : Int)) (vy := .int .u64 1) (by kernel_rfl) (by kernel_rfl) fun w => run_shr1 w) (by simp only [List.setIfInBounds_toArray, List.set_cons_succ, List.set_cons_zero] <;> rfl) ?_
      refine wpL_p (v := .int .u32 ((m / 2 : Nat) : Int)) rfl (by kernel_rfl) rfl (fun _ => by kernel_rfl) (by simp only [List.setIfInBounds_toArray, List.set_cons_succ, List.set_cons_zero] <;> rfl) ?_
      refine wpL_done (fun W8 hW8 => ?_)
      clear hW7
      go_roundw
      case rel =>
        repeat apply Exists.intro
        exact ⟨⟨i + 1, m / 2, by omega, by omega, rfl, rfl, hW8⟩, rfl⟩
      case measure => (show (intOf (.int .u32 ((m / 2 : Nat) : Int))).toNat < (intOf (.int .u32 (m : Int))).toNat); simp only [intOf]; omega
    · obtain rfl : m = 0 := by omega
      rw [bl_zero, Nat.add_zero] at hi
      have hi2 := hi.symm
      subst hi2
      refine wp_seq ?_
      refine wp_seq ?_
      refine wp_region_L (W0 := w) [(g1, .cells (frcC false o 1) 26 (0, 0))] (hKS) ?_
      refine wpL_p (v := .int .u32 ((0 : Nat) : Int)) rfl (by kernel_rfl) rfl (fun _ => by kernel_rfl) (by simp only [List.setIfInBounds_toArray, List.set_cons_succ, List.set_cons_zero] <;> rfl) ?_
      refine wpL_p (v := .bool false) rfl (by kernel_rfl) rfl (run_bin rfl (vx := .int .u32 ((0 : Nat) : Int)) (vy := .int .u32 0) (by kernel_rfl) (by kernel_rfl) fun w => run_gtrmn hm w) (by simp only [List.setIfInBounds_toArray, List.set_cons_succ, List.set_cons_zero] <;> rfl) ?_
      refine wpL_done (fun W6 hW6 => ?_)
      refine (show Code.wp _ _ _ _ _ from ?_)
      refine wp_cond_false rfl ?_
      refine wp_exit ?_
      refine (show Code.wp _ _ _ _ _ from ?_)
      refine wp_seq ?_
      refine wp_region_L (W0 := w) [(g1, .cells (frcC false o 1) 26 (0, 0))] (hW6) ?_
      refine wpL_p (v := .func (.func 23) #[] #[]) rfl (by kernel_rfl) rfl (fun _ => by kernel_rfl) (by simp only [List.setIfInBounds_toArray, List.set_cons_succ, List.set_cons_zero] <;> rfl) ?_
      refine wpL_done (fun W7 hW7 => ?_)
      clear hW6
      refine (show Code.wp _ _ _ _ _ from ?_)
      refine wp_seq ?_
      refine wp_region_L (W0 := w) [(g1, .cells (frcC false o 1) 26 (0, 0))] (hW7) ?_
      refine wpL_p (v := .func (.func 23) #[] #[]) rfl (by kernel_rfl) rfl (fun _ => by kernel_rfl) (by simp only [List.setIfInBounds_toArray, List.set_cons_succ, List.set_cons_zero] <;> rfl) ?_
      refine wpL_p (v := .int .u8 (a : Int)) rfl (by kernel_rfl) rfl (fun _ => by kernel_rfl) (by simp only [List.setIfInBounds_toArray, List.set_cons_succ, List.set_cons_zero] <;> rfl) ?_
      refine wpL_p (v := .int .i64 ((a : Nat) : Int)) rfl (by kernel_rfl) rfl (run_conv8 rfl (by kernel_rfl) ha) (by simp only [List.setIfInBounds_toArray, List.set_cons_succ, List.set_cons_zero] <;> rfl) ?_
      refine wpL_p (v := .int .i64 (A : Int)) rfl (by kernel_rfl) rfl (run_bin rfl (vx := .int .i64 ((a : Nat) : Int)) (vy := .int .i64 225) (by kernel_rfl) (by kernel_rfl) fun w => run_rem225 HA w) (by simp only [List.setIfInBounds_toArray, List.set_cons_succ, List.set_cons_zero] <;> rfl) ?_
      refine wpL_v (v := .tuple #[.agg (frcC false (2 ^ A) 1), .int .i64 0]) rfl (by kernel_rfl) rfl (yb_call (f := 23) (args := #[.int .i64 (A : Int)]) (fun _ => by kernel_rfl) fun W hW => HPa.out W) (by simp only [List.setIfInBounds_toArray, List.set_cons_succ, List.set_cons_zero] <;> rfl) ?_
      refine wpL_p (v := .tuple #[.agg (frcC false (2 ^ A) 1), .int .i64 0]) rfl (by kernel_rfl) rfl (fun _ => by kernel_rfl) (by simp only [List.setIfInBounds_toArray, List.set_cons_succ, List.set_cons_zero] <;> rfl) ?_
      refine wpL_p (v := .agg (frcC false (2 ^ A) 1)) rfl (by kernel_rfl) rfl (fun _ => by kernel_rfl) (by simp only [List.setIfInBounds_toArray, List.set_cons_succ, List.set_cons_zero] <;> rfl) ?_
      refine wpL_p (v := .int .i64 0) rfl (by kernel_rfl) rfl (fun _ => by kernel_rfl) (by simp only [List.setIfInBounds_toArray, List.set_cons_succ, List.set_cons_zero] <;> rfl) ?_
      refine wpL_new (fun g => .pointer (some ⟨g, 0, none⟩)) (obi := .cells (frcC false 0 0) 26 (0, 0)) rfl rfl (fun _ => by rw [frc_zero]; rfl) (fun _ => by simp only [List.setIfInBounds_toArray, List.set_cons_succ, List.set_cons_zero] <;> rfl) fun g2 Bg2 Fg2 => ?_
      try simp only [List.forall_mem_cons] at Fg2
      refine wpL_s [(g2, .cells (frcC false (2 ^ A) 1) 26 (0, 0)), (g1, .cells (frcC false o 1) 26 (0, 0))] rfl rfl (st_f (neg := false) (n := (2 ^ A)) (d := 1) rfl (by kernel_rfl) (by kernel_rfl) (.head _) (by omega) size27 (List.forall_mem_cons.2 ⟨.inl rfl, (List.forall_mem_cons.2 ⟨.inr ⟨(.tail _ (.head _)), Fg2.1⟩, (List.forall_mem_nil _)⟩)⟩)) ?_
      refine wpL_p (v := .int .i64 0) rfl (by kernel_rfl) rfl (fun _ => by kernel_rfl) (by simp only [List.setIfInBounds_toArray, List.set_cons_succ, List.set_cons_zero] <;> rfl) ?_
      refine wpL_done (fun W8 hW8 => ?_)
      clear hW7
      refine (show Code.wp _ _ _ _ _ from ?_)
      refine wp_seq ?_
      refine wp_region_L (W0 := w) [(g2, .cells (frcC false (2 ^ A) 1) 26 (0, 0)), (g1, .cells (frcC false o 1) 26 (0, 0))] (hW8) ?_
      refine wpL_p (v := .func (.func 23) #[] #[]) rfl (by kernel_rfl) rfl (fun _ => by kernel_rfl) (by simp only [List.setIfInBounds_toArray, List.set_cons_succ, List.set_cons_zero] <;> rfl) ?_
      refine wpL_p (v := .int .u8 (b : Int)) rfl (by kernel_rfl) rfl (fun _ => by kernel_rfl) (by simp only [List.setIfInBounds_toArray, List.set_cons_succ, List.set_cons_zero] <;> rfl) ?_
      refine wpL_p (v := .int .i64 ((b : Nat) : Int)) rfl (by kernel_rfl) rfl (run_conv8 rfl (by kernel_rfl) hb) (by simp only [List.setIfInBounds_toArray, List.set_cons_succ, List.set_cons_zero] <;> rfl) ?_
      refine wpL_p (v := .int .i64 (B : Int)) rfl (by kernel_rfl) rfl (run_bin rfl (vx := .int .i64 ((b : Nat) : Int)) (vy := .int .i64 225) (by kernel_rfl) (by kernel_rfl) fun w => run_rem225 HB w) (by simp only [List.setIfInBounds_toArray, List.set_cons_succ, List.set_cons_zero] <;> rfl) ?_
      refine wpL_v (v := .tuple #[.agg (frcC false (2 ^ B) 1), .int .i64 0]) rfl (by kernel_rfl) rfl (yb_call (f := 23) (args := #[.int .i64 (B : Int)]) (fun _ => by kernel_rfl) fun W hW => HPb.out W) (by simp only [List.setIfInBounds_toArray, List.set_cons_succ, List.set_cons_zero] <;> rfl) ?_
      refine wpL_p (v := .tuple #[.agg (frcC false (2 ^ B) 1), .int .i64 0]) rfl (by kernel_rfl) rfl (fun _ => by kernel_rfl) (by simp only [List.setIfInBounds_toArray, List.set_cons_succ, List.set_cons_zero] <;> rfl) ?_
      refine wpL_p (v := .agg (frcC false (2 ^ B) 1)) rfl (by kernel_rfl) rfl (fun _ => by kernel_rfl) (by simp only [List.setIfInBounds_toArray, List.set_cons_succ, List.set_cons_zero] <;> rfl) ?_
      refine wpL_p (v := .int .i64 0) rfl (by kernel_rfl) rfl (fun _ => by kernel_rfl) (by simp only [List.setIfInBounds_toArray, List.set_cons_succ, List.set_cons_zero] <;> rfl) ?_
      refine wpL_new (fun g => .pointer (some ⟨g, 0, none⟩)) (obi := .cells (frcC false 0 0) 26 (0, 0)) rfl rfl (fun _ => by rw [frc_zero]; rfl) (fun _ => by simp only [List.setIfInBounds_toArray, List.set_cons_succ, List.set_cons_zero] <;> rfl) fun g3 Bg3 Fg3 => ?_
      try simp only [List.forall_mem_cons] at Fg3
      refine wpL_s [(g3, .cells (frcC false (2 ^ B) 1) 26 (0, 0)), (g2, .cells (frcC false (2 ^ A) 1) 26 (0, 0)), (g1, .cells (frcC false o 1) 26 (0, 0))] rfl rfl (st_f (neg := false) (n := (2 ^ B)) (d := 1) rfl (by kernel_rfl) (by kernel_rfl) (.head _) (by omega) size27 (List.forall_mem_cons.2 ⟨.inl rfl, (List.forall_mem_cons.2 ⟨.inr ⟨(.tail _ (.head _)), Fg3.1⟩, (List.forall_mem_cons.2 ⟨.inr ⟨(.tail _ (.tail _ (.head _))), Fg3.2.1⟩, (List.forall_mem_nil _)⟩)⟩)⟩)) ?_
      refine wpL_p (v := .int .i64 0) rfl (by kernel_rfl) rfl (fun _ => by kernel_rfl) (by simp only [List.setIfInBounds_toArray, List.set_cons_succ, List.set_cons_zero] <;> rfl) ?_
      refine wpL_done (fun W9 hW9 => ?_)
      clear hW8
      refine (show Code.wp _ _ _ _ _ from ?_)
      refine wp_seq ?_
      refine wp_region_L (W0 := w) [(g3, .cells (frcC false (2 ^ B) 1) 26 (0, 0)), (g2, .cells (frcC false (2 ^ A) 1) 26 (0, 0)), (g1, .cells (frcC false o 1) 26 (0, 0))] (hW9) ?_
      refine wpL_v (v := .agg (frcC false (2 ^ A) 1)) rfl (by kernel_rfl) rfl (yb_load rfl (by kernel_rfl) (.tail _ (.head _)) Tryd.underlying26 rfl size27 (by simp) (frc_whole false (2 ^ A) 1)) (by simp only [List.setIfInBounds_toArray, List.set_cons_succ, List.set_cons_zero] <;> rfl) ?_
      refine wpL_v (v := .agg (frcC false o 1)) rfl (by kernel_rfl) rfl (yb_load rfl (by kernel_rfl) (.tail _ (.tail _ (.head _))) Tryd.underlying26 rfl size27 (by simp) (frc_whole false o 1)) (by simp only [List.setIfInBounds_toArray, List.set_cons_succ, List.set_cons_zero] <;> rfl) ?_
      refine wpL_v (v := .tuple #[.agg (frcC sx nx dx), .int .i64 0]) rfl (by kernel_rfl) rfl (yb_call (f := 15) (args := #[.agg (frcC false (2 ^ A) 1), .agg (frcC false o 1)]) (fun _ => by kernel_rfl) fun W hW => HM1.out W) (by simp only [List.setIfInBounds_toArray, List.set_cons_succ, List.set_cons_zero] <;> rfl) ?_
      refine wpL_p (v := .tuple #[.agg (frcC sx nx dx), .int .i64 0]) rfl (by kernel_rfl) rfl (fun _ => by kernel_rfl) (by simp only [List.setIfInBounds_toArray, List.set_cons_succ, List.set_cons_zero] <;> rfl) ?_
      refine wpL_p (v := .agg (frcC sx nx dx)) rfl (by kernel_rfl) rfl (fun _ => by kernel_rfl) (by simp only [List.setIfInBounds_toArray, List.set_cons_succ, List.set_cons_zero] <;> rfl) ?_
      refine wpL_p (v := .int .i64 0) rfl (by kernel_rfl) rfl (fun _ => by kernel_rfl) (by simp only [List.setIfInBounds_toArray, List.set_cons_succ, List.set_cons_zero] <;> rfl) ?_
      refine wpL_s [(g3, .cells (frcC false (2 ^ B) 1) 26 (0, 0)), (g2, .cells (frcC sx nx dx) 26 (0, 0)), (g1, .cells (frcC false o 1) 26 (0, 0))] rfl rfl (st_f (neg := sx) (n := nx) (d := dx) rfl (by kernel_rfl) (by kernel_rfl) (.tail _ (.head _)) (by omega) size27 (List.forall_mem_cons.2 ⟨.inr ⟨(.head _), (Ne.symm Fg3.1)⟩, (List.forall_mem_cons.2 ⟨.inl rfl, (List.forall_mem_cons.2 ⟨.inr ⟨(.tail _ (.tail _ (.head _))), Fg2.1⟩, (List.forall_mem_nil _)⟩)⟩)⟩)) ?_
      refine wpL_p (v := .int .i64 0) rfl (by kernel_rfl) rfl (fun _ => by kernel_rfl) (by simp only [List.setIfInBounds_toArray, List.set_cons_succ, List.set_cons_zero] <;> rfl) ?_
      refine wpL_done (fun W10 hW10 => ?_)
      clear hW9
      refine (show Code.wp _ _ _ _ _ from ?_)
      refine wp_seq ?_
      refine wp_seq ?_
      refine wp_region_L (W0 := w) [(g3, .cells (frcC false (2 ^ B) 1) 26 (0, 0)), (g2, .cells (frcC sx nx dx) 26 (0, 0)), (g1, .cells (frcC false o 1) 26 (0, 0))] (hW10) ?_
      refine wpL_v (v := .agg (frcC sx nx dx)) rfl (by kernel_rfl) rfl (yb_load rfl (by kernel_rfl) (.tail _ (.head _)) Tryd.underlying26 rfl size27 (by simp) (frc_whole sx nx dx)) (by simp only [List.setIfInBounds_toArray, List.set_cons_succ, List.set_cons_zero] <;> rfl) ?_
      refine wpL_p (v := .agg (frcC false 0 0)) rfl (by kernel_rfl) rfl (fun _ => by kernel_rfl) (by simp only [List.setIfInBounds_toArray, List.set_cons_succ, List.set_cons_zero] <;> rfl) ?_
      refine wpL_p (v := .bool false) rfl (by kernel_rfl) rfl (run_bin rfl (vx := .agg (frcC sx nx dx)) (vy := .agg (frcC false 0 0)) (by kernel_rfl) (by kernel_rfl) fun w => run_eql27x Hnx (lt8 (by omega)) Hdx (lt8 (by omega)) Hne_0 w) (by simp only [List.setIfInBounds_toArray, List.set_cons_succ, List.set_cons_zero] <;> rfl) ?_
      refine wpL_done (fun W11 hW11 => ?_)
      clear hW10
      refine (show Code.wp _ _ _ _ _ from ?_)
      refine wp_cond_false rfl ?_
      refine wp_skip ?_
      refine (show Code.wp _ _ _ _ _ from ?_)
      refine wp_seq ?_
      refine wp_region_L (W0 := w) [(g3, .cells (frcC false (2 ^ B) 1) 26 (0, 0)), (g2, .cells (frcC sx nx dx) 26 (0, 0)), (g1, .cells (frcC false o 1) 26 (0, 0))] (hW11) ?_
      refine wpL_v (v := .agg (frcC sx nx dx)) rfl (by kernel_rfl) rfl (yb_load rfl (by kernel_rfl) (.tail _ (.head _)) Tryd.underlying26 rfl size27 (by simp) (frc_whole sx nx dx)) (by simp only [List.setIfInBounds_toArray, List.set_cons_succ, List.set_cons_zero] <;> rfl) ?_
      refine wpL_v (v := .agg (frcC false (2 ^ B) 1)) rfl (by kernel_rfl) rfl (yb_load rfl (by kernel_rfl) (.head _) Tryd.underlying26 rfl size27 (by simp) (frc_whole false (2 ^ B) 1)) (by simp only [List.setIfInBounds_toArray, List.set_cons_succ, List.set_cons_zero] <;> rfl) ?_
      refine wpL_v (v := .tuple #[.agg (frcC sp np dp), .int .i64 0]) rfl (by kernel_rfl) rfl (yb_call (f := 15) (args := #[.agg (frcC sx nx dx), .agg (frcC false (2 ^ B) 1)]) (fun _ => by kernel_rfl) fun W hW => HM2.out W) (by simp only [List.setIfInBounds_toArray, List.set_cons_succ, List.set_cons_zero] <;> rfl) ?_
      refine wpL_p (v := .tuple #[.agg (frcC sp np dp), .int .i64 0]) rfl (by kernel_rfl) rfl (fun _ => by kernel_rfl) (by simp only [List.setIfInBounds_toArray, List.set_cons_succ, List.set_cons_zero] <;> rfl) ?_
      refine wpL_p (v := .agg (frcC sp np dp)) rfl (by kernel_rfl) rfl (fun _ => by kernel_rfl) (by simp only [List.setIfInBounds_toArray, List.set_cons_succ, List.set_cons_zero] <;> rfl) ?_
      refine wpL_p (v := .int .i64 0) rfl (by kernel_rfl) rfl (fun _ => by kernel_rfl) (by simp only [List.setIfInBounds_toArray, List.set_cons_succ, List.set_cons_zero] <;> rfl) ?_
      refine wpL_new (fun g => .pointer (some ⟨g, 0, none⟩)) (obi := .cells (frcC false 0 0) 26 (0, 0)) rfl rfl (fun _ => by rw [frc_zero]; rfl) (fun _ => by simp only [List.setIfInBounds_toArray, List.set_cons_succ, List.set_cons_zero] <;> rfl) fun g4 Bg4 Fg4 => ?_
      try simp only [List.forall_mem_cons] at Fg4
      refine wpL_s [(g4, .cells (frcC sp np dp) 26 (0, 0)), (g3, .cells (frcC false (2 ^ B) 1) 26 (0, 0)), (g2, .cells (frcC sx nx dx) 26 (0, 0)), (g1, .cells (frcC false o 1) 26 (0, 0))] rfl rfl (st_f (neg := sp) (n := np) (d := dp) rfl (by kernel_rfl) (by kernel_rfl) (.head _) (by omega) size27 (List.forall_mem_cons.2 ⟨.inl rfl, (List.forall_mem_cons.2 ⟨.inr ⟨(.tail _ (.head _)), Fg4.1⟩, (List.forall_mem_cons.2 ⟨.inr ⟨(.tail _ (.tail _ (.head _))), Fg4.2.1⟩, (List.forall_mem_cons.2 ⟨.inr ⟨(.tail _ (.tail _ (.tail _ (.head _)))), Fg4.2.2.1⟩, (List.forall_mem_nil _)⟩)⟩)⟩)⟩)) ?_
      refine wpL_p (v := .int .i64 0) rfl (by kernel_rfl) rfl (fun _ => by kernel_rfl) (by simp only [List.setIfInBounds_toArray, List.set_cons_succ, List.set_cons_zero] <;> rfl) ?_
      refine wpL_done (fun W12 hW12 => ?_)
      clear hW11
      refine (show Code.wp _ _ _ _ _ from ?_)
      refine wp_seq ?_
      refine wp_region_L (W0 := w) [(g4, .cells (frcC sp np dp) 26 (0, 0)), (g3, .cells (frcC false (2 ^ B) 1) 26 (0, 0)), (g2, .cells (frcC sx nx dx) 26 (0, 0)), (g1, .cells (frcC false o 1) 26 (0, 0))] (hW12) ?_
      refine wpL_p (v := .int .i64 (C : Int)) rfl (by kernel_rfl) rfl (fun _ => by kernel_rfl) (by simp only [List.setIfInBounds_toArray, List.set_cons_succ, List.set_cons_zero] <;> rfl) ?_
      refine wpL_p (v := .int .u8 (a : Int)) rfl (by kernel_rfl) rfl (fun _ => by kernel_rfl) (by simp only [List.setIfInBounds_toArray, List.set_cons_succ, List.set_cons_zero] <;> rfl) ?_
      refine wpL_p (v := .int .i64 ((a : Nat) : Int)) rfl (by kernel_rfl) rfl (run_conv8 rfl (by kernel_rfl) ha) (by simp only [List.setIfInBounds_toArray, List.set_cons_succ, List.set_cons_zero] <;> rfl) ?_
      refine wpL_p (v := .int .i64 (A : Int)) rfl (by kernel_rfl) rfl (run_bin rfl (vx := .int .i64 ((a : Nat) : Int)) (vy := .int .i64 225) (by kernel_rfl) (by kernel_rfl) fun w => run_rem225 HA w) (by simp only [List.setIfInBounds_toArray, List.set_cons_succ, List.set_cons_zero] <;> rfl) ?_
      refine wpL_p (v := .int .i64 ((C + A : Nat) : Int)) rfl (by kernel_rfl) rfl (run_bin rfl (vx := .int .i64 (C : Int)) (vy := .int .i64 (A : Int)) (by kernel_rfl) (by kernel_rfl) fun w => run_addn (x := C) (y := A) (by omega) w) (by simp only [List.setIfInBounds_toArray, List.set_cons_succ, List.set_cons_zero] <;> rfl) ?_
      refine wpL_p (v := .int .u8 (b : Int)) rfl (by kernel_rfl) rfl (fun _ => by kernel_rfl) (by simp only [List.setIfInBounds_toArray, List.set_cons_succ, List.set_cons_zero] <;> rfl) ?_
      refine wpL_p (v := .int .i64 ((b : Nat) : Int)) rfl (by kernel_rfl) rfl (run_conv8 rfl (by kernel_rfl) hb) (by simp only [List.setIfInBounds_toArray, List.set_cons_succ, List.set_cons_zero] <;> rfl) ?_
      refine wpL_p (v := .int .i64 (B : Int)) rfl (by kernel_rfl) rfl (run_bin rfl (vx := .int .i64 ((b : Nat) : Int)) (vy := .int .i64 225) (by kernel_rfl) (by kernel_rfl) fun w => run_rem225 HB w) (by simp only [List.setIfInBounds_toArray, List.set_cons_succ, List.set_cons_zero] <;> rfl) ?_
      refine wpL_p (v := .int .i64 (((C + A) + B : Nat) : Int)) rfl (by kernel_rfl) rfl (run_bin rfl (vx := .int .i64 ((C + A : Nat) : Int)) (vy := .int .i64 (B : Int)) (by kernel_rfl) (by kernel_rfl) fun w => run_addn (x := (C + A)) (y := B) (by omega) w) (by simp only [List.setIfInBounds_toArray, List.set_cons_succ, List.set_cons_zero] <;> rfl) ?_
      refine wpL_p (v := .bool false) rfl (by kernel_rfl) rfl (run_bin rfl (vx := .int .i64 (((C + A) + B : Nat) : Int)) (vy := .int .i64 256) (by kernel_rfl) (by kernel_rfl) fun w => run_gtr256n (by omega) w) (by simp only [List.setIfInBounds_toArray, List.set_cons_succ, List.set_cons_zero] <;> rfl) ?_
      refine wpL_p (v := .bool false) rfl (by kernel_rfl) rfl (fun _ => by kernel_rfl) (by simp only [List.setIfInBounds_toArray, List.set_cons_succ, List.set_cons_zero] <;> rfl) ?_
      refine wpL_done (fun W13 hW13 => ?_)
      clear hW12
      refine (show Code.wp _ _ _ _ _ from ?_)
      refine wp_seq ?_
      refine wp_seq ?_
      refine wp_region_L (W0 := w) [(g4, .cells (frcC sp np dp) 26 (0, 0)), (g3, .cells (frcC false (2 ^ B) 1) 26 (0, 0)), (g2, .cells (frcC sx nx dx) 26 (0, 0)), (g1, .cells (frcC false o 1) 26 (0, 0))] (hW13) ?_
      refine wpL_p (v := .int .i64 0) rfl (by kernel_rfl) rfl (fun _ => by kernel_rfl) (by simp only [List.setIfInBounds_toArray, List.set_cons_succ, List.set_cons_zero] <;> rfl) ?_
      refine wpL_p (v := .int .i64 0) rfl (by kernel_rfl) rfl (fun _ => by kernel_rfl) (by simp only [List.setIfInBounds_toArray, List.set_cons_succ, List.set_cons_zero] <;> rfl) ?_
      refine wpL_p (v := .int .i64 0) rfl (by kernel_rfl) rfl (fun _ => by kernel_rfl) (by simp only [List.setIfInBounds_toArray, List.set_cons_succ, List.set_cons_zero] <;> rfl) ?_
      refine wpL_new (fun g => .slice (some ⟨g, 0, none⟩) 3 3) (obi := .cells #[.int .i64 0, .int .i64 0, .int .i64 0] 29 (0, 0)) rfl rfl (fun _ => by kernel_rfl) (fun _ => by simp only [List.setIfInBounds_toArray, List.set_cons_succ, List.set_cons_zero] <;> rfl) fun g5 Bg5 Fg5 => ?_
      try simp only [List.forall_mem_cons] at Fg5
      refine wpL_v (v := .bool true) rfl (by kernel_rfl) rfl (yb_call (f := 14) (args := #[.slice (some ⟨g5, 0, none⟩) 3 3]) (fun _ => by kernel_rfl) fun W hW => all_W 3 (by omega) rfl (hW.2 _ (.head _))) (by simp only [List.setIfInBounds_toArray, List.set_cons_succ, List.set_cons_zero] <;> rfl) ?_
      refine wpL_p (v := .bool false) rfl (by kernel_rfl) rfl (fun _ => by kernel_rfl) (by simp only [List.setIfInBounds_toArray, List.set_cons_succ, List.set_cons_zero] <;> rfl) ?_
      refine wpL_p (v := .bool false) rfl (by kernel_rfl) rfl (fun _ => by kernel_rfl) (by simp only [List.setIfInBounds_toArray, List.set_cons_succ, List.set_cons_zero] <;> rfl) ?_
      refine wpL_p (v := .bool false) rfl (by kernel_rfl) rfl (fun _ => by kernel_rfl) (by simp only [List.setIfInBounds_toArray, List.set_cons_succ, List.set_cons_zero] <;> rfl) ?_
      refine wpL_p (v := .int .i64 0) rfl (by kernel_rfl) rfl (fun _ => by kernel_rfl) (by simp only [List.setIfInBounds_toArray, List.set_cons_succ, List.set_cons_zero] <;> rfl) ?_
      refine wpL_p (v := .bool false) rfl (by kernel_rfl) rfl (fun _ => by kernel_rfl) (by simp only [List.setIfInBounds_toArray, List.set_cons_succ, List.set_cons_zero] <;> rfl) ?_
      refine wpL_p (v := .bool false) rfl (by kernel_rfl) rfl (fun _ => by kernel_rfl) (by simp only [List.setIfInBounds_toArray, List.set_cons_succ, List.set_cons_zero] <;> rfl) ?_
      refine wpL_p (v := .bool false) rfl (by kernel_rfl) rfl (fun _ => by kernel_rfl) (by simp only [List.setIfInBounds_toArray, List.set_cons_succ, List.set_cons_zero] <;> rfl) ?_
      refine wpL_p (v := .bool false) rfl (by kernel_rfl) rfl (fun _ => by kernel_rfl) (by simp only [List.setIfInBounds_toArray, List.set_cons_succ, List.set_cons_zero] <;> rfl) ?_
      refine wpL_p (v := .bool false) rfl (by kernel_rfl) rfl (fun _ => by kernel_rfl) (by simp only [List.setIfInBounds_toArray, List.set_cons_succ, List.set_cons_zero] <;> rfl) ?_
      refine wpL_p (v := .bool true) rfl (by kernel_rfl) rfl (fun _ => by kernel_rfl) (by simp only [List.setIfInBounds_toArray, List.set_cons_succ, List.set_cons_zero] <;> rfl) ?_
      refine wpL_p (v := .bool true) rfl (by kernel_rfl) rfl (fun _ => by kernel_rfl) (by simp only [List.setIfInBounds_toArray, List.set_cons_succ, List.set_cons_zero] <;> rfl) ?_
      refine wpL_p (v := .int .i64 0) rfl (by kernel_rfl) rfl (fun _ => by kernel_rfl) (by simp only [List.setIfInBounds_toArray, List.set_cons_succ, List.set_cons_zero] <;> rfl) ?_
      refine wpL_p (v := .bool false) rfl (by kernel_rfl) rfl (fun _ => by kernel_rfl) (by simp only [List.setIfInBounds_toArray, List.set_cons_succ, List.set_cons_zero] <;> rfl) ?_
      refine wpL_p (v := .bool false) rfl (by kernel_rfl) rfl (fun _ => by kernel_rfl) (by simp only [List.setIfInBounds_toArray, List.set_cons_succ, List.set_cons_zero] <;> rfl) ?_
      refine wpL_p (v := .bool false) rfl (by kernel_rfl) rfl (fun _ => by kernel_rfl) (by simp only [List.setIfInBounds_toArray, List.set_cons_succ, List.set_cons_zero] <;> rfl) ?_
      refine wpL_p (v := .bool false) rfl (by kernel_rfl) rfl (fun _ => by kernel_rfl) (by simp only [List.setIfInBounds_toArray, List.set_cons_succ, List.set_cons_zero] <;> rfl) ?_
      refine wpL_p (v := .bool false) rfl (by kernel_rfl) rfl (fun _ => by kernel_rfl) (by simp only [List.setIfInBounds_toArray, List.set_cons_succ, List.set_cons_zero] <;> rfl) ?_
      refine wpL_p (v := .bool false) rfl (by kernel_rfl) rfl (fun _ => by kernel_rfl) (by simp only [List.setIfInBounds_toArray, List.set_cons_succ, List.set_cons_zero] <;> rfl) ?_
      refine wpL_n rfl (by kernel_rfl) (by simp only [List.setIfInBounds_toArray, List.set_cons_succ, List.set_cons_zero] <;> rfl) ?_
      refine wpL_n rfl (by kernel_rfl) (by simp only [List.setIfInBounds_toArray, List.set_cons_succ, List.set_cons_zero] <;> rfl) ?_
      refine wpL_n rfl (by kernel_rfl) (by simp only [List.setIfInBounds_toArray, List.set_cons_succ, List.set_cons_zero] <;> rfl) ?_
      refine wpL_p (v := .bool false) rfl (by kernel_rfl) rfl (fun _ => by kernel_rfl) (by simp only [List.setIfInBounds_toArray, List.set_cons_succ, List.set_cons_zero] <;> rfl) ?_
      refine wpL_p (v := .bool false) rfl (by kernel_rfl) rfl (fun _ => by kernel_rfl) (by simp only [List.setIfInBounds_toArray, List.set_cons_succ, List.set_cons_zero] <;> rfl) ?_
      refine wpL_done (fun W14 hW14 => ?_)
      clear hW13
      refine (show Code.wp _ _ _ _ _ from ?_)
      refine wp_cond_false rfl ?_
      refine wp_skip ?_
      refine (show Code.wp _ _ _ _ _ from ?_)
      refine wp_seq ?_
      refine wp_region_V (W0 := w) [(g5, .cells #[.int .i64 0, .int .i64 0, .int .i64 0] 29 (0, 0)), (g4, .cells (frcC sp np dp) 26 (0, 0)), (g3, .cells (frcC false (2 ^ B) 1) 26 (0, 0)), (g2, .cells (frcC sx nx dx) 26 (0, 0)), (g1, .cells (frcC false o 1) 26 (0, 0))] (by kernel_rfl) (hW14) ?_
      refine wpV_v (i := 0) (v := .agg (frcC false 1 1)) rfl rfl (by kernel_rfl) (by kernel_rfl) rfl (yb_call (f := 16) (args := #[.int .i64 1]) (fun _ => by kernel_rfl) fun W hW => HO1.out W) (by simp only [List.setIfInBounds_toArray, List.set_cons_succ, List.set_cons_zero] <;> rfl) ?_
      refine wpV_v (i := 1) (v := .agg (frcC sx nx dx)) rfl rfl (by kernel_rfl) (by kernel_rfl) rfl (yb_load rfl (by kernel_rfl) (.tail _ (.tail _ (.tail _ (.head _)))) Tryd.underlying26 rfl size27 (by simp) (frc_whole sx nx dx)) (by simp only [List.setIfInBounds_toArray, List.set_cons_succ, List.set_cons_zero] <;> rfl) ?_
      refine wpV_v (i := 2) (v := .tuple #[.agg (frcC st nt dt), .int .i64 0]) rfl rfl (by kernel_rfl) (by kernel_rfl) rfl (yb_call (f := 17) (args := #[.agg (frcC false 1 1), .agg (frcC sx nx dx)]) (fun _ => by kernel_rfl) fun W hW => HD1.out W) (by simp only [List.setIfInBounds_toArray, List.set_cons_succ, List.set_cons_zero] <;> rfl) ?_
      refine wpV_p (i := 3) (v := .tuple #[.agg (frcC st nt dt), .int .i64 0]) rfl rfl (by kernel_rfl) (by kernel_rfl) rfl (fun _ => by kernel_rfl) (by simp only [List.setIfInBounds_toArray, List.set_cons_succ, List.set_cons_zero] <;> rfl) ?_
      refine wpV_p (i := 4) (v := .agg (frcC st nt dt)) rfl rfl (by kernel_rfl) (by kernel_rfl) rfl (fun _ => by kernel_rfl) (by simp only [List.setIfInBounds_toArray, List.set_cons_succ, List.set_cons_zero] <;> rfl) ?_
      refine wpV_p (i := 5) (v := .int .i64 0) rfl rfl (by kernel_rfl) (by kernel_rfl) rfl (fun _ => by kernel_rfl) (by simp only [List.setIfInBounds_toArray, List.set_cons_succ, List.set_cons_zero] <;> rfl) ?_
      refine wpV_ns (fun g => .pointer (some ⟨g, 0, none⟩)) (i := 6) (obi := .cells (frcC false 0 0) 26 (0, 0)) rfl rfl rfl (by kernel_rfl) (fun _ => by rw [frc_zero]; rfl) (fun _ => by simp only [List.setIfInBounds_toArray, List.set_cons_succ, List.set_cons_zero] <;> rfl) fun g6 Bg6 Fg6 => ?_
      try simp only [List.forall_mem_cons] at Fg6
      refine wpV_s [(g6, .cells (frcC st nt dt) 26 (0, 0)), (g5, .cells #[.int .i64 0, .int .i64 0, .int .i64 0] 29 (0, 0)), (g4, .cells (frcC sp np dp) 26 (0, 0)), (g3, .cells (frcC false (2 ^ B) 1) 26 (0, 0)), (g2, .cells (frcC sx nx dx) 26 (0, 0)), (g1, .cells (frcC false o 1) 26 (0, 0))] (i := 7) rfl (by kernel_rfl) rfl rfl rfl (st_f (neg := st) (n := nt) (d := dt) rfl (by kernel_rfl) (by kernel_rfl) (.head _) (by omega) size27 (List.forall_mem_cons.2 ⟨.inl rfl, (List.forall_mem_cons.2 ⟨.inr ⟨(.tail _ (.head _)), Fg6.1⟩, (List.forall_mem_cons.2 ⟨.inr ⟨(.tail _ (.tail _ (.head _))), Fg6.2.1⟩, (List.forall_mem_cons.2 ⟨.inr ⟨(.tail _ (.tail _ (.tail _ (.head _)))), Fg6.2.2.1⟩, (List.forall_mem_cons.2 ⟨.inr ⟨(.tail _ (.tail _ (.tail _ (.tail _ (.head _))))), Fg6.2.2.2.1⟩, (List.forall_mem_cons.2 ⟨.inr ⟨(.tail _ (.tail _ (.tail _ (.tail _ (.tail _ (.head _)))))), Fg6.2.2.2.2.1⟩, (List.forall_mem_nil _)⟩)⟩)⟩)⟩)⟩)⟩)) ?_
      refine wpV_p (i := 8) (v := .int .i64 0) rfl rfl (by kernel_rfl) (by kernel_rfl) rfl (fun _ => by kernel_rfl) (by simp only [List.setIfInBounds_toArray, List.set_cons_succ, List.set_cons_zero] <;> rfl) ?_
      refine wpV_done (by kernel_rfl) (fun W15 hW15 => ?_) _
      clear hW14
      refine (show Code.wp _ _ _ _ _ from ?_)
      refine wp_seq ?_
      refine wp_region_L (W0 := w) [(g6, .cells (frcC st nt dt) 26 (0, 0)), (g5, .cells #[.int .i64 0, .int .i64 0, .int .i64 0] 29 (0, 0)), (g4, .cells (frcC sp np dp) 26 (0, 0)), (g3, .cells (frcC false (2 ^ B) 1) 26 (0, 0)), (g2, .cells (frcC sx nx dx) 26 (0, 0)), (g1, .cells (frcC false o 1) 26 (0, 0))] (hW15) ?_
      refine wpL_v (v := .agg (frcC st nt dt)) rfl (by kernel_rfl) rfl (yb_load rfl (by kernel_rfl) (.head _) Tryd.underlying26 rfl size27 (by simp) (frc_whole st nt dt)) (by simp only [List.setIfInBounds_toArray, List.set_cons_succ, List.set_cons_zero] <;> rfl) ?_
      refine wpL_v (v := .agg (frcC false (2 ^ B) 1)) rfl (by kernel_rfl) rfl (yb_load rfl (by kernel_rfl) (.tail _ (.tail _ (.tail _ (.head _)))) Tryd.underlying26 rfl size27 (by simp) (frc_whole false (2 ^ B) 1)) (by simp only [List.setIfInBounds_toArray, List.set_cons_succ, List.set_cons_zero] <;> rfl) ?_
      refine wpL_v (v := .tuple #[.agg (frcC su nu du), .int .i64 0]) rfl (by kernel_rfl) rfl (yb_call (f := 17) (args := #[.agg (frcC st nt dt), .agg (frcC false (2 ^ B) 1)]) (fun _ => by kernel_rfl) fun W hW => HD2.out W) (by simp only [List.setIfInBounds_toArray, List.set_cons_succ, List.set_cons_zero] <;> rfl) ?_
      refine wpL_p (v := .tuple #[.agg (frcC su nu du), .int .i64 0]) rfl (by kernel_rfl) rfl (fun _ => by kernel_rfl) (by simp only [List.setIfInBounds_toArray, List.set_cons_succ, List.set_cons_zero] <;> rfl) ?_
      refine wpL_p (v := .agg (frcC su nu du)) rfl (by kernel_rfl) rfl (fun _ => by kernel_rfl) (by simp only [List.setIfInBounds_toArray, List.set_cons_succ, List.set_cons_zero] <;> rfl) ?_
      refine wpL_p (v := .int .i64 0) rfl (by kernel_rfl) rfl (fun _ => by kernel_rfl) (by simp only [List.setIfInBounds_toArray, List.set_cons_succ, List.set_cons_zero] <;> rfl) ?_
      refine wpL_new (fun g => .pointer (some ⟨g, 0, none⟩)) (obi := .cells (frcC false 0 0) 26 (0, 0)) rfl rfl (fun _ => by rw [frc_zero]; rfl) (fun _ => by simp only [List.setIfInBounds_toArray, List.set_cons_succ, List.set_cons_zero] <;> rfl) fun g7 Bg7 Fg7 => ?_
      try simp only [List.forall_mem_cons] at Fg7
      refine wpL_s [(g7, .cells (frcC su nu du) 26 (0, 0)), (g6, .cells (frcC st nt dt) 26 (0, 0)), (g5, .cells #[.int .i64 0, .int .i64 0, .int .i64 0] 29 (0, 0)), (g4, .cells (frcC sp np dp) 26 (0, 0)), (g3, .cells (frcC false (2 ^ B) 1) 26 (0, 0)), (g2, .cells (frcC sx nx dx) 26 (0, 0)), (g1, .cells (frcC false o 1) 26 (0, 0))] rfl rfl (st_f (neg := su) (n := nu) (d := du) rfl (by kernel_rfl) (by kernel_rfl) (.head _) (by omega) size27 (List.forall_mem_cons.2 ⟨.inl rfl, (List.forall_mem_cons.2 ⟨.inr ⟨(.tail _ (.head _)), Fg7.1⟩, (List.forall_mem_cons.2 ⟨.inr ⟨(.tail _ (.tail _ (.head _))), Fg7.2.1⟩, (List.forall_mem_cons.2 ⟨.inr ⟨(.tail _ (.tail _ (.tail _ (.head _)))), Fg7.2.2.1⟩, (List.forall_mem_cons.2 ⟨.inr ⟨(.tail _ (.tail _ (.tail _ (.tail _ (.head _))))), Fg7.2.2.2.1⟩, (List.forall_mem_cons.2 ⟨.inr ⟨(.tail _ (.tail _ (.tail _ (.tail _ (.tail _ (.head _)))))), Fg7.2.2.2.2.1⟩, (List.forall_mem_cons.2 ⟨.inr ⟨(.tail _ (.tail _ (.tail _ (.tail _ (.tail _ (.tail _ (.head _))))))), Fg7.2.2.2.2.2.1⟩, (List.forall_mem_nil _)⟩)⟩)⟩)⟩)⟩)⟩)⟩)) ?_
      refine wpL_p (v := .int .i64 0) rfl (by kernel_rfl) rfl (fun _ => by kernel_rfl) (by simp only [List.setIfInBounds_toArray, List.set_cons_succ, List.set_cons_zero] <;> rfl) ?_
      refine wpL_done (fun W16 hW16 => ?_)
      clear hW15
      refine (show Code.wp _ _ _ _ _ from ?_)
      refine wp_seq ?_
      refine wp_region_L (W0 := w) [(g7, .cells (frcC su nu du) 26 (0, 0)), (g6, .cells (frcC st nt dt) 26 (0, 0)), (g5, .cells #[.int .i64 0, .int .i64 0, .int .i64 0] 29 (0, 0)), (g4, .cells (frcC sp np dp) 26 (0, 0)), (g3, .cells (frcC false (2 ^ B) 1) 26 (0, 0)), (g2, .cells (frcC sx nx dx) 26 (0, 0)), (g1, .cells (frcC false o 1) 26 (0, 0))] (hW16) ?_
      refine wpL_v (v := .agg (frcC sx nx dx)) rfl (by kernel_rfl) rfl (yb_load rfl (by kernel_rfl) (.tail _ (.tail _ (.tail _ (.tail _ (.tail _ (.head _)))))) Tryd.underlying26 rfl size27 (by simp) (frc_whole sx nx dx)) (by simp only [List.setIfInBounds_toArray, List.set_cons_succ, List.set_cons_zero] <;> rfl) ?_
      refine wpL_v (v := .agg (frcC false (2 ^ B) 1)) rfl (by kernel_rfl) rfl (yb_load rfl (by kernel_rfl) (.tail _ (.tail _ (.tail _ (.tail _ (.head _))))) Tryd.underlying26 rfl size27 (by simp) (frc_whole false (2 ^ B) 1)) (by simp only [List.setIfInBounds_toArray, List.set_cons_succ, List.set_cons_zero] <;> rfl) ?_
      refine wpL_v (v := .tuple #[.agg (frcC sq nq dq), .int .i64 0]) rfl (by kernel_rfl) rfl (yb_call (f := 17) (args := #[.agg (frcC sx nx dx), .agg (frcC false (2 ^ B) 1)]) (fun _ => by kernel_rfl) fun W hW => HD3.out W) (by simp only [List.setIfInBounds_toArray, List.set_cons_succ, List.set_cons_zero] <;> rfl) ?_
      refine wpL_p (v := .tuple #[.agg (frcC sq nq dq), .int .i64 0]) rfl (by kernel_rfl) rfl (fun _ => by kernel_rfl) (by simp only [List.setIfInBounds_toArray, List.set_cons_succ, List.set_cons_zero] <;> rfl) ?_
      refine wpL_p (v := .agg (frcC sq nq dq)) rfl (by kernel_rfl) rfl (fun _ => by kernel_rfl) (by simp only [List.setIfInBounds_toArray, List.set_cons_succ, List.set_cons_zero] <;> rfl) ?_
      refine wpL_p (v := .int .i64 0) rfl (by kernel_rfl) rfl (fun _ => by kernel_rfl) (by simp only [List.setIfInBounds_toArray, List.set_cons_succ, List.set_cons_zero] <;> rfl) ?_
      refine wpL_new (fun g => .pointer (some ⟨g, 0, none⟩)) (obi := .cells (frcC false 0 0) 26 (0, 0)) rfl rfl (fun _ => by rw [frc_zero]; rfl) (fun _ => by simp only [List.setIfInBounds_toArray, List.set_cons_succ, List.set_cons_zero] <;> rfl) fun g8 Bg8 Fg8 => ?_
      try simp only [List.forall_mem_cons] at Fg8
      refine wpL_s [(g8, .cells (frcC sq nq dq) 26 (0, 0)), (g7, .cells (frcC su nu du) 26 (0, 0)), (g6, .cells (frcC st nt dt) 26 (0, 0)), (g5, .cells #[.int .i64 0, .int .i64 0, .int .i64 0] 29 (0, 0)), (g4, .cells (frcC sp np dp) 26 (0, 0)), (g3, .cells (frcC false (2 ^ B) 1) 26 (0, 0)), (g2, .cells (frcC sx nx dx) 26 (0, 0)), (g1, .cells (frcC false o 1) 26 (0, 0))] rfl rfl (st_f (neg := sq) (n := nq) (d := dq) rfl (by kernel_rfl) (by kernel_rfl) (.head _) (by omega) size27 (List.forall_mem_cons.2 ⟨.inl rfl, (List.forall_mem_cons.2 ⟨.inr ⟨(.tail _ (.head _)), Fg8.1⟩, (List.forall_mem_cons.2 ⟨.inr ⟨(.tail _ (.tail _ (.head _))), Fg8.2.1⟩, (List.forall_mem_cons.2 ⟨.inr ⟨(.tail _ (.tail _ (.tail _ (.head _)))), Fg8.2.2.1⟩, (List.forall_mem_cons.2 ⟨.inr ⟨(.tail _ (.tail _ (.tail _ (.tail _ (.head _))))), Fg8.2.2.2.1⟩, (List.forall_mem_cons.2 ⟨.inr ⟨(.tail _ (.tail _ (.tail _ (.tail _ (.tail _ (.head _)))))), Fg8.2.2.2.2.1⟩, (List.forall_mem_cons.2 ⟨.inr ⟨(.tail _ (.tail _ (.tail _ (.tail _ (.tail _ (.tail _ (.head _))))))), Fg8.2.2.2.2.2.1⟩, (List.forall_mem_cons.2 ⟨.inr ⟨(.tail _ (.tail _ (.tail _ (.tail _ (.tail _ (.tail _ (.tail _ (.head _)))))))), Fg8.2.2.2.2.2.2.1⟩, (List.forall_mem_nil _)⟩)⟩)⟩)⟩)⟩)⟩)⟩)⟩)) ?_
      refine wpL_p (v := .int .i64 0) rfl (by kernel_rfl) rfl (fun _ => by kernel_rfl) (by simp only [List.setIfInBounds_toArray, List.set_cons_succ, List.set_cons_zero] <;> rfl) ?_
      refine wpL_done (fun W17 hW17 => ?_)
      clear hW16
      refine (show Code.wp _ _ _ _ _ from ?_)
      refine wp_seq ?_
      refine wp_region_L (W0 := w) [(g8, .cells (frcC sq nq dq) 26 (0, 0)), (g7, .cells (frcC su nu du) 26 (0, 0)), (g6, .cells (frcC st nt dt) 26 (0, 0)), (g5, .cells #[.int .i64 0, .int .i64 0, .int .i64 0] 29 (0, 0)), (g4, .cells (frcC sp np dp) 26 (0, 0)), (g3, .cells (frcC false (2 ^ B) 1) 26 (0, 0)), (g2, .cells (frcC sx nx dx) 26 (0, 0)), (g1, .cells (frcC false o 1) 26 (0, 0))] (hW17) ?_
      refine wpL_v (v := .agg (frcC sq nq dq)) rfl (by kernel_rfl) rfl (yb_load rfl (by kernel_rfl) (.head _) Tryd.underlying26 rfl size27 (by simp) (frc_whole sq nq dq)) (by simp only [List.setIfInBounds_toArray, List.set_cons_succ, List.set_cons_zero] <;> rfl) ?_
      refine wpL_v (v := .agg (frcC false (2 ^ B) 1)) rfl (by kernel_rfl) rfl (yb_load rfl (by kernel_rfl) (.tail _ (.tail _ (.tail _ (.tail _ (.tail _ (.head _)))))) Tryd.underlying26 rfl size27 (by simp) (frc_whole false (2 ^ B) 1)) (by simp only [List.setIfInBounds_toArray, List.set_cons_succ, List.set_cons_zero] <;> rfl) ?_
      refine wpL_v (v := .tuple #[.agg (frcC sx nx dx), .int .i64 0]) rfl (by kernel_rfl) rfl (yb_call (f := 15) (args := #[.agg (frcC sq nq dq), .agg (frcC false (2 ^ B) 1)]) (fun _ => by kernel_rfl) fun W hW => HM3.out W) (by simp only [List.setIfInBounds_toArray, List.set_cons_succ, List.set_cons_zero] <;> rfl) ?_
      refine wpL_p (v := .tuple #[.agg (frcC sx nx dx), .int .i64 0]) rfl (by kernel_rfl) rfl (fun _ => by kernel_rfl) (by simp only [List.setIfInBounds_toArray, List.set_cons_succ, List.set_cons_zero] <;> rfl) ?_
      refine wpL_p (v := .agg (frcC sx nx dx)) rfl (by kernel_rfl) rfl (fun _ => by kernel_rfl) (by simp only [List.setIfInBounds_toArray, List.set_cons_succ, List.set_cons_zero] <;> rfl) ?_
      refine wpL_p (v := .int .i64 0) rfl (by kernel_rfl) rfl (fun _ => by kernel_rfl) (by simp only [List.setIfInBounds_toArray, List.set_cons_succ, List.set_cons_zero] <;> rfl) ?_
      refine wpL_new (fun g => .pointer (some ⟨g, 0, none⟩)) (obi := .cells (frcC false 0 0) 26 (0, 0)) rfl rfl (fun _ => by rw [frc_zero]; rfl) (fun _ => by simp only [List.setIfInBounds_toArray, List.set_cons_succ, List.set_cons_zero] <;> rfl) fun g9 Bg9 Fg9 => ?_
      try simp only [List.forall_mem_cons] at Fg9
      refine wpL_s [(g9, .cells (frcC sx nx dx) 26 (0, 0)), (g8, .cells (frcC sq nq dq) 26 (0, 0)), (g7, .cells (frcC su nu du) 26 (0, 0)), (g6, .cells (frcC st nt dt) 26 (0, 0)), (g5, .cells #[.int .i64 0, .int .i64 0, .int .i64 0] 29 (0, 0)), (g4, .cells (frcC sp np dp) 26 (0, 0)), (g3, .cells (frcC false (2 ^ B) 1) 26 (0, 0)), (g2, .cells (frcC sx nx dx) 26 (0, 0)), (g1, .cells (frcC false o 1) 26 (0, 0))] rfl rfl (st_f (neg := sx) (n := nx) (d := dx) rfl (by kernel_rfl) (by kernel_rfl) (.head _) (by omega) size27 (List.forall_mem_cons.2 ⟨.inl rfl, (List.forall_mem_cons.2 ⟨.inr ⟨(.tail _ (.head _)), Fg9.1⟩, (List.forall_mem_cons.2 ⟨.inr ⟨(.tail _ (.tail _ (.head _))), Fg9.2.1⟩, (List.forall_mem_cons.2 ⟨.inr ⟨(.tail _ (.tail _ (.tail _ (.head _)))), Fg9.2.2.1⟩, (List.forall_mem_cons.2 ⟨.inr ⟨(.tail _ (.tail _ (.tail _ (.tail _ (.head _))))), Fg9.2.2.2.1⟩, (List.forall_mem_cons.2 ⟨.inr ⟨(.tail _ (.tail _ (.tail _ (.tail _ (.tail _ (.head _)))))), Fg9.2.2.2.2.1⟩, (List.forall_mem_cons.2 ⟨.inr ⟨(.tail _ (.tail _ (.tail _ (.tail _ (.tail _ (.tail _ (.head _))))))), Fg9.2.2.2.2.2.1⟩, (List.forall_mem_cons.2 ⟨.inr ⟨(.tail _ (.tail _ (.tail _ (.tail _ (.tail _ (.tail _ (.tail _ (.head _)))))))), Fg9.2.2.2.2.2.2.1⟩, (List.forall_mem_cons.2 ⟨.inr ⟨(.tail _ (.tail _ (.tail _ (.tail _ (.tail _ (.tail _ (.tail _ (.tail _ (.head _))))))))), Fg9.2.2.2.2.2.2.2.1⟩, (List.forall_mem_nil _)⟩)⟩)⟩)⟩)⟩)⟩)⟩)⟩)⟩)) ?_
      refine wpL_p (v := .int .i64 0) rfl (by kernel_rfl) rfl (fun _ => by kernel_rfl) (by simp only [List.setIfInBounds_toArray, List.set_cons_succ, List.set_cons_zero] <;> rfl) ?_
      refine wpL_done (fun W18 hW18 => ?_)
      clear hW17
      refine (show Code.wp _ _ _ _ _ from ?_)
      refine wp_seq ?_
      refine wp_seq ?_
      refine wp_region_L (W0 := w) [(g9, .cells (frcC sx nx dx) 26 (0, 0)), (g8, .cells (frcC sq nq dq) 26 (0, 0)), (g7, .cells (frcC su nu du) 26 (0, 0)), (g6, .cells (frcC st nt dt) 26 (0, 0)), (g5, .cells #[.int .i64 0, .int .i64 0, .int .i64 0] 29 (0, 0)), (g4, .cells (frcC sp np dp) 26 (0, 0)), (g3, .cells (frcC false (2 ^ B) 1) 26 (0, 0)), (g2, .cells (frcC sx nx dx) 26 (0, 0)), (g1, .cells (frcC false o 1) 26 (0, 0))] (hW18) ?_
      refine wpL_p (v := .bool false) rfl (by kernel_rfl) rfl (fun _ => by kernel_rfl) (by simp only [List.setIfInBounds_toArray, List.set_cons_succ, List.set_cons_zero] <;> rfl) ?_
      refine wpL_done (fun W19 hW19 => ?_)
      clear hW18
      refine (show Code.wp _ _ _ _ _ from ?_)
      refine wp_cond_false rfl ?_
      refine wp_skip ?_
      refine (show Code.wp _ _ _ _ _ from ?_)
      refine wp_seq ?_
      refine wp_region_V (W0 := w) [(g9, .cells (frcC sx nx dx) 26 (0, 0)), (g8, .cells (frcC sq nq dq) 26 (0, 0)), (g7, .cells (frcC su nu du) 26 (0, 0)), (g6, .cells (frcC st nt dt) 26 (0, 0)), (g5, .cells #[.int .i64 0, .int .i64 0, .int .i64 0] 29 (0, 0)), (g4, .cells (frcC sp np dp) 26 (0, 0)), (g3, .cells (frcC false (2 ^ B) 1) 26 (0, 0)), (g2, .cells (frcC sx nx dx) 26 (0, 0)), (g1, .cells (frcC false o 1) 26 (0, 0))] (by kernel_rfl) (hW19) ?_
      refine wpV_v (i := 0) (v := .agg (frcC false 1 1)) rfl rfl (by kernel_rfl) (by kernel_rfl) rfl (yb_call (f := 16) (args := #[.int .i64 1]) (fun _ => by kernel_rfl) fun W hW => HO1.out W) (by simp only [List.setIfInBounds_toArray, List.set_cons_succ, List.set_cons_zero] <;> rfl) ?_
      refine wpV_v (i := 1) (v := .agg (frcC sp np dp)) rfl rfl (by kernel_rfl) (by kernel_rfl) rfl (yb_load rfl (by kernel_rfl) (.tail _ (.tail _ (.tail _ (.tail _ (.tail _ (.head _)))))) Tryd.underlying26 rfl size27 (by simp) (frc_whole sp np dp)) (by simp only [List.setIfInBounds_toArray, List.set_cons_succ, List.set_cons_zero] <;> rfl) ?_
      refine wpV_v (i := 2) (v := .tuple #[.agg (frcC su nu du), .int .i64 0]) rfl rfl (by kernel_rfl) (by kernel_rfl) rfl (yb_call (f := 17) (args := #[.agg (frcC false 1 1), .agg (frcC sp np dp)]) (fun _ => by kernel_rfl) fun W hW => HD4.out W) (by simp only [List.setIfInBounds_toArray, List.set_cons_succ, List.set_cons_zero] <;> rfl) ?_
      refine wpV_p (i := 3) (v := .tuple #[.agg (frcC su nu du), .int .i64 0]) rfl rfl (by kernel_rfl) (by kernel_rfl) rfl (fun _ => by kernel_rfl) (by simp only [List.setIfInBounds_toArray, List.set_cons_succ, List.set_cons_zero] <;> rfl) ?_
      refine wpV_p (i := 4) (v := .agg (frcC su nu du)) rfl rfl (by kernel_rfl) (by kernel_rfl) rfl (fun _ => by kernel_rfl) (by simp only [List.setIfInBounds_toArray, List.set_cons_succ, List.set_cons_zero] <;> rfl) ?_
      refine wpV_p (i := 5) (v := .int .i64 0) rfl rfl (by kernel_rfl) (by kernel_rfl) rfl (fun _ => by kernel_rfl) (by simp only [List.setIfInBounds_toArray, List.set_cons_succ, List.set_cons_zero] <;> rfl) ?_
      refine wpV_ns (fun g => .pointer (some ⟨g, 0, none⟩)) (i := 6) (obi := .cells (frcC false 0 0) 26 (0, 0)) rfl rfl rfl (by kernel_rfl) (fun _ => by rw [frc_zero]; rfl) (fun _ => by simp only [List.setIfInBounds_toArray, List.set_cons_succ, List.set_cons_zero] <;> rfl) fun g10 Bg10 Fg10 => ?_
      try simp only [List.forall_mem_cons] at Fg10
      refine wpV_s [(g10, .cells (frcC su nu du) 26 (0, 0)), (g9, .cells (frcC sx nx dx) 26 (0, 0)), (g8, .cells (frcC sq nq dq) 26 (0, 0)), (g7, .cells (frcC su nu du) 26 (0, 0)), (g6, .cells (frcC st nt dt) 26 (0, 0)), (g5, .cells #[.int .i64 0, .int .i64 0, .int .i64 0] 29 (0, 0)), (g4, .cells (frcC sp np dp) 26 (0, 0)), (g3, .cells (frcC false (2 ^ B) 1) 26 (0, 0)), (g2, .cells (frcC sx nx dx) 26 (0, 0)), (g1, .cells (frcC false o 1) 26 (0, 0))] (i := 7) rfl (by kernel_rfl) rfl rfl rfl (st_f (neg := su) (n := nu) (d := du) rfl (by kernel_rfl) (by kernel_rfl) (.head _) (by omega) size27 (List.forall_mem_cons.2 ⟨.inl rfl, (List.forall_mem_cons.2 ⟨.inr ⟨(.tail _ (.head _)), Fg10.1⟩, (List.forall_mem_cons.2 ⟨.inr ⟨(.tail _ (.tail _ (.head _))), Fg10.2.1⟩, (List.forall_mem_cons.2 ⟨.inr ⟨(.tail _ (.tail _ (.tail _ (.head _)))), Fg10.2.2.1⟩, (List.forall_mem_cons.2 ⟨.inr ⟨(.tail _ (.tail _ (.tail _ (.tail _ (.head _))))), Fg10.2.2.2.1⟩, (List.forall_mem_cons.2 ⟨.inr ⟨(.tail _ (.tail _ (.tail _ (.tail _ (.tail _ (.head _)))))), Fg10.2.2.2.2.1⟩, (List.forall_mem_cons.2 ⟨.inr ⟨(.tail _ (.tail _ (.tail _ (.tail _ (.tail _ (.tail _ (.head _))))))), Fg10.2.2.2.2.2.1⟩, (List.forall_mem_cons.2 ⟨.inr ⟨(.tail _ (.tail _ (.tail _ (.tail _ (.tail _ (.tail _ (.tail _ (.head _)))))))), Fg10.2.2.2.2.2.2.1⟩, (List.forall_mem_cons.2 ⟨.inr ⟨(.tail _ (.tail _ (.tail _ (.tail _ (.tail _ (.tail _ (.tail _ (.tail _ (.head _))))))))), Fg10.2.2.2.2.2.2.2.1⟩, (List.forall_mem_cons.2 ⟨.inr ⟨(.tail _ (.tail _ (.tail _ (.tail _ (.tail _ (.tail _ (.tail _ (.tail _ (.tail _ (.head _)))))))))), Fg10.2.2.2.2.2.2.2.2.1⟩, (List.forall_mem_nil _)⟩)⟩)⟩)⟩)⟩)⟩)⟩)⟩)⟩)⟩)) ?_
      refine wpV_p (i := 8) (v := .int .i64 0) rfl rfl (by kernel_rfl) (by kernel_rfl) rfl (fun _ => by kernel_rfl) (by simp only [List.setIfInBounds_toArray, List.set_cons_succ, List.set_cons_zero] <;> rfl) ?_
      refine wpV_done (by kernel_rfl) (fun W20 hW20 => ?_) _
      clear hW19
      refine (show Code.wp _ _ _ _ _ from ?_)
      refine wp_seq ?_
      refine wp_region_L (W0 := w) [(g10, .cells (frcC su nu du) 26 (0, 0)), (g9, .cells (frcC sx nx dx) 26 (0, 0)), (g8, .cells (frcC sq nq dq) 26 (0, 0)), (g7, .cells (frcC su nu du) 26 (0, 0)), (g6, .cells (frcC st nt dt) 26 (0, 0)), (g5, .cells #[.int .i64 0, .int .i64 0, .int .i64 0] 29 (0, 0)), (g4, .cells (frcC sp np dp) 26 (0, 0)), (g3, .cells (frcC false (2 ^ B) 1) 26 (0, 0)), (g2, .cells (frcC sx nx dx) 26 (0, 0)), (g1, .cells (frcC false o 1) 26 (0, 0))] (hW20) ?_
      refine wpL_p (v := .int .i64 0) rfl (by kernel_rfl) rfl (fun _ => by kernel_rfl) (by simp only [List.setIfInBounds_toArray, List.set_cons_succ, List.set_cons_zero] <;> rfl) ?_
      refine wpL_p (v := .int .i64 0) rfl (by kernel_rfl) rfl (fun _ => by kernel_rfl) (by simp only [List.setIfInBounds_toArray, List.set_cons_succ, List.set_cons_zero] <;> rfl) ?_
      refine wpL_p (v := .int .i64 0) rfl (by kernel_rfl) rfl (fun _ => by kernel_rfl) (by simp only [List.setIfInBounds_toArray, List.set_cons_succ, List.set_cons_zero] <;> rfl) ?_
      refine wpL_p (v := .int .i64 0) rfl (by kernel_rfl) rfl (fun _ => by kernel_rfl) (by simp only [List.setIfInBounds_toArray, List.set_cons_succ, List.set_cons_zero] <;> rfl) ?_
      refine wpL_p (v := .int .i64 0) rfl (by kernel_rfl) rfl (fun _ => by kernel_rfl) (by simp only [List.setIfInBounds_toArray, List.set_cons_succ, List.set_cons_zero] <;> rfl) ?_
      refine wpL_new (fun g => .slice (some ⟨g, 0, none⟩) 5 5) (obi := .cells #[.int .i64 0, .int .i64 0, .int .i64 0, .int .i64 0, .int .i64 0] 29 (0, 0)) rfl rfl (fun _ => by kernel_rfl) (fun _ => by simp only [List.setIfInBounds_toArray, List.set_cons_succ, List.set_cons_zero] <;> rfl) fun g11 Bg11 Fg11 => ?_
      try simp only [List.forall_mem_cons] at Fg11
      refine wpL_v (v := .bool true) rfl (by kernel_rfl) rfl (yb_call (f := 14) (args := #[.slice (some ⟨g11, 0, none⟩) 5 5]) (fun _ => by kernel_rfl) fun W hW => all_W 5 (by omega) rfl (hW.2 _ (.head _))) (by simp only [List.setIfInBounds_toArray, List.set_cons_succ, List.set_cons_zero] <;> rfl) ?_
      refine wpL_p (v := .bool true) rfl (by kernel_rfl) rfl (fun _ => by kernel_rfl) (by simp only [List.setIfInBounds_toArray, List.set_cons_succ, List.set_cons_zero] <;> rfl) ?_
      refine wpL_v (v := .agg (frcC su nu du)) rfl (by kernel_rfl) rfl (yb_load rfl (by kernel_rfl) (.tail _ (.tail _ (.tail _ (.tail _ (.head _))))) Tryd.underlying26 rfl size27 (by simp) (frc_whole su nu du)) (by simp only [List.setIfInBounds_toArray, List.set_cons_succ, List.set_cons_zero] <;> rfl) ?_
      refine wpL_v (v := .agg (frcC su nu du)) rfl (by kernel_rfl) rfl (yb_load rfl (by kernel_rfl) (.tail _ (.head _)) Tryd.underlying26 rfl size27 (by simp) (frc_whole su nu du)) (by simp only [List.setIfInBounds_toArray, List.set_cons_succ, List.set_cons_zero] <;> rfl) ?_
      refine wpL_p (v := .bool true) rfl (by kernel_rfl) rfl (run_bin rfl (vx := .agg (frcC su nu du)) (vy := .agg (frcC su nu du)) (by kernel_rfl) (by kernel_rfl) fun w => run_eql27s Hnu Hdu w) (by simp only [List.setIfInBounds_toArray, List.set_cons_succ, List.set_cons_zero] <;> rfl) ?_
      refine wpL_p (v := .bool true) rfl (by kernel_rfl) rfl (fun _ => by kernel_rfl) (by simp only [List.setIfInBounds_toArray, List.set_cons_succ, List.set_cons_zero] <;> rfl) ?_
      refine wpL_p (v := .bool true) rfl (by kernel_rfl) rfl (fun _ => by kernel_rfl) (by simp only [List.setIfInBounds_toArray, List.set_cons_succ, List.set_cons_zero] <;> rfl) ?_
      refine wpL_v (v := .agg (frcC sx nx dx)) rfl (by kernel_rfl) rfl (yb_load rfl (by kernel_rfl) (.tail _ (.tail _ (.head _))) Tryd.underlying26 rfl size27 (by simp) (frc_whole sx nx dx)) (by simp only [List.setIfInBounds_toArray, List.set_cons_succ, List.set_cons_zero] <;> rfl) ?_
      refine wpL_v (v := .agg (frcC sx nx dx)) rfl (by kernel_rfl) rfl (yb_load rfl (by kernel_rfl) (.tail _ (.tail _ (.tail _ (.tail _ (.tail _ (.tail _ (.tail _ (.tail _ (.tail _ (.head _)))))))))) Tryd.underlying26 rfl size27 (by simp) (frc_whole sx nx dx)) (by simp only [List.setIfInBounds_toArray, List.set_cons_succ, List.set_cons_zero] <;> rfl) ?_
      refine wpL_p (v := .bool true) rfl (by kernel_rfl) rfl (run_bin rfl (vx := .agg (frcC sx nx dx)) (vy := .agg (frcC sx nx dx)) (by kernel_rfl) (by kernel_rfl) fun w => run_eql27s Hnx Hdx w) (by simp only [List.setIfInBounds_toArray, List.set_cons_succ, List.set_cons_zero] <;> rfl) ?_
      refine wpL_p (v := .bool true) rfl (by kernel_rfl) rfl (fun _ => by kernel_rfl) (by simp only [List.setIfInBounds_toArray, List.set_cons_succ, List.set_cons_zero] <;> rfl) ?_
      refine wpL_p (v := .bool true) rfl (by kernel_rfl) rfl (fun _ => by kernel_rfl) (by simp only [List.setIfInBounds_toArray, List.set_cons_succ, List.set_cons_zero] <;> rfl) ?_
      refine wpL_done (fun W21 hW21 => ?_)
      clear hW20
      refine (show Code.wp _ _ _ _ _ from ?_)
      refine wp_ret ?_
      go_ret
      exact ⟨rfl, hW21.1⟩
end Go.Proofs.YtkfcikijmkgahaaDoor
