import Derived.Test.YtllmpemmknblaaaDoorBS00
import Derived.Test.YtllmpemmknblaaaDoorJQz02
import Derived.Test.YtllmpemmknblaaaDoorBS02
/- BoxSmall: the law holds for every input; no condition but the row's own. -/
set_option linter.unusedVariables false
set_option linter.unusedSimpArgs false
set_option linter.unusedSectionVars false
namespace Go.Proofs.YtllmpemmknblaaaDoor
open Go Go.RowKit Tw
set_option maxRecDepth 100000 in
set_option maxHeartbeats 4000000 in
theorem BoxSmall_any  (w : World) (hE : Env w) : Calls Tryd.prog 4 #[] w fun e w' => e = .returned (.bool true) ∧ Below w.heap.size w w' := by
 have HE := Lib.hid hE
 clear hE
 have hn17 := nsL_len
 go_enter Tryd.func4, Tryd.ntmps4
 refine wp_seq ?_
 refine wp_region_L [] (KS.start w) ?_
 refine lm (v := .bool false) rfl rfl ?_
 refine wpL_done (fun W1 hW1 => ?_)
 change Code.wp ..
 refine wp_seq ?_
 refine wp_seq ?_
 refine wp_region_L _ hW1 ?_
 refine lm (v := .int .i64 0) rfl rfl ?_
 refine wpL_done (fun W2 hW2 => ?_)
 change Code.wp ..
 refine wp_block ?_
 go_loopw [8] (fun u8 wr => ∃ (k : Nat), (k ≤ 256) ∧ u8 = .int .i64 ((k : Nat) : Int) ∧ KS w [] wr) (fun u8 _ => 256 - (intOf u8).toNat)
 case atStart => exact ⟨0, Tw.om, rfl, (hW2.sub (fun p hp => by first | exact hp | (simp only [List.mem_cons, List.mem_append, List.nil_append, List.not_mem_nil, or_assoc, or_false, false_or] at hp ⊢ <;> grind)))⟩
 case round =>
   obtain ⟨k, hk, rfl, hL3⟩ := hrel
   refine wp_seq ?_
   refine wp_region_L _ hL3 ?_
   refine lp (v := .bool (decide (k < 256))) rfl rfl (run_bin rfl (vx := (.int .i64 ((k : Nat) : Int))) (vy := (.int .i64 ((256 : Nat) : Int))) Tw.kr Tw.kr fun w => bn_lss rfl w) ?_
   refine wpL_done (fun W4 hW4 => ?_)
   change Code.wp ..
   refine wp_seq ?_
   cases hd1 : (decide (k < 256)) with
   | false =>
     have h1 : ¬ (k < 256) := of_decide_eq_false hd1
     clear hd1
     refine wp_cond_false rfl ?_
     refine wp_exit ?_
     change Code.wp ..
     refine wp_seq ?_
     refine wp_seq ?_
     refine wp_region_L _ hW4 ?_
     refine wpL_new (fun g => .slice (some ⟨g, 0, none⟩) 17 17) (obi := .cells #[.int .i64 (-1), .int .i64 0, .int .i64 1, .int .i64 2, .int .i64 9, .int .i64 10, .int .i64 19, .int .i64 20, .int .i64 21, .int .i64 31999, .int .i64 32000, .int .i64 32001, .int .i64 39999, .int .i64 40000, .int .i64 40001, .int .i64 999999, .int .i64 1000000] 3 (0, 0)) rfl rfl Tw.kf Tw.pf fun g1 Bg1 Fg1 => ?_
     refine lm (v := .int .i64 17) rfl rfl ?_
     refine lm (v := .int .i64 0) rfl rfl ?_
     refine wpL_done (fun W5 hW5 => ?_)
     change Code.wp ..
     refine wp_block ?_
     go_loopw [35] (fun u35 wr => ∃ (j : Nat), (j ≤ 17) ∧ u35 = .int .i64 ((j : Nat) : Int) ∧ KS w [(g1, .cells #[.int .i64 (-1), .int .i64 0, .int .i64 1, .int .i64 2, .int .i64 9, .int .i64 10, .int .i64 19, .int .i64 20, .int .i64 21, .int .i64 31999, .int .i64 32000, .int .i64 32001, .int .i64 39999, .int .i64 40000, .int .i64 40001, .int .i64 999999, .int .i64 1000000] 3 (0, 0))] wr) (fun u35 _ => 17 - (intOf u35).toNat)
     case atStart => exact ⟨0, Tw.om, rfl, (hW5.sub (fun p hp => by first | exact hp | (simp only [List.mem_cons, List.mem_append, List.nil_append, List.not_mem_nil, or_assoc, or_false, false_or] at hp ⊢ <;> grind)))⟩
     case round =>
       obtain ⟨j, hj, rfl, hL6⟩ := hrel
       refine wp_seq ?_
       have Rg1 : RL inB w (some ⟨g1, 0, none⟩) nsL [(g1, .cells #[.int .i64 (-1), .int .i64 0, .int .i64 1, .int .i64 2, .int .i64 9, .int .i64 10, .int .i64 19, .int .i64 20, .int .i64 21, .int .i64 31999, .int .i64 32000, .int .i64 32001, .int .i64 39999, .int .i64 40000, .int .i64 40001, .int .i64 999999, .int .i64 1000000] 3 (0, 0))] := lit_rl (show RowR inB _ nsL from ⟨[], rfl⟩)
       refine wp_region_L _ hL6 ?_
       refine lp (v := .bool (decide (j < 17))) rfl rfl (run_bin rfl (vx := (.int .i64 ((j : Nat) : Int))) (vy := (.int .i64 ((17 : Nat) : Int))) Tw.kr Tw.kr fun w => bn_lss rfl w) ?_
       refine wpL_done (fun W7 hW7 => ?_)
       change Code.wp ..
       refine wp_seq ?_
       cases hd2 : (decide (j < 17)) with
       | false =>
         have h2 : ¬ (j < 17) := of_decide_eq_false hd2
         clear hd2
         refine wp_cond_false rfl ?_
         refine wp_exit ?_
         change Code.wp ..
         refine wp_seq ?_
         refine wp_region_L _ hW7 ?_
         refine lv (v := .bool true) rfl rfl (yb_call (f := 15) (args := #[]) Tw.kf fun W hW => numbers_any W (HE.out.keep hW.1)) ?_
         refine lm (v := .bool true) rfl rfl ?_
         refine lv (v := .bool true) rfl rfl (yb_call (f := 16) (args := #[]) Tw.kf fun W hW => several_any W) ?_
         refine lm (v := .bool true) rfl rfl ?_
         refine lm (v := .bool true) rfl rfl ?_
         refine lv (v := .bool true) rfl rfl (yb_call (f := 12) (args := #[]) Tw.kf fun W hW => awake_any W (HE.out.keep hW.1)) ?_
         refine lm (v := .bool true) rfl rfl ?_
         refine lm (v := .bool true) rfl rfl ?_
         refine wpL_done (fun W8 hW8 => ?_)
         change Code.wp ..
         refine wp_ret ?_
         try simp only [inBlock_ret, then_ret]
         refine bodyPost_ret (v := .bool true) ?_ rfl ?_
         · kernel_rfl
         · exact ⟨rfl, hW8.1⟩
       | true =>
         have h2 : j < 17 := of_decide_eq_true hd2
         clear hd2
         refine wp_cond_true rfl ?_
         refine wp_skip ?_
         change Code.wp ..
         refine wp_seq ?_
         refine wp_block ?_
         refine wp_seq ?_
         refine wp_region_L _ hW7 ?_
         obtain ⟨y2, g2_, f2_, hy2, hp2, hc2⟩ := RL.at Rg1 inB_len (by decide) (hW7.sub (fun p hp => by cases List.mem_singleton.1 hp; exact Tw.m0)) (k := j) Tw.om
         refine lp (v := .pointer (some ⟨g2_, f2_ + j * 1, none⟩)) rfl rfl (run_idxQ (p := (some ⟨g1, 0, none⟩)) (cap := 17) (n := 17) (j := .i64) (k := j) (sz := 1) rfl Tryd.underlying29 Tw.kr Tw.kr hp2 Tw.kr Tw.om) ?_
         refine lv (v := .int .i64 y2) rfl rfl (yb_rf (v := .int .i64 y2) rfl Tw.kr (fun W hW => hc2 W (hW.sub (fun p hp => by cases List.mem_singleton.1 hp; exact Tw.m0)) 0 _ rfl) Tryd.underlying3 rfl) ?_
         refine lm (v := .int .i64 y2) rfl rfl ?_
         refine wpL_done (fun W9 hW9 => ?_)
         change Code.wp ..
         refine wp_seq ?_
         refine wp_region_L _ hW9 ?_
         refine lm (v := .int .i64 0) rfl rfl ?_
         refine wpL_done (fun W10 hW10 => ?_)
         change Code.wp ..
         refine wp_block ?_
         go_loopw [39] (fun u39 wr => ∃ (m : Nat), (m ≤ 10) ∧ u39 = .int .i64 ((m : Nat) : Int) ∧ KS w [(g1, .cells #[.int .i64 (-1), .int .i64 0, .int .i64 1, .int .i64 2, .int .i64 9, .int .i64 10, .int .i64 19, .int .i64 20, .int .i64 21, .int .i64 31999, .int .i64 32000, .int .i64 32001, .int .i64 39999, .int .i64 40000, .int .i64 40001, .int .i64 999999, .int .i64 1000000] 3 (0, 0))] wr) (fun u39 _ => 10 - (intOf u39).toNat)
         case atStart => exact ⟨0, Tw.om, rfl, (hW10.sub (fun p hp => by first | exact hp | (simp only [List.mem_cons, List.mem_append, List.nil_append, List.not_mem_nil, or_assoc, or_false, false_or] at hp ⊢ <;> grind)))⟩
         case round =>
           obtain ⟨m, hm, rfl, hL11⟩ := hrel
           refine wp_seq ?_
           refine wp_region_L _ hL11 ?_
           refine lp (v := .bool (decide (m < 10))) rfl rfl (run_bin rfl (vx := (.int .i64 ((m : Nat) : Int))) (vy := (.int .i64 ((10 : Nat) : Int))) Tw.kr Tw.kr fun w => bn_lss rfl w) ?_
           refine wpL_done (fun W12 hW12 => ?_)
           change Code.wp ..
           refine wp_seq ?_
           cases hd3 : (decide (m < 10)) with
           | false =>
             have h3 : ¬ (m < 10) := of_decide_eq_false hd3
             clear hd3
             refine wp_cond_false rfl ?_
             refine wp_exit ?_
             change Code.wp ..
             refine wp_region_L _ hW12 ?_
             refine lp (v := .int .i64 (((j + 1) : Nat) : Int)) rfl rfl (run_bin rfl (vx := (.int .i64 ((j : Nat) : Int))) (vy := (.int .i64 ((1 : Nat) : Int))) Tw.kr Tw.kr fun w => bn_add (z := (j + 1)) rfl (wr_i64 Tw.om) w) ?_
             refine lm (v := .int .i64 (((j + 1) : Nat) : Int)) rfl rfl ?_
             refine wpL_done (fun W13 hW13 => ?_)
             go_roundw
             case rel =>
               repeat apply Exists.intro
               exact ⟨⟨j + 1, Tw.om, rfl, (hW13.sub (fun p hp => by first | exact hp | (simp only [List.mem_cons, List.mem_append, List.nil_append, List.not_mem_nil, or_assoc, or_false, false_or] at hp ⊢ <;> grind)))⟩, rfl⟩
             case measure => (show 17 - (intOf (.int .i64 (((j + 1) : Nat) : Int))).toNat < 17 - (intOf (.int .i64 ((j : Nat) : Int))).toNat); simp only [intOf]; omega
           | true =>
             have h3 : m < 10 := of_decide_eq_true hd3
             clear hd3
             refine wp_cond_true rfl ?_
             refine wp_skip ?_
             change Code.wp ..
             refine wp_seq ?_
             refine wp_block ?_
             refine wp_seq ?_
             refine wp_region_L _ hW12 ?_
             refine lm (v := .int .i64 ((m : Nat) : Int)) rfl rfl ?_
             refine lm (v := .int .i64 ((m : Nat) : Int)) rfl rfl ?_
             refine wpL_done (fun W14 hW14 => ?_)
             change Code.wp ..
             refine wp_seq ?_
             refine wp_region_L _ hW14 ?_
             refine lv (v := .agg (bxL exB).toArray) rfl rfl (yb_call (f := 13) (args := #[]) Tw.kf fun W hW => example_any W) ?_
             refine wpL_new (fun g => .pointer (some ⟨g, 0, none⟩)) (obi := .cells #[.int .i64 0, strV [], .int .u8 0, .bool false, .int .i64 0, .int .i64 0, .int .i64 0, .int .u8 0, .bool false] 26 (0, 0)) rfl rfl Tw.kf Tw.pf fun g3 Bg3 Fg3 => ?_
             obtain dj4_0 : g1 ≠ g3 := Tw.dkf Fg3
             refine wpL_s [(g3, .cells (bxL exB).toArray 26 (0, 0)), (g1, .cells #[.int .i64 (-1), .int .i64 0, .int .i64 1, .int .i64 2, .int .i64 9, .int .i64 10, .int .i64 19, .int .i64 20, .int .i64 21, .int .i64 31999, .int .i64 32000, .int .i64 32001, .int .i64 39999, .int .i64 40000, .int .i64 40001, .int .i64 999999, .int .i64 1000000] 3 (0, 0))] rfl rfl (st_row (off := 0) (v := .agg (bxL exB).toArray) rfl Tw.kr Tw.kr Tw.m0 Bg3 Tw.kr (by first | (simp [Value.cells]; done) | exact Nat.le_of_ble_eq_true rfl) (fun v hv => bxL_one exB v hv) Tw.kr (List.forall_mem_cons.2 ⟨.inl rfl, (List.forall_mem_cons.2 ⟨.inr ⟨Tw.m1, Tw.nee⟩, (List.forall_mem_nil _)⟩)⟩)) ?_
             refine wpL_done (fun W15 hW15 => ?_)
             change Code.wp ..
             refine wp_seq ?_
             refine wp_seq ?_
             refine wp_region_L _ hW15 ?_
             refine lm (v := .int .i64 ((m : Nat) : Int)) rfl rfl ?_
             refine lp (v := .bool (decide (4 < m))) rfl rfl (run_bin rfl (vx := (.int .i64 ((m : Nat) : Int))) (vy := (.int .i64 ((4 : Nat) : Int))) Tw.kr Tw.kr fun w => bn_gtr rfl w) ?_
             refine wpL_done (fun W16 hW16 => ?_)
             change Code.wp ..
             cases hd4 : (decide (4 < m)) with
             | false =>
               have h4 : ¬ (4 < m) := of_decide_eq_false hd4
               clear hd4
               refine wp_cond_false rfl ?_
               refine wp_skip ?_
               change Code.wp ..
               refine wp_seq ?_
               refine wp_seq ?_
               refine wp_region_L _ hW16 ?_
               refine lm (v := .int .i64 ((m : Nat) : Int)) rfl rfl ?_
               refine lp (v := .int .i64 (((m % 5) : Nat) : Int)) rfl rfl (run_bin rfl (vx := (.int .i64 ((m : Nat) : Int))) (vy := (.int .i64 ((5 : Nat) : Int))) Tw.kr Tw.kr fun w => bn_rem (z := (m % 5)) rfl Tw.om w) ?_
               refine wpL_done (fun W17 hW17 => ?_)
               change Code.wp ..
               refine wp_block ?_
               refine wp_seq ?_
               refine wp_region_L _ hW17 ?_
               refine lp (v := .bool (decide ((m % 5) = 0))) rfl rfl (run_bin rfl (vx := (.int .i64 (((m % 5) : Nat) : Int))) (vy := (.int .i64 ((0 : Nat) : Int))) Tw.kr Tw.kr fun w => bn_eql rfl w) ?_
               refine lm (v := .bool (decide ((m % 5) = 0))) rfl rfl ?_
               refine wpL_done (fun W18 hW18 => ?_)
               change Code.wp ..
               cases hd5 : (decide ((m % 5) = 0)) with
               | false =>
                 have h5 : ¬ ((m % 5) = 0) := of_decide_eq_false hd5
                 clear hd5
                 refine wp_cond_false rfl ?_
                 refine wp_seq ?_
                 refine wp_region_L _ hW18 ?_
                 refine lp (v := .bool (decide ((m % 5) = 1))) rfl rfl (run_bin rfl (vx := (.int .i64 (((m % 5) : Nat) : Int))) (vy := (.int .i64 ((1 : Nat) : Int))) Tw.kr Tw.kr fun w => bn_eql rfl w) ?_
                 refine lm (v := .bool (decide ((m % 5) = 1))) rfl rfl ?_
                 refine wpL_done (fun W19 hW19 => ?_)
                 change Code.wp ..
                 cases hd6 : (decide ((m % 5) = 1)) with
                 | false =>
                   have h6 : ¬ ((m % 5) = 1) := of_decide_eq_false hd6
                   clear hd6
                   refine wp_cond_false rfl ?_
                   refine wp_seq ?_
                   refine wp_region_L _ hW19 ?_
                   refine lp (v := .bool (decide ((m % 5) = 2))) rfl rfl (run_bin rfl (vx := (.int .i64 (((m % 5) : Nat) : Int))) (vy := (.int .i64 ((2 : Nat) : Int))) Tw.kr Tw.kr fun w => bn_eql rfl w) ?_
                   refine lm (v := .bool (decide ((m % 5) = 2))) rfl rfl ?_
                   refine wpL_done (fun W20 hW20 => ?_)
                   change Code.wp ..
                   cases hd7 : (decide ((m % 5) = 2)) with
                   | false =>
                     have h7 : ¬ ((m % 5) = 2) := of_decide_eq_false hd7
                     clear hd7
                     refine wp_cond_false rfl ?_
                     refine wp_seq ?_
                     refine wp_region_L _ hW20 ?_
                     refine lp (v := .bool (decide ((m % 5) = 3))) rfl rfl (run_bin rfl (vx := (.int .i64 (((m % 5) : Nat) : Int))) (vy := (.int .i64 ((3 : Nat) : Int))) Tw.kr Tw.kr fun w => bn_eql rfl w) ?_
                     refine lm (v := .bool (decide ((m % 5) = 3))) rfl rfl ?_
                     refine wpL_done (fun W21 hW21 => ?_)
                     change Code.wp ..
                     cases hd8 : (decide ((m % 5) = 3)) with
                     | false =>
                       have h8 : ¬ ((m % 5) = 3) := of_decide_eq_false hd8
                       clear hd8
                       refine wp_cond_false rfl ?_
                       refine wp_seq ?_
                       refine wp_region_L _ hW21 ?_
                       refine lp (v := .bool (decide ((m % 5) = 4))) rfl rfl (run_bin rfl (vx := (.int .i64 (((m % 5) : Nat) : Int))) (vy := (.int .i64 ((4 : Nat) : Int))) Tw.kr Tw.kr fun w => bn_eql rfl w) ?_
                       refine lm (v := .bool (decide ((m % 5) = 4))) rfl rfl ?_
                       refine wpL_done (fun W22 hW22 => ?_)
                       change Code.wp ..
                       cases hd9 : (decide ((m % 5) = 4)) with
                       | false =>
                         have h9 : ¬ ((m % 5) = 4) := of_decide_eq_false hd9
                         clear hd9
                         refine wp_cond_false rfl ?_
                         refine wp_skip ?_
                         change Code.wp ..
                         refine wp_seq ?_
                         refine wp_region_L _ hW22 ?_
                         refine lv (v := .agg (bxL exB).toArray) rfl rfl (yb_load (n := 9) (off := 0) rfl Tw.kr Tw.m0 Tryd.underlying26 rfl Tw.kr (by first | (simp [Value.cells]; done) | exact Nat.le_of_ble_eq_true rfl) Tw.kr) ?_
                         refine lm (v := .int .i64 y2) rfl rfl ?_
                         refine lv (v := .bool true) rfl rfl (yb_call (f := 14) (args := #[.agg (bxL exB).toArray, .int .i64 y2]) Tw.kf fun W hW => tells_any exB y2 W (HE.out.keep hW.1)) ?_
                         refine lm (v := .bool false) rfl rfl ?_
                         refine lm (v := .bool false) rfl rfl ?_
                         refine lv (v := .agg (bxL exB).toArray) rfl rfl (yb_load (n := 9) (off := 0) rfl Tw.kr Tw.m0 Tryd.underlying26 rfl Tw.kr (by first | (simp [Value.cells]; done) | exact Nat.le_of_ble_eq_true rfl) Tw.kr) ?_
                         refine lv (v := .bool true) rfl rfl (yb_call (f := 14) (args := #[.agg (bxL exB).toArray, .int .i64 1]) Tw.kf fun W hW => tells_any exB (1) W (HE.out.keep hW.1)) ?_
                         refine lm (v := .bool false) rfl rfl ?_
                         refine lm (v := .bool false) rfl rfl ?_
                         refine wpL_done (fun W23 hW23 => ?_)
                         change Code.wp ..
                         refine wp_cond_false rfl ?_
                         refine wp_skip ?_
                         change Code.wp ..
                         refine wp_region_L _ hW23 ?_
                         refine lp (v := .int .i64 (((m + 1) : Nat) : Int)) rfl rfl (run_bin rfl (vx := (.int .i64 ((m : Nat) : Int))) (vy := (.int .i64 ((1 : Nat) : Int))) Tw.kr Tw.kr fun w => bn_add (z := (m + 1)) rfl (wr_i64 Tw.om) w) ?_
                         refine lm (v := .int .i64 (((m + 1) : Nat) : Int)) rfl rfl ?_
                         refine wpL_done (fun W24 hW24 => ?_)
                         go_roundw
                         case rel =>
                           repeat apply Exists.intro
                           exact ⟨⟨m + 1, Tw.om, rfl, (hW24.sub (fun p hp => by first | exact hp | (simp only [List.mem_cons, List.mem_append, List.nil_append, List.not_mem_nil, or_assoc, or_false, false_or] at hp ⊢ <;> grind)))⟩, rfl⟩
                         case measure => (show 10 - (intOf (.int .i64 (((m + 1) : Nat) : Int))).toNat < 10 - (intOf (.int .i64 ((m : Nat) : Int))).toNat); simp only [intOf]; omega
                       | true =>
                         have h9 : (m % 5) = 4 := of_decide_eq_true hd9
                         clear hd9
                         refine wp_cond_true rfl ?_
                         refine wp_region_L _ hW22 ?_
                         refine lm (v := .int .i64 y2) rfl rfl ?_
                         obtain ⟨m5, hm5⟩ := wrap_nat (y2)
                         refine lp (v := .int .u8 ((m5 : Nat) : Int)) rfl rfl (run_conv rfl (vx := .int .i64 y2) Tw.kr fun w => cv_int Tryd.underlying3 Tryd.underlying5 hm5 w) ?_
                         refine lm (v := .pointer (some ⟨g3, 7, none⟩)) rfl rfl ?_
                         refine wpL_s [(g3, .cells #[.int .i64 exB.id, strV exB.num, .int .u8 ((exB.size : Nat) : Int), .bool exB.high, .int .i64 exB.kilos, .int .i64 exB.load, .int .i64 exB.dis, .int .u8 ((m5 : Nat) : Int), .bool exB.rf] 26 (0, 0)), (g1, .cells #[.int .i64 (-1), .int .i64 0, .int .i64 1, .int .i64 2, .int .i64 9, .int .i64 10, .int .i64 19, .int .i64 20, .int .i64 21, .int .i64 31999, .int .i64 32000, .int .i64 32001, .int .i64 39999, .int .i64 40000, .int .i64 40001, .int .i64 999999, .int .i64 1000000] 3 (0, 0))] rfl rfl (st_row (off := 7) (v := .int .u8 ((m5 : Nat) : Int)) rfl Tw.kr Tw.kr Tw.m0 Bg3 Tw.kr (by first | (simp [Value.cells]; done) | exact Nat.le_of_ble_eq_true rfl) (by intro v hv; simp [Value.cells] at hv; first | (subst hv; rfl) | (rcases hv with rfl <;> rfl)) Tw.kr (List.forall_mem_cons.2 ⟨.inl rfl, (List.forall_mem_cons.2 ⟨.inr ⟨Tw.m1, Tw.nee⟩, (List.forall_mem_nil _)⟩)⟩)) ?_
                         refine wpL_done (fun W25 hW25 => ?_)
                         change Code.wp ..
                         refine wp_seq ?_
                         refine wp_region_L _ hW25 ?_
                         refine lv (v := .agg #[.int .i64 exB.id, strV exB.num, .int .u8 ((exB.size : Nat) : Int), .bool exB.high, .int .i64 exB.kilos, .int .i64 exB.load, .int .i64 exB.dis, .int .u8 ((m5 : Nat) : Int), .bool exB.rf]) rfl rfl (yb_load (n := 9) (off := 0) rfl Tw.kr Tw.m0 Tryd.underlying26 rfl Tw.kr (by first | (simp [Value.cells]; done) | exact Nat.le_of_ble_eq_true rfl) Tw.kr) ?_
                         refine lm (v := .int .i64 y2) rfl rfl ?_
                         refine lv (v := .bool true) rfl rfl (yb_call (f := 14) (args := #[.agg #[.int .i64 exB.id, strV exB.num, .int .u8 ((exB.size : Nat) : Int), .bool exB.high, .int .i64 exB.kilos, .int .i64 exB.load, .int .i64 exB.dis, .int .u8 ((m5 : Nat) : Int), .bool exB.rf], .int .i64 y2]) Tw.kf fun W hW => tells_any (⟨exB.id, exB.num, exB.size, exB.high, exB.kilos, exB.load, exB.dis, m5, exB.rf⟩ : Bx) y2 W (HE.out.keep hW.1)) ?_
                         refine lm (v := .bool false) rfl rfl ?_
                         refine lm (v := .bool false) rfl rfl ?_
                         refine lv (v := .agg #[.int .i64 exB.id, strV exB.num, .int .u8 ((exB.size : Nat) : Int), .bool exB.high, .int .i64 exB.kilos, .int .i64 exB.load, .int .i64 exB.dis, .int .u8 ((m5 : Nat) : Int), .bool exB.rf]) rfl rfl (yb_load (n := 9) (off := 0) rfl Tw.kr Tw.m0 Tryd.underlying26 rfl Tw.kr (by first | (simp [Value.cells]; done) | exact Nat.le_of_ble_eq_true rfl) Tw.kr) ?_
                         refine lv (v := .bool true) rfl rfl (yb_call (f := 14) (args := #[.agg #[.int .i64 exB.id, strV exB.num, .int .u8 ((exB.size : Nat) : Int), .bool exB.high, .int .i64 exB.kilos, .int .i64 exB.load, .int .i64 exB.dis, .int .u8 ((m5 : Nat) : Int), .bool exB.rf], .int .i64 1]) Tw.kf fun W hW => tells_any (⟨exB.id, exB.num, exB.size, exB.high, exB.kilos, exB.load, exB.dis, m5, exB.rf⟩ : Bx) (1) W (HE.out.keep hW.1)) ?_
                         refine lm (v := .bool false) rfl rfl ?_
                         refine lm (v := .bool false) rfl rfl ?_
                         refine wpL_done (fun W26 hW26 => ?_)
                         change Code.wp ..
                         refine wp_cond_false rfl ?_
                         refine wp_skip ?_
                         change Code.wp ..
                         refine wp_region_L _ hW26 ?_
                         refine lp (v := .int .i64 (((m + 1) : Nat) : Int)) rfl rfl (run_bin rfl (vx := (.int .i64 ((m : Nat) : Int))) (vy := (.int .i64 ((1 : Nat) : Int))) Tw.kr Tw.kr fun w => bn_add (z := (m + 1)) rfl (wr_i64 Tw.om) w) ?_
                         refine lm (v := .int .i64 (((m + 1) : Nat) : Int)) rfl rfl ?_
                         refine wpL_done (fun W27 hW27 => ?_)
                         go_roundw
                         case rel =>
                           repeat apply Exists.intro
                           exact ⟨⟨m + 1, Tw.om, rfl, (hW27.sub (fun p hp => by first | exact hp | (simp only [List.mem_cons, List.mem_append, List.nil_append, List.not_mem_nil, or_assoc, or_false, false_or] at hp ⊢ <;> grind)))⟩, rfl⟩
                         case measure => (show 10 - (intOf (.int .i64 (((m + 1) : Nat) : Int))).toNat < 10 - (intOf (.int .i64 ((m : Nat) : Int))).toNat); simp only [intOf]; omega
                     | true =>
                       have h8 : (m % 5) = 3 := of_decide_eq_true hd8
                       clear hd8
                       refine wp_cond_true rfl ?_
                       refine wp_region_L _ hW21 ?_
                       refine lm (v := .int .i64 y2) rfl rfl ?_
                       refine lm (v := .pointer (some ⟨g3, 6, none⟩)) rfl rfl ?_
                       refine wpL_s [(g3, .cells #[.int .i64 exB.id, strV exB.num, .int .u8 ((exB.size : Nat) : Int), .bool exB.high, .int .i64 exB.kilos, .int .i64 exB.load, .int .i64 y2, .int .u8 ((exB.cls : Nat) : Int), .bool exB.rf] 26 (0, 0)), (g1, .cells #[.int .i64 (-1), .int .i64 0, .int .i64 1, .int .i64 2, .int .i64 9, .int .i64 10, .int .i64 19, .int .i64 20, .int .i64 21, .int .i64 31999, .int .i64 32000, .int .i64 32001, .int .i64 39999, .int .i64 40000, .int .i64 40001, .int .i64 999999, .int .i64 1000000] 3 (0, 0))] rfl rfl (st_row (off := 6) (v := .int .i64 y2) rfl Tw.kr Tw.kr Tw.m0 Bg3 Tw.kr (by first | (simp [Value.cells]; done) | exact Nat.le_of_ble_eq_true rfl) (fun v hv => inB_one y2 v hv) Tw.kr (List.forall_mem_cons.2 ⟨.inl rfl, (List.forall_mem_cons.2 ⟨.inr ⟨Tw.m1, Tw.nee⟩, (List.forall_mem_nil _)⟩)⟩)) ?_
                       refine wpL_done (fun W28 hW28 => ?_)
                       change Code.wp ..
                       refine wp_seq ?_
                       refine wp_region_L _ hW28 ?_
                       refine lv (v := .agg #[.int .i64 exB.id, strV exB.num, .int .u8 ((exB.size : Nat) : Int), .bool exB.high, .int .i64 exB.kilos, .int .i64 exB.load, .int .i64 y2, .int .u8 ((exB.cls : Nat) : Int), .bool exB.rf]) rfl rfl (yb_load (n := 9) (off := 0) rfl Tw.kr Tw.m0 Tryd.underlying26 rfl Tw.kr (by first | (simp [Value.cells]; done) | exact Nat.le_of_ble_eq_true rfl) Tw.kr) ?_
                       refine lm (v := .int .i64 y2) rfl rfl ?_
                       refine lv (v := .bool true) rfl rfl (yb_call (f := 14) (args := #[.agg #[.int .i64 exB.id, strV exB.num, .int .u8 ((exB.size : Nat) : Int), .bool exB.high, .int .i64 exB.kilos, .int .i64 exB.load, .int .i64 y2, .int .u8 ((exB.cls : Nat) : Int), .bool exB.rf], .int .i64 y2]) Tw.kf fun W hW => tells_any (⟨exB.id, exB.num, exB.size, exB.high, exB.kilos, exB.load, y2, exB.cls, exB.rf⟩ : Bx) y2 W (HE.out.keep hW.1)) ?_
                       refine lm (v := .bool false) rfl rfl ?_
                       refine lm (v := .bool false) rfl rfl ?_
                       refine lv (v := .agg #[.int .i64 exB.id, strV exB.num, .int .u8 ((exB.size : Nat) : Int), .bool exB.high, .int .i64 exB.kilos, .int .i64 exB.load, .int .i64 y2, .int .u8 ((exB.cls : Nat) : Int), .bool exB.rf]) rfl rfl (yb_load (n := 9) (off := 0) rfl Tw.kr Tw.m0 Tryd.underlying26 rfl Tw.kr (by first | (simp [Value.cells]; done) | exact Nat.le_of_ble_eq_true rfl) Tw.kr) ?_
                       refine lv (v := .bool true) rfl rfl (yb_call (f := 14) (args := #[.agg #[.int .i64 exB.id, strV exB.num, .int .u8 ((exB.size : Nat) : Int), .bool exB.high, .int .i64 exB.kilos, .int .i64 exB.load, .int .i64 y2, .int .u8 ((exB.cls : Nat) : Int), .bool exB.rf], .int .i64 1]) Tw.kf fun W hW => tells_any (⟨exB.id, exB.num, exB.size, exB.high, exB.kilos, exB.load, y2, exB.cls, exB.rf⟩ : Bx) (1) W (HE.out.keep hW.1)) ?_
                       refine lm (v := .bool false) rfl rfl ?_
                       refine lm (v := .bool false) rfl rfl ?_
                       refine wpL_done (fun W29 hW29 => ?_)
                       change Code.wp ..
                       refine wp_cond_false rfl ?_
                       refine wp_skip ?_
                       change Code.wp ..
                       refine wp_region_L _ hW29 ?_
                       refine lp (v := .int .i64 (((m + 1) : Nat) : Int)) rfl rfl (run_bin rfl (vx := (.int .i64 ((m : Nat) : Int))) (vy := (.int .i64 ((1 : Nat) : Int))) Tw.kr Tw.kr fun w => bn_add (z := (m + 1)) rfl (wr_i64 Tw.om) w) ?_
                       refine lm (v := .int .i64 (((m + 1) : Nat) : Int)) rfl rfl ?_
                       refine wpL_done (fun W30 hW30 => ?_)
                       go_roundw
                       case rel =>
                         repeat apply Exists.intro
                         exact ⟨⟨m + 1, Tw.om, rfl, (hW30.sub (fun p hp => by first | exact hp | (simp only [List.mem_cons, List.mem_append, List.nil_append, List.not_mem_nil, or_assoc, or_false, false_or] at hp ⊢ <;> grind)))⟩, rfl⟩
                       case measure => (show 10 - (intOf (.int .i64 (((m + 1) : Nat) : Int))).toNat < 10 - (intOf (.int .i64 ((m : Nat) : Int))).toNat); simp only [intOf]; omega
                   | true =>
                     have h7 : (m % 5) = 2 := of_decide_eq_true hd7
                     clear hd7
                     refine wp_cond_true rfl ?_
                     refine wp_region_L _ hW20 ?_
                     refine lm (v := .int .i64 y2) rfl rfl ?_
                     refine lm (v := .pointer (some ⟨g3, 5, none⟩)) rfl rfl ?_
                     refine wpL_s [(g3, .cells #[.int .i64 exB.id, strV exB.num, .int .u8 ((exB.size : Nat) : Int), .bool exB.high, .int .i64 exB.kilos, .int .i64 y2, .int .i64 exB.dis, .int .u8 ((exB.cls : Nat) : Int), .bool exB.rf] 26 (0, 0)), (g1, .cells #[.int .i64 (-1), .int .i64 0, .int .i64 1, .int .i64 2, .int .i64 9, .int .i64 10, .int .i64 19, .int .i64 20, .int .i64 21, .int .i64 31999, .int .i64 32000, .int .i64 32001, .int .i64 39999, .int .i64 40000, .int .i64 40001, .int .i64 999999, .int .i64 1000000] 3 (0, 0))] rfl rfl (st_row (off := 5) (v := .int .i64 y2) rfl Tw.kr Tw.kr Tw.m0 Bg3 Tw.kr (by first | (simp [Value.cells]; done) | exact Nat.le_of_ble_eq_true rfl) (fun v hv => inB_one y2 v hv) Tw.kr (List.forall_mem_cons.2 ⟨.inl rfl, (List.forall_mem_cons.2 ⟨.inr ⟨Tw.m1, Tw.nee⟩, (List.forall_mem_nil _)⟩)⟩)) ?_
                     refine wpL_done (fun W31 hW31 => ?_)
                     change Code.wp ..
                     refine wp_seq ?_
                     refine wp_region_L _ hW31 ?_
                     refine lv (v := .agg #[.int .i64 exB.id, strV exB.num, .int .u8 ((exB.size : Nat) : Int), .bool exB.high, .int .i64 exB.kilos, .int .i64 y2, .int .i64 exB.dis, .int .u8 ((exB.cls : Nat) : Int), .bool exB.rf]) rfl rfl (yb_load (n := 9) (off := 0) rfl Tw.kr Tw.m0 Tryd.underlying26 rfl Tw.kr (by first | (simp [Value.cells]; done) | exact Nat.le_of_ble_eq_true rfl) Tw.kr) ?_
                     refine lm (v := .int .i64 y2) rfl rfl ?_
                     refine lv (v := .bool true) rfl rfl (yb_call (f := 14) (args := #[.agg #[.int .i64 exB.id, strV exB.num, .int .u8 ((exB.size : Nat) : Int), .bool exB.high, .int .i64 exB.kilos, .int .i64 y2, .int .i64 exB.dis, .int .u8 ((exB.cls : Nat) : Int), .bool exB.rf], .int .i64 y2]) Tw.kf fun W hW => tells_any (⟨exB.id, exB.num, exB.size, exB.high, exB.kilos, y2, exB.dis, exB.cls, exB.rf⟩ : Bx) y2 W (HE.out.keep hW.1)) ?_
                     refine lm (v := .bool false) rfl rfl ?_
                     refine lm (v := .bool false) rfl rfl ?_
                     refine lv (v := .agg #[.int .i64 exB.id, strV exB.num, .int .u8 ((exB.size : Nat) : Int), .bool exB.high, .int .i64 exB.kilos, .int .i64 y2, .int .i64 exB.dis, .int .u8 ((exB.cls : Nat) : Int), .bool exB.rf]) rfl rfl (yb_load (n := 9) (off := 0) rfl Tw.kr Tw.m0 Tryd.underlying26 rfl Tw.kr (by first | (simp [Value.cells]; done) | exact Nat.le_of_ble_eq_true rfl) Tw.kr) ?_
                     refine lv (v := .bool true) rfl rfl (yb_call (f := 14) (args := #[.agg #[.int .i64 exB.id, strV exB.num, .int .u8 ((exB.size : Nat) : Int), .bool exB.high, .int .i64 exB.kilos, .int .i64 y2, .int .i64 exB.dis, .int .u8 ((exB.cls : Nat) : Int), .bool exB.rf], .int .i64 1]) Tw.kf fun W hW => tells_any (⟨exB.id, exB.num, exB.size, exB.high, exB.kilos, y2, exB.dis, exB.cls, exB.rf⟩ : Bx) (1) W (HE.out.keep hW.1)) ?_
                     refine lm (v := .bool false) rfl rfl ?_
                     refine lm (v := .bool false) rfl rfl ?_
                     refine wpL_done (fun W32 hW32 => ?_)
                     change Code.wp ..
                     refine wp_cond_false rfl ?_
                     refine wp_skip ?_
                     change Code.wp ..
                     refine wp_region_L _ hW32 ?_
                     refine lp (v := .int .i64 (((m + 1) : Nat) : Int)) rfl rfl (run_bin rfl (vx := (.int .i64 ((m : Nat) : Int))) (vy := (.int .i64 ((1 : Nat) : Int))) Tw.kr Tw.kr fun w => bn_add (z := (m + 1)) rfl (wr_i64 Tw.om) w) ?_
                     refine lm (v := .int .i64 (((m + 1) : Nat) : Int)) rfl rfl ?_
                     refine wpL_done (fun W33 hW33 => ?_)
                     go_roundw
                     case rel =>
                       repeat apply Exists.intro
                       exact ⟨⟨m + 1, Tw.om, rfl, (hW33.sub (fun p hp => by first | exact hp | (simp only [List.mem_cons, List.mem_append, List.nil_append, List.not_mem_nil, or_assoc, or_false, false_or] at hp ⊢ <;> grind)))⟩, rfl⟩
                     case measure => (show 10 - (intOf (.int .i64 (((m + 1) : Nat) : Int))).toNat < 10 - (intOf (.int .i64 ((m : Nat) : Int))).toNat); simp only [intOf]; omega
                 | true =>
                   have h6 : (m % 5) = 1 := of_decide_eq_true hd6
                   clear hd6
                   refine wp_cond_true rfl ?_
                   refine wp_region_L _ hW19 ?_
                   refine lm (v := .int .i64 y2) rfl rfl ?_
                   refine lm (v := .pointer (some ⟨g3, 4, none⟩)) rfl rfl ?_
                   refine wpL_s [(g3, .cells #[.int .i64 exB.id, strV exB.num, .int .u8 ((exB.size : Nat) : Int), .bool exB.high, .int .i64 y2, .int .i64 exB.load, .int .i64 exB.dis, .int .u8 ((exB.cls : Nat) : Int), .bool exB.rf] 26 (0, 0)), (g1, .cells #[.int .i64 (-1), .int .i64 0, .int .i64 1, .int .i64 2, .int .i64 9, .int .i64 10, .int .i64 19, .int .i64 20, .int .i64 21, .int .i64 31999, .int .i64 32000, .int .i64 32001, .int .i64 39999, .int .i64 40000, .int .i64 40001, .int .i64 999999, .int .i64 1000000] 3 (0, 0))] rfl rfl (st_row (off := 4) (v := .int .i64 y2) rfl Tw.kr Tw.kr Tw.m0 Bg3 Tw.kr (by first | (simp [Value.cells]; done) | exact Nat.le_of_ble_eq_true rfl) (fun v hv => inB_one y2 v hv) Tw.kr (List.forall_mem_cons.2 ⟨.inl rfl, (List.forall_mem_cons.2 ⟨.inr ⟨Tw.m1, Tw.nee⟩, (List.forall_mem_nil _)⟩)⟩)) ?_
                   refine wpL_done (fun W34 hW34 => ?_)
                   change Code.wp ..
                   refine wp_seq ?_
                   refine wp_region_L _ hW34 ?_
                   refine lv (v := .agg #[.int .i64 exB.id, strV exB.num, .int .u8 ((exB.size : Nat) : Int), .bool exB.high, .int .i64 y2, .int .i64 exB.load, .int .i64 exB.dis, .int .u8 ((exB.cls : Nat) : Int), .bool exB.rf]) rfl rfl (yb_load (n := 9) (off := 0) rfl Tw.kr Tw.m0 Tryd.underlying26 rfl Tw.kr (by first | (simp [Value.cells]; done) | exact Nat.le_of_ble_eq_true rfl) Tw.kr) ?_
                   refine lm (v := .int .i64 y2) rfl rfl ?_
                   refine lv (v := .bool true) rfl rfl (yb_call (f := 14) (args := #[.agg #[.int .i64 exB.id, strV exB.num, .int .u8 ((exB.size : Nat) : Int), .bool exB.high, .int .i64 y2, .int .i64 exB.load, .int .i64 exB.dis, .int .u8 ((exB.cls : Nat) : Int), .bool exB.rf], .int .i64 y2]) Tw.kf fun W hW => tells_any (⟨exB.id, exB.num, exB.size, exB.high, y2, exB.load, exB.dis, exB.cls, exB.rf⟩ : Bx) y2 W (HE.out.keep hW.1)) ?_
                   refine lm (v := .bool false) rfl rfl ?_
                   refine lm (v := .bool false) rfl rfl ?_
                   refine lv (v := .agg #[.int .i64 exB.id, strV exB.num, .int .u8 ((exB.size : Nat) : Int), .bool exB.high, .int .i64 y2, .int .i64 exB.load, .int .i64 exB.dis, .int .u8 ((exB.cls : Nat) : Int), .bool exB.rf]) rfl rfl (yb_load (n := 9) (off := 0) rfl Tw.kr Tw.m0 Tryd.underlying26 rfl Tw.kr (by first | (simp [Value.cells]; done) | exact Nat.le_of_ble_eq_true rfl) Tw.kr) ?_
                   refine lv (v := .bool true) rfl rfl (yb_call (f := 14) (args := #[.agg #[.int .i64 exB.id, strV exB.num, .int .u8 ((exB.size : Nat) : Int), .bool exB.high, .int .i64 y2, .int .i64 exB.load, .int .i64 exB.dis, .int .u8 ((exB.cls : Nat) : Int), .bool exB.rf], .int .i64 1]) Tw.kf fun W hW => tells_any (⟨exB.id, exB.num, exB.size, exB.high, y2, exB.load, exB.dis, exB.cls, exB.rf⟩ : Bx) (1) W (HE.out.keep hW.1)) ?_
                   refine lm (v := .bool false) rfl rfl ?_
                   refine lm (v := .bool false) rfl rfl ?_
                   refine wpL_done (fun W35 hW35 => ?_)
                   change Code.wp ..
                   refine wp_cond_false rfl ?_
                   refine wp_skip ?_
                   change Code.wp ..
                   refine wp_region_L _ hW35 ?_
                   refine lp (v := .int .i64 (((m + 1) : Nat) : Int)) rfl rfl (run_bin rfl (vx := (.int .i64 ((m : Nat) : Int))) (vy := (.int .i64 ((1 : Nat) : Int))) Tw.kr Tw.kr fun w => bn_add (z := (m + 1)) rfl (wr_i64 Tw.om) w) ?_
                   refine lm (v := .int .i64 (((m + 1) : Nat) : Int)) rfl rfl ?_
                   refine wpL_done (fun W36 hW36 => ?_)
                   go_roundw
                   case rel =>
                     repeat apply Exists.intro
                     exact ⟨⟨m + 1, Tw.om, rfl, (hW36.sub (fun p hp => by first | exact hp | (simp only [List.mem_cons, List.mem_append, List.nil_append, List.not_mem_nil, or_assoc, or_false, false_or] at hp ⊢ <;> grind)))⟩, rfl⟩
                   case measure => (show 10 - (intOf (.int .i64 (((m + 1) : Nat) : Int))).toNat < 10 - (intOf (.int .i64 ((m : Nat) : Int))).toNat); simp only [intOf]; omega
               | true =>
                 have h5 : (m % 5) = 0 := of_decide_eq_true hd5
                 clear hd5
                 refine wp_cond_true rfl ?_
                 refine wp_region_L _ hW18 ?_
                 refine lm (v := .int .i64 y2) rfl rfl ?_
                 refine lm (v := .pointer (some ⟨g3, 0, none⟩)) rfl rfl ?_
                 refine wpL_s [(g3, .cells #[.int .i64 y2, strV exB.num, .int .u8 ((exB.size : Nat) : Int), .bool exB.high, .int .i64 exB.kilos, .int .i64 exB.load, .int .i64 exB.dis, .int .u8 ((exB.cls : Nat) : Int), .bool exB.rf] 26 (0, 0)), (g1, .cells #[.int .i64 (-1), .int .i64 0, .int .i64 1, .int .i64 2, .int .i64 9, .int .i64 10, .int .i64 19, .int .i64 20, .int .i64 21, .int .i64 31999, .int .i64 32000, .int .i64 32001, .int .i64 39999, .int .i64 40000, .int .i64 40001, .int .i64 999999, .int .i64 1000000] 3 (0, 0))] rfl rfl (st_row (off := 0) (v := .int .i64 y2) rfl Tw.kr Tw.kr Tw.m0 Bg3 Tw.kr (by first | (simp [Value.cells]; done) | exact Nat.le_of_ble_eq_true rfl) (fun v hv => inB_one y2 v hv) Tw.kr (List.forall_mem_cons.2 ⟨.inl rfl, (List.forall_mem_cons.2 ⟨.inr ⟨Tw.m1, Tw.nee⟩, (List.forall_mem_nil _)⟩)⟩)) ?_
                 refine wpL_done (fun W37 hW37 => ?_)
                 change Code.wp ..
                 refine wp_seq ?_
                 refine wp_region_L _ hW37 ?_
                 refine lv (v := .agg #[.int .i64 y2, strV exB.num, .int .u8 ((exB.size : Nat) : Int), .bool exB.high, .int .i64 exB.kilos, .int .i64 exB.load, .int .i64 exB.dis, .int .u8 ((exB.cls : Nat) : Int), .bool exB.rf]) rfl rfl (yb_load (n := 9) (off := 0) rfl Tw.kr Tw.m0 Tryd.underlying26 rfl Tw.kr (by first | (simp [Value.cells]; done) | exact Nat.le_of_ble_eq_true rfl) Tw.kr) ?_
                 refine lm (v := .int .i64 y2) rfl rfl ?_
                 refine lv (v := .bool true) rfl rfl (yb_call (f := 14) (args := #[.agg #[.int .i64 y2, strV exB.num, .int .u8 ((exB.size : Nat) : Int), .bool exB.high, .int .i64 exB.kilos, .int .i64 exB.load, .int .i64 exB.dis, .int .u8 ((exB.cls : Nat) : Int), .bool exB.rf], .int .i64 y2]) Tw.kf fun W hW => tells_any (⟨y2, exB.num, exB.size, exB.high, exB.kilos, exB.load, exB.dis, exB.cls, exB.rf⟩ : Bx) y2 W (HE.out.keep hW.1)) ?_
                 refine lm (v := .bool false) rfl rfl ?_
                 refine lm (v := .bool false) rfl rfl ?_
                 refine lv (v := .agg #[.int .i64 y2, strV exB.num, .int .u8 ((exB.size : Nat) : Int), .bool exB.high, .int .i64 exB.kilos, .int .i64 exB.load, .int .i64 exB.dis, .int .u8 ((exB.cls : Nat) : Int), .bool exB.rf]) rfl rfl (yb_load (n := 9) (off := 0) rfl Tw.kr Tw.m0 Tryd.underlying26 rfl Tw.kr (by first | (simp [Value.cells]; done) | exact Nat.le_of_ble_eq_true rfl) Tw.kr) ?_
                 refine lv (v := .bool true) rfl rfl (yb_call (f := 14) (args := #[.agg #[.int .i64 y2, strV exB.num, .int .u8 ((exB.size : Nat) : Int), .bool exB.high, .int .i64 exB.kilos, .int .i64 exB.load, .int .i64 exB.dis, .int .u8 ((exB.cls : Nat) : Int), .bool exB.rf], .int .i64 1]) Tw.kf fun W hW => tells_any (⟨y2, exB.num, exB.size, exB.high, exB.kilos, exB.load, exB.dis, exB.cls, exB.rf⟩ : Bx) (1) W (HE.out.keep hW.1)) ?_
                 refine lm (v := .bool false) rfl rfl ?_
                 refine lm (v := .bool false) rfl rfl ?_
                 refine wpL_done (fun W38 hW38 => ?_)
                 change Code.wp ..
                 refine wp_cond_false rfl ?_
                 refine wp_skip ?_
                 change Code.wp ..
                 refine wp_region_L _ hW38 ?_
                 refine lp (v := .int .i64 (((m + 1) : Nat) : Int)) rfl rfl (run_bin rfl (vx := (.int .i64 ((m : Nat) : Int))) (vy := (.int .i64 ((1 : Nat) : Int))) Tw.kr Tw.kr fun w => bn_add (z := (m + 1)) rfl (wr_i64 Tw.om) w) ?_
                 refine lm (v := .int .i64 (((m + 1) : Nat) : Int)) rfl rfl ?_
                 refine wpL_done (fun W39 hW39 => ?_)
                 go_roundw
                 case rel =>
                   repeat apply Exists.intro
                   exact ⟨⟨m + 1, Tw.om, rfl, (hW39.sub (fun p hp => by first | exact hp | (simp only [List.mem_cons, List.mem_append, List.nil_append, List.not_mem_nil, or_assoc, or_false, false_or] at hp ⊢ <;> grind)))⟩, rfl⟩
                 case measure => (show 10 - (intOf (.int .i64 (((m + 1) : Nat) : Int))).toNat < 10 - (intOf (.int .i64 ((m : Nat) : Int))).toNat); simp only [intOf]; omega
             | true =>
               have h4 : 4 < m := of_decide_eq_true hd4
               clear hd4
               refine wp_cond_true rfl ?_
               refine wp_region_L _ hW16 ?_
               refine lm (v := .pointer (some ⟨g3, 2, none⟩)) rfl rfl ?_
               refine wpL_s [(g3, .cells #[.int .i64 exB.id, strV exB.num, .int .u8 20, .bool exB.high, .int .i64 exB.kilos, .int .i64 exB.load, .int .i64 exB.dis, .int .u8 ((exB.cls : Nat) : Int), .bool exB.rf] 26 (0, 0)), (g1, .cells #[.int .i64 (-1), .int .i64 0, .int .i64 1, .int .i64 2, .int .i64 9, .int .i64 10, .int .i64 19, .int .i64 20, .int .i64 21, .int .i64 31999, .int .i64 32000, .int .i64 32001, .int .i64 39999, .int .i64 40000, .int .i64 40001, .int .i64 999999, .int .i64 1000000] 3 (0, 0))] rfl rfl (st_row (off := 2) (v := .int .u8 20) rfl Tw.kr Tw.kr Tw.m0 Bg3 Tw.kr (by first | (simp [Value.cells]; done) | exact Nat.le_of_ble_eq_true rfl) (by intro v hv; simp [Value.cells] at hv; first | (subst hv; rfl) | (rcases hv with rfl <;> rfl)) Tw.kr (List.forall_mem_cons.2 ⟨.inl rfl, (List.forall_mem_cons.2 ⟨.inr ⟨Tw.m1, Tw.nee⟩, (List.forall_mem_nil _)⟩)⟩)) ?_
               refine lm (v := .pointer (some ⟨g3, 3, none⟩)) rfl rfl ?_
               refine wpL_s [(g3, .cells #[.int .i64 exB.id, strV exB.num, .int .u8 20, .bool false, .int .i64 exB.kilos, .int .i64 exB.load, .int .i64 exB.dis, .int .u8 ((exB.cls : Nat) : Int), .bool exB.rf] 26 (0, 0)), (g1, .cells #[.int .i64 (-1), .int .i64 0, .int .i64 1, .int .i64 2, .int .i64 9, .int .i64 10, .int .i64 19, .int .i64 20, .int .i64 21, .int .i64 31999, .int .i64 32000, .int .i64 32001, .int .i64 39999, .int .i64 40000, .int .i64 40001, .int .i64 999999, .int .i64 1000000] 3 (0, 0))] rfl rfl (st_row (off := 3) (v := .bool false) rfl Tw.kr Tw.kr Tw.m0 Bg3 Tw.kr (by first | (simp [Value.cells]; done) | exact Nat.le_of_ble_eq_true rfl) (by intro v hv; simp [Value.cells] at hv; first | (subst hv; rfl) | (rcases hv with rfl <;> rfl)) Tw.kr (List.forall_mem_cons.2 ⟨.inl rfl, (List.forall_mem_cons.2 ⟨.inr ⟨Tw.m1, Tw.nee⟩, (List.forall_mem_nil _)⟩)⟩)) ?_
               refine wpL_done (fun W40 hW40 => ?_)
               change Code.wp ..
               refine wp_seq ?_
               refine wp_seq ?_
               refine wp_region_L _ hW40 ?_
               refine lm (v := .int .i64 ((m : Nat) : Int)) rfl rfl ?_
               refine lp (v := .int .i64 (((m % 5) : Nat) : Int)) rfl rfl (run_bin rfl (vx := (.int .i64 ((m : Nat) : Int))) (vy := (.int .i64 ((5 : Nat) : Int))) Tw.kr Tw.kr fun w => bn_rem (z := (m % 5)) rfl Tw.om w) ?_
               refine wpL_done (fun W41 hW41 => ?_)
               change Code.wp ..
               refine wp_block ?_
               refine wp_seq ?_
               refine wp_region_L _ hW41 ?_
               refine lp (v := .bool (decide ((m % 5) = 0))) rfl rfl (run_bin rfl (vx := (.int .i64 (((m % 5) : Nat) : Int))) (vy := (.int .i64 ((0 : Nat) : Int))) Tw.kr Tw.kr fun w => bn_eql rfl w) ?_
               refine lm (v := .bool (decide ((m % 5) = 0))) rfl rfl ?_
               refine wpL_done (fun W42 hW42 => ?_)
               change Code.wp ..
               cases hd10 : (decide ((m % 5) = 0)) with
               | false =>
                 have h10 : ¬ ((m % 5) = 0) := of_decide_eq_false hd10
                 clear hd10
                 refine wp_cond_false rfl ?_
                 refine wp_seq ?_
                 refine wp_region_L _ hW42 ?_
                 refine lp (v := .bool (decide ((m % 5) = 1))) rfl rfl (run_bin rfl (vx := (.int .i64 (((m % 5) : Nat) : Int))) (vy := (.int .i64 ((1 : Nat) : Int))) Tw.kr Tw.kr fun w => bn_eql rfl w) ?_
                 refine lm (v := .bool (decide ((m % 5) = 1))) rfl rfl ?_
                 refine wpL_done (fun W43 hW43 => ?_)
                 change Code.wp ..
                 cases hd11 : (decide ((m % 5) = 1)) with
                 | false =>
                   have h11 : ¬ ((m % 5) = 1) := of_decide_eq_false hd11
                   clear hd11
                   refine wp_cond_false rfl ?_
                   refine wp_seq ?_
                   refine wp_region_L _ hW43 ?_
                   refine lp (v := .bool (decide ((m % 5) = 2))) rfl rfl (run_bin rfl (vx := (.int .i64 (((m % 5) : Nat) : Int))) (vy := (.int .i64 ((2 : Nat) : Int))) Tw.kr Tw.kr fun w => bn_eql rfl w) ?_
                   refine lm (v := .bool (decide ((m % 5) = 2))) rfl rfl ?_
                   refine wpL_done (fun W44 hW44 => ?_)
                   change Code.wp ..
                   cases hd12 : (decide ((m % 5) = 2)) with
                   | false =>
                     have h12 : ¬ ((m % 5) = 2) := of_decide_eq_false hd12
                     clear hd12
                     refine wp_cond_false rfl ?_
                     refine wp_seq ?_
                     refine wp_region_L _ hW44 ?_
                     refine lp (v := .bool (decide ((m % 5) = 3))) rfl rfl (run_bin rfl (vx := (.int .i64 (((m % 5) : Nat) : Int))) (vy := (.int .i64 ((3 : Nat) : Int))) Tw.kr Tw.kr fun w => bn_eql rfl w) ?_
                     refine lm (v := .bool (decide ((m % 5) = 3))) rfl rfl ?_
                     refine wpL_done (fun W45 hW45 => ?_)
                     change Code.wp ..
                     cases hd13 : (decide ((m % 5) = 3)) with
                     | false =>
                       have h13 : ¬ ((m % 5) = 3) := of_decide_eq_false hd13
                       clear hd13
                       refine wp_cond_false rfl ?_
                       refine wp_seq ?_
                       refine wp_region_L _ hW45 ?_
                       refine lp (v := .bool (decide ((m % 5) = 4))) rfl rfl (run_bin rfl (vx := (.int .i64 (((m % 5) : Nat) : Int))) (vy := (.int .i64 ((4 : Nat) : Int))) Tw.kr Tw.kr fun w => bn_eql rfl w) ?_
                       refine lm (v := .bool (decide ((m % 5) = 4))) rfl rfl ?_
                       refine wpL_done (fun W46 hW46 => ?_)
                       change Code.wp ..
                       cases hd14 : (decide ((m % 5) = 4)) with
                       | false =>
                         have h14 : ¬ ((m % 5) = 4) := of_decide_eq_false hd14
                         clear hd14
                         refine wp_cond_false rfl ?_
                         refine wp_skip ?_
                         change Code.wp ..
                         refine wp_seq ?_
                         refine wp_region_L _ hW46 ?_
                         refine lv (v := .agg #[.int .i64 exB.id, strV exB.num, .int .u8 20, .bool false, .int .i64 exB.kilos, .int .i64 exB.load, .int .i64 exB.dis, .int .u8 ((exB.cls : Nat) : Int), .bool exB.rf]) rfl rfl (yb_load (n := 9) (off := 0) rfl Tw.kr Tw.m0 Tryd.underlying26 rfl Tw.kr (by first | (simp [Value.cells]; done) | exact Nat.le_of_ble_eq_true rfl) Tw.kr) ?_
                         refine lm (v := .int .i64 y2) rfl rfl ?_
                         refine lv (v := .bool true) rfl rfl (yb_call (f := 14) (args := #[.agg #[.int .i64 exB.id, strV exB.num, .int .u8 20, .bool false, .int .i64 exB.kilos, .int .i64 exB.load, .int .i64 exB.dis, .int .u8 ((exB.cls : Nat) : Int), .bool exB.rf], .int .i64 y2]) Tw.kf fun W hW => tells_any (⟨exB.id, exB.num, 20, false, exB.kilos, exB.load, exB.dis, exB.cls, exB.rf⟩ : Bx) y2 W (HE.out.keep hW.1)) ?_
                         refine lm (v := .bool false) rfl rfl ?_
                         refine lm (v := .bool false) rfl rfl ?_
                         refine lv (v := .agg #[.int .i64 exB.id, strV exB.num, .int .u8 20, .bool false, .int .i64 exB.kilos, .int .i64 exB.load, .int .i64 exB.dis, .int .u8 ((exB.cls : Nat) : Int), .bool exB.rf]) rfl rfl (yb_load (n := 9) (off := 0) rfl Tw.kr Tw.m0 Tryd.underlying26 rfl Tw.kr (by first | (simp [Value.cells]; done) | exact Nat.le_of_ble_eq_true rfl) Tw.kr) ?_
                         refine lv (v := .bool true) rfl rfl (yb_call (f := 14) (args := #[.agg #[.int .i64 exB.id, strV exB.num, .int .u8 20, .bool false, .int .i64 exB.kilos, .int .i64 exB.load, .int .i64 exB.dis, .int .u8 ((exB.cls : Nat) : Int), .bool exB.rf], .int .i64 1]) Tw.kf fun W hW => tells_any (⟨exB.id, exB.num, 20, false, exB.kilos, exB.load, exB.dis, exB.cls, exB.rf⟩ : Bx) (1) W (HE.out.keep hW.1)) ?_
                         refine lm (v := .bool false) rfl rfl ?_
                         refine lm (v := .bool false) rfl rfl ?_
                         refine wpL_done (fun W47 hW47 => ?_)
                         change Code.wp ..
                         refine wp_cond_false rfl ?_
                         refine wp_skip ?_
                         change Code.wp ..
                         refine wp_region_L _ hW47 ?_
                         refine lp (v := .int .i64 (((m + 1) : Nat) : Int)) rfl rfl (run_bin rfl (vx := (.int .i64 ((m : Nat) : Int))) (vy := (.int .i64 ((1 : Nat) : Int))) Tw.kr Tw.kr fun w => bn_add (z := (m + 1)) rfl (wr_i64 Tw.om) w) ?_
                         refine lm (v := .int .i64 (((m + 1) : Nat) : Int)) rfl rfl ?_
                         refine wpL_done (fun W48 hW48 => ?_)
                         go_roundw
                         case rel =>
                           repeat apply Exists.intro
                           exact ⟨⟨m + 1, Tw.om, rfl, (hW48.sub (fun p hp => by first | exact hp | (simp only [List.mem_cons, List.mem_append, List.nil_append, List.not_mem_nil, or_assoc, or_false, false_or] at hp ⊢ <;> grind)))⟩, rfl⟩
                         case measure => (show 10 - (intOf (.int .i64 (((m + 1) : Nat) : Int))).toNat < 10 - (intOf (.int .i64 ((m : Nat) : Int))).toNat); simp only [intOf]; omega
                       | true =>
                         have h14 : (m % 5) = 4 := of_decide_eq_true hd14
                         clear hd14
                         refine wp_cond_true rfl ?_
                         refine wp_region_L _ hW46 ?_
                         refine lm (v := .int .i64 y2) rfl rfl ?_
                         obtain ⟨m6, hm6⟩ := wrap_nat (y2)
                         refine lp (v := .int .u8 ((m6 : Nat) : Int)) rfl rfl (run_conv rfl (vx := .int .i64 y2) Tw.kr fun w => cv_int Tryd.underlying3 Tryd.underlying5 hm6 w) ?_
                         refine lm (v := .pointer (some ⟨g3, 7, none⟩)) rfl rfl ?_
                         refine wpL_s [(g3, .cells #[.int .i64 exB.id, strV exB.num, .int .u8 20, .bool false, .int .i64 exB.kilos, .int .i64 exB.load, .int .i64 exB.dis, .int .u8 ((m6 : Nat) : Int), .bool exB.rf] 26 (0, 0)), (g1, .cells #[.int .i64 (-1), .int .i64 0, .int .i64 1, .int .i64 2, .int .i64 9, .int .i64 10, .int .i64 19, .int .i64 20, .int .i64 21, .int .i64 31999, .int .i64 32000, .int .i64 32001, .int .i64 39999, .int .i64 40000, .int .i64 40001, .int .i64 999999, .int .i64 1000000] 3 (0, 0))] rfl rfl (st_row (off := 7) (v := .int .u8 ((m6 : Nat) : Int)) rfl Tw.kr Tw.kr Tw.m0 Bg3 Tw.kr (by first | (simp [Value.cells]; done) | exact Nat.le_of_ble_eq_true rfl) (by intro v hv; simp [Value.cells] at hv; first | (subst hv; rfl) | (rcases hv with rfl <;> rfl)) Tw.kr (List.forall_mem_cons.2 ⟨.inl rfl, (List.forall_mem_cons.2 ⟨.inr ⟨Tw.m1, Tw.nee⟩, (List.forall_mem_nil _)⟩)⟩)) ?_
                         refine wpL_done (fun W49 hW49 => ?_)
                         change Code.wp ..
                         refine wp_seq ?_
                         refine wp_region_L _ hW49 ?_
                         refine lv (v := .agg #[.int .i64 exB.id, strV exB.num, .int .u8 20, .bool false, .int .i64 exB.kilos, .int .i64 exB.load, .int .i64 exB.dis, .int .u8 ((m6 : Nat) : Int), .bool exB.rf]) rfl rfl (yb_load (n := 9) (off := 0) rfl Tw.kr Tw.m0 Tryd.underlying26 rfl Tw.kr (by first | (simp [Value.cells]; done) | exact Nat.le_of_ble_eq_true rfl) Tw.kr) ?_
                         refine lm (v := .int .i64 y2) rfl rfl ?_
                         refine lv (v := .bool true) rfl rfl (yb_call (f := 14) (args := #[.agg #[.int .i64 exB.id, strV exB.num, .int .u8 20, .bool false, .int .i64 exB.kilos, .int .i64 exB.load, .int .i64 exB.dis, .int .u8 ((m6 : Nat) : Int), .bool exB.rf], .int .i64 y2]) Tw.kf fun W hW => tells_any (⟨exB.id, exB.num, 20, false, exB.kilos, exB.load, exB.dis, m6, exB.rf⟩ : Bx) y2 W (HE.out.keep hW.1)) ?_
                         refine lm (v := .bool false) rfl rfl ?_
                         refine lm (v := .bool false) rfl rfl ?_
                         refine lv (v := .agg #[.int .i64 exB.id, strV exB.num, .int .u8 20, .bool false, .int .i64 exB.kilos, .int .i64 exB.load, .int .i64 exB.dis, .int .u8 ((m6 : Nat) : Int), .bool exB.rf]) rfl rfl (yb_load (n := 9) (off := 0) rfl Tw.kr Tw.m0 Tryd.underlying26 rfl Tw.kr (by first | (simp [Value.cells]; done) | exact Nat.le_of_ble_eq_true rfl) Tw.kr) ?_
                         refine lv (v := .bool true) rfl rfl (yb_call (f := 14) (args := #[.agg #[.int .i64 exB.id, strV exB.num, .int .u8 20, .bool false, .int .i64 exB.kilos, .int .i64 exB.load, .int .i64 exB.dis, .int .u8 ((m6 : Nat) : Int), .bool exB.rf], .int .i64 1]) Tw.kf fun W hW => tells_any (⟨exB.id, exB.num, 20, false, exB.kilos, exB.load, exB.dis, m6, exB.rf⟩ : Bx) (1) W (HE.out.keep hW.1)) ?_
                         refine lm (v := .bool false) rfl rfl ?_
                         refine lm (v := .bool false) rfl rfl ?_
                         refine wpL_done (fun W50 hW50 => ?_)
                         change Code.wp ..
                         refine wp_cond_false rfl ?_
                         refine wp_skip ?_
                         change Code.wp ..
                         refine wp_region_L _ hW50 ?_
                         refine lp (v := .int .i64 (((m + 1) : Nat) : Int)) rfl rfl (run_bin rfl (vx := (.int .i64 ((m : Nat) : Int))) (vy := (.int .i64 ((1 : Nat) : Int))) Tw.kr Tw.kr fun w => bn_add (z := (m + 1)) rfl (wr_i64 Tw.om) w) ?_
                         refine lm (v := .int .i64 (((m + 1) : Nat) : Int)) rfl rfl ?_
                         refine wpL_done (fun W51 hW51 => ?_)
                         go_roundw
                         case rel =>
                           repeat apply Exists.intro
                           exact ⟨⟨m + 1, Tw.om, rfl, (hW51.sub (fun p hp => by first | exact hp | (simp only [List.mem_cons, List.mem_append, List.nil_append, List.not_mem_nil, or_assoc, or_false, false_or] at hp ⊢ <;> grind)))⟩, rfl⟩
                         case measure => (show 10 - (intOf (.int .i64 (((m + 1) : Nat) : Int))).toNat < 10 - (intOf (.int .i64 ((m : Nat) : Int))).toNat); simp only [intOf]; omega
                     | true =>
                       have h13 : (m % 5) = 3 := of_decide_eq_true hd13
                       clear hd13
                       refine wp_cond_true rfl ?_
                       refine wp_region_L _ hW45 ?_
                       refine lm (v := .int .i64 y2) rfl rfl ?_
                       refine lm (v := .pointer (some ⟨g3, 6, none⟩)) rfl rfl ?_
                       refine wpL_s [(g3, .cells #[.int .i64 exB.id, strV exB.num, .int .u8 20, .bool false, .int .i64 exB.kilos, .int .i64 exB.load, .int .i64 y2, .int .u8 ((exB.cls : Nat) : Int), .bool exB.rf] 26 (0, 0)), (g1, .cells #[.int .i64 (-1), .int .i64 0, .int .i64 1, .int .i64 2, .int .i64 9, .int .i64 10, .int .i64 19, .int .i64 20, .int .i64 21, .int .i64 31999, .int .i64 32000, .int .i64 32001, .int .i64 39999, .int .i64 40000, .int .i64 40001, .int .i64 999999, .int .i64 1000000] 3 (0, 0))] rfl rfl (st_row (off := 6) (v := .int .i64 y2) rfl Tw.kr Tw.kr Tw.m0 Bg3 Tw.kr (by first | (simp [Value.cells]; done) | exact Nat.le_of_ble_eq_true rfl) (fun v hv => inB_one y2 v hv) Tw.kr (List.forall_mem_cons.2 ⟨.inl rfl, (List.forall_mem_cons.2 ⟨.inr ⟨Tw.m1, Tw.nee⟩, (List.forall_mem_nil _)⟩)⟩)) ?_
                       refine wpL_done (fun W52 hW52 => ?_)
                       change Code.wp ..
                       refine wp_seq ?_
                       refine wp_region_L _ hW52 ?_
                       refine lv (v := .agg #[.int .i64 exB.id, strV exB.num, .int .u8 20, .bool false, .int .i64 exB.kilos, .int .i64 exB.load, .int .i64 y2, .int .u8 ((exB.cls : Nat) : Int), .bool exB.rf]) rfl rfl (yb_load (n := 9) (off := 0) rfl Tw.kr Tw.m0 Tryd.underlying26 rfl Tw.kr (by first | (simp [Value.cells]; done) | exact Nat.le_of_ble_eq_true rfl) Tw.kr) ?_
                       refine lm (v := .int .i64 y2) rfl rfl ?_
                       refine lv (v := .bool true) rfl rfl (yb_call (f := 14) (args := #[.agg #[.int .i64 exB.id, strV exB.num, .int .u8 20, .bool false, .int .i64 exB.kilos, .int .i64 exB.load, .int .i64 y2, .int .u8 ((exB.cls : Nat) : Int), .bool exB.rf], .int .i64 y2]) Tw.kf fun W hW => tells_any (⟨exB.id, exB.num, 20, false, exB.kilos, exB.load, y2, exB.cls, exB.rf⟩ : Bx) y2 W (HE.out.keep hW.1)) ?_
                       refine lm (v := .bool false) rfl rfl ?_
                       refine lm (v := .bool false) rfl rfl ?_
                       refine lv (v := .agg #[.int .i64 exB.id, strV exB.num, .int .u8 20, .bool false, .int .i64 exB.kilos, .int .i64 exB.load, .int .i64 y2, .int .u8 ((exB.cls : Nat) : Int), .bool exB.rf]) rfl rfl (yb_load (n := 9) (off := 0) rfl Tw.kr Tw.m0 Tryd.underlying26 rfl Tw.kr (by first | (simp [Value.cells]; done) | exact Nat.le_of_ble_eq_true rfl) Tw.kr) ?_
                       refine lv (v := .bool true) rfl rfl (yb_call (f := 14) (args := #[.agg #[.int .i64 exB.id, strV exB.num, .int .u8 20, .bool false, .int .i64 exB.kilos, .int .i64 exB.load, .int .i64 y2, .int .u8 ((exB.cls : Nat) : Int), .bool exB.rf], .int .i64 1]) Tw.kf fun W hW => tells_any (⟨exB.id, exB.num, 20, false, exB.kilos, exB.load, y2, exB.cls, exB.rf⟩ : Bx) (1) W (HE.out.keep hW.1)) ?_
                       refine lm (v := .bool false) rfl rfl ?_
                       refine lm (v := .bool false) rfl rfl ?_
                       refine wpL_done (fun W53 hW53 => ?_)
                       change Code.wp ..
                       refine wp_cond_false rfl ?_
                       refine wp_skip ?_
                       change Code.wp ..
                       refine wp_region_L _ hW53 ?_
                       refine lp (v := .int .i64 (((m + 1) : Nat) : Int)) rfl rfl (run_bin rfl (vx := (.int .i64 ((m : Nat) : Int))) (vy := (.int .i64 ((1 : Nat) : Int))) Tw.kr Tw.kr fun w => bn_add (z := (m + 1)) rfl (wr_i64 Tw.om) w) ?_
                       refine lm (v := .int .i64 (((m + 1) : Nat) : Int)) rfl rfl ?_
                       refine wpL_done (fun W54 hW54 => ?_)
                       go_roundw
                       case rel =>
                         repeat apply Exists.intro
                         exact ⟨⟨m + 1, Tw.om, rfl, (hW54.sub (fun p hp => by first | exact hp | (simp only [List.mem_cons, List.mem_append, List.nil_append, List.not_mem_nil, or_assoc, or_false, false_or] at hp ⊢ <;> grind)))⟩, rfl⟩
                       case measure => (show 10 - (intOf (.int .i64 (((m + 1) : Nat) : Int))).toNat < 10 - (intOf (.int .i64 ((m : Nat) : Int))).toNat); simp only [intOf]; omega
                   | true =>
                     have h12 : (m % 5) = 2 := of_decide_eq_true hd12
                     clear hd12
                     refine wp_cond_true rfl ?_
                     refine wp_region_L _ hW44 ?_
                     refine lm (v := .int .i64 y2) rfl rfl ?_
                     refine lm (v := .pointer (some ⟨g3, 5, none⟩)) rfl rfl ?_
                     refine wpL_s [(g3, .cells #[.int .i64 exB.id, strV exB.num, .int .u8 20, .bool false, .int .i64 exB.kilos, .int .i64 y2, .int .i64 exB.dis, .int .u8 ((exB.cls : Nat) : Int), .bool exB.rf] 26 (0, 0)), (g1, .cells #[.int .i64 (-1), .int .i64 0, .int .i64 1, .int .i64 2, .int .i64 9, .int .i64 10, .int .i64 19, .int .i64 20, .int .i64 21, .int .i64 31999, .int .i64 32000, .int .i64 32001, .int .i64 39999, .int .i64 40000, .int .i64 40001, .int .i64 999999, .int .i64 1000000] 3 (0, 0))] rfl rfl (st_row (off := 5) (v := .int .i64 y2) rfl Tw.kr Tw.kr Tw.m0 Bg3 Tw.kr (by first | (simp [Value.cells]; done) | exact Nat.le_of_ble_eq_true rfl) (fun v hv => inB_one y2 v hv) Tw.kr (List.forall_mem_cons.2 ⟨.inl rfl, (List.forall_mem_cons.2 ⟨.inr ⟨Tw.m1, Tw.nee⟩, (List.forall_mem_nil _)⟩)⟩)) ?_
                     refine wpL_done (fun W55 hW55 => ?_)
                     change Code.wp ..
                     refine wp_seq ?_
                     refine wp_region_L _ hW55 ?_
                     refine lv (v := .agg #[.int .i64 exB.id, strV exB.num, .int .u8 20, .bool false, .int .i64 exB.kilos, .int .i64 y2, .int .i64 exB.dis, .int .u8 ((exB.cls : Nat) : Int), .bool exB.rf]) rfl rfl (yb_load (n := 9) (off := 0) rfl Tw.kr Tw.m0 Tryd.underlying26 rfl Tw.kr (by first | (simp [Value.cells]; done) | exact Nat.le_of_ble_eq_true rfl) Tw.kr) ?_
                     refine lm (v := .int .i64 y2) rfl rfl ?_
                     refine lv (v := .bool true) rfl rfl (yb_call (f := 14) (args := #[.agg #[.int .i64 exB.id, strV exB.num, .int .u8 20, .bool false, .int .i64 exB.kilos, .int .i64 y2, .int .i64 exB.dis, .int .u8 ((exB.cls : Nat) : Int), .bool exB.rf], .int .i64 y2]) Tw.kf fun W hW => tells_any (⟨exB.id, exB.num, 20, false, exB.kilos, y2, exB.dis, exB.cls, exB.rf⟩ : Bx) y2 W (HE.out.keep hW.1)) ?_
                     refine lm (v := .bool false) rfl rfl ?_
                     refine lm (v := .bool false) rfl rfl ?_
                     refine lv (v := .agg #[.int .i64 exB.id, strV exB.num, .int .u8 20, .bool false, .int .i64 exB.kilos, .int .i64 y2, .int .i64 exB.dis, .int .u8 ((exB.cls : Nat) : Int), .bool exB.rf]) rfl rfl (yb_load (n := 9) (off := 0) rfl Tw.kr Tw.m0 Tryd.underlying26 rfl Tw.kr (by first | (simp [Value.cells]; done) | exact Nat.le_of_ble_eq_true rfl) Tw.kr) ?_
                     refine lv (v := .bool true) rfl rfl (yb_call (f := 14) (args := #[.agg #[.int .i64 exB.id, strV exB.num, .int .u8 20, .bool false, .int .i64 exB.kilos, .int .i64 y2, .int .i64 exB.dis, .int .u8 ((exB.cls : Nat) : Int), .bool exB.rf], .int .i64 1]) Tw.kf fun W hW => tells_any (⟨exB.id, exB.num, 20, false, exB.kilos, y2, exB.dis, exB.cls, exB.rf⟩ : Bx) (1) W (HE.out.keep hW.1)) ?_
                     refine lm (v := .bool false) rfl rfl ?_
                     refine lm (v := .bool false) rfl rfl ?_
                     refine wpL_done (fun W56 hW56 => ?_)
                     change Code.wp ..
                     refine wp_cond_false rfl ?_
                     refine wp_skip ?_
                     change Code.wp ..
                     refine wp_region_L _ hW56 ?_
                     refine lp (v := .int .i64 (((m + 1) : Nat) : Int)) rfl rfl (run_bin rfl (vx := (.int .i64 ((m : Nat) : Int))) (vy := (.int .i64 ((1 : Nat) : Int))) Tw.kr Tw.kr fun w => bn_add (z := (m + 1)) rfl (wr_i64 Tw.om) w) ?_
                     refine lm (v := .int .i64 (((m + 1) : Nat) : Int)) rfl rfl ?_
                     refine wpL_done (fun W57 hW57 => ?_)
                     go_roundw
                     case rel =>
                       repeat apply Exists.intro
                       exact ⟨⟨m + 1, Tw.om, rfl, (hW57.sub (fun p hp => by first | exact hp | (simp only [List.mem_cons, List.mem_append, List.nil_append, List.not_mem_nil, or_assoc, or_false, false_or] at hp ⊢ <;> grind)))⟩, rfl⟩
                     case measure => (show 10 - (intOf (.int .i64 (((m + 1) : Nat) : Int))).toNat < 10 - (intOf (.int .i64 ((m : Nat) : Int))).toNat); simp only [intOf]; omega
                 | true =>
                   have h11 : (m % 5) = 1 := of_decide_eq_true hd11
                   clear hd11
                   refine wp_cond_true rfl ?_
                   refine wp_region_L _ hW43 ?_
                   refine lm (v := .int .i64 y2) rfl rfl ?_
                   refine lm (v := .pointer (some ⟨g3, 4, none⟩)) rfl rfl ?_
                   refine wpL_s [(g3, .cells #[.int .i64 exB.id, strV exB.num, .int .u8 20, .bool false, .int .i64 y2, .int .i64 exB.load, .int .i64 exB.dis, .int .u8 ((exB.cls : Nat) : Int), .bool exB.rf] 26 (0, 0)), (g1, .cells #[.int .i64 (-1), .int .i64 0, .int .i64 1, .int .i64 2, .int .i64 9, .int .i64 10, .int .i64 19, .int .i64 20, .int .i64 21, .int .i64 31999, .int .i64 32000, .int .i64 32001, .int .i64 39999, .int .i64 40000, .int .i64 40001, .int .i64 999999, .int .i64 1000000] 3 (0, 0))] rfl rfl (st_row (off := 4) (v := .int .i64 y2) rfl Tw.kr Tw.kr Tw.m0 Bg3 Tw.kr (by first | (simp [Value.cells]; done) | exact Nat.le_of_ble_eq_true rfl) (fun v hv => inB_one y2 v hv) Tw.kr (List.forall_mem_cons.2 ⟨.inl rfl, (List.forall_mem_cons.2 ⟨.inr ⟨Tw.m1, Tw.nee⟩, (List.forall_mem_nil _)⟩)⟩)) ?_
                   refine wpL_done (fun W58 hW58 => ?_)
                   change Code.wp ..
                   refine wp_seq ?_
                   refine wp_region_L _ hW58 ?_
                   refine lv (v := .agg #[.int .i64 exB.id, strV exB.num, .int .u8 20, .bool false, .int .i64 y2, .int .i64 exB.load, .int .i64 exB.dis, .int .u8 ((exB.cls : Nat) : Int), .bool exB.rf]) rfl rfl (yb_load (n := 9) (off := 0) rfl Tw.kr Tw.m0 Tryd.underlying26 rfl Tw.kr (by first | (simp [Value.cells]; done) | exact Nat.le_of_ble_eq_true rfl) Tw.kr) ?_
                   refine lm (v := .int .i64 y2) rfl rfl ?_
                   refine lv (v := .bool true) rfl rfl (yb_call (f := 14) (args := #[.agg #[.int .i64 exB.id, strV exB.num, .int .u8 20, .bool false, .int .i64 y2, .int .i64 exB.load, .int .i64 exB.dis, .int .u8 ((exB.cls : Nat) : Int), .bool exB.rf], .int .i64 y2]) Tw.kf fun W hW => tells_any (⟨exB.id, exB.num, 20, false, y2, exB.load, exB.dis, exB.cls, exB.rf⟩ : Bx) y2 W (HE.out.keep hW.1)) ?_
                   refine lm (v := .bool false) rfl rfl ?_
                   refine lm (v := .bool false) rfl rfl ?_
                   refine lv (v := .agg #[.int .i64 exB.id, strV exB.num, .int .u8 20, .bool false, .int .i64 y2, .int .i64 exB.load, .int .i64 exB.dis, .int .u8 ((exB.cls : Nat) : Int), .bool exB.rf]) rfl rfl (yb_load (n := 9) (off := 0) rfl Tw.kr Tw.m0 Tryd.underlying26 rfl Tw.kr (by first | (simp [Value.cells]; done) | exact Nat.le_of_ble_eq_true rfl) Tw.kr) ?_
                   refine lv (v := .bool true) rfl rfl (yb_call (f := 14) (args := #[.agg #[.int .i64 exB.id, strV exB.num, .int .u8 20, .bool false, .int .i64 y2, .int .i64 exB.load, .int .i64 exB.dis, .int .u8 ((exB.cls : Nat) : Int), .bool exB.rf], .int .i64 1]) Tw.kf fun W hW => tells_any (⟨exB.id, exB.num, 20, false, y2, exB.load, exB.dis, exB.cls, exB.rf⟩ : Bx) (1) W (HE.out.keep hW.1)) ?_
                   refine lm (v := .bool false) rfl rfl ?_
                   refine lm (v := .bool false) rfl rfl ?_
                   refine wpL_done (fun W59 hW59 => ?_)
                   change Code.wp ..
                   refine wp_cond_false rfl ?_
                   refine wp_skip ?_
                   change Code.wp ..
                   refine wp_region_L _ hW59 ?_
                   refine lp (v := .int .i64 (((m + 1) : Nat) : Int)) rfl rfl (run_bin rfl (vx := (.int .i64 ((m : Nat) : Int))) (vy := (.int .i64 ((1 : Nat) : Int))) Tw.kr Tw.kr fun w => bn_add (z := (m + 1)) rfl (wr_i64 Tw.om) w) ?_
                   refine lm (v := .int .i64 (((m + 1) : Nat) : Int)) rfl rfl ?_
                   refine wpL_done (fun W60 hW60 => ?_)
                   go_roundw
                   case rel =>
                     repeat apply Exists.intro
                     exact ⟨⟨m + 1, Tw.om, rfl, (hW60.sub (fun p hp => by first | exact hp | (simp only [List.mem_cons, List.mem_append, List.nil_append, List.not_mem_nil, or_assoc, or_false, false_or] at hp ⊢ <;> grind)))⟩, rfl⟩
                   case measure => (show 10 - (intOf (.int .i64 (((m + 1) : Nat) : Int))).toNat < 10 - (intOf (.int .i64 ((m : Nat) : Int))).toNat); simp only [intOf]; omega
               | true =>
                 have h10 : (m % 5) = 0 := of_decide_eq_true hd10
                 clear hd10
                 refine wp_cond_true rfl ?_
                 refine wp_region_L _ hW42 ?_
                 refine lm (v := .int .i64 y2) rfl rfl ?_
                 refine lm (v := .pointer (some ⟨g3, 0, none⟩)) rfl rfl ?_
                 refine wpL_s [(g3, .cells #[.int .i64 y2, strV exB.num, .int .u8 20, .bool false, .int .i64 exB.kilos, .int .i64 exB.load, .int .i64 exB.dis, .int .u8 ((exB.cls : Nat) : Int), .bool exB.rf] 26 (0, 0)), (g1, .cells #[.int .i64 (-1), .int .i64 0, .int .i64 1, .int .i64 2, .int .i64 9, .int .i64 10, .int .i64 19, .int .i64 20, .int .i64 21, .int .i64 31999, .int .i64 32000, .int .i64 32001, .int .i64 39999, .int .i64 40000, .int .i64 40001, .int .i64 999999, .int .i64 1000000] 3 (0, 0))] rfl rfl (st_row (off := 0) (v := .int .i64 y2) rfl Tw.kr Tw.kr Tw.m0 Bg3 Tw.kr (by first | (simp [Value.cells]; done) | exact Nat.le_of_ble_eq_true rfl) (fun v hv => inB_one y2 v hv) Tw.kr (List.forall_mem_cons.2 ⟨.inl rfl, (List.forall_mem_cons.2 ⟨.inr ⟨Tw.m1, Tw.nee⟩, (List.forall_mem_nil _)⟩)⟩)) ?_
                 refine wpL_done (fun W61 hW61 => ?_)
                 change Code.wp ..
                 refine wp_seq ?_
                 refine wp_region_L _ hW61 ?_
                 refine lv (v := .agg #[.int .i64 y2, strV exB.num, .int .u8 20, .bool false, .int .i64 exB.kilos, .int .i64 exB.load, .int .i64 exB.dis, .int .u8 ((exB.cls : Nat) : Int), .bool exB.rf]) rfl rfl (yb_load (n := 9) (off := 0) rfl Tw.kr Tw.m0 Tryd.underlying26 rfl Tw.kr (by first | (simp [Value.cells]; done) | exact Nat.le_of_ble_eq_true rfl) Tw.kr) ?_
                 refine lm (v := .int .i64 y2) rfl rfl ?_
                 refine lv (v := .bool true) rfl rfl (yb_call (f := 14) (args := #[.agg #[.int .i64 y2, strV exB.num, .int .u8 20, .bool false, .int .i64 exB.kilos, .int .i64 exB.load, .int .i64 exB.dis, .int .u8 ((exB.cls : Nat) : Int), .bool exB.rf], .int .i64 y2]) Tw.kf fun W hW => tells_any (⟨y2, exB.num, 20, false, exB.kilos, exB.load, exB.dis, exB.cls, exB.rf⟩ : Bx) y2 W (HE.out.keep hW.1)) ?_
                 refine lm (v := .bool false) rfl rfl ?_
                 refine lm (v := .bool false) rfl rfl ?_
                 refine lv (v := .agg #[.int .i64 y2, strV exB.num, .int .u8 20, .bool false, .int .i64 exB.kilos, .int .i64 exB.load, .int .i64 exB.dis, .int .u8 ((exB.cls : Nat) : Int), .bool exB.rf]) rfl rfl (yb_load (n := 9) (off := 0) rfl Tw.kr Tw.m0 Tryd.underlying26 rfl Tw.kr (by first | (simp [Value.cells]; done) | exact Nat.le_of_ble_eq_true rfl) Tw.kr) ?_
                 refine lv (v := .bool true) rfl rfl (yb_call (f := 14) (args := #[.agg #[.int .i64 y2, strV exB.num, .int .u8 20, .bool false, .int .i64 exB.kilos, .int .i64 exB.load, .int .i64 exB.dis, .int .u8 ((exB.cls : Nat) : Int), .bool exB.rf], .int .i64 1]) Tw.kf fun W hW => tells_any (⟨y2, exB.num, 20, false, exB.kilos, exB.load, exB.dis, exB.cls, exB.rf⟩ : Bx) (1) W (HE.out.keep hW.1)) ?_
                 refine lm (v := .bool false) rfl rfl ?_
                 refine lm (v := .bool false) rfl rfl ?_
                 refine wpL_done (fun W62 hW62 => ?_)
                 change Code.wp ..
                 refine wp_cond_false rfl ?_
                 refine wp_skip ?_
                 change Code.wp ..
                 refine wp_region_L _ hW62 ?_
                 refine lp (v := .int .i64 (((m + 1) : Nat) : Int)) rfl rfl (run_bin rfl (vx := (.int .i64 ((m : Nat) : Int))) (vy := (.int .i64 ((1 : Nat) : Int))) Tw.kr Tw.kr fun w => bn_add (z := (m + 1)) rfl (wr_i64 Tw.om) w) ?_
                 refine lm (v := .int .i64 (((m + 1) : Nat) : Int)) rfl rfl ?_
                 refine wpL_done (fun W63 hW63 => ?_)
                 go_roundw
                 case rel =>
                   repeat apply Exists.intro
                   exact ⟨⟨m + 1, Tw.om, rfl, (hW63.sub (fun p hp => by first | exact hp | (simp only [List.mem_cons, List.mem_append, List.nil_append, List.not_mem_nil, or_assoc, or_false, false_or] at hp ⊢ <;> grind)))⟩, rfl⟩
                 case measure => (show 10 - (intOf (.int .i64 (((m + 1) : Nat) : Int))).toNat < 10 - (intOf (.int .i64 ((m : Nat) : Int))).toNat); simp only [intOf]; omega
   | true =>
     have h1 : k < 256 := of_decide_eq_true hd1
     clear hd1
     refine wp_cond_true rfl ?_
     refine wp_skip ?_
     change Code.wp ..
     refine wp_seq ?_
     refine wp_block ?_
     refine wp_seq ?_
     refine wp_region_L _ hW4 ?_
     refine lm (v := .int .i64 ((k : Nat) : Int)) rfl rfl ?_
     refine lm (v := .int .i64 ((k : Nat) : Int)) rfl rfl ?_
     refine wpL_done (fun W64 hW64 => ?_)
     change Code.wp ..
     refine wp_seq ?_
     refine wp_region_L _ hW64 ?_
     refine lm (v := .int .i64 0) rfl rfl ?_
     refine wpL_done (fun W65 hW65 => ?_)
     change Code.wp ..
     refine wp_block ?_
     refine wp_loop_rounds 5 ?_
     change Code.wp ..
     refine wp_seq ?_
     refine wp_region_L _ hW65 ?_
     refine lm (v := .bool true) rfl rfl ?_
     refine wpL_done (fun W66 hW66 => ?_)
     change Code.wp ..
     refine wp_seq ?_
     refine wp_cond_true rfl ?_
     refine wp_skip ?_
     change Code.wp ..
     refine wp_seq ?_
     refine wp_block ?_
     refine wp_seq ?_
     refine wp_region_L _ hW66 ?_
     refine lm (v := .int .i64 0) rfl rfl ?_
     refine lm (v := .int .i64 0) rfl rfl ?_
     refine wpL_done (fun W67 hW67 => ?_)
     change Code.wp ..
     refine wp_seq ?_
     refine wp_region_L _ hW67 ?_
     refine lv (v := .agg (bxL exB).toArray) rfl rfl (yb_call (f := 13) (args := #[]) Tw.kf fun W hW => example_any W) ?_
     refine wpL_new (fun g => .pointer (some ⟨g, 0, none⟩)) (obi := .cells #[.int .i64 0, strV [], .int .u8 0, .bool false, .int .i64 0, .int .i64 0, .int .i64 0, .int .u8 0, .bool false] 26 (0, 0)) rfl rfl Tw.kf Tw.pf fun g7 Bg7 Fg7 => ?_
     refine wpL_s [(g7, .cells (bxL exB).toArray 26 (0, 0))] rfl rfl (st_row (off := 0) (v := .agg (bxL exB).toArray) rfl Tw.kr Tw.kr Tw.m0 Bg7 Tw.kr (by first | (simp [Value.cells]; done) | exact Nat.le_of_ble_eq_true rfl) (fun v hv => bxL_one exB v hv) Tw.kr (List.forall_mem_cons.2 ⟨.inl rfl, (List.forall_mem_nil _)⟩)) ?_
     refine wpL_done (fun W68 hW68 => ?_)
     change Code.wp ..
     refine wp_seq ?_
     refine wp_region_L _ hW68 ?_
     refine lm (v := .int .i64 ((k : Nat) : Int)) rfl rfl ?_
     refine lp (v := .int .u8 ((k : Nat) : Int)) rfl rfl (run_conv rfl (vx := (.int .i64 ((k : Nat) : Int))) Tw.kr fun w => cv_int Tryd.underlying3 Tryd.underlying5 (wr_u8 Tw.om) w) ?_
     refine lm (v := .int .i64 0) rfl rfl ?_
     refine lm (v := .int .i64 0) rfl rfl ?_
     refine lm (v := .bool false) rfl rfl ?_
     refine lm (v := .int .i64 0) rfl rfl ?_
     refine lm (v := .int .i64 0) rfl rfl ?_
     refine lm (v := .bool false) rfl rfl ?_
     refine lm (v := .pointer (some ⟨g7, 2, none⟩)) rfl rfl ?_
     refine wpL_s [(g7, .cells #[.int .i64 exB.id, strV exB.num, .int .u8 ((k : Nat) : Int), .bool exB.high, .int .i64 exB.kilos, .int .i64 exB.load, .int .i64 exB.dis, .int .u8 ((exB.cls : Nat) : Int), .bool exB.rf] 26 (0, 0))] rfl rfl (st_row (off := 2) (v := .int .u8 ((k : Nat) : Int)) rfl Tw.kr Tw.kr Tw.m0 Bg7 Tw.kr (by first | (simp [Value.cells]; done) | exact Nat.le_of_ble_eq_true rfl) (by intro v hv; simp [Value.cells] at hv; first | (subst hv; rfl) | (rcases hv with rfl <;> rfl)) Tw.kr (List.forall_mem_cons.2 ⟨.inl rfl, (List.forall_mem_nil _)⟩)) ?_
     refine lm (v := .pointer (some ⟨g7, 3, none⟩)) rfl rfl ?_
     refine wpL_s [(g7, .cells #[.int .i64 exB.id, strV exB.num, .int .u8 ((k : Nat) : Int), .bool false, .int .i64 exB.kilos, .int .i64 exB.load, .int .i64 exB.dis, .int .u8 ((exB.cls : Nat) : Int), .bool exB.rf] 26 (0, 0))] rfl rfl (st_row (off := 3) (v := .bool false) rfl Tw.kr Tw.kr Tw.m0 Bg7 Tw.kr (by first | (simp [Value.cells]; done) | exact Nat.le_of_ble_eq_true rfl) (by intro v hv; simp [Value.cells] at hv; first | (subst hv; rfl) | (rcases hv with rfl <;> rfl)) Tw.kr (List.forall_mem_cons.2 ⟨.inl rfl, (List.forall_mem_nil _)⟩)) ?_
     refine lm (v := .pointer (some ⟨g7, 8, none⟩)) rfl rfl ?_
     refine wpL_s [(g7, .cells #[.int .i64 exB.id, strV exB.num, .int .u8 ((k : Nat) : Int), .bool false, .int .i64 exB.kilos, .int .i64 exB.load, .int .i64 exB.dis, .int .u8 ((exB.cls : Nat) : Int), .bool false] 26 (0, 0))] rfl rfl (st_row (off := 8) (v := .bool false) rfl Tw.kr Tw.kr Tw.m0 Bg7 Tw.kr (by first | (simp [Value.cells]; done) | exact Nat.le_of_ble_eq_true rfl) (by intro v hv; simp [Value.cells] at hv; first | (subst hv; rfl) | (rcases hv with rfl <;> rfl)) Tw.kr (List.forall_mem_cons.2 ⟨.inl rfl, (List.forall_mem_nil _)⟩)) ?_
     refine wpL_done (fun W69 hW69 => ?_)
     change Code.wp ..
     refine wp_seq ?_
     refine wp_region_L _ hW69 ?_
     refine lv (v := .agg #[.int .i64 exB.id, strV exB.num, .int .u8 ((k : Nat) : Int), .bool false, .int .i64 exB.kilos, .int .i64 exB.load, .int .i64 exB.dis, .int .u8 ((exB.cls : Nat) : Int), .bool false]) rfl rfl (yb_load (n := 9) (off := 0) rfl Tw.kr Tw.m0 Tryd.underlying26 rfl Tw.kr (by first | (simp [Value.cells]; done) | exact Nat.le_of_ble_eq_true rfl) Tw.kr) ?_
     refine lm (v := .int .i64 ((k : Nat) : Int)) rfl rfl ?_
     refine lp (v := .int .i64 (((k % 6) : Nat) : Int)) rfl rfl (run_bin rfl (vx := (.int .i64 ((k : Nat) : Int))) (vy := (.int .i64 ((6 : Nat) : Int))) Tw.kr Tw.kr fun w => bn_rem (z := (k % 6)) rfl Tw.om w) ?_
     refine lv (v := .bool true) rfl rfl (yb_call (f := 14) (args := #[.agg #[.int .i64 exB.id, strV exB.num, .int .u8 ((k : Nat) : Int), .bool false, .int .i64 exB.kilos, .int .i64 exB.load, .int .i64 exB.dis, .int .u8 ((exB.cls : Nat) : Int), .bool false], .int .i64 (((k % 6) : Nat) : Int)]) Tw.kf fun W hW => tells_any (⟨exB.id, exB.num, k, false, exB.kilos, exB.load, exB.dis, exB.cls, false⟩ : Bx) (((k % 6) : Nat) : Int) W (HE.out.keep hW.1)) ?_
     refine lm (v := .bool false) rfl rfl ?_
     refine wpL_done (fun W70 hW70 => ?_)
     change Code.wp ..
     refine wp_cond_false rfl ?_
     refine wp_skip ?_
     change Code.wp ..
     refine wp_region_L _ hW70 ?_
     refine lm (v := .int .i64 1) rfl rfl ?_
     refine lm (v := .int .i64 1) rfl rfl ?_
     refine wpL_done (fun W71 hW71 => ?_)
     change Code.wp ..
     refine wp_seq ?_
     refine wp_region_L _ hW71 ?_
     refine lm (v := .bool true) rfl rfl ?_
     refine wpL_done (fun W72 hW72 => ?_)
     change Code.wp ..
     refine wp_seq ?_
     refine wp_cond_true rfl ?_
     refine wp_skip ?_
     change Code.wp ..
     refine wp_seq ?_
     refine wp_block ?_
     refine wp_seq ?_
     refine wp_region_L _ hW72 ?_
     refine lm (v := .int .i64 1) rfl rfl ?_
     refine lm (v := .int .i64 1) rfl rfl ?_
     refine wpL_done (fun W73 hW73 => ?_)
     change Code.wp ..
     refine wp_seq ?_
     refine wp_region_L _ hW73 ?_
     refine lv (v := .agg (bxL exB).toArray) rfl rfl (yb_call (f := 13) (args := #[]) Tw.kf fun W hW => example_any W) ?_
     refine wpL_new (fun g => .pointer (some ⟨g, 0, none⟩)) (obi := .cells #[.int .i64 0, strV [], .int .u8 0, .bool false, .int .i64 0, .int .i64 0, .int .i64 0, .int .u8 0, .bool false] 26 (0, 0)) rfl rfl Tw.kf Tw.pf fun g8 Bg8 Fg8 => ?_
     obtain dj9_0 : g7 ≠ g8 := Tw.dkf Fg8
     refine wpL_s [(g8, .cells (bxL exB).toArray 26 (0, 0)), (g7, .cells #[.int .i64 exB.id, strV exB.num, .int .u8 ((k : Nat) : Int), .bool false, .int .i64 exB.kilos, .int .i64 exB.load, .int .i64 exB.dis, .int .u8 ((exB.cls : Nat) : Int), .bool false] 26 (0, 0))] rfl rfl (st_row (off := 0) (v := .agg (bxL exB).toArray) rfl Tw.kr Tw.kr Tw.m0 Bg8 Tw.kr (by first | (simp [Value.cells]; done) | exact Nat.le_of_ble_eq_true rfl) (fun v hv => bxL_one exB v hv) Tw.kr (List.forall_mem_cons.2 ⟨.inl rfl, (List.forall_mem_cons.2 ⟨.inr ⟨Tw.m1, Tw.nee⟩, (List.forall_mem_nil _)⟩)⟩)) ?_
     refine wpL_done (fun W74 hW74 => ?_)
     change Code.wp ..
     refine wp_seq ?_
     refine wp_region_L _ hW74 ?_
     refine lm (v := .int .i64 ((k : Nat) : Int)) rfl rfl ?_
     refine lp (v := .int .u8 ((k : Nat) : Int)) rfl rfl (run_conv rfl (vx := (.int .i64 ((k : Nat) : Int))) Tw.kr fun w => cv_int Tryd.underlying3 Tryd.underlying5 (wr_u8 Tw.om) w) ?_
     refine lm (v := .int .i64 1) rfl rfl ?_
     refine lm (v := .int .i64 1) rfl rfl ?_
     refine lm (v := .bool true) rfl rfl ?_
     refine lm (v := .int .i64 1) rfl rfl ?_
     refine lm (v := .int .i64 0) rfl rfl ?_
     refine lm (v := .bool false) rfl rfl ?_
     refine lm (v := .pointer (some ⟨g8, 2, none⟩)) rfl rfl ?_
     refine wpL_s [(g8, .cells #[.int .i64 exB.id, strV exB.num, .int .u8 ((k : Nat) : Int), .bool exB.high, .int .i64 exB.kilos, .int .i64 exB.load, .int .i64 exB.dis, .int .u8 ((exB.cls : Nat) : Int), .bool exB.rf] 26 (0, 0)), (g7, .cells #[.int .i64 exB.id, strV exB.num, .int .u8 ((k : Nat) : Int), .bool false, .int .i64 exB.kilos, .int .i64 exB.load, .int .i64 exB.dis, .int .u8 ((exB.cls : Nat) : Int), .bool false] 26 (0, 0))] rfl rfl (st_row (off := 2) (v := .int .u8 ((k : Nat) : Int)) rfl Tw.kr Tw.kr Tw.m0 Bg8 Tw.kr (by first | (simp [Value.cells]; done) | exact Nat.le_of_ble_eq_true rfl) (by intro v hv; simp [Value.cells] at hv; first | (subst hv; rfl) | (rcases hv with rfl <;> rfl)) Tw.kr (List.forall_mem_cons.2 ⟨.inl rfl, (List.forall_mem_cons.2 ⟨.inr ⟨Tw.m1, Tw.nee⟩, (List.forall_mem_nil _)⟩)⟩)) ?_
     refine lm (v := .pointer (some ⟨g8, 3, none⟩)) rfl rfl ?_
     refine wpL_s [(g8, .cells #[.int .i64 exB.id, strV exB.num, .int .u8 ((k : Nat) : Int), .bool true, .int .i64 exB.kilos, .int .i64 exB.load, .int .i64 exB.dis, .int .u8 ((exB.cls : Nat) : Int), .bool exB.rf] 26 (0, 0)), (g7, .cells #[.int .i64 exB.id, strV exB.num, .int .u8 ((k : Nat) : Int), .bool false, .int .i64 exB.kilos, .int .i64 exB.load, .int .i64 exB.dis, .int .u8 ((exB.cls : Nat) : Int), .bool false] 26 (0, 0))] rfl rfl (st_row (off := 3) (v := .bool true) rfl Tw.kr Tw.kr Tw.m0 Bg8 Tw.kr (by first | (simp [Value.cells]; done) | exact Nat.le_of_ble_eq_true rfl) (by intro v hv; simp [Value.cells] at hv; first | (subst hv; rfl) | (rcases hv with rfl <;> rfl)) Tw.kr (List.forall_mem_cons.2 ⟨.inl rfl, (List.forall_mem_cons.2 ⟨.inr ⟨Tw.m1, Tw.nee⟩, (List.forall_mem_nil _)⟩)⟩)) ?_
     refine lm (v := .pointer (some ⟨g8, 8, none⟩)) rfl rfl ?_
     refine wpL_s [(g8, .cells #[.int .i64 exB.id, strV exB.num, .int .u8 ((k : Nat) : Int), .bool true, .int .i64 exB.kilos, .int .i64 exB.load, .int .i64 exB.dis, .int .u8 ((exB.cls : Nat) : Int), .bool false] 26 (0, 0)), (g7, .cells #[.int .i64 exB.id, strV exB.num, .int .u8 ((k : Nat) : Int), .bool false, .int .i64 exB.kilos, .int .i64 exB.load, .int .i64 exB.dis, .int .u8 ((exB.cls : Nat) : Int), .bool false] 26 (0, 0))] rfl rfl (st_row (off := 8) (v := .bool false) rfl Tw.kr Tw.kr Tw.m0 Bg8 Tw.kr (by first | (simp [Value.cells]; done) | exact Nat.le_of_ble_eq_true rfl) (by intro v hv; simp [Value.cells] at hv; first | (subst hv; rfl) | (rcases hv with rfl <;> rfl)) Tw.kr (List.forall_mem_cons.2 ⟨.inl rfl, (List.forall_mem_cons.2 ⟨.inr ⟨Tw.m1, Tw.nee⟩, (List.forall_mem_nil _)⟩)⟩)) ?_
     refine wpL_done (fun W75 hW75 => ?_)
     change Code.wp ..
     refine wp_seq ?_
     refine wp_region_L _ hW75 ?_
     refine lv (v := .agg #[.int .i64 exB.id, strV exB.num, .int .u8 ((k : Nat) : Int), .bool true, .int .i64 exB.kilos, .int .i64 exB.load, .int .i64 exB.dis, .int .u8 ((exB.cls : Nat) : Int), .bool false]) rfl rfl (yb_load (n := 9) (off := 0) rfl Tw.kr Tw.m0 Tryd.underlying26 rfl Tw.kr (by first | (simp [Value.cells]; done) | exact Nat.le_of_ble_eq_true rfl) Tw.kr) ?_
     refine lm (v := .int .i64 ((k : Nat) : Int)) rfl rfl ?_
     refine lp (v := .int .i64 (((k % 6) : Nat) : Int)) rfl rfl (run_bin rfl (vx := (.int .i64 ((k : Nat) : Int))) (vy := (.int .i64 ((6 : Nat) : Int))) Tw.kr Tw.kr fun w => bn_rem (z := (k % 6)) rfl Tw.om w) ?_
     refine lv (v := .bool true) rfl rfl (yb_call (f := 14) (args := #[.agg #[.int .i64 exB.id, strV exB.num, .int .u8 ((k : Nat) : Int), .bool true, .int .i64 exB.kilos, .int .i64 exB.load, .int .i64 exB.dis, .int .u8 ((exB.cls : Nat) : Int), .bool false], .int .i64 (((k % 6) : Nat) : Int)]) Tw.kf fun W hW => tells_any (⟨exB.id, exB.num, k, true, exB.kilos, exB.load, exB.dis, exB.cls, false⟩ : Bx) (((k % 6) : Nat) : Int) W (HE.out.keep hW.1)) ?_
     refine lm (v := .bool false) rfl rfl ?_
     refine wpL_done (fun W76 hW76 => ?_)
     change Code.wp ..
     refine wp_cond_false rfl ?_
     refine wp_skip ?_
     change Code.wp ..
     refine wp_region_L _ hW76 ?_
     refine lm (v := .int .i64 2) rfl rfl ?_
     refine lm (v := .int .i64 2) rfl rfl ?_
     refine wpL_done (fun W77 hW77 => ?_)
     change Code.wp ..
     refine wp_seq ?_
     refine wp_region_L _ hW77 ?_
     refine lm (v := .bool true) rfl rfl ?_
     refine wpL_done (fun W78 hW78 => ?_)
     change Code.wp ..
     refine wp_seq ?_
     refine wp_cond_true rfl ?_
     refine wp_skip ?_
     change Code.wp ..
     refine wp_seq ?_
     refine wp_block ?_
     refine wp_seq ?_
     refine wp_region_L _ hW78 ?_
     refine lm (v := .int .i64 2) rfl rfl ?_
     refine lm (v := .int .i64 2) rfl rfl ?_
     refine wpL_done (fun W79 hW79 => ?_)
     change Code.wp ..
     refine wp_seq ?_
     refine wp_region_L _ hW79 ?_
     refine lv (v := .agg (bxL exB).toArray) rfl rfl (yb_call (f := 13) (args := #[]) Tw.kf fun W hW => example_any W) ?_
     refine wpL_new (fun g => .pointer (some ⟨g, 0, none⟩)) (obi := .cells #[.int .i64 0, strV [], .int .u8 0, .bool false, .int .i64 0, .int .i64 0, .int .i64 0, .int .u8 0, .bool false] 26 (0, 0)) rfl rfl Tw.kf Tw.pf fun g10 Bg10 Fg10 => ?_
     obtain ⟨dj11_0, dj11_1⟩ : g8 ≠ g10 ∧ g7 ≠ g10 := Tw.dkf Fg10
     refine wpL_s [(g10, .cells (bxL exB).toArray 26 (0, 0)), (g8, .cells #[.int .i64 exB.id, strV exB.num, .int .u8 ((k : Nat) : Int), .bool true, .int .i64 exB.kilos, .int .i64 exB.load, .int .i64 exB.dis, .int .u8 ((exB.cls : Nat) : Int), .bool false] 26 (0, 0)), (g7, .cells #[.int .i64 exB.id, strV exB.num, .int .u8 ((k : Nat) : Int), .bool false, .int .i64 exB.kilos, .int .i64 exB.load, .int .i64 exB.dis, .int .u8 ((exB.cls : Nat) : Int), .bool false] 26 (0, 0))] rfl rfl (st_row (off := 0) (v := .agg (bxL exB).toArray) rfl Tw.kr Tw.kr Tw.m0 Bg10 Tw.kr (by first | (simp [Value.cells]; done) | exact Nat.le_of_ble_eq_true rfl) (fun v hv => bxL_one exB v hv) Tw.kr (List.forall_mem_cons.2 ⟨.inl rfl, (List.forall_mem_cons.2 ⟨.inr ⟨Tw.m1, Tw.nee⟩, (List.forall_mem_cons.2 ⟨.inr ⟨Tw.m2, Tw.nee⟩, (List.forall_mem_nil _)⟩)⟩)⟩)) ?_
     refine wpL_done (fun W80 hW80 => ?_)
     change Code.wp ..
     refine wp_seq ?_
     refine wp_region_L _ hW80 ?_
     refine lm (v := .int .i64 ((k : Nat) : Int)) rfl rfl ?_
     refine lp (v := .int .u8 ((k : Nat) : Int)) rfl rfl (run_conv rfl (vx := (.int .i64 ((k : Nat) : Int))) Tw.kr fun w => cv_int Tryd.underlying3 Tryd.underlying5 (wr_u8 Tw.om) w) ?_
     refine lm (v := .int .i64 2) rfl rfl ?_
     refine lm (v := .int .i64 0) rfl rfl ?_
     refine lm (v := .bool false) rfl rfl ?_
     refine lm (v := .int .i64 2) rfl rfl ?_
     refine lm (v := .int .i64 2) rfl rfl ?_
     refine lm (v := .bool true) rfl rfl ?_
     refine lm (v := .pointer (some ⟨g10, 2, none⟩)) rfl rfl ?_
     refine wpL_s [(g10, .cells #[.int .i64 exB.id, strV exB.num, .int .u8 ((k : Nat) : Int), .bool exB.high, .int .i64 exB.kilos, .int .i64 exB.load, .int .i64 exB.dis, .int .u8 ((exB.cls : Nat) : Int), .bool exB.rf] 26 (0, 0)), (g8, .cells #[.int .i64 exB.id, strV exB.num, .int .u8 ((k : Nat) : Int), .bool true, .int .i64 exB.kilos, .int .i64 exB.load, .int .i64 exB.dis, .int .u8 ((exB.cls : Nat) : Int), .bool false] 26 (0, 0)), (g7, .cells #[.int .i64 exB.id, strV exB.num, .int .u8 ((k : Nat) : Int), .bool false, .int .i64 exB.kilos, .int .i64 exB.load, .int .i64 exB.dis, .int .u8 ((exB.cls : Nat) : Int), .bool false] 26 (0, 0))] rfl rfl (st_row (off := 2) (v := .int .u8 ((k : Nat) : Int)) rfl Tw.kr Tw.kr Tw.m0 Bg10 Tw.kr (by first | (simp [Value.cells]; done) | exact Nat.le_of_ble_eq_true rfl) (by intro v hv; simp [Value.cells] at hv; first | (subst hv; rfl) | (rcases hv with rfl <;> rfl)) Tw.kr (List.forall_mem_cons.2 ⟨.inl rfl, (List.forall_mem_cons.2 ⟨.inr ⟨Tw.m1, Tw.nee⟩, (List.forall_mem_cons.2 ⟨.inr ⟨Tw.m2, Tw.nee⟩, (List.forall_mem_nil _)⟩)⟩)⟩)) ?_
     refine lm (v := .pointer (some ⟨g10, 3, none⟩)) rfl rfl ?_
     refine wpL_s [(g10, .cells #[.int .i64 exB.id, strV exB.num, .int .u8 ((k : Nat) : Int), .bool false, .int .i64 exB.kilos, .int .i64 exB.load, .int .i64 exB.dis, .int .u8 ((exB.cls : Nat) : Int), .bool exB.rf] 26 (0, 0)), (g8, .cells #[.int .i64 exB.id, strV exB.num, .int .u8 ((k : Nat) : Int), .bool true, .int .i64 exB.kilos, .int .i64 exB.load, .int .i64 exB.dis, .int .u8 ((exB.cls : Nat) : Int), .bool false] 26 (0, 0)), (g7, .cells #[.int .i64 exB.id, strV exB.num, .int .u8 ((k : Nat) : Int), .bool false, .int .i64 exB.kilos, .int .i64 exB.load, .int .i64 exB.dis, .int .u8 ((exB.cls : Nat) : Int), .bool false] 26 (0, 0))] rfl rfl (st_row (off := 3) (v := .bool false) rfl Tw.kr Tw.kr Tw.m0 Bg10 Tw.kr (by first | (simp [Value.cells]; done) | exact Nat.le_of_ble_eq_true rfl) (by intro v hv; simp [Value.cells] at hv; first | (subst hv; rfl) | (rcases hv with rfl <;> rfl)) Tw.kr (List.forall_mem_cons.2 ⟨.inl rfl, (List.forall_mem_cons.2 ⟨.inr ⟨Tw.m1, Tw.nee⟩, (List.forall_mem_cons.2 ⟨.inr ⟨Tw.m2, Tw.nee⟩, (List.forall_mem_nil _)⟩)⟩)⟩)) ?_
     refine lm (v := .pointer (some ⟨g10, 8, none⟩)) rfl rfl ?_
     refine wpL_s [(g10, .cells #[.int .i64 exB.id, strV exB.num, .int .u8 ((k : Nat) : Int), .bool false, .int .i64 exB.kilos, .int .i64 exB.load, .int .i64 exB.dis, .int .u8 ((exB.cls : Nat) : Int), .bool true] 26 (0, 0)), (g8, .cells #[.int .i64 exB.id, strV exB.num, .int .u8 ((k : Nat) : Int), .bool true, .int .i64 exB.kilos, .int .i64 exB.load, .int .i64 exB.dis, .int .u8 ((exB.cls : Nat) : Int), .bool false] 26 (0, 0)), (g7, .cells #[.int .i64 exB.id, strV exB.num, .int .u8 ((k : Nat) : Int), .bool false, .int .i64 exB.kilos, .int .i64 exB.load, .int .i64 exB.dis, .int .u8 ((exB.cls : Nat) : Int), .bool false] 26 (0, 0))] rfl rfl (st_row (off := 8) (v := .bool true) rfl Tw.kr Tw.kr Tw.m0 Bg10 Tw.kr (by first | (simp [Value.cells]; done) | exact Nat.le_of_ble_eq_true rfl) (by intro v hv; simp [Value.cells] at hv; first | (subst hv; rfl) | (rcases hv with rfl <;> rfl)) Tw.kr (List.forall_mem_cons.2 ⟨.inl rfl, (List.forall_mem_cons.2 ⟨.inr ⟨Tw.m1, Tw.nee⟩, (List.forall_mem_cons.2 ⟨.inr ⟨Tw.m2, Tw.nee⟩, (List.forall_mem_nil _)⟩)⟩)⟩)) ?_
     refine wpL_done (fun W81 hW81 => ?_)
     change Code.wp ..
     refine wp_seq ?_
     refine wp_region_L _ hW81 ?_
     refine lv (v := .agg #[.int .i64 exB.id, strV exB.num, .int .u8 ((k : Nat) : Int), .bool false, .int .i64 exB.kilos, .int .i64 exB.load, .int .i64 exB.dis, .int .u8 ((exB.cls : Nat) : Int), .bool true]) rfl rfl (yb_load (n := 9) (off := 0) rfl Tw.kr Tw.m0 Tryd.underlying26 rfl Tw.kr (by first | (simp [Value.cells]; done) | exact Nat.le_of_ble_eq_true rfl) Tw.kr) ?_
     refine lm (v := .int .i64 ((k : Nat) : Int)) rfl rfl ?_
     refine lp (v := .int .i64 (((k % 6) : Nat) : Int)) rfl rfl (run_bin rfl (vx := (.int .i64 ((k : Nat) : Int))) (vy := (.int .i64 ((6 : Nat) : Int))) Tw.kr Tw.kr fun w => bn_rem (z := (k % 6)) rfl Tw.om w) ?_
     refine lv (v := .bool true) rfl rfl (yb_call (f := 14) (args := #[.agg #[.int .i64 exB.id, strV exB.num, .int .u8 ((k : Nat) : Int), .bool false, .int .i64 exB.kilos, .int .i64 exB.load, .int .i64 exB.dis, .int .u8 ((exB.cls : Nat) : Int), .bool true], .int .i64 (((k % 6) : Nat) : Int)]) Tw.kf fun W hW => tells_any (⟨exB.id, exB.num, k, false, exB.kilos, exB.load, exB.dis, exB.cls, true⟩ : Bx) (((k % 6) : Nat) : Int) W (HE.out.keep hW.1)) ?_
     refine lm (v := .bool false) rfl rfl ?_
     refine wpL_done (fun W82 hW82 => ?_)
     change Code.wp ..
     refine wp_cond_false rfl ?_
     refine wp_skip ?_
     change Code.wp ..
     refine wp_region_L _ hW82 ?_
     refine lm (v := .int .i64 3) rfl rfl ?_
     refine lm (v := .int .i64 3) rfl rfl ?_
     refine wpL_done (fun W83 hW83 => ?_)
     change Code.wp ..
     refine wp_seq ?_
     refine wp_region_L _ hW83 ?_
     refine lm (v := .bool true) rfl rfl ?_
     refine wpL_done (fun W84 hW84 => ?_)
     change Code.wp ..
     refine wp_seq ?_
     refine wp_cond_true rfl ?_
     refine wp_skip ?_
     change Code.wp ..
     refine wp_seq ?_
     refine wp_block ?_
     refine wp_seq ?_
     refine wp_region_L _ hW84 ?_
     refine lm (v := .int .i64 3) rfl rfl ?_
     refine lm (v := .int .i64 3) rfl rfl ?_
     refine wpL_done (fun W85 hW85 => ?_)
     change Code.wp ..
     refine wp_seq ?_
     refine wp_region_L _ hW85 ?_
     refine lv (v := .agg (bxL exB).toArray) rfl rfl (yb_call (f := 13) (args := #[]) Tw.kf fun W hW => example_any W) ?_
     refine wpL_new (fun g => .pointer (some ⟨g, 0, none⟩)) (obi := .cells #[.int .i64 0, strV [], .int .u8 0, .bool false, .int .i64 0, .int .i64 0, .int .i64 0, .int .u8 0, .bool false] 26 (0, 0)) rfl rfl Tw.kf Tw.pf fun g12 Bg12 Fg12 => ?_
     obtain ⟨dj13_0, dj13_1, dj13_2⟩ : g10 ≠ g12 ∧ g8 ≠ g12 ∧ g7 ≠ g12 := Tw.dkf Fg12
     refine wpL_s [(g12, .cells (bxL exB).toArray 26 (0, 0)), (g10, .cells #[.int .i64 exB.id, strV exB.num, .int .u8 ((k : Nat) : Int), .bool false, .int .i64 exB.kilos, .int .i64 exB.load, .int .i64 exB.dis, .int .u8 ((exB.cls : Nat) : Int), .bool true] 26 (0, 0)), (g8, .cells #[.int .i64 exB.id, strV exB.num, .int .u8 ((k : Nat) : Int), .bool true, .int .i64 exB.kilos, .int .i64 exB.load, .int .i64 exB.dis, .int .u8 ((exB.cls : Nat) : Int), .bool false] 26 (0, 0)), (g7, .cells #[.int .i64 exB.id, strV exB.num, .int .u8 ((k : Nat) : Int), .bool false, .int .i64 exB.kilos, .int .i64 exB.load, .int .i64 exB.dis, .int .u8 ((exB.cls : Nat) : Int), .bool false] 26 (0, 0))] rfl rfl (st_row (off := 0) (v := .agg (bxL exB).toArray) rfl Tw.kr Tw.kr Tw.m0 Bg12 Tw.kr (by first | (simp [Value.cells]; done) | exact Nat.le_of_ble_eq_true rfl) (fun v hv => bxL_one exB v hv) Tw.kr (List.forall_mem_cons.2 ⟨.inl rfl, (List.forall_mem_cons.2 ⟨.inr ⟨Tw.m1, Tw.nee⟩, (List.forall_mem_cons.2 ⟨.inr ⟨Tw.m2, Tw.nee⟩, (List.forall_mem_cons.2 ⟨.inr ⟨Tw.m3, Tw.nee⟩, (List.forall_mem_nil _)⟩)⟩)⟩)⟩)) ?_
     refine wpL_done (fun W86 hW86 => ?_)
     change Code.wp ..
     refine wp_seq ?_
     refine wp_region_L _ hW86 ?_
     refine lm (v := .int .i64 ((k : Nat) : Int)) rfl rfl ?_
     refine lp (v := .int .u8 ((k : Nat) : Int)) rfl rfl (run_conv rfl (vx := (.int .i64 ((k : Nat) : Int))) Tw.kr fun w => cv_int Tryd.underlying3 Tryd.underlying5 (wr_u8 Tw.om) w) ?_
     refine lm (v := .int .i64 3) rfl rfl ?_
     refine lm (v := .int .i64 1) rfl rfl ?_
     refine lm (v := .bool true) rfl rfl ?_
     refine lm (v := .int .i64 3) rfl rfl ?_
     refine lm (v := .int .i64 2) rfl rfl ?_
     refine lm (v := .bool true) rfl rfl ?_
     refine lm (v := .pointer (some ⟨g12, 2, none⟩)) rfl rfl ?_
     refine wpL_s [(g12, .cells #[.int .i64 exB.id, strV exB.num, .int .u8 ((k : Nat) : Int), .bool exB.high, .int .i64 exB.kilos, .int .i64 exB.load, .int .i64 exB.dis, .int .u8 ((exB.cls : Nat) : Int), .bool exB.rf] 26 (0, 0)), (g10, .cells #[.int .i64 exB.id, strV exB.num, .int .u8 ((k : Nat) : Int), .bool false, .int .i64 exB.kilos, .int .i64 exB.load, .int .i64 exB.dis, .int .u8 ((exB.cls : Nat) : Int), .bool true] 26 (0, 0)), (g8, .cells #[.int .i64 exB.id, strV exB.num, .int .u8 ((k : Nat) : Int), .bool true, .int .i64 exB.kilos, .int .i64 exB.load, .int .i64 exB.dis, .int .u8 ((exB.cls : Nat) : Int), .bool false] 26 (0, 0)), (g7, .cells #[.int .i64 exB.id, strV exB.num, .int .u8 ((k : Nat) : Int), .bool false, .int .i64 exB.kilos, .int .i64 exB.load, .int .i64 exB.dis, .int .u8 ((exB.cls : Nat) : Int), .bool false] 26 (0, 0))] rfl rfl (st_row (off := 2) (v := .int .u8 ((k : Nat) : Int)) rfl Tw.kr Tw.kr Tw.m0 Bg12 Tw.kr (by first | (simp [Value.cells]; done) | exact Nat.le_of_ble_eq_true rfl) (by intro v hv; simp [Value.cells] at hv; first | (subst hv; rfl) | (rcases hv with rfl <;> rfl)) Tw.kr (List.forall_mem_cons.2 ⟨.inl rfl, (List.forall_mem_cons.2 ⟨.inr ⟨Tw.m1, Tw.nee⟩, (List.forall_mem_cons.2 ⟨.inr ⟨Tw.m2, Tw.nee⟩, (List.forall_mem_cons.2 ⟨.inr ⟨Tw.m3, Tw.nee⟩, (List.forall_mem_nil _)⟩)⟩)⟩)⟩)) ?_
     refine lm (v := .pointer (some ⟨g12, 3, none⟩)) rfl rfl ?_
     refine wpL_s [(g12, .cells #[.int .i64 exB.id, strV exB.num, .int .u8 ((k : Nat) : Int), .bool true, .int .i64 exB.kilos, .int .i64 exB.load, .int .i64 exB.dis, .int .u8 ((exB.cls : Nat) : Int), .bool exB.rf] 26 (0, 0)), (g10, .cells #[.int .i64 exB.id, strV exB.num, .int .u8 ((k : Nat) : Int), .bool false, .int .i64 exB.kilos, .int .i64 exB.load, .int .i64 exB.dis, .int .u8 ((exB.cls : Nat) : Int), .bool true] 26 (0, 0)), (g8, .cells #[.int .i64 exB.id, strV exB.num, .int .u8 ((k : Nat) : Int), .bool true, .int .i64 exB.kilos, .int .i64 exB.load, .int .i64 exB.dis, .int .u8 ((exB.cls : Nat) : Int), .bool false] 26 (0, 0)), (g7, .cells #[.int .i64 exB.id, strV exB.num, .int .u8 ((k : Nat) : Int), .bool false, .int .i64 exB.kilos, .int .i64 exB.load, .int .i64 exB.dis, .int .u8 ((exB.cls : Nat) : Int), .bool false] 26 (0, 0))] rfl rfl (st_row (off := 3) (v := .bool true) rfl Tw.kr Tw.kr Tw.m0 Bg12 Tw.kr (by first | (simp [Value.cells]; done) | exact Nat.le_of_ble_eq_true rfl) (by intro v hv; simp [Value.cells] at hv; first | (subst hv; rfl) | (rcases hv with rfl <;> rfl)) Tw.kr (List.forall_mem_cons.2 ⟨.inl rfl, (List.forall_mem_cons.2 ⟨.inr ⟨Tw.m1, Tw.nee⟩, (List.forall_mem_cons.2 ⟨.inr ⟨Tw.m2, Tw.nee⟩, (List.forall_mem_cons.2 ⟨.inr ⟨Tw.m3, Tw.nee⟩, (List.forall_mem_nil _)⟩)⟩)⟩)⟩)) ?_
     refine lm (v := .pointer (some ⟨g12, 8, none⟩)) rfl rfl ?_
     refine wpL_s [(g12, .cells #[.int .i64 exB.id, strV exB.num, .int .u8 ((k : Nat) : Int), .bool true, .int .i64 exB.kilos, .int .i64 exB.load, .int .i64 exB.dis, .int .u8 ((exB.cls : Nat) : Int), .bool true] 26 (0, 0)), (g10, .cells #[.int .i64 exB.id, strV exB.num, .int .u8 ((k : Nat) : Int), .bool false, .int .i64 exB.kilos, .int .i64 exB.load, .int .i64 exB.dis, .int .u8 ((exB.cls : Nat) : Int), .bool true] 26 (0, 0)), (g8, .cells #[.int .i64 exB.id, strV exB.num, .int .u8 ((k : Nat) : Int), .bool true, .int .i64 exB.kilos, .int .i64 exB.load, .int .i64 exB.dis, .int .u8 ((exB.cls : Nat) : Int), .bool false] 26 (0, 0)), (g7, .cells #[.int .i64 exB.id, strV exB.num, .int .u8 ((k : Nat) : Int), .bool false, .int .i64 exB.kilos, .int .i64 exB.load, .int .i64 exB.dis, .int .u8 ((exB.cls : Nat) : Int), .bool false] 26 (0, 0))] rfl rfl (st_row (off := 8) (v := .bool true) rfl Tw.kr Tw.kr Tw.m0 Bg12 Tw.kr (by first | (simp [Value.cells]; done) | exact Nat.le_of_ble_eq_true rfl) (by intro v hv; simp [Value.cells] at hv; first | (subst hv; rfl) | (rcases hv with rfl <;> rfl)) Tw.kr (List.forall_mem_cons.2 ⟨.inl rfl, (List.forall_mem_cons.2 ⟨.inr ⟨Tw.m1, Tw.nee⟩, (List.forall_mem_cons.2 ⟨.inr ⟨Tw.m2, Tw.nee⟩, (List.forall_mem_cons.2 ⟨.inr ⟨Tw.m3, Tw.nee⟩, (List.forall_mem_nil _)⟩)⟩)⟩)⟩)) ?_
     refine wpL_done (fun W87 hW87 => ?_)
     change Code.wp ..
     refine wp_seq ?_
     refine wp_region_L _ hW87 ?_
     refine lv (v := .agg #[.int .i64 exB.id, strV exB.num, .int .u8 ((k : Nat) : Int), .bool true, .int .i64 exB.kilos, .int .i64 exB.load, .int .i64 exB.dis, .int .u8 ((exB.cls : Nat) : Int), .bool true]) rfl rfl (yb_load (n := 9) (off := 0) rfl Tw.kr Tw.m0 Tryd.underlying26 rfl Tw.kr (by first | (simp [Value.cells]; done) | exact Nat.le_of_ble_eq_true rfl) Tw.kr) ?_
     refine lm (v := .int .i64 ((k : Nat) : Int)) rfl rfl ?_
     refine lp (v := .int .i64 (((k % 6) : Nat) : Int)) rfl rfl (run_bin rfl (vx := (.int .i64 ((k : Nat) : Int))) (vy := (.int .i64 ((6 : Nat) : Int))) Tw.kr Tw.kr fun w => bn_rem (z := (k % 6)) rfl Tw.om w) ?_
     refine lv (v := .bool true) rfl rfl (yb_call (f := 14) (args := #[.agg #[.int .i64 exB.id, strV exB.num, .int .u8 ((k : Nat) : Int), .bool true, .int .i64 exB.kilos, .int .i64 exB.load, .int .i64 exB.dis, .int .u8 ((exB.cls : Nat) : Int), .bool true], .int .i64 (((k % 6) : Nat) : Int)]) Tw.kf fun W hW => tells_any (⟨exB.id, exB.num, k, true, exB.kilos, exB.load, exB.dis, exB.cls, true⟩ : Bx) (((k % 6) : Nat) : Int) W (HE.out.keep hW.1)) ?_
     refine lm (v := .bool false) rfl rfl ?_
     refine wpL_done (fun W88 hW88 => ?_)
     change Code.wp ..
     refine wp_cond_false rfl ?_
     refine wp_skip ?_
     change Code.wp ..
     refine wp_region_L _ hW88 ?_
     refine lm (v := .int .i64 4) rfl rfl ?_
     refine lm (v := .int .i64 4) rfl rfl ?_
     refine wpL_done (fun W89 hW89 => ?_)
     change Code.wp ..
     refine wp_seq ?_
     refine wp_region_L _ hW89 ?_
     refine lm (v := .bool false) rfl rfl ?_
     refine wpL_done (fun W90 hW90 => ?_)
     change Code.wp ..
     refine wp_seq ?_
     refine wp_cond_false rfl ?_
     refine wp_exit ?_
     change Code.wp ..
     refine wp_region_L _ hW90 ?_
     refine lp (v := .int .i64 (((k + 1) : Nat) : Int)) rfl rfl (run_bin rfl (vx := (.int .i64 ((k : Nat) : Int))) (vy := (.int .i64 ((1 : Nat) : Int))) Tw.kr Tw.kr fun w => bn_add (z := (k + 1)) rfl (wr_i64 Tw.om) w) ?_
     refine lm (v := .int .i64 (((k + 1) : Nat) : Int)) rfl rfl ?_
     refine wpL_done (fun W91 hW91 => ?_)
     go_roundw
     case rel =>
       repeat apply Exists.intro
       exact ⟨⟨k + 1, Tw.om, rfl, (hW91.sub (fun p hp => by first | exact hp | (simp only [List.mem_cons, List.mem_append, List.nil_append, List.not_mem_nil, or_assoc, or_false, false_or] at hp ⊢ <;> grind)))⟩, rfl⟩
     case measure => (show 256 - (intOf (.int .i64 (((k + 1) : Nat) : Int))).toNat < 256 - (intOf (.int .i64 ((k : Nat) : Int))).toNat); simp only [intOf]; omega
end Go.Proofs.YtllmpemmknblaaaDoor
/- BoxSmall holds for every input: the program's own answer is true, wherever the listed variables are as the program's text lays them; each argument reads afterwards as it read before. -/
namespace Go.Proofs.YtllmpemmknblaaaDoor
open Go.ChangeShapes Go.WideShapes Go.ChangeAt Go.RowKit Tw
set_option maxRecDepth 100000 in
theorem boxSmall_lifted (os : Os) (started : os.Started) (H : Type) (enc : TypeId × Value → H) :
   ReturnsInHanded {} Tryd.checked os 4 .any (fun w args => (Rows.boxSmallSpec.pre enc Tryd.prog Tryd.f4 Rows.boxSmallRow.domain false w args ∧ laidMetH Tryd.prog laidN w) ∧ sizedMet enc Tryd.prog Tryd.f4 (OpenSpec.ofChange Rows.boxSmallSpec) false w args) (Rows.boxSmallSpec.post enc Tryd.prog Tryd.f4 false true false false) := by
 refine handed_and_sized (C := Tryd.checked) (X := fun w => laidMetH Tryd.prog laidN w) (fun _ _ hh h => h.of_heap hh) own started Tw.kr Tryd.func4
   (ChangeSpec.witness_shaped (enc := enc) (C := Tryd.checked) (os := os) (X := fun w _ => laidMetH Tryd.prog laidN w) false (World.doorLaid Tryd.prog 1000 os) #[] 8 rfl (World.shaped_of_RefB Tw.kr Tw.kr) Tw.kr Tw.kr Tw.kr (door_met os _)) ?_
 intro W base args ds gs before hval0 hW hL hsh hsz
 have hval : ∀ (j : Nat) t v, Tryd.f4.params[j]? = some t → args[j]? = some v → Value.okWide Tryd.prog W .any base t v := hval0
 have hW2 := hW
 obtain ⟨p, q, hA0, hV, rfl, hfz, hnd⟩ := hW2
 have hA : DataW.TrodAll enc Tryd.prog W 0 (fun _ => true) true Tryd.f4.params.toList args.toList ds p := hA0
 rw [Tryd.params4] at hA hval
 obtain ⟨hargs, rfl, rfl⟩ := trodAll_nil hA
 obtain rfl : args = #[] := by cases args; simp_all
 obtain ⟨rfl, rfl⟩ := trodVars_none hV
 clear hA0 hval0
 simp only [List.append_nil] at hW
 refine (BoxSmall_any W (env_of hL)).mono fun e W' ⟨he, bel⟩ => ?_
 subst he
 exact ⟨_, rfl, _, _, _, [], [], [], hW, (trodAll_cons_mk (shut_bool Tryd.underlying4 _) trodAll_mk0), trodAll_mk0, rfl, bel.frame _, fun h => by cases h⟩
theorem boxSmall_said : Rows.BoxSmallSaid :=
 OpenClaim.holds_of_wide 4 Tryd.f4 rfl rfl rfl rfl rfl rfl rfl ⟨rfl, rfl, rfl, rfl, rfl⟩ rfl rfl rfl rfl rfl Tw.kr Tryd.func4 Tw.kr
   (of_decide_eq_true Tw.kr) (by unfold Func.isWrapper; first | (rw [if_pos (by decide +kernel)]; kernel_rfl) | (rw [if_neg (by decide +kernel)]; exact ⟨rfl, rfl⟩))
   (fun os started H enc _ => boxSmall_lifted os started H enc)
theorem boxSmall_proved : Rows.BoxSmallCardSaid :=
 Claim7.holds_tied_plain_at .later [] [.data] true Rows.boxSmallCard.stood.harness Rows.boxSmallCard.stood.looks
   boxSmall_said (fun _ h => by cases h) Tw.kr (fun _ h => by cases h) boxSmall_row_tie rfl ⟨rfl, rfl⟩ Tw.kr rfl
   (fun f fn hf hfn => by
     obtain rfl : f = 4 := Option.some.inj ((show Tryd.prog.funcNamed "twistlock/twistlocklaw06.BoxSmall" = some 4 by kernel_rfl).symm.trans hf) |>.symm
     obtain rfl : fn = Tryd.f4 := (Option.some.inj (Tryd.func4.symm.trans hfn)).symm
     exact ⟨by kernel_rfl, fun j t ht => by
       rw [Tryd.params4] at ht
       have hm : t ∈ [] := by simpa using Array.mem_of_getElem? ht
       have hall : ([].all fun u => !Tryd.prog.wantsStandIn u) = true := by kernel_rfl
       exact (show Tryd.prog.wantsStandIn t = false by simpa using List.all_eq_true.1 hall t hm)⟩)
   Tw.kr
#print axioms boxSmall_proved
end Go.Proofs.YtllmpemmknblaaaDoor
