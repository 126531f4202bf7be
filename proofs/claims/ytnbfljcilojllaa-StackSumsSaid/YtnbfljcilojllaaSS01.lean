import Derived.Test.YtnbfljcilojllaaSS00
import Derived.Test.YtnbfljcilojllaaRows
import Derived.WalkKit
import Derived.ProofKit
import Derived.OpenShut
import Derived.SizedLaws
import Derived.ChangeOld
import Derived.ChangeMaps5
import Derived.Handed
/- Part of the proof: T7, T8, T9, TA, TB, TC, TR. -/
set_option linter.unusedVariables false
set_option linter.unusedSimpArgs false
set_option linter.unusedSectionVars false
namespace Go.Proofs.Ytnbfljcilojllaa
open Go Go.RowKit Tw
set_option maxRecDepth 100000 in
set_option maxHeartbeats 4000000 in
theorem Within_any (l : List Rg) (p : Option Addr) (c : Nat) (hl : l.length ≤ 4000000000) (w : World) (hp : SLV w p (l.flatMap rgC)) : Calls Try.prog 110 #[.slice p l.length c] w fun e w' => e = .returned (.bool (rgsX l)) ∧ Below w.heap.size w w' := by
 have HP := Lib.hid hp
 clear hp
 go_enter Try.func110, Try.ntmps110
 refine wp_seq ?_
 refine wp_region_L [] (KS.start w) ?_
 refine lm (v := .bool false) rfl rfl ?_
 refine wpL_done (fun W1 hW1 => ?_)
 change Code.wp ..
 refine wp_seq ?_
 refine wp_seq ?_
 refine wp_region_L _ hW1 ?_
 refine lm (v := .slice p l.length c) rfl rfl ?_
 refine lp (v := .int .i64 ((l.length : Nat) : Int)) rfl rfl (run_lenL (p := p) (cap := c) (n := l.length) rfl Try.underlying187 Tw.kr) ?_
 refine lm (v := .int .i64 0) rfl rfl ?_
 refine wpL_done (fun W2 hW2 => ?_)
 change Code.wp ..
 refine wp_block ?_
 go_loopw [7] (fun u7 wr => ∃ (k : Nat), (k ≤ l.length) ∧ (rgsX l = rgsX (l.drop k)) ∧ u7 = .int .i64 ((k : Nat) : Int) ∧ KS w [] wr) (fun u7 _ => l.length - (intOf u7).toNat)
 case atStart => exact ⟨0, (Nat.zero_le _), rfl, rfl, (hW2.sub (fun p hp => by first | exact hp | (simp only [List.mem_cons, List.mem_append, List.nil_append, List.not_mem_nil, or_assoc, or_false, false_or] at hp ⊢ <;> grind)))⟩
 case round =>
   obtain ⟨k, hk, hR, rfl, hL3⟩ := hrel
   refine wp_seq ?_
   refine wp_region_L _ hL3 ?_
   refine lp (v := .bool (decide (k < l.length))) rfl rfl (run_bin rfl (vx := (.int .i64 ((k : Nat) : Int))) (vy := (.int .i64 ((l.length : Nat) : Int))) Tw.kr Tw.kr fun w => bn_lss rfl w) ?_
   refine wpL_done (fun W4 hW4 => ?_)
   change Code.wp ..
   refine wp_seq ?_
   cases hd1 : (decide (k < l.length)) with
   | false =>
     have h1 : ¬ (k < l.length) := of_decide_eq_false hd1
     clear hd1
     refine wp_cond_false rfl ?_
     refine wp_exit ?_
     change Code.wp ..
     refine wp_seq ?_
     refine wp_region_L _ hW4 ?_
     refine lm (v := .bool true) rfl rfl ?_
     refine wpL_done (fun W5 hW5 => ?_)
     change Code.wp ..
     refine wp_ret ?_
     try simp only [inBlock_ret, then_ret]
     refine bodyPost_ret (v := .bool true) ?_ rfl ?_
     · kernel_rfl
     · exact ⟨(bool_is (by rw [hR, rgs_end h1])), hW5.1⟩
   | true =>
     have h1 : k < l.length := of_decide_eq_true hd1
     clear hd1
     refine wp_cond_true rfl ?_
     refine wp_skip ?_
     change Code.wp ..
     refine wp_seq ?_
     refine wp_block ?_
     refine wp_seq ?_
     refine wp_region_L _ hW4 ?_
     obtain ⟨y1, g1_, f1_, hy1, hp1, hc1⟩ := RL.at (RL.base HP.out) rgC_len (by decide) (hW4.sub (fun _ h => by cases h)) (k := k) Tw.om
     refine lp (v := .pointer (some ⟨g1_, f1_ + k * 3, none⟩)) rfl rfl (run_idxQ (p := p) (cap := c) (n := l.length) (j := .i64) (k := k) (sz := 3) rfl Try.underlying187 Tw.kr Tw.kr hp1 Tw.kr Tw.om) ?_
     refine lv (v := .agg (rgC y1).toArray) rfl rfl (yb_rs (off := f1_ + k * 3) (cs := rgC y1) rfl Tw.kr (fun W hW => hc1 W (hW.sub (fun _ h => by cases h))) Try.underlying189 rfl Tw.kr) ?_
     refine wpL_new (fun g => .pointer (some ⟨g, 0, none⟩)) (obi := .cells #[.int .i64 0, .int .i64 0, .int .i64 0] 189 (0, 0)) rfl rfl Tw.kf Tw.pf fun g2 Bg2 Fg2 => ?_
     refine wpL_s [(g2, .cells (rgC y1).toArray 189 (0, 0))] rfl rfl (st_row (off := 0) (v := .agg (rgC y1).toArray) rfl Tw.kr Tw.kr Tw.m0 Bg2 Tw.kr (by first | (simp [Value.cells]; done) | exact Nat.le_of_ble_eq_true rfl) (fun v hv => rgC_one y1 v hv) Tw.kr (List.forall_mem_cons.2 ⟨.inl rfl, (List.forall_mem_nil _)⟩)) ?_
     refine wpL_done (fun W6 hW6 => ?_)
     change Code.wp ..
     refine wp_seq ?_
     refine wp_region_L _ hW6 ?_
     refine lm (v := .pointer (some ⟨g2, 0, none⟩)) rfl rfl ?_
     refine lv (v := .int .i64 y1.1) rfl rfl (yb_cell (off := 0) rfl Tw.kr Tw.m0 Try.underlying3 rfl Tw.kr) ?_
     refine lm (v := .pointer (some ⟨g2, 1, none⟩)) rfl rfl ?_
     refine lv (v := .int .i64 y1.2.1) rfl rfl (yb_cell (off := 1) rfl Tw.kr Tw.m0 Try.underlying3 rfl Tw.kr) ?_
     refine lp (v := .bool (decide (y1.1 < y1.2.1))) rfl rfl (run_bin rfl (vx := (.int .i64 y1.1)) (vy := (.int .i64 y1.2.1)) Tw.kr Tw.kr fun w => bi_lss rfl w) ?_
     refine lm (v := .bool (decide (y1.1 < y1.2.1))) rfl rfl ?_
     cases hd2 : (decide (y1.1 < y1.2.1)) with
     | false =>
       have h2 : ¬ (y1.1 < y1.2.1) := of_decide_eq_false hd2
       clear hd2
       refine lm (v := .pointer (some ⟨g2, 0, none⟩)) rfl rfl ?_
       refine lv (v := .int .i64 y1.1) rfl rfl (yb_cell (off := 0) rfl Tw.kr Tw.m0 Try.underlying3 rfl Tw.kr) ?_
       refine lm (v := .pointer (some ⟨g2, 2, none⟩)) rfl rfl ?_
       refine lv (v := .int .i64 y1.2.2) rfl rfl (yb_cell (off := 2) rfl Tw.kr Tw.m0 Try.underlying3 rfl Tw.kr) ?_
       refine lp (v := .bool (decide (y1.2.2 < y1.1))) rfl rfl (run_bin rfl (vx := (.int .i64 y1.1)) (vy := (.int .i64 y1.2.2)) Tw.kr Tw.kr fun w => bi_gtr rfl w) ?_
       refine lm (v := .bool (decide (y1.2.2 < y1.1))) rfl rfl ?_
       refine wpL_done (fun W7 hW7 => ?_)
       change Code.wp ..
       cases hd3 : (decide (y1.2.2 < y1.1)) with
       | false =>
         have h3 : ¬ (y1.2.2 < y1.1) := of_decide_eq_false hd3
         clear hd3
         refine wp_cond_false rfl ?_
         refine wp_skip ?_
         change Code.wp ..
         refine wp_region_L _ hW7 ?_
         refine lp (v := .int .i64 (((k + 1) : Nat) : Int)) rfl rfl (run_bin rfl (vx := (.int .i64 ((k : Nat) : Int))) (vy := (.int .i64 ((1 : Nat) : Int))) Tw.kr Tw.kr fun w => bn_add (z := (k + 1)) rfl (wr_i64 Tw.om) w) ?_
         refine lm (v := .int .i64 (((k + 1) : Nat) : Int)) rfl rfl ?_
         refine wpL_done (fun W8 hW8 => ?_)
         go_roundw
         case rel =>
           repeat apply Exists.intro
           exact ⟨⟨k + 1, Tw.om, (by rw [hR, rgs_step hy1]; simp [h2, h3]), rfl, (hW8.sub (fun p hp => by first | exact hp | (simp only [List.mem_cons, List.mem_append, List.nil_append, List.not_mem_nil, or_assoc, or_false, false_or] at hp ⊢ <;> grind)))⟩, rfl⟩
         case measure => (show l.length - (intOf (.int .i64 (((k + 1) : Nat) : Int))).toNat < l.length - (intOf (.int .i64 ((k : Nat) : Int))).toNat); simp only [intOf]; omega
       | true =>
         have h3 : y1.2.2 < y1.1 := of_decide_eq_true hd3
         clear hd3
         refine wp_cond_true rfl ?_
         refine wp_seq ?_
         refine wp_region_L _ hW7 ?_
         refine lm (v := .bool false) rfl rfl ?_
         refine wpL_done (fun W9 hW9 => ?_)
         change Code.wp ..
         refine wp_ret ?_
         try simp only [inBlock_ret, then_ret]
         refine bodyPost_ret (v := .bool false) ?_ rfl ?_
         · kernel_rfl
         · exact ⟨(bool_is (by rw [hR, rgs_step hy1]; simp [h3])), hW9.1⟩
     | true =>
       have h2 : y1.1 < y1.2.1 := of_decide_eq_true hd2
       clear hd2
       refine ln rfl ?_
       refine ln rfl ?_
       refine ln rfl ?_
       refine ln rfl ?_
       refine ln rfl ?_
       refine lm (v := .bool true) rfl rfl ?_
       refine wpL_done (fun W10 hW10 => ?_)
       change Code.wp ..
       refine wp_cond_true rfl ?_
       refine wp_seq ?_
       refine wp_region_L _ hW10 ?_
       refine lm (v := .bool false) rfl rfl ?_
       refine wpL_done (fun W11 hW11 => ?_)
       change Code.wp ..
       refine wp_ret ?_
       try simp only [inBlock_ret, then_ret]
       refine bodyPost_ret (v := .bool false) ?_ rfl ?_
       · kernel_rfl
       · exact ⟨(bool_is (by rw [hR, rgs_step hy1]; simp [h2])), hW11.1⟩
set_option maxRecDepth 100000 in
set_option maxHeartbeats 4000000 in
theorem increasing_any (l : List Int) (p : Option Addr) (c : Nat) (most : Int) (hl : l.length ≤ 4000000000) (w : World) (hp : SLV w p (l.flatMap inC)) : Calls Try.prog 111 #[.slice p l.length c, .int .i64 most] w fun e w' => e = .returned (.bool (incX l most)) ∧ Below w.heap.size w w' := by
 have HP := Lib.hid hp
 clear hp
 go_enter Try.func111, Try.ntmps111
 refine wp_seq ?_
 refine wp_region_L [] (KS.start w) ?_
 refine lm (v := .bool false) rfl rfl ?_
 refine wpL_done (fun W1 hW1 => ?_)
 change Code.wp ..
 refine wp_seq ?_
 refine wp_region_L _ hW1 ?_
 refine lm (v := .int .i64 (-1)) rfl rfl ?_
 refine wpL_done (fun W2 hW2 => ?_)
 change Code.wp ..
 refine wp_seq ?_
 refine wp_seq ?_
 refine wp_region_L _ hW2 ?_
 refine lm (v := .slice p l.length c) rfl rfl ?_
 refine lp (v := .int .i64 ((l.length : Nat) : Int)) rfl rfl (run_lenL (p := p) (cap := c) (n := l.length) rfl Try.underlying44 Tw.kr) ?_
 refine lm (v := .int .i64 0) rfl rfl ?_
 refine wpL_done (fun W3 hW3 => ?_)
 change Code.wp ..
 refine wp_block ?_
 go_loopw [10, 5] (fun u10 u5 wr => ∃ (k : Nat) (last : Int), (k ≤ l.length) ∧ (incX l most = incF most last (l.drop k)) ∧ u10 = .int .i64 ((k : Nat) : Int) ∧ u5 = .int .i64 last ∧ KS w [] wr) (fun u10 _ _ => l.length - (intOf u10).toNat)
 case atStart => exact ⟨0, (-1), (Nat.zero_le _), rfl, rfl, rfl, (hW3.sub (fun p hp => by first | exact hp | (simp only [List.mem_cons, List.mem_append, List.nil_append, List.not_mem_nil, or_assoc, or_false, false_or] at hp ⊢ <;> grind)))⟩
 case round =>
   obtain ⟨k, last, hk, hR, rfl, rfl, hL4⟩ := hrel
   refine wp_seq ?_
   refine wp_region_L _ hL4 ?_
   refine lp (v := .bool (decide (k < l.length))) rfl rfl (run_bin rfl (vx := (.int .i64 ((k : Nat) : Int))) (vy := (.int .i64 ((l.length : Nat) : Int))) Tw.kr Tw.kr fun w => bn_lss rfl w) ?_
   refine wpL_done (fun W5 hW5 => ?_)
   change Code.wp ..
   refine wp_seq ?_
   cases hd1 : (decide (k < l.length)) with
   | false =>
     have h1 : ¬ (k < l.length) := of_decide_eq_false hd1
     clear hd1
     refine wp_cond_false rfl ?_
     refine wp_exit ?_
     change Code.wp ..
     refine wp_seq ?_
     refine wp_region_L _ hW5 ?_
     refine lm (v := .bool true) rfl rfl ?_
     refine wpL_done (fun W6 hW6 => ?_)
     change Code.wp ..
     refine wp_ret ?_
     try simp only [inBlock_ret, then_ret]
     refine bodyPost_ret (v := .bool true) ?_ rfl ?_
     · kernel_rfl
     · exact ⟨(bool_is (by rw [hR, inc_end h1])), hW6.1⟩
   | true =>
     have h1 : k < l.length := of_decide_eq_true hd1
     clear hd1
     refine wp_cond_true rfl ?_
     refine wp_skip ?_
     change Code.wp ..
     refine wp_seq ?_
     refine wp_block ?_
     refine wp_seq ?_
     refine wp_region_L _ hW5 ?_
     obtain ⟨y1, g1_, f1_, hy1, hp1, hc1⟩ := RL.at (RL.base HP.out) inC_len (by decide) (hW5.sub (fun _ h => by cases h)) (k := k) Tw.om
     refine lp (v := .pointer (some ⟨g1_, f1_ + k * 1, none⟩)) rfl rfl (run_idxQ (p := p) (cap := c) (n := l.length) (j := .i64) (k := k) (sz := 1) rfl Try.underlying44 Tw.kr Tw.kr hp1 Tw.kr Tw.om) ?_
     refine lv (v := .int .i64 y1) rfl rfl (yb_rf (v := .int .i64 y1) rfl Tw.kr (fun W hW => hc1 W (hW.sub (fun _ h => by cases h)) 0 _ rfl) Try.underlying3 rfl) ?_
     refine lm (v := .int .i64 y1) rfl rfl ?_
     refine wpL_done (fun W7 hW7 => ?_)
     change Code.wp ..
     refine wp_seq ?_
     refine wp_seq ?_
     refine wp_region_L _ hW7 ?_
     refine lm (v := .int .i64 y1) rfl rfl ?_
     refine lm (v := .int .i64 last) rfl rfl ?_
     refine lp (v := .bool (!(decide (last < y1)))) rfl rfl (run_bin rfl (vx := (.int .i64 y1)) (vy := (.int .i64 last)) Tw.kr Tw.kr fun w => bi_leq rfl w) ?_
     refine lm (v := .bool (!(decide (last < y1)))) rfl rfl ?_
     cases hd2 : (decide (last < y1)) with
     | false =>
       have h2 : ¬ (last < y1) := of_decide_eq_false hd2
       clear hd2
       refine ln rfl ?_
       refine ln rfl ?_
       refine ln rfl ?_
       refine lm (v := .bool true) rfl rfl ?_
       refine wpL_done (fun W8 hW8 => ?_)
       change Code.wp ..
       refine wp_cond_true rfl ?_
       refine wp_seq ?_
       refine wp_region_L _ hW8 ?_
       refine lm (v := .bool false) rfl rfl ?_
       refine wpL_done (fun W9 hW9 => ?_)
       change Code.wp ..
       refine wp_ret ?_
       try simp only [inBlock_ret, then_ret]
       refine bodyPost_ret (v := .bool false) ?_ rfl ?_
       · kernel_rfl
       · exact ⟨(bool_is (by rw [hR, inc_step hy1, decide_eq_false (p := last < y1) Tw.om]; rfl)), hW9.1⟩
     | true =>
       have h2 : last < y1 := of_decide_eq_true hd2
       clear hd2
       refine lm (v := .int .i64 y1) rfl rfl ?_
       refine lm (v := .int .i64 most) rfl rfl ?_
       refine lp (v := .bool (decide (most < y1))) rfl rfl (run_bin rfl (vx := (.int .i64 y1)) (vy := (.int .i64 most)) Tw.kr Tw.kr fun w => bi_gtr rfl w) ?_
       refine lm (v := .bool (decide (most < y1))) rfl rfl ?_
       refine wpL_done (fun W10 hW10 => ?_)
       change Code.wp ..
       cases hd3 : (decide (most < y1)) with
       | false =>
         have h3 : ¬ (most < y1) := of_decide_eq_false hd3
         clear hd3
         refine wp_cond_false rfl ?_
         refine wp_skip ?_
         change Code.wp ..
         refine wp_region_L _ hW10 ?_
         refine lm (v := .int .i64 y1) rfl rfl ?_
         refine lm (v := .int .i64 y1) rfl rfl ?_
         refine wpL_done (fun W11 hW11 => ?_)
         change Code.wp ..
         refine wp_region_L _ hW11 ?_
         refine lp (v := .int .i64 (((k + 1) : Nat) : Int)) rfl rfl (run_bin rfl (vx := (.int .i64 ((k : Nat) : Int))) (vy := (.int .i64 ((1 : Nat) : Int))) Tw.kr Tw.kr fun w => bn_add (z := (k + 1)) rfl (wr_i64 Tw.om) w) ?_
         refine lm (v := .int .i64 (((k + 1) : Nat) : Int)) rfl rfl ?_
         refine wpL_done (fun W12 hW12 => ?_)
         go_roundw
         case rel =>
           repeat apply Exists.intro
           exact ⟨⟨k + 1, y1, Tw.om, (by rw [hR, inc_step hy1, decide_eq_true Tw.om, decide_eq_true Tw.om]; rfl), rfl, rfl, (hW12.sub (fun p hp => by first | exact hp | (simp only [List.mem_cons, List.mem_append, List.nil_append, List.not_mem_nil, or_assoc, or_false, false_or] at hp ⊢ <;> grind)))⟩, rfl⟩
         case measure => (show l.length - (intOf (.int .i64 (((k + 1) : Nat) : Int))).toNat < l.length - (intOf (.int .i64 ((k : Nat) : Int))).toNat); simp only [intOf]; omega
       | true =>
         have h3 : most < y1 := of_decide_eq_true hd3
         clear hd3
         refine wp_cond_true rfl ?_
         refine wp_seq ?_
         refine wp_region_L _ hW10 ?_
         refine lm (v := .bool false) rfl rfl ?_
         refine wpL_done (fun W13 hW13 => ?_)
         change Code.wp ..
         refine wp_ret ?_
         try simp only [inBlock_ret, then_ret]
         refine bodyPost_ret (v := .bool false) ?_ rfl ?_
         · kernel_rfl
         · exact ⟨(bool_is (by rw [hR, inc_step hy1, decide_eq_false (p := y1 ≤ most) Tw.om]; simp)), hW13.1⟩
set_option maxRecDepth 100000 in
set_option maxHeartbeats 4000000 in
theorem columnRight_any (c : Col) (hl : c.plugs.length ≤ 4000000000) (w : World) (hp : SLV w c.pp (c.plugs.flatMap inC)) : Calls Try.prog 101 #[.agg (colC c).toArray] w fun e w' => e = .returned (.bool (colX c)) ∧ Below w.heap.size w w' := by
 have HP := Lib.hid hp
 clear hp
 go_enter Try.func101, Try.ntmps101
 refine wp_seq ?_
 refine wp_region_L [] (KS.start w) ?_
 refine wpL_new (fun g => .pointer (some ⟨g, 0, none⟩)) (obi := .cells (colC c).toArray 46 (0, 0)) rfl rfl Tw.kf Tw.pf fun g1 Bg1 Fg1 => ?_
 refine lm (v := .bool false) rfl rfl ?_
 refine wpL_done (fun W1 hW1 => ?_)
 change Code.wp ..
 refine wp_seq ?_
 refine wp_region_L _ hW1 ?_
 refine lm (v := .func (.func 110) #[] #[]) rfl rfl ?_
 refine wpL_done (fun W2 hW2 => ?_)
 change Code.wp ..
 refine wp_seq ?_
 refine wp_region_L _ hW2 ?_
 refine lm (v := .func (.func 110) #[] #[]) rfl rfl ?_
 refine lm (v := .pointer (some ⟨g1, 0, none⟩)) rfl rfl ?_
 refine lv (v := .int .i64 c.bay) rfl rfl (yb_cell (off := 0) rfl Tw.kr Tw.m0 Try.underlying3 rfl Tw.kr) ?_
 refine lm (v := .agg #[.int .i64 c.bay, .int .i64 0, .int .i64 39]) rfl rfl ?_
 refine lm (v := .pointer (some ⟨g1, 1, none⟩)) rfl rfl ?_
 refine lv (v := .int .i64 c.row) rfl rfl (yb_cell (off := 1) rfl Tw.kr Tw.m0 Try.underlying3 rfl Tw.kr) ?_
 refine lm (v := .agg #[.int .i64 c.row, .int .i64 0, .int .i64 30]) rfl rfl ?_
 refine lm (v := .pointer (some ⟨g1, 3, none⟩)) rfl rfl ?_
 refine lv (v := .int .i64 c.tiers) rfl rfl (yb_cell (off := 3) rfl Tw.kr Tw.m0 Try.underlying3 rfl Tw.kr) ?_
 refine lm (v := .agg #[.int .i64 c.tiers, .int .i64 1, .int .i64 10]) rfl rfl ?_
 refine lm (v := .pointer (some ⟨g1, 4, none⟩)) rfl rfl ?_
 refine lv (v := .int .i64 c.height) rfl rfl (yb_cell (off := 4) rfl Tw.kr Tw.m0 Try.underlying3 rfl Tw.kr) ?_
 refine lm (v := .agg #[.int .i64 c.height, .int .i64 0, .int .i64 40000]) rfl rfl ?_
 refine lm (v := .pointer (some ⟨g1, 5, none⟩)) rfl rfl ?_
 refine lv (v := .int .i64 c.k20) rfl rfl (yb_cell (off := 5) rfl Tw.kr Tw.m0 Try.underlying3 rfl Tw.kr) ?_
 refine lm (v := .agg #[.int .i64 c.k20, .int .i64 0, .int .i64 500000000]) rfl rfl ?_
 refine lm (v := .pointer (some ⟨g1, 6, none⟩)) rfl rfl ?_
 refine lv (v := .int .i64 c.k40) rfl rfl (yb_cell (off := 6) rfl Tw.kr Tw.m0 Try.underlying3 rfl Tw.kr) ?_
 refine lm (v := .agg #[.int .i64 c.k40, .int .i64 0, .int .i64 500000000]) rfl rfl ?_
 refine lm (v := .pointer (some ⟨g1, 7, none⟩)) rfl rfl ?_
 refine lv (v := .int .i64 c.lash) rfl rfl (yb_cell (off := 7) rfl Tw.kr Tw.m0 Try.underlying3 rfl Tw.kr) ?_
 refine lm (v := .agg #[.int .i64 c.lash, .int .i64 0, .int .i64 1000000000000]) rfl rfl ?_
 refine lm (v := .pointer (some ⟨g1, 9, none⟩)) rfl rfl ?_
 refine lv (v := .int .i64 c.x) rfl rfl (yb_cell (off := 9) rfl Tw.kr Tw.m0 Try.underlying3 rfl Tw.kr) ?_
 refine lm (v := .agg #[.int .i64 c.x, .int .i64 (-500000), .int .i64 500000]) rfl rfl ?_
 refine lm (v := .pointer (some ⟨g1, 10, none⟩)) rfl rfl ?_
 refine lv (v := .int .i64 c.y) rfl rfl (yb_cell (off := 10) rfl Tw.kr Tw.m0 Try.underlying3 rfl Tw.kr) ?_
 refine lm (v := .agg #[.int .i64 c.y, .int .i64 (-500000), .int .i64 500000]) rfl rfl ?_
 refine lm (v := .pointer (some ⟨g1, 11, none⟩)) rfl rfl ?_
 refine lv (v := .int .i64 c.z) rfl rfl (yb_cell (off := 11) rfl Tw.kr Tw.m0 Try.underlying3 rfl Tw.kr) ?_
 refine lm (v := .agg #[.int .i64 c.z, .int .i64 (-500000), .int .i64 500000]) rfl rfl ?_
 refine wpL_new (fun g => .slice (some ⟨g, 0, none⟩) 10 10) (obi := .cells #[.int .i64 c.bay, .int .i64 0, .int .i64 39, .int .i64 c.row, .int .i64 0, .int .i64 30, .int .i64 c.tiers, .int .i64 1, .int .i64 10, .int .i64 c.height, .int .i64 0, .int .i64 40000, .int .i64 c.k20, .int .i64 0, .int .i64 500000000, .int .i64 c.k40, .int .i64 0, .int .i64 500000000, .int .i64 c.lash, .int .i64 0, .int .i64 1000000000000, .int .i64 c.x, .int .i64 (-500000), .int .i64 500000, .int .i64 c.y, .int .i64 (-500000), .int .i64 500000, .int .i64 c.z, .int .i64 (-500000), .int .i64 500000] 189 (0, 0)) rfl rfl Tw.kf Tw.pf fun g2 Bg2 Fg2 => ?_
 obtain dj3_0 : g1 ≠ g2 := Tw.dkf Fg2
 refine lv (v := .bool (rgsX (rangesX c))) rfl rfl (yb_call (f := 110) (args := #[.slice (some ⟨g2, 0, none⟩) 10 10]) Tw.kf fun W hW => Within_any (rangesX c) (some ⟨g2, 0, none⟩) 10 (by show (10 : Nat) ≤ _; omega) W (blk_slv hW Tw.m0)) ?_
 refine lm (v := .bool (rgsX (rangesX c))) rfl rfl ?_
 cases h1 : (rgsX (rangesX c)) with
 | false =>
   refine ln rfl ?_
   refine ln rfl ?_
   refine ln rfl ?_
   refine ln rfl ?_
   refine ln rfl ?_
   refine ln rfl ?_
   refine lm (v := .bool false) rfl rfl ?_
   refine lm (v := .bool false) rfl rfl ?_
   refine wpL_done (fun W3 hW3 => ?_)
   change Code.wp ..
   refine wp_ret ?_
   try simp only [inBlock_ret, then_ret]
   refine bodyPost_ret (v := .bool false) ?_ rfl ?_
   · kernel_rfl
   · exact ⟨(bool_is (by unfold colX; simp [*])), hW3.1⟩
 | true =>
   refine lm (v := .pointer (some ⟨g1, 8, none⟩)) rfl rfl ?_
   refine lv (v := .slice c.pp c.plugs.length c.pc) rfl rfl (yb_cell (off := 8) rfl Tw.kr Tw.m1 Try.underlying44 rfl Tw.kr) ?_
   refine lm (v := .pointer (some ⟨g1, 3, none⟩)) rfl rfl ?_
   refine lv (v := .int .i64 c.tiers) rfl rfl (yb_cell (off := 3) rfl Tw.kr Tw.m1 Try.underlying3 rfl Tw.kr) ?_
   refine lp (v := .int .i64 (IntKind.i64.wrap (c.tiers - 1))) rfl rfl (run_bin rfl (vx := .int .i64 c.tiers) (vy := .int .i64 1) Tw.kr Tw.kr fun w => bw_sub (z := (IntKind.i64.wrap (c.tiers - 1))) rfl w) ?_
   refine lv (v := .bool (incX c.plugs (IntKind.i64.wrap (c.tiers - 1)))) rfl rfl (yb_call (f := 111) (args := #[.slice c.pp c.plugs.length c.pc, .int .i64 (IntKind.i64.wrap (c.tiers - 1))]) Tw.kf fun W hW => increasing_any c.plugs c.pp c.pc (IntKind.i64.wrap (c.tiers - 1)) Tw.om W ((RL.base HP.out) _ (hW.sub (fun _ h => by cases h)))) ?_
   refine lm (v := .bool (incX c.plugs (IntKind.i64.wrap (c.tiers - 1)))) rfl rfl ?_
   refine lm (v := .bool (incX c.plugs (IntKind.i64.wrap (c.tiers - 1)))) rfl rfl ?_
   refine wpL_done (fun W4 hW4 => ?_)
   change Code.wp ..
   refine wp_ret ?_
   try simp only [inBlock_ret, then_ret]
   refine bodyPost_ret (v := .bool (incX c.plugs (IntKind.i64.wrap (c.tiers - 1)))) ?_ rfl ?_
   · kernel_rfl
   · exact ⟨(bool_is (by unfold colX; simp [*])), hW4.1⟩
set_option maxRecDepth 100000 in
set_option maxHeartbeats 4000000 in
theorem coverRight_any (o : Cov) (hl : o.rows.length ≤ 4000000000) (w : World) (hp : SLV w o.rp (o.rows.flatMap inC)) : Calls Try.prog 102 #[.agg (covC o).toArray] w fun e w' => e = .returned (.bool (ovX o)) ∧ Below w.heap.size w w' := by
 have HP := Lib.hid hp
 clear hp
 go_enter Try.func102, Try.ntmps102
 refine wp_seq ?_
 refine wp_region_L [] (KS.start w) ?_
 refine wpL_new (fun g => .pointer (some ⟨g, 0, none⟩)) (obi := .cells (covC o).toArray 123 (0, 0)) rfl rfl Tw.kf Tw.pf fun g1 Bg1 Fg1 => ?_
 refine lm (v := .bool false) rfl rfl ?_
 refine wpL_done (fun W1 hW1 => ?_)
 change Code.wp ..
 refine wp_seq ?_
 refine wp_region_L _ hW1 ?_
 refine lm (v := .pointer (some ⟨g1, 0, none⟩)) rfl rfl ?_
 refine lv (v := .int .i64 o.bay) rfl rfl (yb_cell (off := 0) rfl Tw.kr Tw.m0 Try.underlying3 rfl Tw.kr) ?_
 refine lp (v := .bool (!(decide (o.bay < 0)))) rfl rfl (run_bin rfl (vx := (.int .i64 o.bay)) (vy := (.int .i64 0)) Tw.kr Tw.kr fun w => bi_geq rfl w) ?_
 refine lm (v := .bool (!(decide (o.bay < 0)))) rfl rfl ?_
 cases hd1 : (decide (o.bay < 0)) with
 | false =>
   have h1 : ¬ (o.bay < 0) := of_decide_eq_false hd1
   clear hd1
   refine lm (v := .pointer (some ⟨g1, 0, none⟩)) rfl rfl ?_
   refine lv (v := .int .i64 o.bay) rfl rfl (yb_cell (off := 0) rfl Tw.kr Tw.m0 Try.underlying3 rfl Tw.kr) ?_
   refine lp (v := .bool (!(decide (39 < o.bay)))) rfl rfl (run_bin rfl (vx := (.int .i64 o.bay)) (vy := (.int .i64 39)) Tw.kr Tw.kr fun w => bi_leq rfl w) ?_
   refine lm (v := .bool (!(decide (39 < o.bay)))) rfl rfl ?_
   refine lm (v := .bool (!(decide (39 < o.bay)))) rfl rfl ?_
   cases hd2 : (decide (39 < o.bay)) with
   | false =>
     have h2 : ¬ (39 < o.bay) := of_decide_eq_false hd2
     clear hd2
     refine lm (v := .pointer (some ⟨g1, 1, none⟩)) rfl rfl ?_
     refine lv (v := .slice o.rp o.rows.length o.rc) rfl rfl (yb_cell (off := 1) rfl Tw.kr Tw.m0 Try.underlying44 rfl Tw.kr) ?_
     refine lp (v := .int .i64 ((o.rows.length : Nat) : Int)) rfl rfl (run_lenL (p := o.rp) (cap := o.rc) (n := o.rows.length) rfl Try.underlying44 Tw.kr) ?_
     refine lp (v := .bool (decide (0 < o.rows.length))) rfl rfl (run_bin rfl (vx := (.int .i64 ((o.rows.length : Nat) : Int))) (vy := (.int .i64 ((0 : Nat) : Int))) Tw.kr Tw.kr fun w => bn_gtr rfl w) ?_
     refine lm (v := .bool (decide (0 < o.rows.length))) rfl rfl ?_
     refine lm (v := .bool (decide (0 < o.rows.length))) rfl rfl ?_
     cases hd3 : (decide (0 < o.rows.length)) with
     | false =>
       have h3 : ¬ (0 < o.rows.length) := of_decide_eq_false hd3
       clear hd3
       refine ln rfl ?_
       refine ln rfl ?_
       refine ln rfl ?_
       refine lm (v := .bool false) rfl rfl ?_
       refine lm (v := .bool false) rfl rfl ?_
       refine wpL_done (fun W2 hW2 => ?_)
       change Code.wp ..
       refine wp_ret ?_
       try simp only [inBlock_ret, then_ret]
       refine bodyPost_ret (v := .bool false) ?_ rfl ?_
       · kernel_rfl
       · exact ⟨(bool_is (by unfold ovX; rw [decide_eq_true (p := 0 ≤ o.bay) Tw.om, decide_eq_true (p := o.bay ≤ 39) Tw.om, decide_eq_false (p := 0 < o.rows.length) h3]; simp)), hW2.1⟩
     | true =>
       have h3 : 0 < o.rows.length := of_decide_eq_true hd3
       clear hd3
       refine lm (v := .pointer (some ⟨g1, 1, none⟩)) rfl rfl ?_
       refine lv (v := .slice o.rp o.rows.length o.rc) rfl rfl (yb_cell (off := 1) rfl Tw.kr Tw.m0 Try.underlying44 rfl Tw.kr) ?_
       refine lv (v := .bool (incX o.rows 30)) rfl rfl (yb_call (f := 111) (args := #[.slice o.rp o.rows.length o.rc, .int .i64 30]) Tw.kf fun W hW => increasing_any o.rows o.rp o.rc 30 Tw.om W ((RL.base HP.out) _ (hW.sub (fun _ h => by cases h)))) ?_
       refine lm (v := .bool (incX o.rows 30)) rfl rfl ?_
       refine lm (v := .bool (incX o.rows 30)) rfl rfl ?_
       refine wpL_done (fun W3 hW3 => ?_)
       change Code.wp ..
       refine wp_ret ?_
       try simp only [inBlock_ret, then_ret]
       refine bodyPost_ret (v := .bool (incX o.rows 30)) ?_ rfl ?_
       · kernel_rfl
       · exact ⟨(bool_is (by unfold ovX; rw [decide_eq_true (p := 0 ≤ o.bay) Tw.om, decide_eq_true (p := o.bay ≤ 39) Tw.om, decide_eq_true (p := 0 < o.rows.length) h3]; simp)), hW3.1⟩
   | true =>
     have h2 : 39 < o.bay := of_decide_eq_true hd2
     clear hd2
     refine ln rfl ?_
     refine ln rfl ?_
     refine ln rfl ?_
     refine ln rfl ?_
     refine lm (v := .bool false) rfl rfl ?_
     refine lm (v := .bool false) rfl rfl ?_
     refine ln rfl ?_
     refine ln rfl ?_
     refine ln rfl ?_
     refine lm (v := .bool false) rfl rfl ?_
     refine lm (v := .bool false) rfl rfl ?_
     refine wpL_done (fun W4 hW4 => ?_)
     change Code.wp ..
     refine wp_ret ?_
     try simp only [inBlock_ret, then_ret]
     refine bodyPost_ret (v := .bool false) ?_ rfl ?_
     · kernel_rfl
     · exact ⟨(bool_is (by unfold ovX; rw [decide_eq_true (p := 0 ≤ o.bay) Tw.om, decide_eq_false (p := o.bay ≤ 39) Tw.om]; simp)), hW4.1⟩
 | true =>
   have h1 : o.bay < 0 := of_decide_eq_true hd1
   clear hd1
   refine ln rfl ?_
   refine ln rfl ?_
   refine ln rfl ?_
   refine lm (v := .bool false) rfl rfl ?_
   refine lm (v := .bool false) rfl rfl ?_
   refine ln rfl ?_
   refine ln rfl ?_
   refine ln rfl ?_
   refine ln rfl ?_
   refine lm (v := .bool false) rfl rfl ?_
   refine lm (v := .bool false) rfl rfl ?_
   refine ln rfl ?_
   refine ln rfl ?_
   refine ln rfl ?_
   refine lm (v := .bool false) rfl rfl ?_
   refine lm (v := .bool false) rfl rfl ?_
   refine wpL_done (fun W5 hW5 => ?_)
   change Code.wp ..
   refine wp_ret ?_
   try simp only [inBlock_ret, then_ret]
   refine bodyPost_ret (v := .bool false) ?_ rfl ?_
   · kernel_rfl
   · exact ⟨(bool_is (by unfold ovX; rw [decide_eq_false (p := 0 ≤ o.bay) Tw.om]; simp)), hW5.1⟩
set_option maxRecDepth 100000 in
set_option maxHeartbeats 4000000 in
theorem placeOf_any (c : Col) (w : World) : Calls Try.prog 100 #[.agg (colC c).toArray] w fun e w' => e = .returned (kv3 (placeX c)) ∧ Below w.heap.size w w' := by
 go_enter Try.func100, Try.ntmps100
 refine wp_seq ?_
 refine wp_region_L [] (KS.start w) ?_
 refine wpL_new (fun g => .pointer (some ⟨g, 0, none⟩)) (obi := .cells (colC c).toArray 46 (0, 0)) rfl rfl Tw.kf Tw.pf fun g1 Bg1 Fg1 => ?_
 refine wpL_new (fun g => .pointer (some ⟨g, 0, none⟩)) (obi := .cells #[.int .i64 0, .int .i64 0, .int .i64 0] 177 (0, 0)) rfl rfl Tw.kf Tw.pf fun g2 Bg2 Fg2 => ?_
 obtain dj3_0 : g1 ≠ g2 := Tw.dkf Fg2
 refine wpL_done (fun W1 hW1 => ?_)
 change Code.wp ..
 refine wp_seq ?_
 refine wp_seq ?_
 refine wp_region_L _ hW1 ?_
 refine lm (v := .pointer (some ⟨g1, 2, none⟩)) rfl rfl ?_
 refine lv (v := .bool c.deck) rfl rfl (yb_cell (off := 2) rfl Tw.kr Tw.m1 Try.underlying4 rfl Tw.kr) ?_
 refine wpL_done (fun W2 hW2 => ?_)
 change Code.wp ..
 cases h1 : c.deck with
 | false =>
   refine wp_cond_false rfl ?_
   refine wp_skip ?_
   change Code.wp ..
   refine wp_seq ?_
   refine wp_region_L _ hW2 ?_
   refine lm (v := .pointer (some ⟨g1, 0, none⟩)) rfl rfl ?_
   refine lv (v := .int .i64 c.bay) rfl rfl (yb_cell (off := 0) rfl Tw.kr Tw.m1 Try.underlying3 rfl Tw.kr) ?_
   refine lm (v := .pointer (some ⟨g1, 1, none⟩)) rfl rfl ?_
   refine lv (v := .int .i64 c.row) rfl rfl (yb_cell (off := 1) rfl Tw.kr Tw.m1 Try.underlying3 rfl Tw.kr) ?_
   refine lm (v := .agg #[.int .i64 c.bay, .int .i64 c.row, .int .i64 0]) rfl rfl ?_
   refine wpL_s [(g2, .cells #[.int .i64 c.bay, .int .i64 c.row, .int .i64 0] 177 (0, 0)), (g1, .cells (colC c).toArray 46 (0, 0))] rfl rfl (st_row (off := 0) (v := .agg #[.int .i64 c.bay, .int .i64 c.row, .int .i64 0]) rfl Tw.kr Tw.kr Tw.m0 Bg2 Tw.kr (by first | (simp [Value.cells]; done) | exact Nat.le_of_ble_eq_true rfl) (by intro v hv; simp [Value.cells] at hv; first | (subst hv; rfl) | (rcases hv with rfl | rfl | rfl <;> rfl)) Tw.kr (List.forall_mem_cons.2 ⟨.inl rfl, (List.forall_mem_cons.2 ⟨.inr ⟨Tw.m1, Tw.nee⟩, (List.forall_mem_nil _)⟩)⟩)) ?_
   refine wpL_done (fun W3 hW3 => ?_)
   change Code.wp ..
   refine wp_ret ?_
   try simp only [inBlock_ret, then_ret]
   refine bodyPost_ret (v := .agg #[.int .i64 c.bay, .int .i64 c.row, .int .i64 0]) ?_ rfl ?_
   · exact (res_cell (p := 2) rfl rfl (hW3.2 _ Tw.m0) Try.underlying177 rfl Tw.kr)
   · exact ⟨(by unfold placeX; rw [h1]; rfl), hW3.1⟩
 | true =>
   refine wp_cond_true rfl ?_
   refine wp_seq ?_
   refine wp_region_L _ hW2 ?_
   refine lm (v := .pointer (some ⟨g1, 0, none⟩)) rfl rfl ?_
   refine lv (v := .int .i64 c.bay) rfl rfl (yb_cell (off := 0) rfl Tw.kr Tw.m1 Try.underlying3 rfl Tw.kr) ?_
   refine lm (v := .pointer (some ⟨g1, 1, none⟩)) rfl rfl ?_
   refine lv (v := .int .i64 c.row) rfl rfl (yb_cell (off := 1) rfl Tw.kr Tw.m1 Try.underlying3 rfl Tw.kr) ?_
   refine lm (v := .agg #[.int .i64 c.bay, .int .i64 c.row, .int .i64 1]) rfl rfl ?_
   refine wpL_s [(g2, .cells #[.int .i64 c.bay, .int .i64 c.row, .int .i64 1] 177 (0, 0)), (g1, .cells (colC c).toArray 46 (0, 0))] rfl rfl (st_row (off := 0) (v := .agg #[.int .i64 c.bay, .int .i64 c.row, .int .i64 1]) rfl Tw.kr Tw.kr Tw.m0 Bg2 Tw.kr (by first | (simp [Value.cells]; done) | exact Nat.le_of_ble_eq_true rfl) (by intro v hv; simp [Value.cells] at hv; first | (subst hv; rfl) | (rcases hv with rfl | rfl | rfl <;> rfl)) Tw.kr (List.forall_mem_cons.2 ⟨.inl rfl, (List.forall_mem_cons.2 ⟨.inr ⟨Tw.m1, Tw.nee⟩, (List.forall_mem_nil _)⟩)⟩)) ?_
   refine wpL_done (fun W4 hW4 => ?_)
   change Code.wp ..
   refine wp_ret ?_
   try simp only [inBlock_ret, then_ret]
   refine bodyPost_ret (v := .agg #[.int .i64 c.bay, .int .i64 c.row, .int .i64 1]) ?_ rfl ?_
   · exact (res_cell (p := 2) rfl rfl (hW4.2 _ Tw.m0) Try.underlying177 rfl Tw.kr)
   · exact ⟨(by unfold placeX; rw [h1]; rfl), hW4.1⟩
set_option maxRecDepth 100000 in
set_option maxHeartbeats 4000000 in
theorem columnsRight_any (cs : List Col) (pc : Option Addr) (cc : Nat) (w : World) (hc : SLV w pc (cs.flatMap colC)) (hq : PlR w cs) (lq : ∀ c ∈ cs, c.plugs.length ≤ 4000000000) : Calls Try.prog 85 #[.slice pc cs.length cc] w fun e w' => e = .returned (.bool (colsX cs)) ∧ Below w.heap.size w w' := by
 have HC := Lib.hid hc
 clear hc
 have HQ := Lib.hid hq
 clear hq
 go_enter Try.func85, Try.ntmps85
 refine wp_seq ?_
 refine wp_region_L [] (KS.start w) ?_
 refine lm (v := .bool false) rfl rfl ?_
 refine wpL_done (fun W1 hW1 => ?_)
 change Code.wp ..
 refine wp_seq ?_
 refine wp_seq ?_
 refine wp_region_L _ hW1 ?_
 refine lm (v := .slice pc cs.length cc) rfl rfl ?_
 refine lp (v := .int .i64 ((cs.length : Nat) : Int)) rfl rfl (run_lenL (p := pc) (cap := cc) (n := cs.length) rfl Try.underlying22 Tw.kr) ?_
 refine lp (v := .bool (decide (cs.length = 0))) rfl rfl (run_bin rfl (vx := (.int .i64 ((cs.length : Nat) : Int))) (vy := (.int .i64 ((0 : Nat) : Int))) Tw.kr Tw.kr fun w => bn_eql rfl w) ?_
 refine lm (v := .bool (decide (cs.length = 0))) rfl rfl ?_
 cases hd1 : (decide (cs.length = 0)) with
 | false =>
   have h1 : ¬ (cs.length = 0) := of_decide_eq_false hd1
   clear hd1
   refine lm (v := .slice pc cs.length cc) rfl rfl ?_
   refine lp (v := .int .i64 ((cs.length : Nat) : Int)) rfl rfl (run_lenL (p := pc) (cap := cc) (n := cs.length) rfl Try.underlying22 Tw.kr) ?_
   refine lp (v := .bool (decide (200 < cs.length))) rfl rfl (run_bin rfl (vx := (.int .i64 ((cs.length : Nat) : Int))) (vy := (.int .i64 ((200 : Nat) : Int))) Tw.kr Tw.kr fun w => bn_gtr rfl w) ?_
   refine lm (v := .bool (decide (200 < cs.length))) rfl rfl ?_
   refine wpL_done (fun W2 hW2 => ?_)
   change Code.wp ..
   cases hd2 : (decide (200 < cs.length)) with
   | false =>
     have h2 : ¬ (200 < cs.length) := of_decide_eq_false hd2
     clear hd2
     refine wp_cond_false rfl ?_
     refine wp_skip ?_
     change Code.wp ..
     refine wp_seq ?_
     refine wp_region_L _ hW2 ?_
     refine wpL_new (fun g => .map (some g)) (obi := .map #[] 0) rfl rfl Tw.kf Tw.pf fun g1 Bg1 Fg1 => ?_
     refine lm (v := .map (some g1)) rfl rfl ?_
     refine wpL_done (fun W3 hW3 => ?_)
     change Code.wp ..
     refine wp_seq ?_
     refine wp_seq ?_
     refine wp_region_L _ hW3 ?_
     refine lm (v := .slice pc cs.length cc) rfl rfl ?_
     refine lp (v := .int .i64 ((cs.length : Nat) : Int)) rfl rfl (run_lenL (p := pc) (cap := cc) (n := cs.length) rfl Try.underlying22 Tw.kr) ?_
     refine lm (v := .int .i64 0) rfl rfl ?_
     refine wpL_done (fun W4 hW4 => ?_)
     change Code.wp ..
     refine wp_block ?_
     go_loopw [18] (fun u18 wr => ∃ (k : Nat) (es : Array MapEntry) (cl : Nat), (k ≤ cs.length) ∧ (colsF [] cs = colsF ((cs.take k).map placeX) (cs.drop k)) ∧ (SetM kv3 es ((cs.take k).map placeX)) ∧ u18 = .int .i64 ((k : Nat) : Int) ∧ KS w [(g1, .map es cl)] wr) (fun u18 _ => cs.length - (intOf u18).toNat)
     case atStart => exact ⟨0, #[], 0, (Nat.zero_le _), rfl, SetM.nil, rfl, (hW4.sub (fun p hp => by first | exact hp | (simp only [List.mem_cons, List.mem_append, List.nil_append, List.not_mem_nil, or_assoc, or_false, false_or] at hp ⊢ <;> grind)))⟩
     case round =>
       obtain ⟨k, es, cl, hk, hR, hS, rfl, hL5⟩ := hrel
       refine wp_seq ?_
       refine wp_region_L _ hL5 ?_
       refine lp (v := .bool (decide (k < cs.length))) rfl rfl (run_bin rfl (vx := (.int .i64 ((k : Nat) : Int))) (vy := (.int .i64 ((cs.length : Nat) : Int))) Tw.kr Tw.kr fun w => bn_lss rfl w) ?_
       refine wpL_done (fun W6 hW6 => ?_)
       change Code.wp ..
       refine wp_seq ?_
       cases hd3 : (decide (k < cs.length)) with
       | false =>
         have h3 : ¬ (k < cs.length) := of_decide_eq_false hd3
         clear hd3
         refine wp_cond_false rfl ?_
         refine wp_exit ?_
         change Code.wp ..
         refine wp_seq ?_
         refine wp_region_L _ hW6 ?_
         refine lm (v := .bool true) rfl rfl ?_
         refine wpL_done (fun W7 hW7 => ?_)
         change Code.wp ..
         refine wp_ret ?_
         try simp only [inBlock_ret, then_ret]
         refine bodyPost_ret (v := .bool true) ?_ rfl ?_
         · kernel_rfl
         · exact ⟨(bool_is (by unfold colsX; rw [decide_eq_false h1, decide_eq_false h2, hR, cols_end h3]; rfl)), hW7.1⟩
       | true =>
         have h3 : k < cs.length := of_decide_eq_true hd3
         clear hd3
         refine wp_cond_true rfl ?_
         refine wp_skip ?_
         change Code.wp ..
         refine wp_seq ?_
         refine wp_block ?_
         refine wp_seq ?_
         refine wp_region_L _ hW6 ?_
         obtain ⟨y2, g2_, f2_, hy2, hp2, hc2⟩ := RL.at (RL.base HC.out) colC_len (by decide) (hW6.sub (fun _ h => by cases h)) (k := k) Tw.om
         refine lp (v := .pointer (some ⟨g2_, f2_ + k * 12, none⟩)) rfl rfl (run_idxQ (p := pc) (cap := cc) (n := cs.length) (j := .i64) (k := k) (sz := 12) rfl Try.underlying22 Tw.kr Tw.kr hp2 Tw.kr Tw.om) ?_
         refine lv (v := .agg (colC y2).toArray) rfl rfl (yb_rs (off := f2_ + k * 12) (cs := colC y2) rfl Tw.kr (fun W hW => hc2 W (hW.sub (fun _ h => by cases h))) Try.underlying46 rfl Tw.kr) ?_
         refine wpL_new (fun g => .pointer (some ⟨g, 0, none⟩)) (obi := .cells #[.int .i64 0, .int .i64 0, .bool false, .int .i64 0, .int .i64 0, .int .i64 0, .int .i64 0, .int .i64 0, .slice none 0 0, .int .i64 0, .int .i64 0, .int .i64 0] 46 (0, 0)) rfl rfl Tw.kf Tw.pf fun g3 Bg3 Fg3 => ?_
         obtain dj4_0 : g1 ≠ g3 := Tw.dkf Fg3
         refine wpL_s [(g3, .cells (colC y2).toArray 46 (0, 0)), (g1, .map es cl)] rfl rfl (st_row (off := 0) (v := .agg (colC y2).toArray) rfl Tw.kr Tw.kr Tw.m0 Bg3 Tw.kr (by first | (simp [Value.cells]; done) | exact Nat.le_of_ble_eq_true rfl) (fun v hv => colC_one y2 v hv) Tw.kr (List.forall_mem_cons.2 ⟨.inl rfl, (List.forall_mem_cons.2 ⟨.inr ⟨Tw.m1, Tw.nee⟩, (List.forall_mem_nil _)⟩)⟩)) ?_
         refine wpL_done (fun W8 hW8 => ?_)
         change Code.wp ..
         refine wp_seq ?_
         refine wp_region_L _ hW8 ?_
         refine lv (v := .agg (colC y2).toArray) rfl rfl (yb_load (n := 12) (off := 0) rfl Tw.kr Tw.m0 Try.underlying46 rfl Tw.kr (by first | (simp [Value.cells]; done) | exact Nat.le_of_ble_eq_true rfl) Tw.kr) ?_
         refine lv (v := .agg #[.int .i64 ((placeX y2).1), .int .i64 ((placeX y2).2.1), .int .i64 ((placeX y2).2.2)]) rfl rfl (yb_call (f := 100) (args := #[.agg (colC y2).toArray]) Tw.kf fun W hW => placeOf_any y2 W) ?_
         refine wpL_new (fun g => .pointer (some ⟨g, 0, none⟩)) (obi := .cells #[.int .i64 0, .int .i64 0, .int .i64 0] 177 (0, 0)) rfl rfl Tw.kf Tw.pf fun g5 Bg5 Fg5 => ?_
         obtain ⟨dj6_0, dj6_1⟩ : g3 ≠ g5 ∧ g1 ≠ g5 := Tw.dkf Fg5
         refine wpL_s [(g5, .cells #[.int .i64 ((placeX y2).1), .int .i64 ((placeX y2).2.1), .int .i64 ((placeX y2).2.2)] 177 (0, 0)), (g3, .cells (colC y2).toArray 46 (0, 0)), (g1, .map es cl)] rfl rfl (st_row (off := 0) (v := .agg #[.int .i64 ((placeX y2).1), .int .i64 ((placeX y2).2.1), .int .i64 ((placeX y2).2.2)]) rfl Tw.kr Tw.kr Tw.m0 Bg5 Tw.kr (by first | (simp [Value.cells]; done) | exact Nat.le_of_ble_eq_true rfl) (by intro v hv; simp [Value.cells] at hv; first | (subst hv; rfl) | (rcases hv with rfl | rfl | rfl <;> rfl)) Tw.kr (List.forall_mem_cons.2 ⟨.inl rfl, (List.forall_mem_cons.2 ⟨.inr ⟨Tw.m1, Tw.nee⟩, (List.forall_mem_cons.2 ⟨.inr ⟨Tw.m2, Tw.nee⟩, (List.forall_mem_nil _)⟩)⟩)⟩)) ?_
         refine wpL_done (fun W9 hW9 => ?_)
         change Code.wp ..
         refine wp_seq ?_
         refine wp_seq ?_
         refine wp_region_L _ hW9 ?_
         refine lv (v := .agg (colC y2).toArray) rfl rfl (yb_load (n := 12) (off := 0) rfl Tw.kr Tw.m1 Try.underlying46 rfl Tw.kr (by first | (simp [Value.cells]; done) | exact Nat.le_of_ble_eq_true rfl) Tw.kr) ?_
         refine lv (v := .bool (colX y2)) rfl rfl (yb_call (f := 101) (args := #[.agg (colC y2).toArray]) Tw.kf fun W hW => columnRight_any y2 (lq y2 (List.mem_of_getElem? hy2)) W ((RL.base (HQ.out y2 (List.mem_of_getElem? hy2))) _ (hW.sub (fun _ h => by cases h)))) ?_
         refine lp (v := .bool (!(colX y2))) rfl rfl (run_un rfl Tw.kr fun w => un_not w) ?_
         refine lm (v := .bool (!(colX y2))) rfl rfl ?_
         cases h4 : (colX y2) with
         | false =>
           refine ln rfl ?_
           refine ln rfl ?_
           refine ln rfl ?_
           refine lm (v := .bool true) rfl rfl ?_
           refine wpL_done (fun W10 hW10 => ?_)
           change Code.wp ..
           refine wp_cond_true rfl ?_
           refine wp_seq ?_
           refine wp_region_L _ hW10 ?_
           refine lm (v := .bool false) rfl rfl ?_
           refine wpL_done (fun W11 hW11 => ?_)
           change Code.wp ..
           refine wp_ret ?_
           try simp only [inBlock_ret, then_ret]
           refine bodyPost_ret (v := .bool false) ?_ rfl ?_
           · kernel_rfl
           · exact ⟨(bool_is (by unfold colsX; rw [decide_eq_false h1, decide_eq_false h2, hR, cols_step hy2, h4]; rfl)), hW11.1⟩
         | true =>
           refine lm (v := .map (some g1)) rfl rfl ?_
           refine lv (v := .agg #[.int .i64 ((placeX y2).1), .int .i64 ((placeX y2).2.1), .int .i64 ((placeX y2).2.2)]) rfl rfl (yb_load (n := 3) (off := 0) rfl Tw.kr Tw.m0 Try.underlying177 rfl Tw.kr (by first | (simp [Value.cells]; done) | exact Nat.le_of_ble_eq_true rfl) Tw.kr) ?_
           refine lv (v := .bool (decide ((placeX y2) ∈ ((cs.take k).map placeX)))) rfl rfl (yb_lookset key3 (k := (placeX y2)) (L := ((cs.take k).map placeX)) rfl Tw.kr Tw.kr Tw.m2 Try.underlying176 Tw.kf hS decide_eq_true_iff) ?_
           refine lm (v := .bool (decide ((placeX y2) ∈ ((cs.take k).map placeX)))) rfl rfl ?_
           refine wpL_done (fun W12 hW12 => ?_)
           change Code.wp ..
           cases hd5 : (decide ((placeX y2) ∈ ((cs.take k).map placeX))) with
           | false =>
             have h5 : ¬ ((placeX y2) ∈ ((cs.take k).map placeX)) := of_decide_eq_false hd5
             clear hd5
             refine wp_cond_false rfl ?_
             refine wp_skip ?_
             change Code.wp ..
             refine wp_region_L _ hW12 ?_
             refine lm (v := .map (some g1)) rfl rfl ?_
             refine lv (v := .agg #[.int .i64 ((placeX y2).1), .int .i64 ((placeX y2).2.1), .int .i64 ((placeX y2).2.2)]) rfl rfl (yb_load (n := 3) (off := 0) rfl Tw.kr Tw.m0 Try.underlying177 rfl Tw.kr (by first | (simp [Value.cells]; done) | exact Nat.le_of_ble_eq_true rfl) Tw.kr) ?_
             refine wpL_s [(g5, .cells #[.int .i64 ((placeX y2).1), .int .i64 ((placeX y2).2.1), .int .i64 ((placeX y2).2.2)] 177 (0, 0)), (g3, .cells (colC y2).toArray 46 (0, 0)), (g1, .map (addM kv3 es cl (placeX y2)) (cl + 1))] rfl rfl (st_addm key3 (k := (placeX y2)) (L := ((cs.take k).map placeX)) rfl Tw.kr Tw.kr Tw.kr Tw.m2 Bg1 Try.underlying176 hS h5 (List.forall_mem_cons.2 ⟨.inr ⟨Tw.m0, Tw.nee⟩, (List.forall_mem_cons.2 ⟨.inr ⟨Tw.m1, Tw.nee⟩, (List.forall_mem_cons.2 ⟨.inl rfl, (List.forall_mem_nil _)⟩)⟩)⟩)) ?_
             refine wpL_done (fun W13 hW13 => ?_)
             change Code.wp ..
             refine wp_region_L _ hW13 ?_
             refine lp (v := .int .i64 (((k + 1) : Nat) : Int)) rfl rfl (run_bin rfl (vx := (.int .i64 ((k : Nat) : Int))) (vy := (.int .i64 ((1 : Nat) : Int))) Tw.kr Tw.kr fun w => bn_add (z := (k + 1)) rfl (wr_i64 Tw.om) w) ?_
             refine lm (v := .int .i64 (((k + 1) : Nat) : Int)) rfl rfl ?_
             refine wpL_done (fun W14 hW14 => ?_)
             go_roundw
             case rel =>
               repeat apply Exists.intro
               exact ⟨⟨k + 1, (addM kv3 es cl (placeX y2)), (cl + 1), Tw.om, (by rw [hR, cols_step hy2, h4, decide_eq_false h5, map_snoc placeX hy2]; rfl), (by rw [map_snoc placeX hy2]; exact (SetM.add hS cl (placeX y2))), rfl, (hW14.sub (fun p hp => by first | exact hp | (simp only [List.mem_cons, List.mem_append, List.nil_append, List.not_mem_nil, or_assoc, or_false, false_or] at hp ⊢ <;> grind)))⟩, rfl⟩
             case measure => (show cs.length - (intOf (.int .i64 (((k + 1) : Nat) : Int))).toNat < cs.length - (intOf (.int .i64 ((k : Nat) : Int))).toNat); simp only [intOf]; omega
           | true =>
             have h5 : (placeX y2) ∈ ((cs.take k).map placeX) := of_decide_eq_true hd5
             clear hd5
             refine wp_cond_true rfl ?_
             refine wp_seq ?_
             refine wp_region_L _ hW12 ?_
             refine lm (v := .bool false) rfl rfl ?_
             refine wpL_done (fun W15 hW15 => ?_)
             change Code.wp ..
             refine wp_ret ?_
             try simp only [inBlock_ret, then_ret]
             refine bodyPost_ret (v := .bool false) ?_ rfl ?_
             · kernel_rfl
             · exact ⟨(bool_is (by unfold colsX; rw [decide_eq_false h1, decide_eq_false h2, hR, cols_step hy2, h4, decide_eq_true h5]; rfl)), hW15.1⟩
   | true =>
     have h2 : 200 < cs.length := of_decide_eq_true hd2
     clear hd2
     refine wp_cond_true rfl ?_
     refine wp_seq ?_
     refine wp_region_L _ hW2 ?_
     refine lm (v := .bool false) rfl rfl ?_
     refine wpL_done (fun W16 hW16 => ?_)
     change Code.wp ..
     refine wp_ret ?_
     try simp only [inBlock_ret, then_ret]
     refine bodyPost_ret (v := .bool false) ?_ rfl ?_
     · kernel_rfl
     · exact ⟨(bool_is (by unfold colsX; rw [decide_eq_false h1, decide_eq_true h2]; rfl)), hW16.1⟩
 | true =>
   have h1 : cs.length = 0 := of_decide_eq_true hd1
   clear hd1
   refine ln rfl ?_
   refine ln rfl ?_
   refine ln rfl ?_
   refine lm (v := .bool true) rfl rfl ?_
   refine wpL_done (fun W17 hW17 => ?_)
   change Code.wp ..
   refine wp_cond_true rfl ?_
   refine wp_seq ?_
   refine wp_region_L _ hW17 ?_
   refine lm (v := .bool false) rfl rfl ?_
   refine wpL_done (fun W18 hW18 => ?_)
   change Code.wp ..
   refine wp_ret ?_
   try simp only [inBlock_ret, then_ret]
   refine bodyPost_ret (v := .bool false) ?_ rfl ?_
   · kernel_rfl
   · exact ⟨(bool_is (by unfold colsX; rw [decide_eq_true h1]; rfl)), hW18.1⟩
end Go.Proofs.Ytnbfljcilojllaa
namespace Go.Proofs.Ytnbfljcilojllaa
open Go Go.RowKit Tw
set_option maxRecDepth 100000 in
set_option maxHeartbeats 4000000 in
theorem coversRight_any (os : List Cov) (po : Option Addr) (co : Nat) (w : World) (ho : SLV w po (os.flatMap covC)) (hr : RwR w os) (lr : ∀ o ∈ os, o.rows.length ≤ 4000000000) : Calls Try.prog 86 #[.slice po os.length co] w fun e w' => e = .returned (.bool (ovsX os)) ∧ Below w.heap.size w w' := by
 have HO := Lib.hid ho
 clear ho
 have HR := Lib.hid hr
 clear hr
 go_enter Try.func86, Try.ntmps86
 refine wp_seq ?_
 refine wp_region_L [] (KS.start w) ?_
 refine lm (v := .bool false) rfl rfl ?_
 refine wpL_done (fun W1 hW1 => ?_)
 change Code.wp ..
 refine wp_seq ?_
 refine wp_seq ?_
 refine wp_region_L _ hW1 ?_
 refine lm (v := .slice po os.length co) rfl rfl ?_
 refine lp (v := .int .i64 ((os.length : Nat) : Int)) rfl rfl (run_lenL (p := po) (cap := co) (n := os.length) rfl Try.underlying23 Tw.kr) ?_
 refine lp (v := .bool (decide (40 < os.length))) rfl rfl (run_bin rfl (vx := (.int .i64 ((os.length : Nat) : Int))) (vy := (.int .i64 ((40 : Nat) : Int))) Tw.kr Tw.kr fun w => bn_gtr rfl w) ?_
 refine wpL_done (fun W2 hW2 => ?_)
 change Code.wp ..
 cases hd1 : (decide (40 < os.length)) with
 | false =>
   have h1 : ¬ (40 < os.length) := of_decide_eq_false hd1
   clear hd1
   refine wp_cond_false rfl ?_
   refine wp_skip ?_
   change Code.wp ..
   refine wp_seq ?_
   refine wp_region_L _ hW2 ?_
   refine wpL_new (fun g => .map (some g)) (obi := .map #[] 0) rfl rfl Tw.kf Tw.pf fun g1 Bg1 Fg1 => ?_
   refine lm (v := .map (some g1)) rfl rfl ?_
   refine wpL_done (fun W3 hW3 => ?_)
   change Code.wp ..
   refine wp_seq ?_
   refine wp_seq ?_
   refine wp_region_L _ hW3 ?_
   refine lm (v := .slice po os.length co) rfl rfl ?_
   refine lp (v := .int .i64 ((os.length : Nat) : Int)) rfl rfl (run_lenL (p := po) (cap := co) (n := os.length) rfl Try.underlying23 Tw.kr) ?_
   refine lm (v := .int .i64 0) rfl rfl ?_
   refine wpL_done (fun W4 hW4 => ?_)
   change Code.wp ..
   refine wp_block ?_
   go_loopw [15] (fun u15 wr => ∃ (k : Nat) (es : Array MapEntry) (cl : Nat) (L : List I2), (k ≤ os.length) ∧ (ovsF [] os = ovsF L (os.drop k)) ∧ (SetM kv2 es L) ∧ u15 = .int .i64 ((k : Nat) : Int) ∧ KS w [(g1, .map es cl)] wr) (fun u15 _ => os.length - (intOf u15).toNat)
   case atStart => exact ⟨0, #[], 0, [], (Nat.zero_le _), rfl, SetM.nil, rfl, (hW4.sub (fun p hp => by first | exact hp | (simp only [List.mem_cons, List.mem_append, List.nil_append, List.not_mem_nil, or_assoc, or_false, false_or] at hp ⊢ <;> grind)))⟩
   case round =>
     obtain ⟨k, es, cl, L, hk, hR, hS, rfl, hL5⟩ := hrel
     refine wp_seq ?_
     refine wp_region_L _ hL5 ?_
     refine lp (v := .bool (decide (k < os.length))) rfl rfl (run_bin rfl (vx := (.int .i64 ((k : Nat) : Int))) (vy := (.int .i64 ((os.length : Nat) : Int))) Tw.kr Tw.kr fun w => bn_lss rfl w) ?_
     refine wpL_done (fun W6 hW6 => ?_)
     change Code.wp ..
     refine wp_seq ?_
     cases hd2 : (decide (k < os.length)) with
     | false =>
       have h2 : ¬ (k < os.length) := of_decide_eq_false hd2
       clear hd2
       refine wp_cond_false rfl ?_
       refine wp_exit ?_
       change Code.wp ..
       refine wp_seq ?_
       refine wp_region_L _ hW6 ?_
       refine lm (v := .bool true) rfl rfl ?_
       refine wpL_done (fun W7 hW7 => ?_)
       change Code.wp ..
       refine wp_ret ?_
       try simp only [inBlock_ret, then_ret]
       refine bodyPost_ret (v := .bool true) ?_ rfl ?_
       · kernel_rfl
       · exact ⟨(bool_is (by unfold ovsX; rw [decide_eq_false h1, hR, ovs_end h2]; rfl)), hW7.1⟩
     | true =>
       have h2 : k < os.length := of_decide_eq_true hd2
       clear hd2
       refine wp_cond_true rfl ?_
       refine wp_skip ?_
       change Code.wp ..
       refine wp_seq ?_
       refine wp_block ?_
       refine wp_seq ?_
       refine wp_region_L _ hW6 ?_
       obtain ⟨y2, g2_, f2_, hy2, hp2, hc2⟩ := RL.at (RL.base HO.out) covC_len (by decide) (hW6.sub (fun _ h => by cases h)) (k := k) Tw.om
       refine lp (v := .pointer (some ⟨g2_, f2_ + k * 2, none⟩)) rfl rfl (run_idxQ (p := po) (cap := co) (n := os.length) (j := .i64) (k := k) (sz := 2) rfl Try.underlying23 Tw.kr Tw.kr hp2 Tw.kr Tw.om) ?_
       refine lv (v := .agg (covC y2).toArray) rfl rfl (yb_rs (off := f2_ + k * 2) (cs := covC y2) rfl Tw.kr (fun W hW => hc2 W (hW.sub (fun _ h => by cases h))) Try.underlying123 rfl Tw.kr) ?_
       refine wpL_new (fun g => .pointer (some ⟨g, 0, none⟩)) (obi := .cells #[.int .i64 0, .slice none 0 0] 123 (0, 0)) rfl rfl Tw.kf Tw.pf fun g3 Bg3 Fg3 => ?_
       obtain dj4_0 : g1 ≠ g3 := Tw.dkf Fg3
       refine wpL_s [(g3, .cells (covC y2).toArray 123 (0, 0)), (g1, .map es cl)] rfl rfl (st_row (off := 0) (v := .agg (covC y2).toArray) rfl Tw.kr Tw.kr Tw.m0 Bg3 Tw.kr (by first | (simp [Value.cells]; done) | exact Nat.le_of_ble_eq_true rfl) (fun v hv => covC_one y2 v hv) Tw.kr (List.forall_mem_cons.2 ⟨.inl rfl, (List.forall_mem_cons.2 ⟨.inr ⟨Tw.m1, Tw.nee⟩, (List.forall_mem_nil _)⟩)⟩)) ?_
       refine wpL_done (fun W8 hW8 => ?_)
       change Code.wp ..
       refine wp_seq ?_
       refine wp_seq ?_
       refine wp_region_L _ hW8 ?_
       refine lv (v := .agg (covC y2).toArray) rfl rfl (yb_load (n := 2) (off := 0) rfl Tw.kr Tw.m0 Try.underlying123 rfl Tw.kr (by first | (simp [Value.cells]; done) | exact Nat.le_of_ble_eq_true rfl) Tw.kr) ?_
       refine lv (v := .bool (ovX y2)) rfl rfl (yb_call (f := 102) (args := #[.agg (covC y2).toArray]) Tw.kf fun W hW => coverRight_any y2 (lr y2 (List.mem_of_getElem? hy2)) W ((RL.base (HR.out y2 (List.mem_of_getElem? hy2))) _ (hW.sub (fun _ h => by cases h)))) ?_
       refine lp (v := .bool (!(ovX y2))) rfl rfl (run_un rfl Tw.kr fun w => un_not w) ?_
       refine wpL_done (fun W9 hW9 => ?_)
       change Code.wp ..
       cases h3 : (ovX y2) with
       | false =>
         refine wp_cond_true rfl ?_
         refine wp_seq ?_
         refine wp_region_L _ hW9 ?_
         refine lm (v := .bool false) rfl rfl ?_
         refine wpL_done (fun W10 hW10 => ?_)
         change Code.wp ..
         refine wp_ret ?_
         try simp only [inBlock_ret, then_ret]
         refine bodyPost_ret (v := .bool false) ?_ rfl ?_
         · kernel_rfl
         · exact ⟨(bool_is (by unfold ovsX; rw [decide_eq_false h1, hR, ovs_step hy2, h3]; rfl)), hW10.1⟩
       | true =>
         refine wp_cond_false rfl ?_
         refine wp_skip ?_
         change Code.wp ..
         refine wp_seq ?_
         refine wp_region_L _ hW9 ?_
         refine lm (v := .pointer (some ⟨g3, 1, none⟩)) rfl rfl ?_
         refine lv (v := .slice y2.rp y2.rows.length y2.rc) rfl rfl (yb_cell (off := 1) rfl Tw.kr Tw.m0 Try.underlying44 rfl Tw.kr) ?_
         refine lp (v := .int .i64 ((y2.rows.length : Nat) : Int)) rfl rfl (run_lenL (p := y2.rp) (cap := y2.rc) (n := y2.rows.length) rfl Try.underlying44 Tw.kr) ?_
         refine lm (v := .int .i64 0) rfl rfl ?_
         refine wpL_done (fun W11 hW11 => ?_)
         change Code.wp ..
         refine wp_block ?_
         have lz2 := lr y2 (List.mem_of_getElem? hy2)
         go_loopw [25] (fun u25 wr => ∃ (m : Nat) (es2 : Array MapEntry) (cl2 : Nat), (m ≤ y2.rows.length) ∧ (freshF y2.bay L y2.rows = freshF y2.bay (L ++ (y2.rows.take m).map (fun r => (y2.bay, r))) (y2.rows.drop m)) ∧ (SetM kv2 es2 (L ++ (y2.rows.take m).map (fun r => (y2.bay, r)))) ∧ u25 = .int .i64 ((m : Nat) : Int) ∧ KS w [(g3, .cells (covC y2).toArray 123 (0, 0)), (g1, .map es2 cl2)] wr) (fun u25 _ => y2.rows.length - (intOf u25).toNat)
         case atStart => exact ⟨0, es, cl, (Nat.zero_le _), (by rw [List.take_zero, List.map_nil, List.append_nil]; rfl), (by rw [List.take_zero, List.map_nil, List.append_nil]; exact hS), rfl, (hW11.sub (fun p hp => by first | exact hp | (simp only [List.mem_cons, List.mem_append, List.nil_append, List.not_mem_nil, or_assoc, or_false, false_or] at hp ⊢ <;> grind)))⟩
         case round =>
           obtain ⟨m, es2, cl2, hm, hI, hT, rfl, hL12⟩ := hrel
           refine wp_seq ?_
           refine wp_region_L _ hL12 ?_
           refine lp (v := .bool (decide (m < y2.rows.length))) rfl rfl (run_bin rfl (vx := (.int .i64 ((m : Nat) : Int))) (vy := (.int .i64 ((y2.rows.length : Nat) : Int))) Tw.kr Tw.kr fun w => bn_lss rfl w) ?_
           refine wpL_done (fun W13 hW13 => ?_)
           change Code.wp ..
           refine wp_seq ?_
           cases hd4 : (decide (m < y2.rows.length)) with
           | false =>
             have h4 : ¬ (m < y2.rows.length) := of_decide_eq_false hd4
             clear hd4
             refine wp_cond_false rfl ?_
             refine wp_exit ?_
             change Code.wp ..
             refine wp_region_L _ hW13 ?_
             refine lp (v := .int .i64 (((k + 1) : Nat) : Int)) rfl rfl (run_bin rfl (vx := (.int .i64 ((k : Nat) : Int))) (vy := (.int .i64 ((1 : Nat) : Int))) Tw.kr Tw.kr fun w => bn_add (z := (k + 1)) rfl (wr_i64 Tw.om) w) ?_
             refine lm (v := .int .i64 (((k + 1) : Nat) : Int)) rfl rfl ?_
             refine wpL_done (fun W14 hW14 => ?_)
             go_roundw
             case rel =>
               repeat apply Exists.intro
               exact ⟨⟨k + 1, es2, cl2, (L ++ y2.rows.map (fun r => (y2.bay, r))), Tw.om, (by rw [hR, ovs_step hy2, h3, hI, fresh_end h4]; rfl), (by rw [show y2.rows.take m = y2.rows from List.take_of_length_le Tw.om] at hT; exact hT), rfl, (hW14.sub (fun p hp => by first | exact hp | (simp only [List.mem_cons, List.mem_append, List.nil_append, List.not_mem_nil, or_assoc, or_false, false_or] at hp ⊢ <;> grind)))⟩, rfl⟩
             case measure => (show os.length - (intOf (.int .i64 (((k + 1) : Nat) : Int))).toNat < os.length - (intOf (.int .i64 ((k : Nat) : Int))).toNat); simp only [intOf]; omega
           | true =>
             have h4 : m < y2.rows.length := of_decide_eq_true hd4
             clear hd4
             refine wp_cond_true rfl ?_
             refine wp_skip ?_
             change Code.wp ..
             refine wp_seq ?_
             refine wp_block ?_
             refine wp_seq ?_
             refine wp_region_L _ hW13 ?_
             obtain ⟨y5, g5_, f5_, hy5, hp5, hc5⟩ := RL.at (RL.base (HR.out y2 (List.mem_of_getElem? hy2))) inC_len (by decide) (hW13.sub (fun _ h => by cases h)) (k := m) Tw.om
             refine lp (v := .pointer (some ⟨g5_, f5_ + m * 1, none⟩)) rfl rfl (run_idxQ (p := y2.rp) (cap := y2.rc) (n := y2.rows.length) (j := .i64) (k := m) (sz := 1) rfl Try.underlying44 Tw.kr Tw.kr hp5 Tw.kr Tw.om) ?_
             refine lv (v := .int .i64 y5) rfl rfl (yb_rf (v := .int .i64 y5) rfl Tw.kr (fun W hW => hc5 W (hW.sub (fun _ h => by cases h)) 0 _ rfl) Try.underlying3 rfl) ?_
             refine lm (v := .int .i64 y5) rfl rfl ?_
             refine wpL_done (fun W15 hW15 => ?_)
             change Code.wp ..
             refine wp_seq ?_
             refine wp_region_L _ hW15 ?_
             refine lm (v := .pointer (some ⟨g3, 0, none⟩)) rfl rfl ?_
             refine lv (v := .int .i64 y2.bay) rfl rfl (yb_cell (off := 0) rfl Tw.kr Tw.m0 Try.underlying3 rfl Tw.kr) ?_
             refine lm (v := .int .i64 y5) rfl rfl ?_
             refine lm (v := .agg #[.int .i64 y2.bay, .int .i64 y5]) rfl rfl ?_
             refine wpL_new (fun g => .pointer (some ⟨g, 0, none⟩)) (obi := .cells #[.int .i64 0, .int .i64 0] 181 (0, 0)) rfl rfl Tw.kf Tw.pf fun g6 Bg6 Fg6 => ?_
             obtain ⟨dj7_0, dj7_1⟩ : g3 ≠ g6 ∧ g1 ≠ g6 := Tw.dkf Fg6
             refine wpL_s [(g6, .cells #[.int .i64 y2.bay, .int .i64 y5] 181 (0, 0)), (g3, .cells (covC y2).toArray 123 (0, 0)), (g1, .map es2 cl2)] rfl rfl (st_row (off := 0) (v := .agg #[.int .i64 y2.bay, .int .i64 y5]) rfl Tw.kr Tw.kr Tw.m0 Bg6 Tw.kr (by first | (simp [Value.cells]; done) | exact Nat.le_of_ble_eq_true rfl) (by intro v hv; simp [Value.cells] at hv; first | (subst hv; rfl) | (rcases hv with rfl | rfl <;> rfl)) Tw.kr (List.forall_mem_cons.2 ⟨.inl rfl, (List.forall_mem_cons.2 ⟨.inr ⟨Tw.m1, Tw.nee⟩, (List.forall_mem_cons.2 ⟨.inr ⟨Tw.m2, Tw.nee⟩, (List.forall_mem_nil _)⟩)⟩)⟩)) ?_
             refine wpL_done (fun W16 hW16 => ?_)
             change Code.wp ..
             refine wp_seq ?_
             refine wp_seq ?_
             refine wp_region_L _ hW16 ?_
             refine lm (v := .map (some g1)) rfl rfl ?_
             refine lv (v := .agg #[.int .i64 y2.bay, .int .i64 y5]) rfl rfl (yb_load (n := 2) (off := 0) rfl Tw.kr Tw.m0 Try.underlying181 rfl Tw.kr (by first | (simp [Value.cells]; done) | exact Nat.le_of_ble_eq_true rfl) Tw.kr) ?_
             refine lv (v := .bool (decide ((y2.bay, y5) ∈ (L ++ (y2.rows.take m).map (fun r => (y2.bay, r)))))) rfl rfl (yb_lookset key2 (k := (y2.bay, y5)) (L := (L ++ (y2.rows.take m).map (fun r => (y2.bay, r)))) rfl Tw.kr Tw.kr Tw.m2 Try.underlying179 Tw.kf hT decide_eq_true_iff) ?_
             refine wpL_done (fun W17 hW17 => ?_)
             change Code.wp ..
             cases hd5 : (decide ((y2.bay, y5) ∈ (L ++ (y2.rows.take m).map (fun r => (y2.bay, r))))) with
             | false =>
               have h5 : ¬ ((y2.bay, y5) ∈ (L ++ (y2.rows.take m).map (fun r => (y2.bay, r)))) := of_decide_eq_false hd5
               clear hd5
               refine wp_cond_false rfl ?_
               refine wp_skip ?_
               change Code.wp ..
               refine wp_region_L _ hW17 ?_
               refine lm (v := .map (some g1)) rfl rfl ?_
               refine lv (v := .agg #[.int .i64 y2.bay, .int .i64 y5]) rfl rfl (yb_load (n := 2) (off := 0) rfl Tw.kr Tw.m0 Try.underlying181 rfl Tw.kr (by first | (simp [Value.cells]; done) | exact Nat.le_of_ble_eq_true rfl) Tw.kr) ?_
               refine wpL_s [(g6, .cells #[.int .i64 y2.bay, .int .i64 y5] 181 (0, 0)), (g3, .cells (covC y2).toArray 123 (0, 0)), (g1, .map (addM kv2 es2 cl2 (y2.bay, y5)) (cl2 + 1))] rfl rfl (st_addm key2 (k := (y2.bay, y5)) (L := (L ++ (y2.rows.take m).map (fun r => (y2.bay, r)))) rfl Tw.kr Tw.kr Tw.kr Tw.m2 Bg1 Try.underlying179 hT h5 (List.forall_mem_cons.2 ⟨.inr ⟨Tw.m0, Tw.nee⟩, (List.forall_mem_cons.2 ⟨.inr ⟨Tw.m1, Tw.nee⟩, (List.forall_mem_cons.2 ⟨.inl rfl, (List.forall_mem_nil _)⟩)⟩)⟩)) ?_
               refine wpL_done (fun W18 hW18 => ?_)
               change Code.wp ..
               refine wp_region_L _ hW18 ?_
               refine lp (v := .int .i64 (((m + 1) : Nat) : Int)) rfl rfl (run_bin rfl (vx := (.int .i64 ((m : Nat) : Int))) (vy := (.int .i64 ((1 : Nat) : Int))) Tw.kr Tw.kr fun w => bn_add (z := (m + 1)) rfl (wr_i64 Tw.om) w) ?_
               refine lm (v := .int .i64 (((m + 1) : Nat) : Int)) rfl rfl ?_
               refine wpL_done (fun W19 hW19 => ?_)
               go_roundw
               case rel =>
                 repeat apply Exists.intro
                 exact ⟨⟨m + 1, (addM kv2 es2 cl2 (y2.bay, y5)), (cl2 + 1), Tw.om, (by rw [hI, fresh_step hy5, decide_eq_false h5, map_snoc (fun r => (y2.bay, r)) hy5, List.append_assoc]; rfl), (by rw [map_snoc (fun r => (y2.bay, r)) hy5, ← List.append_assoc]; exact (SetM.add hT cl2 (y2.bay, y5))), rfl, (hW19.sub (fun p hp => by first | exact hp | (simp only [List.mem_cons, List.mem_append, List.nil_append, List.not_mem_nil, or_assoc, or_false, false_or] at hp ⊢ <;> grind)))⟩, rfl⟩
               case measure => (show y2.rows.length - (intOf (.int .i64 (((m + 1) : Nat) : Int))).toNat < y2.rows.length - (intOf (.int .i64 ((m : Nat) : Int))).toNat); simp only [intOf]; omega
             | true =>
               have h5 : (y2.bay, y5) ∈ (L ++ (y2.rows.take m).map (fun r => (y2.bay, r))) := of_decide_eq_true hd5
               clear hd5
               refine wp_cond_true rfl ?_
               refine wp_seq ?_
               refine wp_region_L _ hW17 ?_
               refine lm (v := .bool false) rfl rfl ?_
               refine wpL_done (fun W20 hW20 => ?_)
               change Code.wp ..
               refine wp_ret ?_
               try simp only [inBlock_ret, then_ret]
               refine bodyPost_ret (v := .bool false) ?_ rfl ?_
               · kernel_rfl
               · exact ⟨(bool_is (by unfold ovsX; rw [decide_eq_false h1, hR, ovs_step hy2, h3, hI, fresh_step hy5, decide_eq_true h5]; rfl)), hW20.1⟩
 | true =>
   have h1 : 40 < os.length := of_decide_eq_true hd1
   clear hd1
   refine wp_cond_true rfl ?_
   refine wp_seq ?_
   refine wp_region_L _ hW2 ?_
   refine lm (v := .bool false) rfl rfl ?_
   refine wpL_done (fun W21 hW21 => ?_)
   change Code.wp ..
   refine wp_ret ?_
   try simp only [inBlock_ret, then_ret]
   refine bodyPost_ret (v := .bool false) ?_ rfl ?_
   · kernel_rfl
   · exact ⟨(bool_is (by unfold ovsX; rw [decide_eq_true h1]; rfl)), hW21.1⟩
set_option maxRecDepth 100000 in
set_option maxHeartbeats 4000000 in
theorem Right_any (cs : List Col) (pc : Option Addr) (cc : Nat) (lc : cs.length ≤ 4000000000) (os : List Cov) (po : Option Addr) (co : Nat) (lo : os.length ≤ 4000000000) (t : Tl) (w : World) (hc : SLV w pc (cs.flatMap colC)) (ho : SLV w po (os.flatMap covC)) (hr : RwR w os) (lr : ∀ o ∈ os, o.rows.length ≤ 4000000000) (hq : PlR w cs) (lq : ∀ c ∈ cs, c.plugs.length ≤ 4000000000) : Calls Try.prog 67 #[.agg (shC (.slice pc cs.length cc) (.slice po os.length co) t).toArray] w fun e w' => e = .returned (.bool (rightX cs os)) ∧ Below w.heap.size w w' := by
 have HC := Lib.hid hc
 clear hc
 have HO := Lib.hid ho
 clear ho
 have HR := Lib.hid hr
 clear hr
 have HQ := Lib.hid hq
 clear hq
 go_enter Try.func67, Try.ntmps67
 refine wp_seq ?_
 refine wp_region_L [] (KS.start w) ?_
 refine wpL_new (fun g => .pointer (some ⟨g, 0, none⟩)) (obi := .cells (shC (.slice pc cs.length cc) (.slice po os.length co) t).toArray 32 (0, 0)) rfl rfl Tw.kf Tw.pf fun g1 Bg1 Fg1 => ?_
 refine lm (v := .bool false) rfl rfl ?_
 refine wpL_done (fun W1 hW1 => ?_)
 change Code.wp ..
 refine wp_seq ?_
 refine wp_region_L _ hW1 ?_
 refine lm (v := .pointer (some ⟨g1, 0, none⟩)) rfl rfl ?_
 refine lv (v := .slice pc cs.length cc) rfl rfl (yb_cell (off := 0) rfl Tw.kr Tw.m0 Try.underlying22 rfl Tw.kr) ?_
 refine lv (v := .bool (colsX cs)) rfl rfl (yb_call (f := 85) (args := #[.slice pc cs.length cc]) Tw.kf fun W hW => columnsRight_any cs pc cc W ((RL.base HC.out) _ (hW.sub (fun _ h => by cases h))) (HQ.out.keep hW.1) lq) ?_
 refine lm (v := .bool (colsX cs)) rfl rfl ?_
 cases h1 : (colsX cs) with
 | false =>
   refine ln rfl ?_
   refine ln rfl ?_
   refine ln rfl ?_
   refine lm (v := .bool false) rfl rfl ?_
   refine lm (v := .bool false) rfl rfl ?_
   refine wpL_done (fun W2 hW2 => ?_)
   change Code.wp ..
   refine wp_ret ?_
   try simp only [inBlock_ret, then_ret]
   refine bodyPost_ret (v := .bool false) ?_ rfl ?_
   · kernel_rfl
   · exact ⟨(bool_is (by unfold rightX; simp [*])), hW2.1⟩
 | true =>
   refine lm (v := .pointer (some ⟨g1, 1, none⟩)) rfl rfl ?_
   refine lv (v := .slice po os.length co) rfl rfl (yb_cell (off := 1) rfl Tw.kr Tw.m0 Try.underlying23 rfl Tw.kr) ?_
   refine lv (v := .bool (ovsX os)) rfl rfl (yb_call (f := 86) (args := #[.slice po os.length co]) Tw.kf fun W hW => coversRight_any os po co W ((RL.base HO.out) _ (hW.sub (fun _ h => by cases h))) (HR.out.keep hW.1) lr) ?_
   refine lm (v := .bool (ovsX os)) rfl rfl ?_
   refine lm (v := .bool (ovsX os)) rfl rfl ?_
   refine wpL_done (fun W3 hW3 => ?_)
   change Code.wp ..
   refine wp_ret ?_
   try simp only [inBlock_ret, then_ret]
   refine bodyPost_ret (v := .bool (ovsX os)) ?_ rfl ?_
   · kernel_rfl
   · exact ⟨(bool_is (by unfold rightX; simp [*])), hW3.1⟩
end Go.Proofs.Ytnbfljcilojllaa
namespace Go.Proofs.Ytnbfljcilojllaa
open Go Go.RowKit Tw
end Go.Proofs.Ytnbfljcilojllaa
/- Ships that are built from places and bits: plain data. -/
namespace Go.Proofs.Ytnbfljcilojllaa
open Go Go.RowKit Tw
structure Pl where
 bay : Nat
 row : Nat
 tiers : Nat
 deck : Bool
def plC (p : Pl) : List Value := [.int .u8 ((p.bay : Nat) : Int), .int .u8 ((p.row : Nat) : Int), .int .u8 ((p.tiers : Nat) : Int), .bool p.deck]
def plOk (p : Pl) : Prop := p.bay ≤ 255 ∧ p.row ≤ 255 ∧ p.tiers ≤ 255
theorem plC_len (p : Pl) : (plC p).length = 4 := rfl
theorem plC_one (p : Pl) : ∀ v ∈ plC p, v.oneCell' = true := fun v hv => by
 unfold plC at hv
 simp only [List.mem_cons, List.not_mem_nil, or_false] at hv
 rcases hv with rfl | rfl | rfl | rfl <;> rfl
def colD (p : Pl) (d : Bool) : Col := ⟨((p.bay % 5 : Nat) : Int), ((p.row % 5 : Nat) : Int), d, ((2 + p.tiers % 4 : Nat) : Int), 0, 500000000, 500000000, 0, [], none, 0, ((13000 * (p.bay % 5) : Nat) : Int) - 26000, ((2500 * (p.row % 5) : Nat) : Int) - 5000, if d = true then 20000 else 2000⟩
def colOf (p : Pl) : Col := colD p p.deck
def col1 : Col := ⟨0, 0, false, 3, 0, 500000000, 500000000, 0, [], none, 0, 0, 0, 2000⟩
def addC (cs : List Col) (c : Col) : List Col := if (fst (isAt c.bay c.row c.deck) cs).isSome = true then cs else cs ++ [c]
def bld (l : List Pl) : List Col := l.foldl (fun cs p => addC cs (colOf p)) []
theorem bld_snoc {l : List Pl} {k : Nat} {p : Pl} (h : l[k]? = some p) : bld (l.take (k + 1)) = addC (bld (l.take k)) (colOf p) := by
 obtain ⟨hk, rfl⟩ := List.getElem?_eq_some_iff.1 h
 unfold bld
 rw [List.take_succ_eq_append_getElem hk, List.foldl_append]; rfl
def builtC (l : List Pl) : List Col := if (bld (l.take (min l.length 12))).length = 0 then [col1] else bld (l.take (min l.length 12))
def bitO (n i : Nat) : Bool := decide (n / 2 ^ i % 2 = 1)
def covAt (n i : Nat) : List (Int × List Int) := (if bitO n (2 * i) = true then [(((i : Nat) : Int), [0, 1])] else []) ++ (if bitO n (2 * i + 1) = true then [(((i : Nat) : Int), [2, 3, 4])] else [])
def covTo (n : Nat) : Nat → List (Int × List Int)
 | 0 => []
 | i + 1 => covTo n i ++ covAt n i
def builtO (n : Nat) : List (Int × List Int) := covTo n 5
theorem covAt_len (n i : Nat) : (covAt n i).length ≤ 2 := by
 unfold covAt
 rw [List.length_append]
 split <;> split <;> simp
theorem covTo_len (n : Nat) : ∀ i, (covTo n i).length ≤ 2 * i
 | 0 => Nat.le_refl _
 | i + 1 => by
   have h1 := covTo_len n i
   have h2 := covAt_len n i
   show (covTo n i ++ covAt n i).length ≤ _
   rw [List.length_append]; omega
theorem bld_len (l : List Pl) : (bld l).length ≤ l.length := by
 have key : ∀ (l : List Pl) (cs : List Col), (l.foldl (fun cs p => addC cs (colOf p)) cs).length ≤ cs.length + l.length := by
   intro l
   induction l with
   | nil => intro cs; exact Nat.le_refl _
   | cons p l ih =>
     intro cs
     have h1 := ih (addC cs (colOf p))
     have h2 : (addC cs (colOf p)).length ≤ cs.length + 1 := by
       unfold addC
       split
       · omega
       · rw [List.length_append]; exact Nat.le_refl _
     rw [List.foldl_cons, List.length_cons]; omega
 simpa [bld] using key l []
theorem built_len (l : List Pl) : 0 < (builtC l).length ∧ (builtC l).length ≤ 12 := by
 unfold builtC
 split
 · exact ⟨by simp, by simp⟩
 · rename_i h
   have h1 := bld_len (l.take (min l.length 12))
   rw [List.length_take] at h1
   omega
theorem builtO_len (n : Nat) : (builtO n).length ≤ 10 := covTo_len n 5
section
variable {cs : List Col} {p : Pl} {d : Bool}
theorem add_yes (h : p.deck = d) (hf : (fst (isAt ((p.bay % 5 : Nat) : Int) ((p.row % 5 : Nat) : Int) d) cs).isSome = true) : addC cs (colOf p) = cs := by
 subst h
 exact if_pos hf
theorem add_no (h : p.deck = d) (hf : (fst (isAt ((p.bay % 5 : Nat) : Int) ((p.row % 5 : Nat) : Int) d) cs).isSome = false) : addC cs (colOf p) = cs ++ [colD p d] := by
 subst h
 exact if_neg (by rw [show (colOf p).bay = ((p.bay % 5 : Nat) : Int) from rfl, show (colOf p).row = ((p.row % 5 : Nat) : Int) from rfl, show (colOf p).deck = p.deck from rfl, hf]; simp)
end
section
variable {n i : Nat}
theorem cov_00 (h : ¬ (n / 2 ^ (2 * i) % 2 = 1)) (h2 : ¬ (n / 2 ^ (2 * i + 1) % 2 = 1)) : covTo n (i + 1) = covTo n i := by
 show covTo n i ++ covAt n i = _
 simp [covAt, bitO, h, h2]
theorem cov_10 (h : n / 2 ^ (2 * i) % 2 = 1) (h2 : ¬ (n / 2 ^ (2 * i + 1) % 2 = 1)) : covTo n (i + 1) = covTo n i ++ [(((i : Nat) : Int), [0, 1])] := by
 show covTo n i ++ covAt n i = _
 simp [covAt, bitO, h, h2]
theorem cov_01 (h : ¬ (n / 2 ^ (2 * i) % 2 = 1)) (h2 : n / 2 ^ (2 * i + 1) % 2 = 1) : covTo n (i + 1) = covTo n i ++ [(((i : Nat) : Int), [2, 3, 4])] := by
 show covTo n i ++ covAt n i = _
 simp [covAt, bitO, h, h2]
theorem cov_11 (h : n / 2 ^ (2 * i) % 2 = 1) (h2 : n / 2 ^ (2 * i + 1) % 2 = 1) : covTo n (i + 1) = covTo n i ++ [(((i : Nat) : Int), [0, 1]), (((i : Nat) : Int), [2, 3, 4])] := by
 show covTo n i ++ covAt n i = _
 simp [covAt, bitO, h, h2]
end
theorem own_app {α : Type} {cells : α → List Value} {sz : Nat} {W0 : Base} {E : TypeId} {v : Value} {n : Nat} {l' : List α} {xs : List Value} {K : List (Nat × Obj)} (h : OwnL W0 E sz v n xs K) (e : xs = l'.flatMap cells) (e2 : n = l'.length) : OwnL W0 E sz v l'.length (l'.flatMap cells) K := by
 subst e e2; exact h
theorem el_col : Elem Try.prog 22 46 12 112 (.agg #[.int .i64 0, .int .i64 0, .bool false, .int .i64 0, .int .i64 0, .int .i64 0, .int .i64 0, .int .i64 0, .slice none 0 0, .int .i64 0, .int .i64 0, .int .i64 0]) := Elem.mk' Try.underlying22 Tw.kr rfl
theorem el_cov : Elem Try.prog 23 123 2 32 (.agg #[.int .i64 0, .slice none 0 0]) := Elem.mk' Try.underlying23 Tw.kr rfl
theorem bn_and {P : Program} {T : TypeId} {px py : Operand} {k : IntKind} {x y z : Nat} (h : x &&& y = z) (hx : x < 2 ^ k.bits) (hy : y < 2 ^ k.bits) (hw : k.wrap (z : Int) = (z : Int)) (w : World) : (do eqGuard .and T px py (.int k (x : Int)) (.int k (y : Int)); binOp .and T (.int k (x : Int)) (.int k (y : Int)) : Sem Value).run P w = .ok (.int k (z : Int)) w := by
 simp [eqGuard, binOp, Op.intBits]
 rw [Nat.mod_eq_of_lt hx, Nat.mod_eq_of_lt hy, h, hw]
end Go.Proofs.Ytnbfljcilojllaa
namespace Go.Proofs.Ytnbfljcilojllaa
open Go Go.RowKit Tw
end Go.Proofs.Ytnbfljcilojllaa
/- What ships that are built are: plain facts. -/
namespace Go.Proofs.Ytnbfljcilojllaa
open Go Go.RowKit Tw
def Good (cs : List Col) : Prop := (∀ c ∈ cs, colX c = true ∧ c.plugs = []) ∧ (cs.map placeX).Nodup
theorem colx_in {c : Col} (h : colX c = true) : 0 ≤ c.bay ∧ c.bay ≤ 39 ∧ 0 ≤ c.row ∧ c.row ≤ 30 ∧ 1 ≤ c.tiers ∧ c.tiers ≤ 10 := by
 unfold colX rangesX at h
 simp only [rgsX, Bool.and_eq_true, Bool.not_eq_true', decide_eq_false_iff_not] at h
 omega
theorem colD_x (p : Pl) (d : Bool) : colX (colD p d) = true := by
 have h1 := Nat.mod_lt p.bay (show 0 < 5 by omega)
 have h2 := Nat.mod_lt p.row (show 0 < 5 by omega)
 have h3 := Nat.mod_lt p.tiers (show 0 < 4 by omega)
 unfold colX rangesX colD
 cases d <;> simp [rgsX, incX, incF] <;> omega
theorem isAt_place {b r : Int} {d : Bool} {c : Col} : isAt b r d c = true ↔ placeX c = (b, r, if d = true then 1 else 0) := by
 unfold isAt placeX
 cases d <;> cases hc : c.deck <;> simp [Bool.and_eq_true, Prod.ext_iff]
theorem add_good {cs : List Col} {p : Pl} (h : Good cs) : Good (addC cs (colOf p)) := by
 unfold addC
 split
 · exact h
 · rename_i hf
   refine ⟨fun c hc => ?_, ?_⟩
   · rcases List.mem_append.1 hc with hc | hc
     · exact h.1 c hc
     · cases List.mem_singleton.1 hc; exact ⟨colD_x _ _, rfl⟩
   · rw [List.map_append, List.nodup_append]
     refine ⟨h.2, by simp, fun x hx y hy => ?_⟩
     obtain ⟨c, hc, rfl⟩ := List.mem_map.1 hx
     have hy : y = placeX (colOf p) := by simpa using hy
     subst hy
     intro e
     apply hf
     have : isAt (colOf p).bay (colOf p).row (colOf p).deck c = true := isAt_place.2 e
     cases hh : fst (isAt (colOf p).bay (colOf p).row (colOf p).deck) cs with
     | some k => rfl
     | none => rw [fst_none hh c hc] at this; cases this
theorem bld_good (l : List Pl) : Good (bld l) := by
 have key : ∀ (l : List Pl) (cs : List Col), Good cs → Good (l.foldl (fun cs p => addC cs (colOf p)) cs) := by
   intro l
   induction l with
   | nil => intro cs h; exact h
   | cons p l ih => intro cs h; exact ih _ (add_good h)
 exact key l [] ⟨fun c hc => (by cases hc), by simp⟩
theorem built_good (l : List Pl) : Good (builtC l) := by
 unfold builtC
 split
 · exact ⟨fun c hc => by cases List.mem_singleton.1 hc; exact ⟨by decide, rfl⟩, by simp⟩
 · exact bld_good _
section
variable {cs : List Col}
theorem el_nat {α : Type} {d : α} {l : List α} {i : Nat} {y : α} (hy : l[i]? = some y) : elB l ((i : Nat) : Int) = true ∧ elC d l ((i : Nat) : Int) = y := el_in Tw.om (by simpa using hy)
theorem cols_iff {cs : List Col} : ∀ {L : List I3}, colsF L cs = true ↔ (∀ c ∈ cs, colX c = true) ∧ (cs.map placeX).Nodup ∧ ∀ c ∈ cs, placeX c ∉ L := by
 induction cs with
 | nil => intro L; simp [colsF]
 | cons c cs ih =>
   intro L
   show (colX c && (!decide (placeX c ∈ L) && colsF (L ++ [placeX c]) cs)) = true ↔ _
   simp only [Bool.and_eq_true, Bool.not_eq_true', decide_eq_false_iff_not, ih, List.mem_cons, forall_eq_or_imp, List.map_cons, List.nodup_cons, List.mem_append, List.mem_map, List.not_mem_nil, or_false, not_or]
   constructor
   · rintro ⟨h1, h2, h3, h4, h5⟩
     exact ⟨⟨h1, h3⟩, ⟨fun ⟨d, hd, he⟩ => (h5 d hd).2 he, h4⟩, h2, fun d hd => (h5 d hd).1⟩
   · rintro ⟨⟨h1, h3⟩, ⟨h6, h4⟩, h2, h5⟩
     exact ⟨h1, h2, h3, h4, fun d hd => ⟨h5 d hd, fun he => h6 ⟨d, hd, he⟩⟩⟩
end
def keysO (os : List (Int × List Int)) : List I2 := os.flatMap fun o => o.2.map fun r => (o.1, r)
def ovP (o : Int × List Int) : Bool := decide (0 ≤ o.1) && (decide (o.1 ≤ 39) && (decide (0 < o.2.length) && incX o.2 30))
def fullO : List (Int × List Int) := [(0, [0, 1]), (0, [2, 3, 4]), (1, [0, 1]), (1, [2, 3, 4]), (2, [0, 1]), (2, [2, 3, 4]), (3, [0, 1]), (3, [2, 3, 4]), (4, [0, 1]), (4, [2, 3, 4])]
theorem covAt_sub (n i : Nat) : (covAt n i).Sublist [(((i : Nat) : Int), [0, 1]), (((i : Nat) : Int), [2, 3, 4])] := by
 unfold covAt
 split <;> split <;> simp
theorem builtO_sub (n : Nat) : (builtO n).Sublist fullO := by
 have e : builtO n = covAt n 0 ++ (covAt n 1 ++ (covAt n 2 ++ (covAt n 3 ++ covAt n 4))) := by simp [builtO, covTo]
 rw [e]
 exact (covAt_sub n 0).append ((covAt_sub n 1).append ((covAt_sub n 2).append ((covAt_sub n 3).append (covAt_sub n 4))))
theorem keys_sub {a b : List (Int × List Int)} (h : a.Sublist b) : (keysO a).Sublist (keysO b) := by
 induction h with
 | slnil => exact List.Sublist.refl _
 | cons x _ ih => exact ih.trans (List.sublist_append_right _ _)
 | cons_cons x _ ih => exact (List.Sublist.refl _).append ih
def GoodO (ov : List (Int × List Int)) : Prop := ov.Sublist fullO
theorem goodO_in {ov : List (Int × List Int)} (h : GoodO ov) : (∀ o ∈ ov, ovP o = true) ∧ (keysO ov).Nodup ∧ ov.length ≤ 10 ∧ (∀ o ∈ ov, o.2.length ≤ 3) :=
 ⟨fun o ho => (show ∀ o ∈ fullO, ovP o = true by decide) o (h.subset ho), (keys_sub h).nodup (by decide), h.length_le, fun o ho => (show ∀ o ∈ fullO, o.2.length ≤ 3 by decide) o (h.subset ho)⟩
theorem goodO_rows {os : List Cov} (h : GoodO (os.map fun o => (o.bay, o.rows))) : ∀ o ∈ os, o.rows.length ≤ 4000000000 := fun o ho => by
 have := (goodO_in h).2.2.2 (o.bay, o.rows) (List.mem_map.2 ⟨o, ho, rfl⟩)
 have this : o.rows.length ≤ 3 := this
 omega
end Go.Proofs.Ytnbfljcilojllaa
/- What came in. -/
namespace Go.Proofs.Ytnbfljcilojllaa
open Go.ChangeShapes Go.WideShapes Go.ChangeAt Go.RowKit Tw
open Go
theorem own : ownKnob Try.prog.godebug = none := by kernel_rfl
theorem laidOut : laidOutB Try.prog = true := by kernel_rfl
theorem of_wf {k : IntKind} {n : Int} (h : (Lit.int k n).wf = true) : k.min ≤ n ∧ n ≤ k.max := by simpa [Lit.wf] using h
theorem opens_pl : OpensC Try.prog 128 plC plOk := by
 intro H enc w base sp held fuel cs x h
 obtain ⟨hl, hf⟩ := trod_fld Try.underlying128 h
 have c1 : Try.prog.cellsOf 5 = 1 := by kernel_rfl
 have c2 : Try.prog.cellsOf 4 = 1 := by kernel_rfl
 have c6 : Try.prog.cellsOf 128 = 4 := by kernel_rfl
 rw [c6] at hl
 obtain ⟨v0, v1, v2, v3, rfl⟩ : ∃ v0 v1 v2 v3, cs = [v0, v1, v2, v3] := by
   rcases cs with _ | ⟨v0, _ | ⟨v1, _ | ⟨v2, _ | ⟨v3, _ | ⟨v4, cs⟩⟩⟩⟩⟩ <;> simp at hl
   exact ⟨v0, v1, v2, v3, rfl⟩
 have key : ∀ (i : Nat) (f : Field) (v : Value), (#[v0, v1, v2, v3] : Array Value)[i]? = some v → f.type = 5 → f.offset = i → (∃ n y, DataW.trod enc Try.prog w base sp held n f.type ((([v0, v1, v2, v3] : List Value).drop f.offset).take (Try.prog.cellsOf f.type)) = some y) → ∃ n : Nat, v = .int .u8 ((n : Nat) : Int) ∧ n ≤ 255 := by
   intro i f v hv ht ho ⟨n, y, hy⟩
   rw [ht, c1, ho] at hy
   obtain ⟨z, hz, hz1, hz2⟩ := fld_int (P := Try.prog) Try.underlying5 hy
   have hv2 : ([v0, v1, v2, v3] : List Value)[i]? = some v := by simpa using hv
   obtain ⟨hi, hvi⟩ := List.getElem?_eq_some_iff.1 hv2
   rw [List.drop_eq_getElem_cons hi, hvi] at hz
   have hz0 : v = .int .u8 z := by simpa using hz
   have m1 : IntKind.u8.min = 0 := by decide
   have m2 : IntKind.u8.max = 255 := by decide
   rw [m1] at hz1; rw [m2] at hz2
   exact ⟨z.toNat, by rw [hz0, Int.toNat_of_nonneg hz1], by omega⟩
 obtain ⟨n0, rfl, b0⟩ := key 0 _ v0 rfl rfl rfl (hf 0 _ rfl)
 obtain ⟨n1, rfl, b1⟩ := key 1 _ v1 rfl rfl rfl (hf 1 _ rfl)
 obtain ⟨n2, rfl, b2⟩ := key 2 _ v2 rfl rfl rfl (hf 2 _ rfl)
 obtain ⟨n, y, hy⟩ := hf 3 _ rfl
 obtain ⟨d, hd⟩ := fld_bool (P := Try.prog) Try.underlying4 hy
 have hd0 : v3 = .bool d := by
   have e : Try.prog.cellsOf 4 = 1 := c2
   have hd2 : (([.int .u8 ((n0 : Nat) : Int), .int .u8 ((n1 : Nat) : Int), .int .u8 ((n2 : Nat) : Int), v3] : List Value).drop 3).take (Try.prog.cellsOf 4) = [.bool d] := hd
   rw [e] at hd2
   simpa using hd2
 subst hd0
 exact ⟨⟨n0, n1, n2, d⟩, rfl, b0, b1, b2⟩
end Go.Proofs.Ytnbfljcilojllaa
