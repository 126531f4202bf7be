import Derived.Test.YtlinjngifacmoaaDoorSB00
import Derived.RangeFuncNested
import Derived.RangeFuncBound
import Derived.RangeFuncCalls
import Derived.RangeFuncLeaves
import Derived.Shelf.Abstract
import Derived.Shelf.RegionOpen
import Derived.OwnWalkIn
import Derived.TacticsInMore
import Derived.LoopNIn
import Derived.LoopIn
import Derived.OrdersIn
/- Part of the proof: T7, T8, T9, TA, TC, L8a, L8b, L8c, Ia, If. -/
set_option linter.unusedVariables false
set_option linter.unusedSimpArgs false
set_option linter.unusedSectionVars false
namespace Go.Proofs.YtlinjngifacmoaaDoor
open Go Go.RowKit Tw
set_option maxRecDepth 100000 in
set_option maxHeartbeats 4000000 in
theorem Within_any (l : List Rg) (p : Option Addr) (c : Nat) (hl : l.length ≤ 4000000000) (w : World) (hp : SLV w p (l.flatMap rgC)) : Calls Tryd.prog 115 #[.slice p l.length c] w fun e w' => e = .returned (.bool (rgsX l)) ∧ Below w.heap.size w w' := by
 have HP := Lib.hid hp
 clear hp
 go_enter Tryd.func115, Tryd.ntmps115
 refine wp_seq ?_
 refine wp_region_L [] (KS.start w) ?_
 refine lm (v := .bool false) rfl rfl ?_
 refine wpL_done (fun W1 hW1 => ?_)
 change Code.wp ..
 refine wp_seq ?_
 refine wp_seq ?_
 refine wp_region_L _ hW1 ?_
 refine lm (v := .slice p l.length c) rfl rfl ?_
 refine lp (v := .int .i64 ((l.length : Nat) : Int)) rfl rfl (run_lenL (p := p) (cap := c) (n := l.length) rfl Tryd.underlying166 Tw.kr) ?_
 refine lm (v := .int .i64 0) rfl rfl ?_
 refine wpL_done (fun W2 hW2 => ?_)
 change Code.wp ..
 refine wp_block ?_
 go_loopw [7] (fun u7 wr => ∃ (k : Nat), (k ≤ l.length) ∧ (rgsX l = rgsX (l.drop k)) ∧ u7 = .int .i64 ((k : Nat) : Int) ∧ KS w [] wr) (fun u7 _ => l.length - (intOf u7).toNat)
 case atStart => exact ⟨0, (Nat.zero_le _), rfl, rfl, (hW2.sub (fun p hp => by first | exact hp | (simp only [List.mem_cons, List.mem_append, List.nil_append, List.not_mem_nil, or_assoc, or_false, false_or] at hp ⊢ <;> grind)))⟩
 case round =>
   obtain ⟨k, hk, hR, rfl, hL3⟩ := hrel
   refine wp_seq ?_
   refine wp_region_L _ hL3 ?_
   refine lp (v := .bool (decide (k < l.length))) rfl rfl (run_bin rfl (vx := (.int .i64 ((k : Nat) : Int))) (vy := (.int .i64 ((l.length : Nat) : Int))) Tw.kr Tw.kr fun w => bn_lss rfl w) ?_
   refine wpL_done (fun W4 hW4 => ?_)
   change Code.wp ..
   refine wp_seq ?_
   cases hd1 : (decide (k < l.length)) with
   | false =>
     have h1 : ¬ (k < l.length) := of_decide_eq_false hd1
     clear hd1
     refine wp_cond_false rfl ?_
     refine wp_exit ?_
     change Code.wp ..
     refine wp_seq ?_
     refine wp_region_L _ hW4 ?_
     refine lm (v := .bool true) rfl rfl ?_
     refine wpL_done (fun W5 hW5 => ?_)
     change Code.wp ..
     refine wp_ret ?_
     try simp only [inBlock_ret, then_ret]
     refine bodyPost_ret (v := .bool true) ?_ rfl ?_
     · kernel_rfl
     · exact ⟨(bool_is (by rw [hR, rgs_end h1])), hW5.1⟩
   | true =>
     have h1 : k < l.length := of_decide_eq_true hd1
     clear hd1
     refine wp_cond_true rfl ?_
     refine wp_skip ?_
     change Code.wp ..
     refine wp_seq ?_
     refine wp_block ?_
     refine wp_seq ?_
     refine wp_region_L _ hW4 ?_
     obtain ⟨y1, g1_, f1_, hy1, hp1, hc1⟩ := RL.at (RL.base HP.out) rgC_len (by decide) (hW4.sub (fun _ h => by cases h)) (k := k) Tw.om
     refine lp (v := .pointer (some ⟨g1_, f1_ + k * 3, none⟩)) rfl rfl (run_idxQ (p := p) (cap := c) (n := l.length) (j := .i64) (k := k) (sz := 3) rfl Tryd.underlying166 Tw.kr Tw.kr hp1 Tw.kr Tw.om) ?_
     refine lv (v := .agg (rgC y1).toArray) rfl rfl (yb_rs (off := f1_ + k * 3) (cs := rgC y1) rfl Tw.kr (fun W hW => hc1 W (hW.sub (fun _ h => by cases h))) Tryd.underlying168 rfl Tw.kr) ?_
     refine wpL_new (fun g => .pointer (some ⟨g, 0, none⟩)) (obi := .cells #[.int .i64 0, .int .i64 0, .int .i64 0] 168 (0, 0)) rfl rfl Tw.kf Tw.pf fun g2 Bg2 Fg2 => ?_
     refine wpL_s [(g2, .cells (rgC y1).toArray 168 (0, 0))] rfl rfl (st_row (off := 0) (v := .agg (rgC y1).toArray) rfl Tw.kr Tw.kr Tw.m0 Bg2 Tw.kr (by first | (simp [Value.cells]; done) | exact Nat.le_of_ble_eq_true rfl) (fun v hv => rgC_one y1 v hv) Tw.kr (List.forall_mem_cons.2 ⟨.inl rfl, (List.forall_mem_nil _)⟩)) ?_
     refine wpL_done (fun W6 hW6 => ?_)
     change Code.wp ..
     refine wp_seq ?_
     refine wp_region_L _ hW6 ?_
     refine lm (v := .pointer (some ⟨g2, 0, none⟩)) rfl rfl ?_
     refine lv (v := .int .i64 y1.1) rfl rfl (yb_cell (off := 0) rfl Tw.kr Tw.m0 Tryd.underlying3 rfl Tw.kr) ?_
     refine lm (v := .pointer (some ⟨g2, 1, none⟩)) rfl rfl ?_
     refine lv (v := .int .i64 y1.2.1) rfl rfl (yb_cell (off := 1) rfl Tw.kr Tw.m0 Tryd.underlying3 rfl Tw.kr) ?_
     refine lp (v := .bool (decide (y1.1 < y1.2.1))) rfl rfl (run_bin rfl (vx := (.int .i64 y1.1)) (vy := (.int .i64 y1.2.1)) Tw.kr Tw.kr fun w => bi_lss rfl w) ?_
     refine lm (v := .bool (decide (y1.1 < y1.2.1))) rfl rfl ?_
     cases hd2 : (decide (y1.1 < y1.2.1)) with
     | false =>
       have h2 : ¬ (y1.1 < y1.2.1) := of_decide_eq_false hd2
       clear hd2
       refine lm (v := .pointer (some ⟨g2, 0, none⟩)) rfl rfl ?_
       refine lv (v := .int .i64 y1.1) rfl rfl (yb_cell (off := 0) rfl Tw.kr Tw.m0 Tryd.underlying3 rfl Tw.kr) ?_
       refine lm (v := .pointer (some ⟨g2, 2, none⟩)) rfl rfl ?_
       refine lv (v := .int .i64 y1.2.2) rfl rfl (yb_cell (off := 2) rfl Tw.kr Tw.m0 Tryd.underlying3 rfl Tw.kr) ?_
       refine lp (v := .bool (decide (y1.2.2 < y1.1))) rfl rfl (run_bin rfl (vx := (.int .i64 y1.1)) (vy := (.int .i64 y1.2.2)) Tw.kr Tw.kr fun w => bi_gtr rfl w) ?_
       refine lm (v := .bool (decide (y1.2.2 < y1.1))) rfl rfl ?_
       refine wpL_done (fun W7 hW7 => ?_)
       change Code.wp ..
       cases hd3 : (decide (y1.2.2 < y1.1)) with
       | false =>
         have h3 : ¬ (y1.2.2 < y1.1) := of_decide_eq_false hd3
         clear hd3
         refine wp_cond_false rfl ?_
         refine wp_skip ?_
         change Code.wp ..
         refine wp_region_L _ hW7 ?_
         refine lp (v := .int .i64 (((k + 1) : Nat) : Int)) rfl rfl (run_bin rfl (vx := (.int .i64 ((k : Nat) : Int))) (vy := (.int .i64 ((1 : Nat) : Int))) Tw.kr Tw.kr fun w => bn_add (z := (k + 1)) rfl (wr_i64 Tw.om) w) ?_
         refine lm (v := .int .i64 (((k + 1) : Nat) : Int)) rfl rfl ?_
         refine wpL_done (fun W8 hW8 => ?_)
         go_roundw
         case rel =>
           repeat apply Exists.intro
           exact ⟨⟨k + 1, Tw.om, (by rw [hR, rgs_step hy1]; simp [h2, h3]), rfl, (hW8.sub (fun p hp => by first | exact hp | (simp only [List.mem_cons, List.mem_append, List.nil_append, List.not_mem_nil, or_assoc, or_false, false_or] at hp ⊢ <;> grind)))⟩, rfl⟩
         case measure => (show l.length - (intOf (.int .i64 (((k + 1) : Nat) : Int))).toNat < l.length - (intOf (.int .i64 ((k : Nat) : Int))).toNat); simp only [intOf]; omega
       | true =>
         have h3 : y1.2.2 < y1.1 := of_decide_eq_true hd3
         clear hd3
         refine wp_cond_true rfl ?_
         refine wp_seq ?_
         refine wp_region_L _ hW7 ?_
         refine lm (v := .bool false) rfl rfl ?_
         refine wpL_done (fun W9 hW9 => ?_)
         change Code.wp ..
         refine wp_ret ?_
         try simp only [inBlock_ret, then_ret]
         refine bodyPost_ret (v := .bool false) ?_ rfl ?_
         · kernel_rfl
         · exact ⟨(bool_is (by rw [hR, rgs_step hy1]; simp [h3])), hW9.1⟩
     | true =>
       have h2 : y1.1 < y1.2.1 := of_decide_eq_true hd2
       clear hd2
       refine ln rfl ?_
       refine ln rfl ?_
       refine ln rfl ?_
       refine ln rfl ?_
       refine ln rfl ?_
       refine lm (v := .bool true) rfl rfl ?_
       refine wpL_done (fun W10 hW10 => ?_)
       change Code.wp ..
       refine wp_cond_true rfl ?_
       refine wp_seq ?_
       refine wp_region_L _ hW10 ?_
       refine lm (v := .bool false) rfl rfl ?_
       refine wpL_done (fun W11 hW11 => ?_)
       change Code.wp ..
       refine wp_ret ?_
       try simp only [inBlock_ret, then_ret]
       refine bodyPost_ret (v := .bool false) ?_ rfl ?_
       · kernel_rfl
       · exact ⟨(bool_is (by rw [hR, rgs_step hy1]; simp [h2])), hW11.1⟩
set_option maxRecDepth 100000 in
set_option maxHeartbeats 4000000 in
theorem increasing_any (l : List Int) (p : Option Addr) (c : Nat) (most : Int) (hl : l.length ≤ 4000000000) (w : World) (hp : SLV w p (l.flatMap inC)) : Calls Tryd.prog 116 #[.slice p l.length c, .int .i64 most] w fun e w' => e = .returned (.bool (incX l most)) ∧ Below w.heap.size w w' := by
 have HP := Lib.hid hp
 clear hp
 go_enter Tryd.func116, Tryd.ntmps116
 refine wp_seq ?_
 refine wp_region_L [] (KS.start w) ?_
 refine lm (v := .bool false) rfl rfl ?_
 refine wpL_done (fun W1 hW1 => ?_)
 change Code.wp ..
 refine wp_seq ?_
 refine wp_region_L _ hW1 ?_
 refine lm (v := .int .i64 (-1)) rfl rfl ?_
 refine wpL_done (fun W2 hW2 => ?_)
 change Code.wp ..
 refine wp_seq ?_
 refine wp_seq ?_
 refine wp_region_L _ hW2 ?_
 refine lm (v := .slice p l.length c) rfl rfl ?_
 refine lp (v := .int .i64 ((l.length : Nat) : Int)) rfl rfl (run_lenL (p := p) (cap := c) (n := l.length) rfl Tryd.underlying63 Tw.kr) ?_
 refine lm (v := .int .i64 0) rfl rfl ?_
 refine wpL_done (fun W3 hW3 => ?_)
 change Code.wp ..
 refine wp_block ?_
 go_loopw [10, 5] (fun u10 u5 wr => ∃ (k : Nat) (last : Int), (k ≤ l.length) ∧ (incX l most = incF most last (l.drop k)) ∧ u10 = .int .i64 ((k : Nat) : Int) ∧ u5 = .int .i64 last ∧ KS w [] wr) (fun u10 _ _ => l.length - (intOf u10).toNat)
 case atStart => exact ⟨0, (-1), (Nat.zero_le _), rfl, rfl, rfl, (hW3.sub (fun p hp => by first | exact hp | (simp only [List.mem_cons, List.mem_append, List.nil_append, List.not_mem_nil, or_assoc, or_false, false_or] at hp ⊢ <;> grind)))⟩
 case round =>
   obtain ⟨k, last, hk, hR, rfl, rfl, hL4⟩ := hrel
   refine wp_seq ?_
   refine wp_region_L _ hL4 ?_
   refine lp (v := .bool (decide (k < l.length))) rfl rfl (run_bin rfl (vx := (.int .i64 ((k : Nat) : Int))) (vy := (.int .i64 ((l.length : Nat) : Int))) Tw.kr Tw.kr fun w => bn_lss rfl w) ?_
   refine wpL_done (fun W5 hW5 => ?_)
   change Code.wp ..
   refine wp_seq ?_
   cases hd1 : (decide (k < l.length)) with
   | false =>
     have h1 : ¬ (k < l.length) := of_decide_eq_false hd1
     clear hd1
     refine wp_cond_false rfl ?_
     refine wp_exit ?_
     change Code.wp ..
     refine wp_seq ?_
     refine wp_region_L _ hW5 ?_
     refine lm (v := .bool true) rfl rfl ?_
     refine wpL_done (fun W6 hW6 => ?_)
     change Code.wp ..
     refine wp_ret ?_
     try simp only [inBlock_ret, then_ret]
     refine bodyPost_ret (v := .bool true) ?_ rfl ?_
     · kernel_rfl
     · exact ⟨(bool_is (by rw [hR, inc_end h1])), hW6.1⟩
   | true =>
     have h1 : k < l.length := of_decide_eq_true hd1
     clear hd1
     refine wp_cond_true rfl ?_
     refine wp_skip ?_
     change Code.wp ..
     refine wp_seq ?_
     refine wp_block ?_
     refine wp_seq ?_
     refine wp_region_L _ hW5 ?_
     obtain ⟨y1, g1_, f1_, hy1, hp1, hc1⟩ := RL.at (RL.base HP.out) inC_len (by decide) (hW5.sub (fun _ h => by cases h)) (k := k) Tw.om
     refine lp (v := .pointer (some ⟨g1_, f1_ + k * 1, none⟩)) rfl rfl (run_idxQ (p := p) (cap := c) (n := l.length) (j := .i64) (k := k) (sz := 1) rfl Tryd.underlying63 Tw.kr Tw.kr hp1 Tw.kr Tw.om) ?_
     refine lv (v := .int .i64 y1) rfl rfl (yb_rf (v := .int .i64 y1) rfl Tw.kr (fun W hW => hc1 W (hW.sub (fun _ h => by cases h)) 0 _ rfl) Tryd.underlying3 rfl) ?_
     refine lm (v := .int .i64 y1) rfl rfl ?_
     refine wpL_done (fun W7 hW7 => ?_)
     change Code.wp ..
     refine wp_seq ?_
     refine wp_seq ?_
     refine wp_region_L _ hW7 ?_
     refine lm (v := .int .i64 y1) rfl rfl ?_
     refine lm (v := .int .i64 last) rfl rfl ?_
     refine lp (v := .bool (!(decide (last < y1)))) rfl rfl (run_bin rfl (vx := (.int .i64 y1)) (vy := (.int .i64 last)) Tw.kr Tw.kr fun w => bi_leq rfl w) ?_
     refine lm (v := .bool (!(decide (last < y1)))) rfl rfl ?_
     cases hd2 : (decide (last < y1)) with
     | false =>
       have h2 : ¬ (last < y1) := of_decide_eq_false hd2
       clear hd2
       refine ln rfl ?_
       refine ln rfl ?_
       refine ln rfl ?_
       refine lm (v := .bool true) rfl rfl ?_
       refine wpL_done (fun W8 hW8 => ?_)
       change Code.wp ..
       refine wp_cond_true rfl ?_
       refine wp_seq ?_
       refine wp_region_L _ hW8 ?_
       refine lm (v := .bool false) rfl rfl ?_
       refine wpL_done (fun W9 hW9 => ?_)
       change Code.wp ..
       refine wp_ret ?_
       try simp only [inBlock_ret, then_ret]
       refine bodyPost_ret (v := .bool false) ?_ rfl ?_
       · kernel_rfl
       · exact ⟨(bool_is (by rw [hR, inc_step hy1, decide_eq_false (p := last < y1) Tw.om]; rfl)), hW9.1⟩
     | true =>
       have h2 : last < y1 := of_decide_eq_true hd2
       clear hd2
       refine lm (v := .int .i64 y1) rfl rfl ?_
       refine lm (v := .int .i64 most) rfl rfl ?_
       refine lp (v := .bool (decide (most < y1))) rfl rfl (run_bin rfl (vx := (.int .i64 y1)) (vy := (.int .i64 most)) Tw.kr Tw.kr fun w => bi_gtr rfl w) ?_
       refine lm (v := .bool (decide (most < y1))) rfl rfl ?_
       refine wpL_done (fun W10 hW10 => ?_)
       change Code.wp ..
       cases hd3 : (decide (most < y1)) with
       | false =>
         have h3 : ¬ (most < y1) := of_decide_eq_false hd3
         clear hd3
         refine wp_cond_false rfl ?_
         refine wp_skip ?_
         change Code.wp ..
         refine wp_region_L _ hW10 ?_
         refine lm (v := .int .i64 y1) rfl rfl ?_
         refine lm (v := .int .i64 y1) rfl rfl ?_
         refine wpL_done (fun W11 hW11 => ?_)
         change Code.wp ..
         refine wp_region_L _ hW11 ?_
         refine lp (v := .int .i64 (((k + 1) : Nat) : Int)) rfl rfl (run_bin rfl (vx := (.int .i64 ((k : Nat) : Int))) (vy := (.int .i64 ((1 : Nat) : Int))) Tw.kr Tw.kr fun w => bn_add (z := (k + 1)) rfl (wr_i64 Tw.om) w) ?_
         refine lm (v := .int .i64 (((k + 1) : Nat) : Int)) rfl rfl ?_
         refine wpL_done (fun W12 hW12 => ?_)
         go_roundw
         case rel =>
           repeat apply Exists.intro
           exact ⟨⟨k + 1, y1, Tw.om, (by rw [hR, inc_step hy1, decide_eq_true Tw.om, decide_eq_true Tw.om]; rfl), rfl, rfl, (hW12.sub (fun p hp => by first | exact hp | (simp only [List.mem_cons, List.mem_append, List.nil_append, List.not_mem_nil, or_assoc, or_false, false_or] at hp ⊢ <;> grind)))⟩, rfl⟩
         case measure => (show l.length - (intOf (.int .i64 (((k + 1) : Nat) : Int))).toNat < l.length - (intOf (.int .i64 ((k : Nat) : Int))).toNat); simp only [intOf]; omega
       | true =>
         have h3 : most < y1 := of_decide_eq_true hd3
         clear hd3
         refine wp_cond_true rfl ?_
         refine wp_seq ?_
         refine wp_region_L _ hW10 ?_
         refine lm (v := .bool false) rfl rfl ?_
         refine wpL_done (fun W13 hW13 => ?_)
         change Code.wp ..
         refine wp_ret ?_
         try simp only [inBlock_ret, then_ret]
         refine bodyPost_ret (v := .bool false) ?_ rfl ?_
         · kernel_rfl
         · exact ⟨(bool_is (by rw [hR, inc_step hy1, decide_eq_false (p := y1 ≤ most) Tw.om]; simp)), hW13.1⟩
set_option maxRecDepth 100000 in
set_option maxHeartbeats 4000000 in
theorem columnRight_any (c : Col) (hl : c.plugs.length ≤ 4000000000) (w : World) (hp : SLV w c.pp (c.plugs.flatMap inC)) : Calls Tryd.prog 112 #[.agg (colC c).toArray] w fun e w' => e = .returned (.bool (colX c)) ∧ Below w.heap.size w w' := by
 have HP := Lib.hid hp
 clear hp
 go_enter Tryd.func112, Tryd.ntmps112
 refine wp_seq ?_
 refine wp_region_L [] (KS.start w) ?_
 refine wpL_new (fun g => .pointer (some ⟨g, 0, none⟩)) (obi := .cells (colC c).toArray 65 (0, 0)) rfl rfl Tw.kf Tw.pf fun g1 Bg1 Fg1 => ?_
 refine lm (v := .bool false) rfl rfl ?_
 refine wpL_done (fun W1 hW1 => ?_)
 change Code.wp ..
 refine wp_seq ?_
 refine wp_region_L _ hW1 ?_
 refine lm (v := .func (.func 115) #[] #[]) rfl rfl ?_
 refine wpL_done (fun W2 hW2 => ?_)
 change Code.wp ..
 refine wp_seq ?_
 refine wp_region_L _ hW2 ?_
 refine lm (v := .func (.func 115) #[] #[]) rfl rfl ?_
 refine lm (v := .pointer (some ⟨g1, 0, none⟩)) rfl rfl ?_
 refine lv (v := .int .i64 c.bay) rfl rfl (yb_cell (off := 0) rfl Tw.kr Tw.m0 Tryd.underlying3 rfl Tw.kr) ?_
 refine lm (v := .agg #[.int .i64 c.bay, .int .i64 0, .int .i64 39]) rfl rfl ?_
 refine lm (v := .pointer (some ⟨g1, 1, none⟩)) rfl rfl ?_
 refine lv (v := .int .i64 c.row) rfl rfl (yb_cell (off := 1) rfl Tw.kr Tw.m0 Tryd.underlying3 rfl Tw.kr) ?_
 refine lm (v := .agg #[.int .i64 c.row, .int .i64 0, .int .i64 30]) rfl rfl ?_
 refine lm (v := .pointer (some ⟨g1, 3, none⟩)) rfl rfl ?_
 refine lv (v := .int .i64 c.tiers) rfl rfl (yb_cell (off := 3) rfl Tw.kr Tw.m0 Tryd.underlying3 rfl Tw.kr) ?_
 refine lm (v := .agg #[.int .i64 c.tiers, .int .i64 1, .int .i64 10]) rfl rfl ?_
 refine lm (v := .pointer (some ⟨g1, 4, none⟩)) rfl rfl ?_
 refine lv (v := .int .i64 c.height) rfl rfl (yb_cell (off := 4) rfl Tw.kr Tw.m0 Tryd.underlying3 rfl Tw.kr) ?_
 refine lm (v := .agg #[.int .i64 c.height, .int .i64 0, .int .i64 40000]) rfl rfl ?_
 refine lm (v := .pointer (some ⟨g1, 5, none⟩)) rfl rfl ?_
 refine lv (v := .int .i64 c.k20) rfl rfl (yb_cell (off := 5) rfl Tw.kr Tw.m0 Tryd.underlying3 rfl Tw.kr) ?_
 refine lm (v := .agg #[.int .i64 c.k20, .int .i64 0, .int .i64 500000000]) rfl rfl ?_
 refine lm (v := .pointer (some ⟨g1, 6, none⟩)) rfl rfl ?_
 refine lv (v := .int .i64 c.k40) rfl rfl (yb_cell (off := 6) rfl Tw.kr Tw.m0 Tryd.underlying3 rfl Tw.kr) ?_
 refine lm (v := .agg #[.int .i64 c.k40, .int .i64 0, .int .i64 500000000]) rfl rfl ?_
 refine lm (v := .pointer (some ⟨g1, 7, none⟩)) rfl rfl ?_
 refine lv (v := .int .i64 c.lash) rfl rfl (yb_cell (off := 7) rfl Tw.kr Tw.m0 Tryd.underlying3 rfl Tw.kr) ?_
 refine lm (v := .agg #[.int .i64 c.lash, .int .i64 0, .int .i64 1000000000000]) rfl rfl ?_
 refine lm (v := .pointer (some ⟨g1, 9, none⟩)) rfl rfl ?_
 refine lv (v := .int .i64 c.x) rfl rfl (yb_cell (off := 9) rfl Tw.kr Tw.m0 Tryd.underlying3 rfl Tw.kr) ?_
 refine lm (v := .agg #[.int .i64 c.x, .int .i64 (-500000), .int .i64 500000]) rfl rfl ?_
 refine lm (v := .pointer (some ⟨g1, 10, none⟩)) rfl rfl ?_
 refine lv (v := .int .i64 c.y) rfl rfl (yb_cell (off := 10) rfl Tw.kr Tw.m0 Tryd.underlying3 rfl Tw.kr) ?_
 refine lm (v := .agg #[.int .i64 c.y, .int .i64 (-500000), .int .i64 500000]) rfl rfl ?_
 refine lm (v := .pointer (some ⟨g1, 11, none⟩)) rfl rfl ?_
 refine lv (v := .int .i64 c.z) rfl rfl (yb_cell (off := 11) rfl Tw.kr Tw.m0 Tryd.underlying3 rfl Tw.kr) ?_
 refine lm (v := .agg #[.int .i64 c.z, .int .i64 (-500000), .int .i64 500000]) rfl rfl ?_
 refine wpL_new (fun g => .slice (some ⟨g, 0, none⟩) 10 10) (obi := .cells #[.int .i64 c.bay, .int .i64 0, .int .i64 39, .int .i64 c.row, .int .i64 0, .int .i64 30, .int .i64 c.tiers, .int .i64 1, .int .i64 10, .int .i64 c.height, .int .i64 0, .int .i64 40000, .int .i64 c.k20, .int .i64 0, .int .i64 500000000, .int .i64 c.k40, .int .i64 0, .int .i64 500000000, .int .i64 c.lash, .int .i64 0, .int .i64 1000000000000, .int .i64 c.x, .int .i64 (-500000), .int .i64 500000, .int .i64 c.y, .int .i64 (-500000), .int .i64 500000, .int .i64 c.z, .int .i64 (-500000), .int .i64 500000] 168 (0, 0)) rfl rfl Tw.kf Tw.pf fun g2 Bg2 Fg2 => ?_
 obtain dj3_0 : g1 ≠ g2 := Tw.dkf Fg2
 refine lv (v := .bool (rgsX (rangesX c))) rfl rfl (yb_call (f := 115) (args := #[.slice (some ⟨g2, 0, none⟩) 10 10]) Tw.kf fun W hW => Within_any (rangesX c) (some ⟨g2, 0, none⟩) 10 (by show (10 : Nat) ≤ _; omega) W (blk_slv hW Tw.m0)) ?_
 refine lm (v := .bool (rgsX (rangesX c))) rfl rfl ?_
 cases h1 : (rgsX (rangesX c)) with
 | false =>
   refine ln rfl ?_
   refine ln rfl ?_
   refine ln rfl ?_
   refine ln rfl ?_
   refine ln rfl ?_
   refine ln rfl ?_
   refine lm (v := .bool false) rfl rfl ?_
   refine lm (v := .bool false) rfl rfl ?_
   refine wpL_done (fun W3 hW3 => ?_)
   change Code.wp ..
   refine wp_ret ?_
   try simp only [inBlock_ret, then_ret]
   refine bodyPost_ret (v := .bool false) ?_ rfl ?_
   · kernel_rfl
   · exact ⟨(bool_is (by unfold colX; simp [*])), hW3.1⟩
 | true =>
   refine lm (v := .pointer (some ⟨g1, 8, none⟩)) rfl rfl ?_
   refine lv (v := .slice c.pp c.plugs.length c.pc) rfl rfl (yb_cell (off := 8) rfl Tw.kr Tw.m1 Tryd.underlying63 rfl Tw.kr) ?_
   refine lm (v := .pointer (some ⟨g1, 3, none⟩)) rfl rfl ?_
   refine lv (v := .int .i64 c.tiers) rfl rfl (yb_cell (off := 3) rfl Tw.kr Tw.m1 Tryd.underlying3 rfl Tw.kr) ?_
   refine lp (v := .int .i64 (IntKind.i64.wrap (c.tiers - 1))) rfl rfl (run_bin rfl (vx := .int .i64 c.tiers) (vy := .int .i64 1) Tw.kr Tw.kr fun w => bw_sub (z := (IntKind.i64.wrap (c.tiers - 1))) rfl w) ?_
   refine lv (v := .bool (incX c.plugs (IntKind.i64.wrap (c.tiers - 1)))) rfl rfl (yb_call (f := 116) (args := #[.slice c.pp c.plugs.length c.pc, .int .i64 (IntKind.i64.wrap (c.tiers - 1))]) Tw.kf fun W hW => increasing_any c.plugs c.pp c.pc (IntKind.i64.wrap (c.tiers - 1)) Tw.om W ((RL.base HP.out) _ (hW.sub (fun _ h => by cases h)))) ?_
   refine lm (v := .bool (incX c.plugs (IntKind.i64.wrap (c.tiers - 1)))) rfl rfl ?_
   refine lm (v := .bool (incX c.plugs (IntKind.i64.wrap (c.tiers - 1)))) rfl rfl ?_
   refine wpL_done (fun W4 hW4 => ?_)
   change Code.wp ..
   refine wp_ret ?_
   try simp only [inBlock_ret, then_ret]
   refine bodyPost_ret (v := .bool (incX c.plugs (IntKind.i64.wrap (c.tiers - 1)))) ?_ rfl ?_
   · kernel_rfl
   · exact ⟨(bool_is (by unfold colX; simp [*])), hW4.1⟩
set_option maxRecDepth 100000 in
set_option maxHeartbeats 4000000 in
theorem coverRight_any (o : Cov) (hl : o.rows.length ≤ 4000000000) (w : World) (hp : SLV w o.rp (o.rows.flatMap inC)) : Calls Tryd.prog 113 #[.agg (covC o).toArray] w fun e w' => e = .returned (.bool (ovX o)) ∧ Below w.heap.size w w' := by
 have HP := Lib.hid hp
 clear hp
 go_enter Tryd.func113, Tryd.ntmps113
 refine wp_seq ?_
 refine wp_region_L [] (KS.start w) ?_
 refine wpL_new (fun g => .pointer (some ⟨g, 0, none⟩)) (obi := .cells (covC o).toArray 67 (0, 0)) rfl rfl Tw.kf Tw.pf fun g1 Bg1 Fg1 => ?_
 refine lm (v := .bool false) rfl rfl ?_
 refine wpL_done (fun W1 hW1 => ?_)
 change Code.wp ..
 refine wp_seq ?_
 refine wp_region_L _ hW1 ?_
 refine lm (v := .pointer (some ⟨g1, 0, none⟩)) rfl rfl ?_
 refine lv (v := .int .i64 o.bay) rfl rfl (yb_cell (off := 0) rfl Tw.kr Tw.m0 Tryd.underlying3 rfl Tw.kr) ?_
 refine lp (v := .bool (!(decide (o.bay < 0)))) rfl rfl (run_bin rfl (vx := (.int .i64 o.bay)) (vy := (.int .i64 0)) Tw.kr Tw.kr fun w => bi_geq rfl w) ?_
 refine lm (v := .bool (!(decide (o.bay < 0)))) rfl rfl ?_
 cases hd1 : (decide (o.bay < 0)) with
 | false =>
   have h1 : ¬ (o.bay < 0) := of_decide_eq_false hd1
   clear hd1
   refine lm (v := .pointer (some ⟨g1, 0, none⟩)) rfl rfl ?_
   refine lv (v := .int .i64 o.bay) rfl rfl (yb_cell (off := 0) rfl Tw.kr Tw.m0 Tryd.underlying3 rfl Tw.kr) ?_
   refine lp (v := .bool (!(decide (39 < o.bay)))) rfl rfl (run_bin rfl (vx := (.int .i64 o.bay)) (vy := (.int .i64 39)) Tw.kr Tw.kr fun w => bi_leq rfl w) ?_
   refine lm (v := .bool (!(decide (39 < o.bay)))) rfl rfl ?_
   refine lm (v := .bool (!(decide (39 < o.bay)))) rfl rfl ?_
   cases hd2 : (decide (39 < o.bay)) with
   | false =>
     have h2 : ¬ (39 < o.bay) := of_decide_eq_false hd2
     clear hd2
     refine lm (v := .pointer (some ⟨g1, 1, none⟩)) rfl rfl ?_
     refine lv (v := .slice o.rp o.rows.length o.rc) rfl rfl (yb_cell (off := 1) rfl Tw.kr Tw.m0 Tryd.underlying63 rfl Tw.kr) ?_
     refine lp (v := .int .i64 ((o.rows.length : Nat) : Int)) rfl rfl (run_lenL (p := o.rp) (cap := o.rc) (n := o.rows.length) rfl Tryd.underlying63 Tw.kr) ?_
     refine lp (v := .bool (decide (0 < o.rows.length))) rfl rfl (run_bin rfl (vx := (.int .i64 ((o.rows.length : Nat) : Int))) (vy := (.int .i64 ((0 : Nat) : Int))) Tw.kr Tw.kr fun w => bn_gtr rfl w) ?_
     refine lm (v := .bool (decide (0 < o.rows.length))) rfl rfl ?_
     refine lm (v := .bool (decide (0 < o.rows.length))) rfl rfl ?_
     cases hd3 : (decide (0 < o.rows.length)) with
     | false =>
       have h3 : ¬ (0 < o.rows.length) := of_decide_eq_false hd3
       clear hd3
       refine ln rfl ?_
       refine ln rfl ?_
       refine ln rfl ?_
       refine lm (v := .bool false) rfl rfl ?_
       refine lm (v := .bool false) rfl rfl ?_
       refine wpL_done (fun W2 hW2 => ?_)
       change Code.wp ..
       refine wp_ret ?_
       try simp only [inBlock_ret, then_ret]
       refine bodyPost_ret (v := .bool false) ?_ rfl ?_
       · kernel_rfl
       · exact ⟨(bool_is (by unfold ovX; rw [decide_eq_true (p := 0 ≤ o.bay) Tw.om, decide_eq_true (p := o.bay ≤ 39) Tw.om, decide_eq_false (p := 0 < o.rows.length) h3]; simp)), hW2.1⟩
     | true =>
       have h3 : 0 < o.rows.length := of_decide_eq_true hd3
       clear hd3
       refine lm (v := .pointer (some ⟨g1, 1, none⟩)) rfl rfl ?_
       refine lv (v := .slice o.rp o.rows.length o.rc) rfl rfl (yb_cell (off := 1) rfl Tw.kr Tw.m0 Tryd.underlying63 rfl Tw.kr) ?_
       refine lv (v := .bool (incX o.rows 30)) rfl rfl (yb_call (f := 116) (args := #[.slice o.rp o.rows.length o.rc, .int .i64 30]) Tw.kf fun W hW => increasing_any o.rows o.rp o.rc 30 Tw.om W ((RL.base HP.out) _ (hW.sub (fun _ h => by cases h)))) ?_
       refine lm (v := .bool (incX o.rows 30)) rfl rfl ?_
       refine lm (v := .bool (incX o.rows 30)) rfl rfl ?_
       refine wpL_done (fun W3 hW3 => ?_)
       change Code.wp ..
       refine wp_ret ?_
       try simp only [inBlock_ret, then_ret]
       refine bodyPost_ret (v := .bool (incX o.rows 30)) ?_ rfl ?_
       · kernel_rfl
       · exact ⟨(bool_is (by unfold ovX; rw [decide_eq_true (p := 0 ≤ o.bay) Tw.om, decide_eq_true (p := o.bay ≤ 39) Tw.om, decide_eq_true (p := 0 < o.rows.length) h3]; simp)), hW3.1⟩
   | true =>
     have h2 : 39 < o.bay := of_decide_eq_true hd2
     clear hd2
     refine ln rfl ?_
     refine ln rfl ?_
     refine ln rfl ?_
     refine ln rfl ?_
     refine lm (v := .bool false) rfl rfl ?_
     refine lm (v := .bool false) rfl rfl ?_
     refine ln rfl ?_
     refine ln rfl ?_
     refine ln rfl ?_
     refine lm (v := .bool false) rfl rfl ?_
     refine lm (v := .bool false) rfl rfl ?_
     refine wpL_done (fun W4 hW4 => ?_)
     change Code.wp ..
     refine wp_ret ?_
     try simp only [inBlock_ret, then_ret]
     refine bodyPost_ret (v := .bool false) ?_ rfl ?_
     · kernel_rfl
     · exact ⟨(bool_is (by unfold ovX; rw [decide_eq_true (p := 0 ≤ o.bay) Tw.om, decide_eq_false (p := o.bay ≤ 39) Tw.om]; simp)), hW4.1⟩
 | true =>
   have h1 : o.bay < 0 := of_decide_eq_true hd1
   clear hd1
   refine ln rfl ?_
   refine ln rfl ?_
   refine ln rfl ?_
   refine lm (v := .bool false) rfl rfl ?_
   refine lm (v := .bool false) rfl rfl ?_
   refine ln rfl ?_
   refine ln rfl ?_
   refine ln rfl ?_
   refine ln rfl ?_
   refine lm (v := .bool false) rfl rfl ?_
   refine lm (v := .bool false) rfl rfl ?_
   refine ln rfl ?_
   refine ln rfl ?_
   refine ln rfl ?_
   refine lm (v := .bool false) rfl rfl ?_
   refine lm (v := .bool false) rfl rfl ?_
   refine wpL_done (fun W5 hW5 => ?_)
   change Code.wp ..
   refine wp_ret ?_
   try simp only [inBlock_ret, then_ret]
   refine bodyPost_ret (v := .bool false) ?_ rfl ?_
   · kernel_rfl
   · exact ⟨(bool_is (by unfold ovX; rw [decide_eq_false (p := 0 ≤ o.bay) Tw.om]; simp)), hW5.1⟩
set_option maxRecDepth 100000 in
set_option maxHeartbeats 4000000 in
theorem placeOf_any (c : Col) (w : World) : Calls Tryd.prog 111 #[.agg (colC c).toArray] w fun e w' => e = .returned (kv3 (placeX c)) ∧ Below w.heap.size w w' := by
 go_enter Tryd.func111, Tryd.ntmps111
 refine wp_seq ?_
 refine wp_region_L [] (KS.start w) ?_
 refine wpL_new (fun g => .pointer (some ⟨g, 0, none⟩)) (obi := .cells (colC c).toArray 65 (0, 0)) rfl rfl Tw.kf Tw.pf fun g1 Bg1 Fg1 => ?_
 refine wpL_new (fun g => .pointer (some ⟨g, 0, none⟩)) (obi := .cells #[.int .i64 0, .int .i64 0, .int .i64 0] 141 (0, 0)) rfl rfl Tw.kf Tw.pf fun g2 Bg2 Fg2 => ?_
 obtain dj3_0 : g1 ≠ g2 := Tw.dkf Fg2
 refine wpL_done (fun W1 hW1 => ?_)
 change Code.wp ..
 refine wp_seq ?_
 refine wp_seq ?_
 refine wp_region_L _ hW1 ?_
 refine lm (v := .pointer (some ⟨g1, 2, none⟩)) rfl rfl ?_
 refine lv (v := .bool c.deck) rfl rfl (yb_cell (off := 2) rfl Tw.kr Tw.m1 Tryd.underlying4 rfl Tw.kr) ?_
 refine wpL_done (fun W2 hW2 => ?_)
 change Code.wp ..
 cases h1 : c.deck with
 | false =>
   refine wp_cond_false rfl ?_
   refine wp_skip ?_
   change Code.wp ..
   refine wp_seq ?_
   refine wp_region_L _ hW2 ?_
   refine lm (v := .pointer (some ⟨g1, 0, none⟩)) rfl rfl ?_
   refine lv (v := .int .i64 c.bay) rfl rfl (yb_cell (off := 0) rfl Tw.kr Tw.m1 Tryd.underlying3 rfl Tw.kr) ?_
   refine lm (v := .pointer (some ⟨g1, 1, none⟩)) rfl rfl ?_
   refine lv (v := .int .i64 c.row) rfl rfl (yb_cell (off := 1) rfl Tw.kr Tw.m1 Tryd.underlying3 rfl Tw.kr) ?_
   refine lm (v := .agg #[.int .i64 c.bay, .int .i64 c.row, .int .i64 0]) rfl rfl ?_
   refine wpL_s [(g2, .cells #[.int .i64 c.bay, .int .i64 c.row, .int .i64 0] 141 (0, 0)), (g1, .cells (colC c).toArray 65 (0, 0))] rfl rfl (st_row (off := 0) (v := .agg #[.int .i64 c.bay, .int .i64 c.row, .int .i64 0]) rfl Tw.kr Tw.kr Tw.m0 Bg2 Tw.kr (by first | (simp [Value.cells]; done) | exact Nat.le_of_ble_eq_true rfl) (by intro v hv; simp [Value.cells] at hv; first | (subst hv; rfl) | (rcases hv with rfl | rfl | rfl <;> rfl)) Tw.kr (List.forall_mem_cons.2 ⟨.inl rfl, (List.forall_mem_cons.2 ⟨.inr ⟨Tw.m1, Tw.nee⟩, (List.forall_mem_nil _)⟩)⟩)) ?_
   refine wpL_done (fun W3 hW3 => ?_)
   change Code.wp ..
   refine wp_ret ?_
   try simp only [inBlock_ret, then_ret]
   refine bodyPost_ret (v := .agg #[.int .i64 c.bay, .int .i64 c.row, .int .i64 0]) ?_ rfl ?_
   · exact (res_cell (p := 2) rfl rfl (hW3.2 _ Tw.m0) Tryd.underlying141 rfl Tw.kr)
   · exact ⟨(by unfold placeX; rw [h1]; rfl), hW3.1⟩
 | true =>
   refine wp_cond_true rfl ?_
   refine wp_seq ?_
   refine wp_region_L _ hW2 ?_
   refine lm (v := .pointer (some ⟨g1, 0, none⟩)) rfl rfl ?_
   refine lv (v := .int .i64 c.bay) rfl rfl (yb_cell (off := 0) rfl Tw.kr Tw.m1 Tryd.underlying3 rfl Tw.kr) ?_
   refine lm (v := .pointer (some ⟨g1, 1, none⟩)) rfl rfl ?_
   refine lv (v := .int .i64 c.row) rfl rfl (yb_cell (off := 1) rfl Tw.kr Tw.m1 Tryd.underlying3 rfl Tw.kr) ?_
   refine lm (v := .agg #[.int .i64 c.bay, .int .i64 c.row, .int .i64 1]) rfl rfl ?_
   refine wpL_s [(g2, .cells #[.int .i64 c.bay, .int .i64 c.row, .int .i64 1] 141 (0, 0)), (g1, .cells (colC c).toArray 65 (0, 0))] rfl rfl (st_row (off := 0) (v := .agg #[.int .i64 c.bay, .int .i64 c.row, .int .i64 1]) rfl Tw.kr Tw.kr Tw.m0 Bg2 Tw.kr (by first | (simp [Value.cells]; done) | exact Nat.le_of_ble_eq_true rfl) (by intro v hv; simp [Value.cells] at hv; first | (subst hv; rfl) | (rcases hv with rfl | rfl | rfl <;> rfl)) Tw.kr (List.forall_mem_cons.2 ⟨.inl rfl, (List.forall_mem_cons.2 ⟨.inr ⟨Tw.m1, Tw.nee⟩, (List.forall_mem_nil _)⟩)⟩)) ?_
   refine wpL_done (fun W4 hW4 => ?_)
   change Code.wp ..
   refine wp_ret ?_
   try simp only [inBlock_ret, then_ret]
   refine bodyPost_ret (v := .agg #[.int .i64 c.bay, .int .i64 c.row, .int .i64 1]) ?_ rfl ?_
   · exact (res_cell (p := 2) rfl rfl (hW4.2 _ Tw.m0) Tryd.underlying141 rfl Tw.kr)
   · exact ⟨(by unfold placeX; rw [h1]; rfl), hW4.1⟩
set_option maxRecDepth 100000 in
set_option maxHeartbeats 4000000 in
theorem columnsRight_any (cs : List Col) (pc : Option Addr) (cc : Nat) (w : World) (hc : SLV w pc (cs.flatMap colC)) (hq : PlR w cs) (lq : ∀ c ∈ cs, c.plugs.length ≤ 4000000000) : Calls Tryd.prog 96 #[.slice pc cs.length cc] w fun e w' => e = .returned (.bool (colsX cs)) ∧ Below w.heap.size w w' := by
 have HC := Lib.hid hc
 clear hc
 have HQ := Lib.hid hq
 clear hq
 go_enter Tryd.func96, Tryd.ntmps96
 refine wp_seq ?_
 refine wp_region_L [] (KS.start w) ?_
 refine lm (v := .bool false) rfl rfl ?_
 refine wpL_done (fun W1 hW1 => ?_)
 change Code.wp ..
 refine wp_seq ?_
 refine wp_seq ?_
 refine wp_region_L _ hW1 ?_
 refine lm (v := .slice pc cs.length cc) rfl rfl ?_
 refine lp (v := .int .i64 ((cs.length : Nat) : Int)) rfl rfl (run_lenL (p := pc) (cap := cc) (n := cs.length) rfl Tryd.underlying22 Tw.kr) ?_
 refine lp (v := .bool (decide (cs.length = 0))) rfl rfl (run_bin rfl (vx := (.int .i64 ((cs.length : Nat) : Int))) (vy := (.int .i64 ((0 : Nat) : Int))) Tw.kr Tw.kr fun w => bn_eql rfl w) ?_
 refine lm (v := .bool (decide (cs.length = 0))) rfl rfl ?_
 cases hd1 : (decide (cs.length = 0)) with
 | false =>
   have h1 : ¬ (cs.length = 0) := of_decide_eq_false hd1
   clear hd1
   refine lm (v := .slice pc cs.length cc) rfl rfl ?_
   refine lp (v := .int .i64 ((cs.length : Nat) : Int)) rfl rfl (run_lenL (p := pc) (cap := cc) (n := cs.length) rfl Tryd.underlying22 Tw.kr) ?_
   refine lp (v := .bool (decide (200 < cs.length))) rfl rfl (run_bin rfl (vx := (.int .i64 ((cs.length : Nat) : Int))) (vy := (.int .i64 ((200 : Nat) : Int))) Tw.kr Tw.kr fun w => bn_gtr rfl w) ?_
   refine lm (v := .bool (decide (200 < cs.length))) rfl rfl ?_
   refine wpL_done (fun W2 hW2 => ?_)
   change Code.wp ..
   cases hd2 : (decide (200 < cs.length)) with
   | false =>
     have h2 : ¬ (200 < cs.length) := of_decide_eq_false hd2
     clear hd2
     refine wp_cond_false rfl ?_
     refine wp_skip ?_
     change Code.wp ..
     refine wp_seq ?_
     refine wp_region_L _ hW2 ?_
     refine wpL_new (fun g => .map (some g)) (obi := .map #[] 0) rfl rfl Tw.kf Tw.pf fun g1 Bg1 Fg1 => ?_
     refine lm (v := .map (some g1)) rfl rfl ?_
     refine wpL_done (fun W3 hW3 => ?_)
     change Code.wp ..
     refine wp_seq ?_
     refine wp_seq ?_
     refine wp_region_L _ hW3 ?_
     refine lm (v := .slice pc cs.length cc) rfl rfl ?_
     refine lp (v := .int .i64 ((cs.length : Nat) : Int)) rfl rfl (run_lenL (p := pc) (cap := cc) (n := cs.length) rfl Tryd.underlying22 Tw.kr) ?_
     refine lm (v := .int .i64 0) rfl rfl ?_
     refine wpL_done (fun W4 hW4 => ?_)
     change Code.wp ..
     refine wp_block ?_
     go_loopw [18] (fun u18 wr => ∃ (k : Nat) (es : Array MapEntry) (cl : Nat), (k ≤ cs.length) ∧ (colsF [] cs = colsF ((cs.take k).map placeX) (cs.drop k)) ∧ (SetM kv3 es ((cs.take k).map placeX)) ∧ u18 = .int .i64 ((k : Nat) : Int) ∧ KS w [(g1, .map es cl)] wr) (fun u18 _ => cs.length - (intOf u18).toNat)
     case atStart => exact ⟨0, #[], 0, (Nat.zero_le _), rfl, SetM.nil, rfl, (hW4.sub (fun p hp => by first | exact hp | (simp only [List.mem_cons, List.mem_append, List.nil_append, List.not_mem_nil, or_assoc, or_false, false_or] at hp ⊢ <;> grind)))⟩
     case round =>
       obtain ⟨k, es, cl, hk, hR, hS, rfl, hL5⟩ := hrel
       refine wp_seq ?_
       refine wp_region_L _ hL5 ?_
       refine lp (v := .bool (decide (k < cs.length))) rfl rfl (run_bin rfl (vx := (.int .i64 ((k : Nat) : Int))) (vy := (.int .i64 ((cs.length : Nat) : Int))) Tw.kr Tw.kr fun w => bn_lss rfl w) ?_
       refine wpL_done (fun W6 hW6 => ?_)
       change Code.wp ..
       refine wp_seq ?_
       cases hd3 : (decide (k < cs.length)) with
       | false =>
         have h3 : ¬ (k < cs.length) := of_decide_eq_false hd3
         clear hd3
         refine wp_cond_false rfl ?_
         refine wp_exit ?_
         change Code.wp ..
         refine wp_seq ?_
         refine wp_region_L _ hW6 ?_
         refine lm (v := .bool true) rfl rfl ?_
         refine wpL_done (fun W7 hW7 => ?_)
         change Code.wp ..
         refine wp_ret ?_
         try simp only [inBlock_ret, then_ret]
         refine bodyPost_ret (v := .bool true) ?_ rfl ?_
         · kernel_rfl
         · exact ⟨(bool_is (by unfold colsX; rw [decide_eq_false h1, decide_eq_false h2, hR, cols_end h3]; rfl)), hW7.1⟩
       | true =>
         have h3 : k < cs.length := of_decide_eq_true hd3
         clear hd3
         refine wp_cond_true rfl ?_
         refine wp_skip ?_
         change Code.wp ..
         refine wp_seq ?_
         refine wp_block ?_
         refine wp_seq ?_
         refine wp_region_L _ hW6 ?_
         obtain ⟨y2, g2_, f2_, hy2, hp2, hc2⟩ := RL.at (RL.base HC.out) colC_len (by decide) (hW6.sub (fun _ h => by cases h)) (k := k) Tw.om
         refine lp (v := .pointer (some ⟨g2_, f2_ + k * 12, none⟩)) rfl rfl (run_idxQ (p := pc) (cap := cc) (n := cs.length) (j := .i64) (k := k) (sz := 12) rfl Tryd.underlying22 Tw.kr Tw.kr hp2 Tw.kr Tw.om) ?_
         refine lv (v := .agg (colC y2).toArray) rfl rfl (yb_rs (off := f2_ + k * 12) (cs := colC y2) rfl Tw.kr (fun W hW => hc2 W (hW.sub (fun _ h => by cases h))) Tryd.underlying65 rfl Tw.kr) ?_
         refine wpL_new (fun g => .pointer (some ⟨g, 0, none⟩)) (obi := .cells #[.int .i64 0, .int .i64 0, .bool false, .int .i64 0, .int .i64 0, .int .i64 0, .int .i64 0, .int .i64 0, .slice none 0 0, .int .i64 0, .int .i64 0, .int .i64 0] 65 (0, 0)) rfl rfl Tw.kf Tw.pf fun g3 Bg3 Fg3 => ?_
         obtain dj4_0 : g1 ≠ g3 := Tw.dkf Fg3
         refine wpL_s [(g3, .cells (colC y2).toArray 65 (0, 0)), (g1, .map es cl)] rfl rfl (st_row (off := 0) (v := .agg (colC y2).toArray) rfl Tw.kr Tw.kr Tw.m0 Bg3 Tw.kr (by first | (simp [Value.cells]; done) | exact Nat.le_of_ble_eq_true rfl) (fun v hv => colC_one y2 v hv) Tw.kr (List.forall_mem_cons.2 ⟨.inl rfl, (List.forall_mem_cons.2 ⟨.inr ⟨Tw.m1, Tw.nee⟩, (List.forall_mem_nil _)⟩)⟩)) ?_
         refine wpL_done (fun W8 hW8 => ?_)
         change Code.wp ..
         refine wp_seq ?_
         refine wp_region_L _ hW8 ?_
         refine lv (v := .agg (colC y2).toArray) rfl rfl (yb_load (n := 12) (off := 0) rfl Tw.kr Tw.m0 Tryd.underlying65 rfl Tw.kr (by first | (simp [Value.cells]; done) | exact Nat.le_of_ble_eq_true rfl) Tw.kr) ?_
         refine lv (v := .agg #[.int .i64 ((placeX y2).1), .int .i64 ((placeX y2).2.1), .int .i64 ((placeX y2).2.2)]) rfl rfl (yb_call (f := 111) (args := #[.agg (colC y2).toArray]) Tw.kf fun W hW => placeOf_any y2 W) ?_
         refine wpL_new (fun g => .pointer (some ⟨g, 0, none⟩)) (obi := .cells #[.int .i64 0, .int .i64 0, .int .i64 0] 141 (0, 0)) rfl rfl Tw.kf Tw.pf fun g5 Bg5 Fg5 => ?_
         obtain ⟨dj6_0, dj6_1⟩ : g3 ≠ g5 ∧ g1 ≠ g5 := Tw.dkf Fg5
         refine wpL_s [(g5, .cells #[.int .i64 ((placeX y2).1), .int .i64 ((placeX y2).2.1), .int .i64 ((placeX y2).2.2)] 141 (0, 0)), (g3, .cells (colC y2).toArray 65 (0, 0)), (g1, .map es cl)] rfl rfl (st_row (off := 0) (v := .agg #[.int .i64 ((placeX y2).1), .int .i64 ((placeX y2).2.1), .int .i64 ((placeX y2).2.2)]) rfl Tw.kr Tw.kr Tw.m0 Bg5 Tw.kr (by first | (simp [Value.cells]; done) | exact Nat.le_of_ble_eq_true rfl) (by intro v hv; simp [Value.cells] at hv; first | (subst hv; rfl) | (rcases hv with rfl | rfl | rfl <;> rfl)) Tw.kr (List.forall_mem_cons.2 ⟨.inl rfl, (List.forall_mem_cons.2 ⟨.inr ⟨Tw.m1, Tw.nee⟩, (List.forall_mem_cons.2 ⟨.inr ⟨Tw.m2, Tw.nee⟩, (List.forall_mem_nil _)⟩)⟩)⟩)) ?_
         refine wpL_done (fun W9 hW9 => ?_)
         change Code.wp ..
         refine wp_seq ?_
         refine wp_seq ?_
         refine wp_region_L _ hW9 ?_
         refine lv (v := .agg (colC y2).toArray) rfl rfl (yb_load (n := 12) (off := 0) rfl Tw.kr Tw.m1 Tryd.underlying65 rfl Tw.kr (by first | (simp [Value.cells]; done) | exact Nat.le_of_ble_eq_true rfl) Tw.kr) ?_
         refine lv (v := .bool (colX y2)) rfl rfl (yb_call (f := 112) (args := #[.agg (colC y2).toArray]) Tw.kf fun W hW => columnRight_any y2 (lq y2 (List.mem_of_getElem? hy2)) W ((RL.base (HQ.out y2 (List.mem_of_getElem? hy2))) _ (hW.sub (fun _ h => by cases h)))) ?_
         refine lp (v := .bool (!(colX y2))) rfl rfl (run_un rfl Tw.kr fun w => un_not w) ?_
         refine lm (v := .bool (!(colX y2))) rfl rfl ?_
         cases h4 : (colX y2) with
         | false =>
           refine ln rfl ?_
           refine ln rfl ?_
           refine ln rfl ?_
           refine lm (v := .bool true) rfl rfl ?_
           refine wpL_done (fun W10 hW10 => ?_)
           change Code.wp ..
           refine wp_cond_true rfl ?_
           refine wp_seq ?_
           refine wp_region_L _ hW10 ?_
           refine lm (v := .bool false) rfl rfl ?_
           refine wpL_done (fun W11 hW11 => ?_)
           change Code.wp ..
           refine wp_ret ?_
           try simp only [inBlock_ret, then_ret]
           refine bodyPost_ret (v := .bool false) ?_ rfl ?_
           · kernel_rfl
           · exact ⟨(bool_is (by unfold colsX; rw [decide_eq_false h1, decide_eq_false h2, hR, cols_step hy2, h4]; rfl)), hW11.1⟩
         | true =>
           refine lm (v := .map (some g1)) rfl rfl ?_
           refine lv (v := .agg #[.int .i64 ((placeX y2).1), .int .i64 ((placeX y2).2.1), .int .i64 ((placeX y2).2.2)]) rfl rfl (yb_load (n := 3) (off := 0) rfl Tw.kr Tw.m0 Tryd.underlying141 rfl Tw.kr (by first | (simp [Value.cells]; done) | exact Nat.le_of_ble_eq_true rfl) Tw.kr) ?_
           refine lv (v := .bool (decide ((placeX y2) ∈ ((cs.take k).map placeX)))) rfl rfl (yb_lookset key3 (k := (placeX y2)) (L := ((cs.take k).map placeX)) rfl Tw.kr Tw.kr Tw.m2 Tryd.underlying160 Tw.kf hS decide_eq_true_iff) ?_
           refine lm (v := .bool (decide ((placeX y2) ∈ ((cs.take k).map placeX)))) rfl rfl ?_
           refine wpL_done (fun W12 hW12 => ?_)
           change Code.wp ..
           cases hd5 : (decide ((placeX y2) ∈ ((cs.take k).map placeX))) with
           | false =>
             have h5 : ¬ ((placeX y2) ∈ ((cs.take k).map placeX)) := of_decide_eq_false hd5
             clear hd5
             refine wp_cond_false rfl ?_
             refine wp_skip ?_
             change Code.wp ..
             refine wp_region_L _ hW12 ?_
             refine lm (v := .map (some g1)) rfl rfl ?_
             refine lv (v := .agg #[.int .i64 ((placeX y2).1), .int .i64 ((placeX y2).2.1), .int .i64 ((placeX y2).2.2)]) rfl rfl (yb_load (n := 3) (off := 0) rfl Tw.kr Tw.m0 Tryd.underlying141 rfl Tw.kr (by first | (simp [Value.cells]; done) | exact Nat.le_of_ble_eq_true rfl) Tw.kr) ?_
             refine wpL_s [(g5, .cells #[.int .i64 ((placeX y2).1), .int .i64 ((placeX y2).2.1), .int .i64 ((placeX y2).2.2)] 141 (0, 0)), (g3, .cells (colC y2).toArray 65 (0, 0)), (g1, .map (addM kv3 es cl (placeX y2)) (cl + 1))] rfl rfl (st_addm key3 (k := (placeX y2)) (L := ((cs.take k).map placeX)) rfl Tw.kr Tw.kr Tw.kr Tw.m2 Bg1 Tryd.underlying160 hS h5 (List.forall_mem_cons.2 ⟨.inr ⟨Tw.m0, Tw.nee⟩, (List.forall_mem_cons.2 ⟨.inr ⟨Tw.m1, Tw.nee⟩, (List.forall_mem_cons.2 ⟨.inl rfl, (List.forall_mem_nil _)⟩)⟩)⟩)) ?_
             refine wpL_done (fun W13 hW13 => ?_)
             change Code.wp ..
             refine wp_region_L _ hW13 ?_
             refine lp (v := .int .i64 (((k + 1) : Nat) : Int)) rfl rfl (run_bin rfl (vx := (.int .i64 ((k : Nat) : Int))) (vy := (.int .i64 ((1 : Nat) : Int))) Tw.kr Tw.kr fun w => bn_add (z := (k + 1)) rfl (wr_i64 Tw.om) w) ?_
             refine lm (v := .int .i64 (((k + 1) : Nat) : Int)) rfl rfl ?_
             refine wpL_done (fun W14 hW14 => ?_)
             go_roundw
             case rel =>
               repeat apply Exists.intro
               exact ⟨⟨k + 1, (addM kv3 es cl (placeX y2)), (cl + 1), Tw.om, (by rw [hR, cols_step hy2, h4, decide_eq_false h5, map_snoc placeX hy2]; rfl), (by rw [map_snoc placeX hy2]; exact (SetM.add hS cl (placeX y2))), rfl, (hW14.sub (fun p hp => by first | exact hp | (simp only [List.mem_cons, List.mem_append, List.nil_append, List.not_mem_nil, or_assoc, or_false, false_or] at hp ⊢ <;> grind)))⟩, rfl⟩
             case measure => (show cs.length - (intOf (.int .i64 (((k + 1) : Nat) : Int))).toNat < cs.length - (intOf (.int .i64 ((k : Nat) : Int))).toNat); simp only [intOf]; omega
           | true =>
             have h5 : (placeX y2) ∈ ((cs.take k).map placeX) := of_decide_eq_true hd5
             clear hd5
             refine wp_cond_true rfl ?_
             refine wp_seq ?_
             refine wp_region_L _ hW12 ?_
             refine lm (v := .bool false) rfl rfl ?_
             refine wpL_done (fun W15 hW15 => ?_)
             change Code.wp ..
             refine wp_ret ?_
             try simp only [inBlock_ret, then_ret]
             refine bodyPost_ret (v := .bool false) ?_ rfl ?_
             · kernel_rfl
             · exact ⟨(bool_is (by unfold colsX; rw [decide_eq_false h1, decide_eq_false h2, hR, cols_step hy2, h4, decide_eq_true h5]; rfl)), hW15.1⟩
   | true =>
     have h2 : 200 < cs.length := of_decide_eq_true hd2
     clear hd2
     refine wp_cond_true rfl ?_
     refine wp_seq ?_
     refine wp_region_L _ hW2 ?_
     refine lm (v := .bool false) rfl rfl ?_
     refine wpL_done (fun W16 hW16 => ?_)
     change Code.wp ..
     refine wp_ret ?_
     try simp only [inBlock_ret, then_ret]
     refine bodyPost_ret (v := .bool false) ?_ rfl ?_
     · kernel_rfl
     · exact ⟨(bool_is (by unfold colsX; rw [decide_eq_false h1, decide_eq_true h2]; rfl)), hW16.1⟩
 | true =>
   have h1 : cs.length = 0 := of_decide_eq_true hd1
   clear hd1
   refine ln rfl ?_
   refine ln rfl ?_
   refine ln rfl ?_
   refine lm (v := .bool true) rfl rfl ?_
   refine wpL_done (fun W17 hW17 => ?_)
   change Code.wp ..
   refine wp_cond_true rfl ?_
   refine wp_seq ?_
   refine wp_region_L _ hW17 ?_
   refine lm (v := .bool false) rfl rfl ?_
   refine wpL_done (fun W18 hW18 => ?_)
   change Code.wp ..
   refine wp_ret ?_
   try simp only [inBlock_ret, then_ret]
   refine bodyPost_ret (v := .bool false) ?_ rfl ?_
   · kernel_rfl
   · exact ⟨(bool_is (by unfold colsX; rw [decide_eq_true h1]; rfl)), hW18.1⟩
end Go.Proofs.YtlinjngifacmoaaDoor
namespace Go.Proofs.YtlinjngifacmoaaDoor
open Go Go.RowKit Tw
set_option maxRecDepth 100000 in
set_option maxHeartbeats 4000000 in
theorem coversRight_any (os : List Cov) (po : Option Addr) (co : Nat) (w : World) (ho : SLV w po (os.flatMap covC)) (hr : RwR w os) (lr : ∀ o ∈ os, o.rows.length ≤ 4000000000) : Calls Tryd.prog 97 #[.slice po os.length co] w fun e w' => e = .returned (.bool (ovsX os)) ∧ Below w.heap.size w w' := by
 have HO := Lib.hid ho
 clear ho
 have HR := Lib.hid hr
 clear hr
 go_enter Tryd.func97, Tryd.ntmps97
 refine wp_seq ?_
 refine wp_region_L [] (KS.start w) ?_
 refine lm (v := .bool false) rfl rfl ?_
 refine wpL_done (fun W1 hW1 => ?_)
 change Code.wp ..
 refine wp_seq ?_
 refine wp_seq ?_
 refine wp_region_L _ hW1 ?_
 refine lm (v := .slice po os.length co) rfl rfl ?_
 refine lp (v := .int .i64 ((os.length : Nat) : Int)) rfl rfl (run_lenL (p := po) (cap := co) (n := os.length) rfl Tryd.underlying23 Tw.kr) ?_
 refine lp (v := .bool (decide (40 < os.length))) rfl rfl (run_bin rfl (vx := (.int .i64 ((os.length : Nat) : Int))) (vy := (.int .i64 ((40 : Nat) : Int))) Tw.kr Tw.kr fun w => bn_gtr rfl w) ?_
 refine wpL_done (fun W2 hW2 => ?_)
 change Code.wp ..
 cases hd1 : (decide (40 < os.length)) with
 | false =>
   have h1 : ¬ (40 < os.length) := of_decide_eq_false hd1
   clear hd1
   refine wp_cond_false rfl ?_
   refine wp_skip ?_
   change Code.wp ..
   refine wp_seq ?_
   refine wp_region_L _ hW2 ?_
   refine wpL_new (fun g => .map (some g)) (obi := .map #[] 0) rfl rfl Tw.kf Tw.pf fun g1 Bg1 Fg1 => ?_
   refine lm (v := .map (some g1)) rfl rfl ?_
   refine wpL_done (fun W3 hW3 => ?_)
   change Code.wp ..
   refine wp_seq ?_
   refine wp_seq ?_
   refine wp_region_L _ hW3 ?_
   refine lm (v := .slice po os.length co) rfl rfl ?_
   refine lp (v := .int .i64 ((os.length : Nat) : Int)) rfl rfl (run_lenL (p := po) (cap := co) (n := os.length) rfl Tryd.underlying23 Tw.kr) ?_
   refine lm (v := .int .i64 0) rfl rfl ?_
   refine wpL_done (fun W4 hW4 => ?_)
   change Code.wp ..
   refine wp_block ?_
   go_loopw [15] (fun u15 wr => ∃ (k : Nat) (es : Array MapEntry) (cl : Nat) (L : List I2), (k ≤ os.length) ∧ (ovsF [] os = ovsF L (os.drop k)) ∧ (SetM kv2 es L) ∧ u15 = .int .i64 ((k : Nat) : Int) ∧ KS w [(g1, .map es cl)] wr) (fun u15 _ => os.length - (intOf u15).toNat)
   case atStart => exact ⟨0, #[], 0, [], (Nat.zero_le _), rfl, SetM.nil, rfl, (hW4.sub (fun p hp => by first | exact hp | (simp only [List.mem_cons, List.mem_append, List.nil_append, List.not_mem_nil, or_assoc, or_false, false_or] at hp ⊢ <;> grind)))⟩
   case round =>
     obtain ⟨k, es, cl, L, hk, hR, hS, rfl, hL5⟩ := hrel
     refine wp_seq ?_
     refine wp_region_L _ hL5 ?_
     refine lp (v := .bool (decide (k < os.length))) rfl rfl (run_bin rfl (vx := (.int .i64 ((k : Nat) : Int))) (vy := (.int .i64 ((os.length : Nat) : Int))) Tw.kr Tw.kr fun w => bn_lss rfl w) ?_
     refine wpL_done (fun W6 hW6 => ?_)
     change Code.wp ..
     refine wp_seq ?_
     cases hd2 : (decide (k < os.length)) with
     | false =>
       have h2 : ¬ (k < os.length) := of_decide_eq_false hd2
       clear hd2
       refine wp_cond_false rfl ?_
       refine wp_exit ?_
       change Code.wp ..
       refine wp_seq ?_
       refine wp_region_L _ hW6 ?_
       refine lm (v := .bool true) rfl rfl ?_
       refine wpL_done (fun W7 hW7 => ?_)
       change Code.wp ..
       refine wp_ret ?_
       try simp only [inBlock_ret, then_ret]
       refine bodyPost_ret (v := .bool true) ?_ rfl ?_
       · kernel_rfl
       · exact ⟨(bool_is (by unfold ovsX; rw [decide_eq_false h1, hR, ovs_end h2]; rfl)), hW7.1⟩
     | true =>
       have h2 : k < os.length := of_decide_eq_true hd2
       clear hd2
       refine wp_cond_true rfl ?_
       refine wp_skip ?_
       change Code.wp ..
       refine wp_seq ?_
       refine wp_block ?_
       refine wp_seq ?_
       refine wp_region_L _ hW6 ?_
       obtain ⟨y2, g2_, f2_, hy2, hp2, hc2⟩ := RL.at (RL.base HO.out) covC_len (by decide) (hW6.sub (fun _ h => by cases h)) (k := k) Tw.om
       refine lp (v := .pointer (some ⟨g2_, f2_ + k * 2, none⟩)) rfl rfl (run_idxQ (p := po) (cap := co) (n := os.length) (j := .i64) (k := k) (sz := 2) rfl Tryd.underlying23 Tw.kr Tw.kr hp2 Tw.kr Tw.om) ?_
       refine lv (v := .agg (covC y2).toArray) rfl rfl (yb_rs (off := f2_ + k * 2) (cs := covC y2) rfl Tw.kr (fun W hW => hc2 W (hW.sub (fun _ h => by cases h))) Tryd.underlying67 rfl Tw.kr) ?_
       refine wpL_new (fun g => .pointer (some ⟨g, 0, none⟩)) (obi := .cells #[.int .i64 0, .slice none 0 0] 67 (0, 0)) rfl rfl Tw.kf Tw.pf fun g3 Bg3 Fg3 => ?_
       obtain dj4_0 : g1 ≠ g3 := Tw.dkf Fg3
       refine wpL_s [(g3, .cells (covC y2).toArray 67 (0, 0)), (g1, .map es cl)] rfl rfl (st_row (off := 0) (v := .agg (covC y2).toArray) rfl Tw.kr Tw.kr Tw.m0 Bg3 Tw.kr (by first | (simp [Value.cells]; done) | exact Nat.le_of_ble_eq_true rfl) (fun v hv => covC_one y2 v hv) Tw.kr (List.forall_mem_cons.2 ⟨.inl rfl, (List.forall_mem_cons.2 ⟨.inr ⟨Tw.m1, Tw.nee⟩, (List.forall_mem_nil _)⟩)⟩)) ?_
       refine wpL_done (fun W8 hW8 => ?_)
       change Code.wp ..
       refine wp_seq ?_
       refine wp_seq ?_
       refine wp_region_L _ hW8 ?_
       refine lv (v := .agg (covC y2).toArray) rfl rfl (yb_load (n := 2) (off := 0) rfl Tw.kr Tw.m0 Tryd.underlying67 rfl Tw.kr (by first | (simp [Value.cells]; done) | exact Nat.le_of_ble_eq_true rfl) Tw.kr) ?_
       refine lv (v := .bool (ovX y2)) rfl rfl (yb_call (f := 113) (args := #[.agg (covC y2).toArray]) Tw.kf fun W hW => coverRight_any y2 (lr y2 (List.mem_of_getElem? hy2)) W ((RL.base (HR.out y2 (List.mem_of_getElem? hy2))) _ (hW.sub (fun _ h => by cases h)))) ?_
       refine lp (v := .bool (!(ovX y2))) rfl rfl (run_un rfl Tw.kr fun w => un_not w) ?_
       refine wpL_done (fun W9 hW9 => ?_)
       change Code.wp ..
       cases h3 : (ovX y2) with
       | false =>
         refine wp_cond_true rfl ?_
         refine wp_seq ?_
         refine wp_region_L _ hW9 ?_
         refine lm (v := .bool false) rfl rfl ?_
         refine wpL_done (fun W10 hW10 => ?_)
         change Code.wp ..
         refine wp_ret ?_
         try simp only [inBlock_ret, then_ret]
         refine bodyPost_ret (v := .bool false) ?_ rfl ?_
         · kernel_rfl
         · exact ⟨(bool_is (by unfold ovsX; rw [decide_eq_false h1, hR, ovs_step hy2, h3]; rfl)), hW10.1⟩
       | true =>
         refine wp_cond_false rfl ?_
         refine wp_skip ?_
         change Code.wp ..
         refine wp_seq ?_
         refine wp_region_L _ hW9 ?_
         refine lm (v := .pointer (some ⟨g3, 1, none⟩)) rfl rfl ?_
         refine lv (v := .slice y2.rp y2.rows.length y2.rc) rfl rfl (yb_cell (off := 1) rfl Tw.kr Tw.m0 Tryd.underlying63 rfl Tw.kr) ?_
         refine lp (v := .int .i64 ((y2.rows.length : Nat) : Int)) rfl rfl (run_lenL (p := y2.rp) (cap := y2.rc) (n := y2.rows.length) rfl Tryd.underlying63 Tw.kr) ?_
         refine lm (v := .int .i64 0) rfl rfl ?_
         refine wpL_done (fun W11 hW11 => ?_)
         change Code.wp ..
         refine wp_block ?_
         have lz2 := lr y2 (List.mem_of_getElem? hy2)
         go_loopw [25] (fun u25 wr => ∃ (m : Nat) (es2 : Array MapEntry) (cl2 : Nat), (m ≤ y2.rows.length) ∧ (freshF y2.bay L y2.rows = freshF y2.bay (L ++ (y2.rows.take m).map (fun r => (y2.bay, r))) (y2.rows.drop m)) ∧ (SetM kv2 es2 (L ++ (y2.rows.take m).map (fun r => (y2.bay, r)))) ∧ u25 = .int .i64 ((m : Nat) : Int) ∧ KS w [(g3, .cells (covC y2).toArray 67 (0, 0)), (g1, .map es2 cl2)] wr) (fun u25 _ => y2.rows.length - (intOf u25).toNat)
         case atStart => exact ⟨0, es, cl, (Nat.zero_le _), (by rw [List.take_zero, List.map_nil, List.append_nil]; rfl), (by rw [List.take_zero, List.map_nil, List.append_nil]; exact hS), rfl, (hW11.sub (fun p hp => by first | exact hp | (simp only [List.mem_cons, List.mem_append, List.nil_append, List.not_mem_nil, or_assoc, or_false, false_or] at hp ⊢ <;> grind)))⟩
         case round =>
           obtain ⟨m, es2, cl2, hm, hI, hT, rfl, hL12⟩ := hrel
           refine wp_seq ?_
           refine wp_region_L _ hL12 ?_
           refine lp (v := .bool (decide (m < y2.rows.length))) rfl rfl (run_bin rfl (vx := (.int .i64 ((m : Nat) : Int))) (vy := (.int .i64 ((y2.rows.length : Nat) : Int))) Tw.kr Tw.kr fun w => bn_lss rfl w) ?_
           refine wpL_done (fun W13 hW13 => ?_)
           change Code.wp ..
           refine wp_seq ?_
           cases hd4 : (decide (m < y2.rows.length)) with
           | false =>
             have h4 : ¬ (m < y2.rows.length) := of_decide_eq_false hd4
             clear hd4
             refine wp_cond_false rfl ?_
             refine wp_exit ?_
             change Code.wp ..
             refine wp_region_L _ hW13 ?_
             refine lp (v := .int .i64 (((k + 1) : Nat) : Int)) rfl rfl (run_bin rfl (vx := (.int .i64 ((k : Nat) : Int))) (vy := (.int .i64 ((1 : Nat) : Int))) Tw.kr Tw.kr fun w => bn_add (z := (k + 1)) rfl (wr_i64 Tw.om) w) ?_
             refine lm (v := .int .i64 (((k + 1) : Nat) : Int)) rfl rfl ?_
             refine wpL_done (fun W14 hW14 => ?_)
             go_roundw
             case rel =>
               repeat apply Exists.intro
               exact ⟨⟨k + 1, es2, cl2, (L ++ y2.rows.map (fun r => (y2.bay, r))), Tw.om, (by rw [hR, ovs_step hy2, h3, hI, fresh_end h4]; rfl), (by rw [show y2.rows.take m = y2.rows from List.take_of_length_le Tw.om] at hT; exact hT), rfl, (hW14.sub (fun p hp => by first | exact hp | (simp only [List.mem_cons, List.mem_append, List.nil_append, List.not_mem_nil, or_assoc, or_false, false_or] at hp ⊢ <;> grind)))⟩, rfl⟩
             case measure => (show os.length - (intOf (.int .i64 (((k + 1) : Nat) : Int))).toNat < os.length - (intOf (.int .i64 ((k : Nat) : Int))).toNat); simp only [intOf]; omega
           | true =>
             have h4 : m < y2.rows.length := of_decide_eq_true hd4
             clear hd4
             refine wp_cond_true rfl ?_
             refine wp_skip ?_
             change Code.wp ..
             refine wp_seq ?_
             refine wp_block ?_
             refine wp_seq ?_
             refine wp_region_L _ hW13 ?_
             obtain ⟨y5, g5_, f5_, hy5, hp5, hc5⟩ := RL.at (RL.base (HR.out y2 (List.mem_of_getElem? hy2))) inC_len (by decide) (hW13.sub (fun _ h => by cases h)) (k := m) Tw.om
             refine lp (v := .pointer (some ⟨g5_, f5_ + m * 1, none⟩)) rfl rfl (run_idxQ (p := y2.rp) (cap := y2.rc) (n := y2.rows.length) (j := .i64) (k := m) (sz := 1) rfl Tryd.underlying63 Tw.kr Tw.kr hp5 Tw.kr Tw.om) ?_
             refine lv (v := .int .i64 y5) rfl rfl (yb_rf (v := .int .i64 y5) rfl Tw.kr (fun W hW => hc5 W (hW.sub (fun _ h => by cases h)) 0 _ rfl) Tryd.underlying3 rfl) ?_
             refine lm (v := .int .i64 y5) rfl rfl ?_
             refine wpL_done (fun W15 hW15 => ?_)
             change Code.wp ..
             refine wp_seq ?_
             refine wp_region_L _ hW15 ?_
             refine lm (v := .pointer (some ⟨g3, 0, none⟩)) rfl rfl ?_
             refine lv (v := .int .i64 y2.bay) rfl rfl (yb_cell (off := 0) rfl Tw.kr Tw.m0 Tryd.underlying3 rfl Tw.kr) ?_
             refine lm (v := .int .i64 y5) rfl rfl ?_
             refine lm (v := .agg #[.int .i64 y2.bay, .int .i64 y5]) rfl rfl ?_
             refine wpL_new (fun g => .pointer (some ⟨g, 0, none⟩)) (obi := .cells #[.int .i64 0, .int .i64 0] 164 (0, 0)) rfl rfl Tw.kf Tw.pf fun g6 Bg6 Fg6 => ?_
             obtain ⟨dj7_0, dj7_1⟩ : g3 ≠ g6 ∧ g1 ≠ g6 := Tw.dkf Fg6
             refine wpL_s [(g6, .cells #[.int .i64 y2.bay, .int .i64 y5] 164 (0, 0)), (g3, .cells (covC y2).toArray 67 (0, 0)), (g1, .map es2 cl2)] rfl rfl (st_row (off := 0) (v := .agg #[.int .i64 y2.bay, .int .i64 y5]) rfl Tw.kr Tw.kr Tw.m0 Bg6 Tw.kr (by first | (simp [Value.cells]; done) | exact Nat.le_of_ble_eq_true rfl) (by intro v hv; simp [Value.cells] at hv; first | (subst hv; rfl) | (rcases hv with rfl | rfl <;> rfl)) Tw.kr (List.forall_mem_cons.2 ⟨.inl rfl, (List.forall_mem_cons.2 ⟨.inr ⟨Tw.m1, Tw.nee⟩, (List.forall_mem_cons.2 ⟨.inr ⟨Tw.m2, Tw.nee⟩, (List.forall_mem_nil _)⟩)⟩)⟩)) ?_
             refine wpL_done (fun W16 hW16 => ?_)
             change Code.wp ..
             refine wp_seq ?_
             refine wp_seq ?_
             refine wp_region_L _ hW16 ?_
             refine lm (v := .map (some g1)) rfl rfl ?_
             refine lv (v := .agg #[.int .i64 y2.bay, .int .i64 y5]) rfl rfl (yb_load (n := 2) (off := 0) rfl Tw.kr Tw.m0 Tryd.underlying164 rfl Tw.kr (by first | (simp [Value.cells]; done) | exact Nat.le_of_ble_eq_true rfl) Tw.kr) ?_
             refine lv (v := .bool (decide ((y2.bay, y5) ∈ (L ++ (y2.rows.take m).map (fun r => (y2.bay, r)))))) rfl rfl (yb_lookset key2 (k := (y2.bay, y5)) (L := (L ++ (y2.rows.take m).map (fun r => (y2.bay, r)))) rfl Tw.kr Tw.kr Tw.m2 Tryd.underlying162 Tw.kf hT decide_eq_true_iff) ?_
             refine wpL_done (fun W17 hW17 => ?_)
             change Code.wp ..
             cases hd5 : (decide ((y2.bay, y5) ∈ (L ++ (y2.rows.take m).map (fun r => (y2.bay, r))))) with
             | false =>
               have h5 : ¬ ((y2.bay, y5) ∈ (L ++ (y2.rows.take m).map (fun r => (y2.bay, r)))) := of_decide_eq_false hd5
               clear hd5
               refine wp_cond_false rfl ?_
               refine wp_skip ?_
               change Code.wp ..
               refine wp_region_L _ hW17 ?_
               refine lm (v := .map (some g1)) rfl rfl ?_
               refine lv (v := .agg #[.int .i64 y2.bay, .int .i64 y5]) rfl rfl (yb_load (n := 2) (off := 0) rfl Tw.kr Tw.m0 Tryd.underlying164 rfl Tw.kr (by first | (simp [Value.cells]; done) | exact Nat.le_of_ble_eq_true rfl) Tw.kr) ?_
               refine wpL_s [(g6, .cells #[.int .i64 y2.bay, .int .i64 y5] 164 (0, 0)), (g3, .cells (covC y2).toArray 67 (0, 0)), (g1, .map (addM kv2 es2 cl2 (y2.bay, y5)) (cl2 + 1))] rfl rfl (st_addm key2 (k := (y2.bay, y5)) (L := (L ++ (y2.rows.take m).map (fun r => (y2.bay, r)))) rfl Tw.kr Tw.kr Tw.kr Tw.m2 Bg1 Tryd.underlying162 hT h5 (List.forall_mem_cons.2 ⟨.inr ⟨Tw.m0, Tw.nee⟩, (List.forall_mem_cons.2 ⟨.inr ⟨Tw.m1, Tw.nee⟩, (List.forall_mem_cons.2 ⟨.inl rfl, (List.forall_mem_nil _)⟩)⟩)⟩)) ?_
               refine wpL_done (fun W18 hW18 => ?_)
               change Code.wp ..
               refine wp_region_L _ hW18 ?_
               refine lp (v := .int .i64 (((m + 1) : Nat) : Int)) rfl rfl (run_bin rfl (vx := (.int .i64 ((m : Nat) : Int))) (vy := (.int .i64 ((1 : Nat) : Int))) Tw.kr Tw.kr fun w => bn_add (z := (m + 1)) rfl (wr_i64 Tw.om) w) ?_
               refine lm (v := .int .i64 (((m + 1) : Nat) : Int)) rfl rfl ?_
               refine wpL_done (fun W19 hW19 => ?_)
               go_roundw
               case rel =>
                 repeat apply Exists.intro
                 exact ⟨⟨m + 1, (addM kv2 es2 cl2 (y2.bay, y5)), (cl2 + 1), Tw.om, (by rw [hI, fresh_step hy5, decide_eq_false h5, map_snoc (fun r => (y2.bay, r)) hy5, List.append_assoc]; rfl), (by rw [map_snoc (fun r => (y2.bay, r)) hy5, ← List.append_assoc]; exact (SetM.add hT cl2 (y2.bay, y5))), rfl, (hW19.sub (fun p hp => by first | exact hp | (simp only [List.mem_cons, List.mem_append, List.nil_append, List.not_mem_nil, or_assoc, or_false, false_or] at hp ⊢ <;> grind)))⟩, rfl⟩
               case measure => (show y2.rows.length - (intOf (.int .i64 (((m + 1) : Nat) : Int))).toNat < y2.rows.length - (intOf (.int .i64 ((m : Nat) : Int))).toNat); simp only [intOf]; omega
             | true =>
               have h5 : (y2.bay, y5) ∈ (L ++ (y2.rows.take m).map (fun r => (y2.bay, r))) := of_decide_eq_true hd5
               clear hd5
               refine wp_cond_true rfl ?_
               refine wp_seq ?_
               refine wp_region_L _ hW17 ?_
               refine lm (v := .bool false) rfl rfl ?_
               refine wpL_done (fun W20 hW20 => ?_)
               change Code.wp ..
               refine wp_ret ?_
               try simp only [inBlock_ret, then_ret]
               refine bodyPost_ret (v := .bool false) ?_ rfl ?_
               · kernel_rfl
               · exact ⟨(bool_is (by unfold ovsX; rw [decide_eq_false h1, hR, ovs_step hy2, h3, hI, fresh_step hy5, decide_eq_true h5]; rfl)), hW20.1⟩
 | true =>
   have h1 : 40 < os.length := of_decide_eq_true hd1
   clear hd1
   refine wp_cond_true rfl ?_
   refine wp_seq ?_
   refine wp_region_L _ hW2 ?_
   refine lm (v := .bool false) rfl rfl ?_
   refine wpL_done (fun W21 hW21 => ?_)
   change Code.wp ..
   refine wp_ret ?_
   try simp only [inBlock_ret, then_ret]
   refine bodyPost_ret (v := .bool false) ?_ rfl ?_
   · kernel_rfl
   · exact ⟨(bool_is (by unfold ovsX; rw [decide_eq_true h1]; rfl)), hW21.1⟩
set_option maxRecDepth 100000 in
set_option maxHeartbeats 4000000 in
theorem Right_any (cs : List Col) (pc : Option Addr) (cc : Nat) (lc : cs.length ≤ 4000000000) (os : List Cov) (po : Option Addr) (co : Nat) (lo : os.length ≤ 4000000000) (t : Tl) (w : World) (hc : SLV w pc (cs.flatMap colC)) (ho : SLV w po (os.flatMap covC)) (hr : RwR w os) (lr : ∀ o ∈ os, o.rows.length ≤ 4000000000) (hq : PlR w cs) (lq : ∀ c ∈ cs, c.plugs.length ≤ 4000000000) : Calls Tryd.prog 66 #[.agg (shC (.slice pc cs.length cc) (.slice po os.length co) t).toArray] w fun e w' => e = .returned (.bool (rightX cs os)) ∧ Below w.heap.size w w' := by
 have HC := Lib.hid hc
 clear hc
 have HO := Lib.hid ho
 clear ho
 have HR := Lib.hid hr
 clear hr
 have HQ := Lib.hid hq
 clear hq
 go_enter Tryd.func66, Tryd.ntmps66
 refine wp_seq ?_
 refine wp_region_L [] (KS.start w) ?_
 refine wpL_new (fun g => .pointer (some ⟨g, 0, none⟩)) (obi := .cells (shC (.slice pc cs.length cc) (.slice po os.length co) t).toArray 32 (0, 0)) rfl rfl Tw.kf Tw.pf fun g1 Bg1 Fg1 => ?_
 refine lm (v := .bool false) rfl rfl ?_
 refine wpL_done (fun W1 hW1 => ?_)
 change Code.wp ..
 refine wp_seq ?_
 refine wp_region_L _ hW1 ?_
 refine lm (v := .pointer (some ⟨g1, 0, none⟩)) rfl rfl ?_
 refine lv (v := .slice pc cs.length cc) rfl rfl (yb_cell (off := 0) rfl Tw.kr Tw.m0 Tryd.underlying22 rfl Tw.kr) ?_
 refine lv (v := .bool (colsX cs)) rfl rfl (yb_call (f := 96) (args := #[.slice pc cs.length cc]) Tw.kf fun W hW => columnsRight_any cs pc cc W ((RL.base HC.out) _ (hW.sub (fun _ h => by cases h))) (HQ.out.keep hW.1) lq) ?_
 refine lm (v := .bool (colsX cs)) rfl rfl ?_
 cases h1 : (colsX cs) with
 | false =>
   refine ln rfl ?_
   refine ln rfl ?_
   refine ln rfl ?_
   refine lm (v := .bool false) rfl rfl ?_
   refine lm (v := .bool false) rfl rfl ?_
   refine wpL_done (fun W2 hW2 => ?_)
   change Code.wp ..
   refine wp_ret ?_
   try simp only [inBlock_ret, then_ret]
   refine bodyPost_ret (v := .bool false) ?_ rfl ?_
   · kernel_rfl
   · exact ⟨(bool_is (by unfold rightX; simp [*])), hW2.1⟩
 | true =>
   refine lm (v := .pointer (some ⟨g1, 1, none⟩)) rfl rfl ?_
   refine lv (v := .slice po os.length co) rfl rfl (yb_cell (off := 1) rfl Tw.kr Tw.m0 Tryd.underlying23 rfl Tw.kr) ?_
   refine lv (v := .bool (ovsX os)) rfl rfl (yb_call (f := 97) (args := #[.slice po os.length co]) Tw.kf fun W hW => coversRight_any os po co W ((RL.base HO.out) _ (hW.sub (fun _ h => by cases h))) (HR.out.keep hW.1) lr) ?_
   refine lm (v := .bool (ovsX os)) rfl rfl ?_
   refine lm (v := .bool (ovsX os)) rfl rfl ?_
   refine wpL_done (fun W3 hW3 => ?_)
   change Code.wp ..
   refine wp_ret ?_
   try simp only [inBlock_ret, then_ret]
   refine bodyPost_ret (v := .bool (ovsX os)) ?_ rfl ?_
   · kernel_rfl
   · exact ⟨(bool_is (by unfold rightX; simp [*])), hW3.1⟩
end Go.Proofs.YtlinjngifacmoaaDoor
namespace Go.Proofs.YtlinjngifacmoaaDoor
open Go Go.RowKit Tw
set_option maxRecDepth 100000 in
set_option maxHeartbeats 4000000 in
theorem Example_any {W0 : Base} (w : World) (hw : KS W0 [] w) : Calls Tryd.prog 37 #[] w fun e w' => ∃ v T, e = .returned v ∧ KS W0 T w' ∧ ShipT W0 exCs [(0, [0, 1])] v T := by
 go_enter Tryd.func37, Tryd.ntmps37
 refine wp_seq ?_
 refine wp_region_L (W0 := W0) [] (hw) ?_
 refine wpL_new (fun g => .pointer (some ⟨g, 0, none⟩)) (obi := .cells (shC (.slice none 0 0) (.slice none 0 0) tl0).toArray 32 (0, 0)) rfl rfl Tw.kf Tw.pf fun g1 Bg1 Fg1 => ?_
 refine wpL_done (fun W1 hW1 => ?_)
 change Code.wp ..
 refine wp_seq ?_
 refine wp_region_L (W0 := W0) [(g1, .cells (shC (.slice none 0 0) (.slice none 0 0) tl0).toArray 32 (0, 0))] (hW1) ?_
 refine lm (v := .agg #[.int .i64 0, .int .i64 0, .bool false, .int .i64 2, .int .i64 0, .int .i64 0, .int .i64 0, .int .i64 0, .slice none 0 0, .int .i64 0, .int .i64 0, .int .i64 0]) rfl rfl ?_
 refine lm (v := .agg #[.int .i64 0, .int .i64 1, .bool false, .int .i64 2, .int .i64 0, .int .i64 0, .int .i64 0, .int .i64 0, .slice none 0 0, .int .i64 0, .int .i64 0, .int .i64 0]) rfl rfl ?_
 refine lm (v := .agg #[.int .i64 0, .int .i64 0, .bool true, .int .i64 3, .int .i64 0, .int .i64 0, .int .i64 0, .int .i64 0, .slice none 0 0, .int .i64 0, .int .i64 0, .int .i64 0]) rfl rfl ?_
 refine lm (v := .agg #[.int .i64 0, .int .i64 1, .bool true, .int .i64 3, .int .i64 0, .int .i64 0, .int .i64 0, .int .i64 0, .slice none 0 0, .int .i64 0, .int .i64 0, .int .i64 0]) rfl rfl ?_
 refine lm (v := .agg #[.int .i64 1, .int .i64 1, .bool true, .int .i64 4, .int .i64 0, .int .i64 0, .int .i64 0, .int .i64 0, .slice none 0 0, .int .i64 0, .int .i64 0, .int .i64 0]) rfl rfl ?_
 refine wpL_new (fun g => .slice (some ⟨g, 0, none⟩) 5 5) (obi := .cells #[.int .i64 0, .int .i64 0, .bool false, .int .i64 2, .int .i64 0, .int .i64 0, .int .i64 0, .int .i64 0, .slice none 0 0, .int .i64 0, .int .i64 0, .int .i64 0, .int .i64 0, .int .i64 1, .bool false, .int .i64 2, .int .i64 0, .int .i64 0, .int .i64 0, .int .i64 0, .slice none 0 0, .int .i64 0, .int .i64 0, .int .i64 0, .int .i64 0, .int .i64 0, .bool true, .int .i64 3, .int .i64 0, .int .i64 0, .int .i64 0, .int .i64 0, .slice none 0 0, .int .i64 0, .int .i64 0, .int .i64 0, .int .i64 0, .int .i64 1, .bool true, .int .i64 3, .int .i64 0, .int .i64 0, .int .i64 0, .int .i64 0, .slice none 0 0, .int .i64 0, .int .i64 0, .int .i64 0, .int .i64 1, .int .i64 1, .bool true, .int .i64 4, .int .i64 0, .int .i64 0, .int .i64 0, .int .i64 0, .slice none 0 0, .int .i64 0, .int .i64 0, .int .i64 0] 65 (0, 0)) rfl rfl Tw.kf Tw.pf fun g2 Bg2 Fg2 => ?_
 obtain dj3_0 : g1 ≠ g2 := Tw.dkf Fg2
 refine wpL_new (fun g => .slice (some ⟨g, 0, none⟩) 2 2) (obi := .cells #[.int .i64 0, .int .i64 1] 3 (0, 0)) rfl rfl Tw.kf Tw.pf fun g4 Bg4 Fg4 => ?_
 obtain ⟨dj5_0, dj5_1⟩ : g2 ≠ g4 ∧ g1 ≠ g4 := Tw.dkf Fg4
 refine lm (v := .agg #[.int .i64 0, .slice (some ⟨g4, 0, none⟩) 2 2]) rfl rfl ?_
 refine wpL_new (fun g => .slice (some ⟨g, 0, none⟩) 1 1) (obi := .cells #[.int .i64 0, .slice (some ⟨g4, 0, none⟩) 2 2] 67 (0, 0)) rfl rfl Tw.kf Tw.pf fun g6 Bg6 Fg6 => ?_
 obtain ⟨dj7_0, dj7_1, dj7_2⟩ : g4 ≠ g6 ∧ g2 ≠ g6 ∧ g1 ≠ g6 := Tw.dkf Fg6
 refine lm (v := .agg (shC (.slice (some ⟨g2, 0, none⟩) 5 5) (.slice (some ⟨g6, 0, none⟩) 1 1) tl0).toArray) rfl rfl ?_
 refine wpL_s [(g6, .cells #[.int .i64 0, .slice (some ⟨g4, 0, none⟩) 2 2] 67 (0, 0)), (g4, .cells #[.int .i64 0, .int .i64 1] 3 (0, 0)), (g2, .cells #[.int .i64 0, .int .i64 0, .bool false, .int .i64 2, .int .i64 0, .int .i64 0, .int .i64 0, .int .i64 0, .slice none 0 0, .int .i64 0, .int .i64 0, .int .i64 0, .int .i64 0, .int .i64 1, .bool false, .int .i64 2, .int .i64 0, .int .i64 0, .int .i64 0, .int .i64 0, .slice none 0 0, .int .i64 0, .int .i64 0, .int .i64 0, .int .i64 0, .int .i64 0, .bool true, .int .i64 3, .int .i64 0, .int .i64 0, .int .i64 0, .int .i64 0, .slice none 0 0, .int .i64 0, .int .i64 0, .int .i64 0, .int .i64 0, .int .i64 1, .bool true, .int .i64 3, .int .i64 0, .int .i64 0, .int .i64 0, .int .i64 0, .slice none 0 0, .int .i64 0, .int .i64 0, .int .i64 0, .int .i64 1, .int .i64 1, .bool true, .int .i64 4, .int .i64 0, .int .i64 0, .int .i64 0, .int .i64 0, .slice none 0 0, .int .i64 0, .int .i64 0, .int .i64 0] 65 (0, 0)), (g1, .cells (shC (.slice (some ⟨g2, 0, none⟩) 5 5) (.slice (some ⟨g6, 0, none⟩) 1 1) tl0).toArray 32 (0, 0))] rfl rfl (st_row (off := 0) (v := .agg (shC (.slice (some ⟨g2, 0, none⟩) 5 5) (.slice (some ⟨g6, 0, none⟩) 1 1) tl0).toArray) rfl Tw.kr Tw.kr Tw.m3 Bg1 Tw.kr (by first | (simp [Value.cells]; done) | exact Nat.le_of_ble_eq_true rfl) (fun v hv => shC_one v hv) Tw.kr (List.forall_mem_cons.2 ⟨.inr ⟨Tw.m0, Tw.nee⟩, (List.forall_mem_cons.2 ⟨.inr ⟨Tw.m1, Tw.nee⟩, (List.forall_mem_cons.2 ⟨.inr ⟨Tw.m2, Tw.nee⟩, (List.forall_mem_cons.2 ⟨.inl rfl, (List.forall_mem_nil _)⟩)⟩)⟩)⟩)) ?_
 refine wpL_done (fun W2 hW2 => ?_)
 change Code.wp ..
 refine wp_ret ?_
 try simp only [inBlock_ret, then_ret]
 refine bodyPost_ret (v := .agg (shC (.slice (some ⟨g2, 0, none⟩) 5 5) (.slice (some ⟨g6, 0, none⟩) 1 1) tl0).toArray) ?_ rfl ?_
 · exact (res_cell (p := 0) rfl rfl (hW2.2 _ Tw.m3) Tryd.underlying32 rfl Tw.kr)
 · exact ⟨_, _, rfl, hW2, some ⟨g2, 0, none⟩, 5, [⟨0, [0, 1], some ⟨g4, 0, none⟩, 2⟩], some ⟨g6, 0, none⟩, 1, rfl, Nat.le_refl _, Nat.le_refl _, (fun W hW => blk_slv (cs := exCs.flatMap colC) hW Tw.m2), (fun W hW => blk_slv hW Tw.m0), (fun W hW o ho => by cases List.mem_singleton.1 ho; exact blk_slv hW Tw.m1), rfl⟩
end Go.Proofs.YtlinjngifacmoaaDoor
/- Ships that are built from places and bits: plain data. -/
namespace Go.Proofs.YtlinjngifacmoaaDoor
open Go Go.RowKit Tw
structure Pl where
 bay : Nat
 row : Nat
 tiers : Nat
 deck : Bool
def plC (p : Pl) : List Value := [.int .u8 ((p.bay : Nat) : Int), .int .u8 ((p.row : Nat) : Int), .int .u8 ((p.tiers : Nat) : Int), .bool p.deck]
def plOk (p : Pl) : Prop := p.bay ≤ 255 ∧ p.row ≤ 255 ∧ p.tiers ≤ 255
theorem plC_len (p : Pl) : (plC p).length = 4 := rfl
theorem plC_one (p : Pl) : ∀ v ∈ plC p, v.oneCell' = true := fun v hv => by
 unfold plC at hv
 simp only [List.mem_cons, List.not_mem_nil, or_false] at hv
 rcases hv with rfl | rfl | rfl | rfl <;> rfl
def colD (p : Pl) (d : Bool) : Col := ⟨((p.bay % 5 : Nat) : Int), ((p.row % 5 : Nat) : Int), d, ((2 + p.tiers % 4 : Nat) : Int), 0, 500000000, 500000000, 0, [], none, 0, ((13000 * (p.bay % 5) : Nat) : Int) - 26000, ((2500 * (p.row % 5) : Nat) : Int) - 5000, if d = true then 20000 else 2000⟩
def colOf (p : Pl) : Col := colD p p.deck
def col1 : Col := ⟨0, 0, false, 3, 0, 500000000, 500000000, 0, [], none, 0, 0, 0, 2000⟩
def addC (cs : List Col) (c : Col) : List Col := if (fst (isAt c.bay c.row c.deck) cs).isSome = true then cs else cs ++ [c]
def bld (l : List Pl) : List Col := l.foldl (fun cs p => addC cs (colOf p)) []
theorem bld_snoc {l : List Pl} {k : Nat} {p : Pl} (h : l[k]? = some p) : bld (l.take (k + 1)) = addC (bld (l.take k)) (colOf p) := by
 obtain ⟨hk, rfl⟩ := List.getElem?_eq_some_iff.1 h
 unfold bld
 rw [List.take_succ_eq_append_getElem hk, List.foldl_append]; rfl
def builtC (l : List Pl) : List Col := if (bld (l.take (min l.length 12))).length = 0 then [col1] else bld (l.take (min l.length 12))
def bitO (n i : Nat) : Bool := decide (n / 2 ^ i % 2 = 1)
def covAt (n i : Nat) : List (Int × List Int) := (if bitO n (2 * i) = true then [(((i : Nat) : Int), [0, 1])] else []) ++ (if bitO n (2 * i + 1) = true then [(((i : Nat) : Int), [2, 3, 4])] else [])
def covTo (n : Nat) : Nat → List (Int × List Int)
 | 0 => []
 | i + 1 => covTo n i ++ covAt n i
def builtO (n : Nat) : List (Int × List Int) := covTo n 5
theorem covAt_len (n i : Nat) : (covAt n i).length ≤ 2 := by
 unfold covAt
 rw [List.length_append]
 split <;> split <;> simp
theorem covTo_len (n : Nat) : ∀ i, (covTo n i).length ≤ 2 * i
 | 0 => Nat.le_refl _
 | i + 1 => by
   have h1 := covTo_len n i
   have h2 := covAt_len n i
   show (covTo n i ++ covAt n i).length ≤ _
   rw [List.length_append]; omega
theorem bld_len (l : List Pl) : (bld l).length ≤ l.length := by
 have key : ∀ (l : List Pl) (cs : List Col), (l.foldl (fun cs p => addC cs (colOf p)) cs).length ≤ cs.length + l.length := by
   intro l
   induction l with
   | nil => intro cs; exact Nat.le_refl _
   | cons p l ih =>
     intro cs
     have h1 := ih (addC cs (colOf p))
     have h2 : (addC cs (colOf p)).length ≤ cs.length + 1 := by
       unfold addC
       split
       · omega
       · rw [List.length_append]; exact Nat.le_refl _
     rw [List.foldl_cons, List.length_cons]; omega
 simpa [bld] using key l []
theorem built_len (l : List Pl) : 0 < (builtC l).length ∧ (builtC l).length ≤ 12 := by
 unfold builtC
 split
 · exact ⟨by simp, by simp⟩
 · rename_i h
   have h1 := bld_len (l.take (min l.length 12))
   rw [List.length_take] at h1
   omega
theorem builtO_len (n : Nat) : (builtO n).length ≤ 10 := covTo_len n 5
section
variable {cs : List Col} {p : Pl} {d : Bool}
theorem add_yes (h : p.deck = d) (hf : (fst (isAt ((p.bay % 5 : Nat) : Int) ((p.row % 5 : Nat) : Int) d) cs).isSome = true) : addC cs (colOf p) = cs := by
 subst h
 exact if_pos hf
theorem add_no (h : p.deck = d) (hf : (fst (isAt ((p.bay % 5 : Nat) : Int) ((p.row % 5 : Nat) : Int) d) cs).isSome = false) : addC cs (colOf p) = cs ++ [colD p d] := by
 subst h
 exact if_neg (by rw [show (colOf p).bay = ((p.bay % 5 : Nat) : Int) from rfl, show (colOf p).row = ((p.row % 5 : Nat) : Int) from rfl, show (colOf p).deck = p.deck from rfl, hf]; simp)
end
section
variable {n i : Nat}
theorem cov_00 (h : ¬ (n / 2 ^ (2 * i) % 2 = 1)) (h2 : ¬ (n / 2 ^ (2 * i + 1) % 2 = 1)) : covTo n (i + 1) = covTo n i := by
 show covTo n i ++ covAt n i = _
 simp [covAt, bitO, h, h2]
theorem cov_10 (h : n / 2 ^ (2 * i) % 2 = 1) (h2 : ¬ (n / 2 ^ (2 * i + 1) % 2 = 1)) : covTo n (i + 1) = covTo n i ++ [(((i : Nat) : Int), [0, 1])] := by
 show covTo n i ++ covAt n i = _
 simp [covAt, bitO, h, h2]
theorem cov_01 (h : ¬ (n / 2 ^ (2 * i) % 2 = 1)) (h2 : n / 2 ^ (2 * i + 1) % 2 = 1) : covTo n (i + 1) = covTo n i ++ [(((i : Nat) : Int), [2, 3, 4])] := by
 show covTo n i ++ covAt n i = _
 simp [covAt, bitO, h, h2]
theorem cov_11 (h : n / 2 ^ (2 * i) % 2 = 1) (h2 : n / 2 ^ (2 * i + 1) % 2 = 1) : covTo n (i + 1) = covTo n i ++ [(((i : Nat) : Int), [0, 1]), (((i : Nat) : Int), [2, 3, 4])] := by
 show covTo n i ++ covAt n i = _
 simp [covAt, bitO, h, h2]
end
theorem own_app {α : Type} {cells : α → List Value} {sz : Nat} {W0 : Base} {E : TypeId} {v : Value} {n : Nat} {l' : List α} {xs : List Value} {K : List (Nat × Obj)} (h : OwnL W0 E sz v n xs K) (e : xs = l'.flatMap cells) (e2 : n = l'.length) : OwnL W0 E sz v l'.length (l'.flatMap cells) K := by
 subst e e2; exact h
theorem el_col : Elem Tryd.prog 22 65 12 112 (.agg #[.int .i64 0, .int .i64 0, .bool false, .int .i64 0, .int .i64 0, .int .i64 0, .int .i64 0, .int .i64 0, .slice none 0 0, .int .i64 0, .int .i64 0, .int .i64 0]) := Elem.mk' Tryd.underlying22 Tw.kr rfl
theorem el_cov : Elem Tryd.prog 23 67 2 32 (.agg #[.int .i64 0, .slice none 0 0]) := Elem.mk' Tryd.underlying23 Tw.kr rfl
theorem bn_and {P : Program} {T : TypeId} {px py : Operand} {k : IntKind} {x y z : Nat} (h : x &&& y = z) (hx : x < 2 ^ k.bits) (hy : y < 2 ^ k.bits) (hw : k.wrap (z : Int) = (z : Int)) (w : World) : (do eqGuard .and T px py (.int k (x : Int)) (.int k (y : Int)); binOp .and T (.int k (x : Int)) (.int k (y : Int)) : Sem Value).run P w = .ok (.int k (z : Int)) w := by
 simp [eqGuard, binOp, Op.intBits]
 rw [Nat.mod_eq_of_lt hx, Nat.mod_eq_of_lt hy, h, hw]
end Go.Proofs.YtlinjngifacmoaaDoor
/- What ships that are built are: plain facts. -/
namespace Go.Proofs.YtlinjngifacmoaaDoor
open Go Go.RowKit Tw
def Good (cs : List Col) : Prop := (∀ c ∈ cs, colX c = true ∧ c.plugs = []) ∧ (cs.map placeX).Nodup
theorem colx_in {c : Col} (h : colX c = true) : 0 ≤ c.bay ∧ c.bay ≤ 39 ∧ 0 ≤ c.row ∧ c.row ≤ 30 ∧ 1 ≤ c.tiers ∧ c.tiers ≤ 10 := by
 unfold colX rangesX at h
 simp only [rgsX, Bool.and_eq_true, Bool.not_eq_true', decide_eq_false_iff_not] at h
 omega
theorem colD_x (p : Pl) (d : Bool) : colX (colD p d) = true := by
 have h1 := Nat.mod_lt p.bay (show 0 < 5 by omega)
 have h2 := Nat.mod_lt p.row (show 0 < 5 by omega)
 have h3 := Nat.mod_lt p.tiers (show 0 < 4 by omega)
 unfold colX rangesX colD
 cases d <;> simp [rgsX, incX, incF] <;> omega
theorem isAt_place {b r : Int} {d : Bool} {c : Col} : isAt b r d c = true ↔ placeX c = (b, r, if d = true then 1 else 0) := by
 unfold isAt placeX
 cases d <;> cases hc : c.deck <;> simp [Bool.and_eq_true, Prod.ext_iff]
theorem add_good {cs : List Col} {p : Pl} (h : Good cs) : Good (addC cs (colOf p)) := by
 unfold addC
 split
 · exact h
 · rename_i hf
   refine ⟨fun c hc => ?_, ?_⟩
   · rcases List.mem_append.1 hc with hc | hc
     · exact h.1 c hc
     · cases List.mem_singleton.1 hc; exact ⟨colD_x _ _, rfl⟩
   · rw [List.map_append, List.nodup_append]
     refine ⟨h.2, by simp, fun x hx y hy => ?_⟩
     obtain ⟨c, hc, rfl⟩ := List.mem_map.1 hx
     have hy : y = placeX (colOf p) := by simpa using hy
     subst hy
     intro e
     apply hf
     have : isAt (colOf p).bay (colOf p).row (colOf p).deck c = true := isAt_place.2 e
     cases hh : fst (isAt (colOf p).bay (colOf p).row (colOf p).deck) cs with
     | some k => rfl
     | none => rw [fst_none hh c hc] at this; cases this
theorem bld_good (l : List Pl) : Good (bld l) := by
 have key : ∀ (l : List Pl) (cs : List Col), Good cs → Good (l.foldl (fun cs p => addC cs (colOf p)) cs) := by
   intro l
   induction l with
   | nil => intro cs h; exact h
   | cons p l ih => intro cs h; exact ih _ (add_good h)
 exact key l [] ⟨fun c hc => (by cases hc), by simp⟩
theorem built_good (l : List Pl) : Good (builtC l) := by
 unfold builtC
 split
 · exact ⟨fun c hc => by cases List.mem_singleton.1 hc; exact ⟨by decide, rfl⟩, by simp⟩
 · exact bld_good _
section
variable {cs : List Col}
theorem el_nat {α : Type} {d : α} {l : List α} {i : Nat} {y : α} (hy : l[i]? = some y) : elB l ((i : Nat) : Int) = true ∧ elC d l ((i : Nat) : Int) = y := el_in Tw.om (by simpa using hy)
theorem cols_iff {cs : List Col} : ∀ {L : List I3}, colsF L cs = true ↔ (∀ c ∈ cs, colX c = true) ∧ (cs.map placeX).Nodup ∧ ∀ c ∈ cs, placeX c ∉ L := by
 induction cs with
 | nil => intro L; simp [colsF]
 | cons c cs ih =>
   intro L
   show (colX c && (!decide (placeX c ∈ L) && colsF (L ++ [placeX c]) cs)) = true ↔ _
   simp only [Bool.and_eq_true, Bool.not_eq_true', decide_eq_false_iff_not, ih, List.mem_cons, forall_eq_or_imp, List.map_cons, List.nodup_cons, List.mem_append, List.mem_map, List.not_mem_nil, or_false, not_or]
   constructor
   · rintro ⟨h1, h2, h3, h4, h5⟩
     exact ⟨⟨h1, h3⟩, ⟨fun ⟨d, hd, he⟩ => (h5 d hd).2 he, h4⟩, h2, fun d hd => (h5 d hd).1⟩
   · rintro ⟨⟨h1, h3⟩, ⟨h6, h4⟩, h2, h5⟩
     exact ⟨h1, h2, h3, h4, fun d hd => ⟨h5 d hd, fun he => h6 ⟨d, hd, he⟩⟩⟩
theorem cols_good (h : Good cs) (h0 : 0 < cs.length) (h2 : cs.length ≤ 200) : colsX cs = true := by
 unfold colsX
 rw [decide_eq_false Tw.om, decide_eq_false Tw.om]
 exact cols_iff.2 ⟨fun c hc => (h.1 c hc).1, h.2, fun _ _ h => by cases h⟩
end
def keysO (os : List (Int × List Int)) : List I2 := os.flatMap fun o => o.2.map fun r => (o.1, r)
def ovP (o : Int × List Int) : Bool := decide (0 ≤ o.1) && (decide (o.1 ≤ 39) && (decide (0 < o.2.length) && incX o.2 30))
theorem fresh_iff {bay : Int} {l : List Int} : ∀ {L : List I2}, freshF bay L l = true ↔ l.Nodup ∧ ∀ r ∈ l, (bay, r) ∉ L := by
 induction l with
 | nil => intro L; simp [freshF]
 | cons r l ih =>
   intro L
   show (!decide ((bay, r) ∈ L) && freshF bay (L ++ [(bay, r)]) l) = true ↔ _
   simp only [Bool.and_eq_true, Bool.not_eq_true', decide_eq_false_iff_not, ih, List.mem_cons, forall_eq_or_imp, List.nodup_cons, List.mem_append, List.not_mem_nil, or_false, not_or, Prod.mk.injEq, true_and]
   constructor
   · rintro ⟨h1, h2, h3⟩; exact ⟨⟨fun hr => (h3 r hr).2 rfl, h2⟩, h1, fun x hx => (h3 x hx).1⟩
   · rintro ⟨⟨h4, h2⟩, h1, h3⟩; exact ⟨h1, h2, fun x hx => ⟨h3 x hx, fun e => h4 (e ▸ hx)⟩⟩
theorem ovs_of {os : List Cov} : ∀ {L : List I2}, (∀ o ∈ os, ovX o = true) → (keysO (os.map fun o => (o.bay, o.rows))).Nodup → (∀ k ∈ keysO (os.map fun o => (o.bay, o.rows)), k ∉ L) → ovsF L os = true := by
 induction os with
 | nil => intro L _ _ _; rfl
 | cons o os ih =>
   intro L h1 h2 h3
   have e : keysO ((o :: os).map fun o => (o.bay, o.rows)) = (o.rows.map fun r => (o.bay, r)) ++ keysO (os.map fun o => (o.bay, o.rows)) := rfl
   rw [e] at h2 h3
   obtain ⟨n1, n2, n3⟩ := List.nodup_append.1 h2
   show (ovX o && (freshF o.bay L o.rows && ovsF (L ++ o.rows.map (fun r => (o.bay, r))) os)) = true
   rw [h1 o Tw.m0, Bool.true_and, Bool.and_eq_true]
   refine ⟨fresh_iff.2 ⟨?_, fun r hr => h3 _ (List.mem_append_left _ (List.mem_map.2 ⟨r, hr, rfl⟩))⟩, ih (fun x hx => h1 x (.tail _ hx)) n2 fun k hk hL => ?_⟩
   · have := n1
     rw [List.Nodup, List.pairwise_map] at this
     exact this.imp fun {a b} h e => h (by rw [e])
   · rcases List.mem_append.1 hL with hL | hL
     · exact h3 k (List.mem_append_right _ hk) hL
     · exact n3 k hL k hk rfl
theorem ovs_right {os : List Cov} {ov : List (Int × List Int)} (h : os.map (fun o => (o.bay, o.rows)) = ov) (h1 : ∀ o ∈ ov, ovP o = true) (h2 : (keysO ov).Nodup) (h3 : ov.length ≤ 40) : ovsX os = true := by
 subst h
 unfold ovsX
 rw [decide_eq_false (by simpa using h3)]
 refine ovs_of (fun o ho => ?_) h2 (fun _ _ h => by cases h)
 have := h1 (o.bay, o.rows) (List.mem_map.2 ⟨o, ho, rfl⟩)
 exact this
def fullO : List (Int × List Int) := [(0, [0, 1]), (0, [2, 3, 4]), (1, [0, 1]), (1, [2, 3, 4]), (2, [0, 1]), (2, [2, 3, 4]), (3, [0, 1]), (3, [2, 3, 4]), (4, [0, 1]), (4, [2, 3, 4])]
theorem covAt_sub (n i : Nat) : (covAt n i).Sublist [(((i : Nat) : Int), [0, 1]), (((i : Nat) : Int), [2, 3, 4])] := by
 unfold covAt
 split <;> split <;> simp
theorem builtO_sub (n : Nat) : (builtO n).Sublist fullO := by
 have e : builtO n = covAt n 0 ++ (covAt n 1 ++ (covAt n 2 ++ (covAt n 3 ++ covAt n 4))) := by simp [builtO, covTo]
 rw [e]
 exact (covAt_sub n 0).append ((covAt_sub n 1).append ((covAt_sub n 2).append ((covAt_sub n 3).append (covAt_sub n 4))))
theorem keys_sub {a b : List (Int × List Int)} (h : a.Sublist b) : (keysO a).Sublist (keysO b) := by
 induction h with
 | slnil => exact List.Sublist.refl _
 | cons x _ ih => exact ih.trans (List.sublist_append_right _ _)
 | cons_cons x _ ih => exact (List.Sublist.refl _).append ih
def GoodO (ov : List (Int × List Int)) : Prop := ov.Sublist fullO
theorem goodO_in {ov : List (Int × List Int)} (h : GoodO ov) : (∀ o ∈ ov, ovP o = true) ∧ (keysO ov).Nodup ∧ ov.length ≤ 10 ∧ (∀ o ∈ ov, o.2.length ≤ 3) :=
 ⟨fun o ho => (show ∀ o ∈ fullO, ovP o = true by decide) o (h.subset ho), (keys_sub h).nodup (by decide), h.length_le, fun o ho => (show ∀ o ∈ fullO, o.2.length ≤ 3 by decide) o (h.subset ho)⟩
theorem good_plugs {cs : List Col} (h : Good cs) : (∀ W, PlR W cs) ∧ ∀ c ∈ cs, c.plugs.length ≤ 4000000000 :=
 ⟨fun W => plr_nil fun c hc => (h.1 c hc).2, fun c hc => by rw [(h.1 c hc).2]; exact Nat.zero_le _⟩
end Go.Proofs.YtlinjngifacmoaaDoor
/- Slot: what the layer says, in plain lists. -/
namespace Go.Proofs.YtlinjngifacmoaaDoor
open Go Go.RowKit Tw
structure Slt where
 col : Int
 tier : Int
 half : Nat
def sltC (x : Slt) : List Value := [.int .i64 x.col, .int .i64 x.tier, .int .u8 ((x.half : Nat) : Int)]
theorem sltC_len (x : Slt) : (sltC x).length = 3 := rfl
theorem sltC_one (x : Slt) : ∀ v ∈ sltC x, v.oneCell' = true := fun v hv => by
 simp only [sltC, List.mem_cons, List.not_mem_nil, or_false] at hv
 rcases hv with rfl | rfl | rfl <;> rfl
def slt0 : Slt := ⟨0, 0, 0⟩
def eqS (a b : Slt) : Bool := decide (a.col = b.col) && (decide (a.tier = b.tier) && decide (a.half = b.half))
theorem eqS_iff {a b : Slt} : eqS a b = true ↔ a = b := by
 cases a; cases b
 simp [eqS]
theorem eqS_refl (a : Slt) : eqS a a = true := eqS_iff.2 rfl
def ovl (a b : Nat) : Bool := decide (a = b) || (decide (a = 0) || decide (b = 0))
def overS (a b : Slt) : Bool := decide (a.col = b.col) && (decide (b.tier < a.tier) && ovl a.half b.half)
def cmpI (a b : Int) : Int := if a < b then -1 else if b < a then 1 else 0
def orI : List Int → Int
 | [] => 0
 | n :: l => if n = 0 then orI l else n
def cmpS (a b : Slt) : Int := orI [cmpI a.col b.col, cmpI a.tier b.tier, cmpI ((a.half : Nat) : Int) ((b.half : Nat) : Int)]
def belowS (x : Slt) (l : List Slt) (h : Nat) : Bool := (fst (eqS ⟨x.col, x.tier - 1, h⟩) l).isSome
def heldS (x : Slt) (l : List Slt) : Bool := decide (x.tier ≤ 0) || (belowS x l x.half || (decide (x.half = 0) && (belowS x l 1 && belowS x l 2)))
-- the slots of a ship
def hsX (z : Nat) : List Nat := if z = 20 then [1, 2] else if z = 40 then [0] else []
def exS (cs : List Col) (c t : Int) : Bool := elB cs c && (!decide (t < 0) && decide (t < (elC col0 cs c).tiers))
def hasH (z h : Nat) : Bool := (fst (fun m => decide (h = m)) (hsX z)).isSome
def rightS (cs : List Col) (x : Slt) (z : Nat) : Bool := exS cs x.col x.tier && hasH z x.half
def tierS (z k t : Nat) : List Slt := (hsX z).map fun h => ⟨((k : Nat) : Int), ((t : Nat) : Int), h⟩
def colSl (z k : Nat) (n : Int) : List Slt := (List.range n.toNat).flatMap (tierS z k)
def slotsF (z : Nat) : Nat → List Col → List Slt
 | _, [] => []
 | k, c :: cs => colSl z k c.tiers ++ slotsF z (k + 1) cs
def slotsX (cs : List Col) (z : Nat) : List Slt := slotsF z 0 cs
def posT : List Col → Nat
 | [] => 0
 | c :: cs => c.tiers.toNat + posT cs
theorem hsX_len (z : Nat) : (hsX z).length ≤ 2 := by
 unfold hsX
 split
 · exact Nat.le_refl _
 · split
   · decide
   · exact Nat.zero_le _
theorem tierS_len (z k t : Nat) : (tierS z k t).length = (hsX z).length := by simp [tierS]
theorem colSl_len (z k : Nat) (n : Int) : (colSl z k n).length = n.toNat * (hsX z).length := by
 unfold colSl
 rw [List.length_flatMap]
 simp only [tierS_len]
 rw [List.map_const', List.sum_replicate_nat, List.length_range]
theorem slotsF_len (z : Nat) (cs : List Col) : ∀ k, (slotsF z k cs).length = posT cs * (hsX z).length := by
 induction cs with
 | nil => intro k; simp [slotsF, posT]
 | cons c cs ih => intro k; simp only [slotsF, posT, List.length_append, colSl_len, ih, Nat.add_mul]
theorem slots_len (cs : List Col) (z : Nat) : (slotsX cs z).length = posT cs * (hsX z).length := slotsF_len z cs 0
theorem posT_le {cs : List Col} {m : Nat} (h : ∀ c ∈ cs, c.tiers ≤ ((m : Nat) : Int)) : posT cs ≤ cs.length * m := by
 induction cs with
 | nil => simp [posT]
 | cons c cs ih =>
   have h1 := h c Tw.m0
   have h2 := ih fun d hd => h d (.tail _ hd)
   simp only [posT, List.length_cons, Nat.add_mul, Nat.one_mul]
   omega
theorem hasH_iff {z h : Nat} : hasH z h = true ↔ h ∈ hsX z := by
 unfold hasH
 constructor
 · intro hh
   cases hf : fst (fun m => decide (h = m)) (hsX z) with
   | none => rw [hf] at hh; cases hh
   | some k =>
     obtain ⟨x, h1, h2, _⟩ := fst_some hf
     have h2 : h = x := by simpa using h2
     exact h2 ▸ List.mem_of_getElem? h1
 · intro hm
   cases hf : fst (fun m => decide (h = m)) (hsX z) with
   | none => have := fst_none hf h hm; simp at this
   | some k => rfl
theorem hsX_mem {z h : Nat} (hm : h ∈ hsX z) : (z = 20 ∧ (h = 1 ∨ h = 2)) ∨ (z = 40 ∧ h = 0) := by
 unfold hsX at hm
 split at hm
 · left; simp at hm; exact ⟨by assumption, hm⟩
 · split at hm
   · right; simp at hm; exact ⟨by assumption, hm⟩
   · cases hm
theorem colSl_mem {z k : Nat} {n : Int} {x : Slt} : x ∈ colSl z k n ↔ x.col = ((k : Nat) : Int) ∧ 0 ≤ x.tier ∧ x.tier < n ∧ x.half ∈ hsX z := by
 unfold colSl tierS
 simp only [List.mem_flatMap, List.mem_range, List.mem_map]
 constructor
 · rintro ⟨t, ht, h, hh, rfl⟩
   exact ⟨rfl, by simp only; omega, by simp only; omega, hh⟩
 · rintro ⟨h1, h2, h3, h4⟩
   refine ⟨x.tier.toNat, by omega, x.half, h4, ?_⟩
   cases x
   simp only [Slt.mk.injEq, and_true] at h1 h2 ⊢
   exact ⟨h1.symm, Int.toNat_of_nonneg h2⟩
theorem slotsF_mem {z : Nat} {cs : List Col} : ∀ {k : Nat} {x : Slt}, x ∈ slotsF z k cs ↔ ∃ (j : Nat) (c : Col), cs[j]? = some c ∧ x.col = ((k + j : Nat) : Int) ∧ 0 ≤ x.tier ∧ x.tier < c.tiers ∧ x.half ∈ hsX z := by
 induction cs with
 | nil => intro k x; simp [slotsF]
 | cons d cs ih =>
   intro k x
   simp only [slotsF, List.mem_append, colSl_mem, ih]
   constructor
   · rintro (⟨h1, h2⟩ | ⟨j, c, h0, h1, h2⟩)
     · exact ⟨0, d, rfl, h1, h2⟩
     · exact ⟨j + 1, c, by simpa using h0, by rw [h1]; congr 1; omega, h2⟩
   · rintro ⟨j, c, h0, h1, h2⟩
     cases j with
     | zero => simp at h0; subst h0; exact .inl ⟨h1, h2⟩
     | succ j => exact .inr ⟨j, c, by simpa using h0, by rw [h1]; congr 1; omega, h2⟩
theorem exS_iff {cs : List Col} {n t : Int} : exS cs n t = true ↔ ∃ (j : Nat) (c : Col), cs[j]? = some c ∧ n = ((j : Nat) : Int) ∧ 0 ≤ t ∧ t < c.tiers := by
 unfold exS
 constructor
 · intro h
   simp only [Bool.and_eq_true, Bool.not_eq_true', decide_eq_false_iff_not, decide_eq_true_eq] at h
   obtain ⟨h1, h2, h3⟩ := el_mem (d := col0) h.1
   exact ⟨n.toNat, _, h1, by omega, by omega, h.2.2⟩
 · rintro ⟨j, c, hj, rfl, h1, h2⟩
   obtain ⟨e1, e2⟩ := el_in (d := col0) (l := cs) (n := ((j : Nat) : Int)) Tw.om (by simpa using hj)
   rw [e1, e2]
   simp; omega
theorem slots_mem {cs : List Col} {z : Nat} {x : Slt} : x ∈ slotsX cs z ↔ rightS cs x z = true := by
 unfold slotsX rightS
 rw [slotsF_mem, Bool.and_eq_true, exS_iff, hasH_iff]
 constructor
 · rintro ⟨j, c, h0, h1, h2, h3, h4⟩
   exact ⟨⟨j, c, h0, by rw [h1]; congr 1; omega, h2, h3⟩, h4⟩
 · rintro ⟨⟨j, c, h0, h1, h2, h3⟩, h4⟩
   exact ⟨j, c, h0, by rw [h1]; congr 1; omega, h2, h3, h4⟩
-- their order
def ltS (a b : Slt) : Prop := a.col < b.col ∨ (a.col = b.col ∧ (a.tier < b.tier ∨ (a.tier = b.tier ∧ a.half < b.half)))
theorem hsX_pw (z : Nat) : (hsX z).Pairwise (· < ·) := by
 unfold hsX
 split
 · decide
 · split <;> simp
theorem colSl_pw (z k : Nat) (n : Int) : (colSl z k n).Pairwise ltS := by
 unfold colSl
 rw [List.pairwise_flatMap]
 refine ⟨fun t _ => ?_, List.pairwise_lt_range.imp fun {a b} hab => ?_⟩
 · unfold tierS
   rw [List.pairwise_map]
   exact (hsX_pw z).imp fun {a b} hab => .inr ⟨rfl, .inr ⟨rfl, hab⟩⟩
 · intro x hx y hy
   simp only [tierS, List.mem_map] at hx hy
   obtain ⟨_, _, rfl⟩ := hx
   obtain ⟨_, _, rfl⟩ := hy
   exact .inr ⟨rfl, .inl (by simp only; omega)⟩
theorem slotsF_pw (z : Nat) (cs : List Col) : ∀ k, (slotsF z k cs).Pairwise ltS := by
 induction cs with
 | nil => intro k; exact List.Pairwise.nil
 | cons c cs ih =>
   intro k
   refine List.pairwise_append.2 ⟨colSl_pw z k c.tiers, ih (k + 1), fun x hx y hy => .inl ?_⟩
   obtain ⟨h1, _⟩ := colSl_mem.1 hx
   obtain ⟨j, _, _, h2, _⟩ := slotsF_mem.1 hy
   omega
theorem slots_pw (cs : List Col) (z : Nat) : (slotsX cs z).Pairwise ltS := slotsF_pw z cs 0
def codeN (h : Nat) : Nat := if h = 0 then 2 else if h = 1 then 1 else 3
def tierN (t : Nat) (d : Bool) : Nat := (2 * (t + 1) + if d = true then 80 else 0) % 100
def numN (b r t : Nat) (d : Bool) (h : Nat) : Nat := (4 * b + codeN h) * 10000 + r * 100 + tierN t d
def dgB (n : Nat) : UInt8 := UInt8.ofNat (48 + n % 10)
def txtN (n : Nat) : List UInt8 := [dgB (n / 1000000), dgB (n / 100000), dgB (n / 10000), dgB (n / 1000), dgB (n / 100), dgB (n / 10), dgB n]
def nameC (c : Col) (x : Slt) : List UInt8 := txtN (numN c.bay.toNat c.row.toNat x.tier.toNat c.deck x.half)
def nameX (cs : List Col) (x : Slt) : List UInt8 := nameC (elC col0 cs x.col) x
theorem dgB_nat (n : Nat) : (dgB n).toNat = 48 + n % 10 := by
 unfold dgB
 rw [UInt8.toNat_ofNat']; omega
def isDg (b : UInt8) : Bool := decide (48 ≤ b.toNat) && decide (b.toNat ≤ 57)
theorem isDg_dgB (n : Nat) : isDg (dgB n) = true := by unfold isDg; rw [dgB_nat]; simp; omega
def decN (l : List UInt8) : Nat := l.foldl (fun n b => 10 * n + (b.toNat - 48)) 0
def digsOk (l : List UInt8) : Bool := decide (l.length = 7) && l.all isDg
theorem decN_txt {n : Nat} (h : n < 10000000) : decN (txtN n) = n := by
 simp only [decN, txtN, List.foldl_cons, List.foldl_nil, dgB_nat]
 omega
def halfB (k : Nat) : Bool := decide (k = 1) || (decide (k = 2) || decide (k = 3))
def halfN (k : Nat) : Nat := if k = 1 then 1 else if k = 3 then 2 else 0
def tierM (n : Nat) : Nat := if n = 0 then 100 else n
def tierD (n : Nat) : Bool := decide (80 < tierM n)
def tierR (n : Nat) : Nat := if 80 < tierM n then tierM n - 80 else tierM n
def tierB (n : Nat) : Bool := decide (tierR n % 2 = 0) && (decide (2 ≤ tierR n) && decide (tierR n ≤ 20))
def placeB (l : List UInt8) : Bool := digsOk l && (halfB (decN l / 10000 % 4) && tierB (decN l % 100))
theorem tier_num {t : Nat} {d : Bool} (ht : t ≤ 9) : tierB (tierN t d) = true ∧ tierD (tierN t d) = d ∧ tierR (tierN t d) / 2 - 1 = t ∧ tierN t d < 100 := by
 cases d with
 | true =>
   have e : tierN t true = (2 * (t + 1) + 80) % 100 := rfl
   rcases Nat.lt_or_ge t 9 with h | h
   · have e2 : tierN t true = 2 * (t + 1) + 80 := by omega
     have em : tierM (tierN t true) = 2 * (t + 1) + 80 := by unfold tierM; rw [if_neg Tw.om, e2]
     have er : tierR (tierN t true) = 2 * (t + 1) := by unfold tierR; rw [em, if_pos Tw.om]; omega
     refine ⟨?_, ?_, by rw [er]; omega, by omega⟩
     · unfold tierB; rw [er]; simp <;> omega
     · unfold tierD; rw [em]; simp <;> omega
   · have ht9 : t = 9 := by omega
     subst ht9
     decide
 | false =>
   have e : tierN t false = (2 * (t + 1) + 0) % 100 := rfl
   have e2 : tierN t false = 2 * (t + 1) := by omega
   have em : tierM (tierN t false) = 2 * (t + 1) := by unfold tierM; rw [if_neg Tw.om, e2]
   have er : tierR (tierN t false) = 2 * (t + 1) := by unfold tierR; rw [em, if_neg Tw.om]
   refine ⟨?_, ?_, by rw [er]; omega, by omega⟩
   · unfold tierB; rw [er]; simp <;> omega
   · unfold tierD; rw [em]; simp <;> omega
theorem half_code {h : Nat} (hh : h ≤ 2) (b : Nat) : halfB ((4 * b + codeN h) % 4) = true ∧ halfN ((4 * b + codeN h) % 4) = h ∧ (4 * b + codeN h) / 4 = b := by
 rcases h with _ | _ | _ | h
 · have e : (4 * b + codeN 0) % 4 = 2 := by show (4 * b + 2) % 4 = _; omega
   rw [e]; exact ⟨rfl, rfl, by show (4 * b + 2) / 4 = b; omega⟩
 · have e : (4 * b + codeN 1) % 4 = 1 := by show (4 * b + 1) % 4 = _; omega
   rw [e]; exact ⟨rfl, rfl, by show (4 * b + 1) / 4 = b; omega⟩
 · have e : (4 * b + codeN 2) % 4 = 3 := by show (4 * b + 3) % 4 = _; omega
   rw [e]; exact ⟨rfl, rfl, by show (4 * b + 3) / 4 = b; omega⟩
 · omega
theorem codeN_le (h : Nat) : 1 ≤ codeN h ∧ codeN h ≤ 3 := by
 unfold codeN
 split
 · omega
 · split <;> omega
theorem numN_lt {b r t h : Nat} {d : Bool} (hb : b ≤ 39) (hr : r ≤ 30) (ht : t ≤ 9) : numN b r t d h < 10000000 ∧ numN b r t d h / 10000 = 4 * b + codeN h ∧ numN b r t d h / 100 % 100 = r ∧ numN b r t d h % 100 = tierN t d := by
 have h1 := codeN_le h
 have h2 := (tier_num (d := d) ht).2.2.2
 unfold numN
 omega
theorem name_place {b r t h : Nat} {d : Bool} (hb : b ≤ 39) (hr : r ≤ 30) (ht : t ≤ 9) (hh : h ≤ 2) : placeB (txtN (numN b r t d h)) = true ∧ decN (txtN (numN b r t d h)) = numN b r t d h ∧ numN b r t d h / 10000 / 4 = b ∧ numN b r t d h / 100 % 100 = r ∧ tierR (numN b r t d h % 100) / 2 - 1 = t ∧ tierD (numN b r t d h % 100) = d ∧ halfN (numN b r t d h / 10000 % 4) = h := by
 obtain ⟨n1, n2, n3, n4⟩ := numN_lt (h := h) (d := d) hb hr ht
 have hd := decN_txt n1
 obtain ⟨c1, c2, c3⟩ := half_code hh b
 obtain ⟨t1, t2, t3, t4⟩ := tier_num (d := d) ht
 refine ⟨?_, hd, by rw [n2]; exact c3, n3, by rw [n4]; exact t3, by rw [n4]; exact t2, by rw [n2]; exact c2⟩
 unfold placeB
 rw [hd, n2, n4, c1, t1]
 unfold digsOk
 simp [txtN, isDg_dgB]
def findC (cs : List Col) (l : List UInt8) : Option Nat := fst (isAt ((decN l / 10000 / 4 : Nat) : Int) ((decN l / 100 % 100 : Nat) : Int) (tierD (decN l % 100))) cs
def slotOf (cs : List Col) (l : List UInt8) : Slt := ⟨findN (findC cs l), ((tierR (decN l % 100) / 2 - 1 : Nat) : Int), halfN (decN l / 10000 % 4)⟩
def foundB (cs : List Col) (l : List UInt8) : Bool := (findC cs l).isSome && exS cs (findN (findC cs l)) ((tierR (decN l % 100) / 2 - 1 : Nat) : Int)
def findR (cs : List Col) (os : List Cov) (l : List UInt8) : Slt × Nat :=
 if rightX cs os = true then (if placeB l = true then (if foundB cs l = true then (slotOf cs l, 0) else (slt0, 6)) else (slt0, 80)) else (slt0, 2)
def isSlot (cs : List Col) (x : Slt) : Bool := rightS cs x 20 || rightS cs x 40
def nameR (cs : List Col) (os : List Cov) (x : Slt) : List UInt8 × Nat :=
 if rightX cs os = true then (if isSlot cs x = true then (nameX cs x, 0) else ([], 6)) else ([], 2)
end Go.Proofs.YtlinjngifacmoaaDoor
namespace Go.Proofs.YtlinjngifacmoaaDoor
open Go Go.RowKit Tw
theorem el_slt : Elem Tryd.prog 35 34 3 24 (.agg #[.int .i64 0, .int .i64 0, .int .u8 0]) := Elem.mk' Tryd.underlying35 Tw.kr rfl
theorem eq_slt {x y : Slt} {px py : Operand} (w : World) : (do eqGuard .eql 34 px py (.agg (sltC x).toArray) (.agg (sltC y).toArray); binOp .eql 34 (.agg (sltC x).toArray) (.agg (sltC y).toArray) : Sem Value).run Tryd.prog w = .ok (.bool (eqS x y)) w := by
 unfold sltC eqS
 go_simp
 have e2 : (((x.half : Nat) : Int) = ((y.half : Nat) : Int)) = (x.half = y.half) := by apply propext; omega
 simp only [e2]
 by_cases h0 : x.col = y.col <;> by_cases h1 : x.tier = y.tier <;> by_cases h2 : x.half = y.half <;> simp [h0, h1, h2]
theorem ne_slt {x y : Slt} {px py : Operand} (w : World) : (do eqGuard .neq 34 px py (.agg (sltC x).toArray) (.agg (sltC y).toArray); binOp .neq 34 (.agg (sltC x).toArray) (.agg (sltC y).toArray) : Sem Value).run Tryd.prog w = .ok (.bool (!eqS x y)) w := by
 unfold sltC eqS
 go_simp
 have e2 : (((x.half : Nat) : Int) = ((y.half : Nat) : Int)) = (x.half = y.half) := by apply propext; omega
 simp only [e2]
 by_cases h0 : x.col = y.col <;> by_cases h1 : x.tier = y.tier <;> by_cases h2 : x.half = y.half <;> simp [h0, h1, h2]
def u8C (n : Nat) : List Value := [.int .u8 ((n : Nat) : Int)]
theorem u8C_len (n : Nat) : (u8C n).length = 1 := rfl
theorem flat_len' {α : Type} {cells : α → List Value} {sz : Nat} (hc : ∀ y, (cells y).length = sz) (l : List α) : (l.flatMap cells).length = l.length * sz := by
 induction l with
 | nil => simp
 | cons y l ih => rw [List.flatMap_cons, List.length_append, ih, hc, List.length_cons, Nat.add_mul, Nat.one_mul, Nat.add_comm]
theorem blk_out {α : Type} {cells : α → List Value} {sz : Nat} {w W : World} {K : List (Nat × Obj)} {g : Nat} {l : List α} {E : TypeId} (hc : ∀ y, (cells y).length = sz) (hW : KS (w : Base) K W) (hm : (g, .cells (l.flatMap cells).toArray E (0, 0)) ∈ K) (hB : w.heap.size ≤ g) (hl : l.length ≤ maxLen) : OutV w W E sz (.slice (some ⟨g, 0, none⟩) l.length l.length) l.length (l.flatMap cells) :=
 .inr ⟨g, l.length, _, rfl, hB, ⟨by rw [List.size_toArray, flat_len' hc], hl, Nat.le_refl _, flat_len' hc l, by rw [← flat_len' hc l, List.take_length]⟩, hW.2 _ hm⟩

theorem or_step {l : List Int} {k : Nat} {n : Int} (hy : l[k]? = some n) : orI (l.drop k) = if n = 0 then orI (l.drop (k + 1)) else n := by
 obtain ⟨hk, rfl⟩ := List.getElem?_eq_some_iff.1 hy
 rw [List.drop_eq_getElem_cons hk]; rfl
theorem or_end {l : List Int} {k : Nat} (hk : ¬ k < l.length) : orI (l.drop k) = 0 := by
 rw [List.drop_eq_nil_of_le Tw.om]; rfl
set_option maxRecDepth 100000 in
set_option maxHeartbeats 4000000 in
theorem ovl_any (a b : Nat) (w : World) : Calls Tryd.prog 55 #[.int .u8 ((a : Nat) : Int), .int .u8 ((b : Nat) : Int)] w fun e w' => e = .returned (.bool (ovl a b)) ∧ Below w.heap.size w w' := by
 go_enter Tryd.func55, Tryd.ntmps55
 refine wp_seq ?_
 refine wp_region_L [] (KS.start w) ?_
 refine lm (v := .bool false) rfl rfl ?_
 refine wpL_done (fun W1 hW1 => ?_)
 change Code.wp ..
 refine wp_seq ?_
 refine wp_region_L _ hW1 ?_
 refine lm (v := .int .u8 ((a : Nat) : Int)) rfl rfl ?_
 refine lm (v := .int .u8 ((b : Nat) : Int)) rfl rfl ?_
 refine lp (v := .bool (decide (a = b))) rfl rfl (run_bin rfl (vx := (.int .u8 ((a : Nat) : Int))) (vy := (.int .u8 ((b : Nat) : Int))) Tw.kr Tw.kr fun w => bn_eql rfl w) ?_
 refine lm (v := .bool (decide (a = b))) rfl rfl ?_
 cases hd1 : (decide (a = b)) with
 | false =>
   have h1 : ¬ (a = b) := of_decide_eq_false hd1
   clear hd1
   refine lm (v := .int .u8 ((a : Nat) : Int)) rfl rfl ?_
   refine lp (v := .bool (decide (a = 0))) rfl rfl (run_bin rfl (vx := (.int .u8 ((a : Nat) : Int))) (vy := (.int .u8 ((0 : Nat) : Int))) Tw.kr Tw.kr fun w => bn_eql rfl w) ?_
   refine lm (v := .bool (decide (a = 0))) rfl rfl ?_
   refine lm (v := .bool (decide (a = 0))) rfl rfl ?_
   cases hd2 : (decide (a = 0)) with
   | false =>
     have h2 : ¬ (a = 0) := of_decide_eq_false hd2
     clear hd2
     refine lm (v := .int .u8 ((b : Nat) : Int)) rfl rfl ?_
     refine lp (v := .bool (decide (b = 0))) rfl rfl (run_bin rfl (vx := (.int .u8 ((b : Nat) : Int))) (vy := (.int .u8 ((0 : Nat) : Int))) Tw.kr Tw.kr fun w => bn_eql rfl w) ?_
     refine lm (v := .bool (decide (b = 0))) rfl rfl ?_
     refine lm (v := .bool (decide (b = 0))) rfl rfl ?_
     refine wpL_done (fun W2 hW2 => ?_)
     change Code.wp ..
     refine wp_ret ?_
     try simp only [inBlock_ret, then_ret]
     refine bodyPost_ret (v := .bool (decide (b = 0))) ?_ rfl ?_
     · kernel_rfl
     · exact ⟨(bool_is (by unfold ovl; simp [*])), hW2.1⟩
   | true =>
     have h2 : a = 0 := of_decide_eq_true hd2
     clear hd2
     refine ln rfl ?_
     refine ln rfl ?_
     refine lm (v := .bool true) rfl rfl ?_
     refine lm (v := .bool true) rfl rfl ?_
     refine wpL_done (fun W3 hW3 => ?_)
     change Code.wp ..
     refine wp_ret ?_
     try simp only [inBlock_ret, then_ret]
     refine bodyPost_ret (v := .bool true) ?_ rfl ?_
     · kernel_rfl
     · exact ⟨(bool_is (by unfold ovl; simp [*])), hW3.1⟩
 | true =>
   have h1 : a = b := of_decide_eq_true hd1
   clear hd1
   refine ln rfl ?_
   refine ln rfl ?_
   refine lm (v := .bool true) rfl rfl ?_
   refine lm (v := .bool true) rfl rfl ?_
   refine ln rfl ?_
   refine ln rfl ?_
   refine lm (v := .bool true) rfl rfl ?_
   refine lm (v := .bool true) rfl rfl ?_
   refine wpL_done (fun W4 hW4 => ?_)
   change Code.wp ..
   refine wp_ret ?_
   try simp only [inBlock_ret, then_ret]
   refine bodyPost_ret (v := .bool true) ?_ rfl ?_
   · kernel_rfl
   · exact ⟨(bool_is (by unfold ovl; simp [*])), hW4.1⟩
set_option maxRecDepth 100000 in
set_option maxHeartbeats 4000000 in
theorem Over_any (a b : Slt) (w : World) : Calls Tryd.prog 23 #[.agg (sltC a).toArray, .agg (sltC b).toArray] w fun e w' => e = .returned (.bool (overS a b)) ∧ Below w.heap.size w w' := by
 go_enter Tryd.func23, Tryd.ntmps23
 refine wp_seq ?_
 refine wp_region_L [] (KS.start w) ?_
 refine wpL_new (fun g => .pointer (some ⟨g, 0, none⟩)) (obi := .cells (sltC a).toArray 34 (0, 0)) rfl rfl Tw.kf Tw.pf fun g1 Bg1 Fg1 => ?_
 refine wpL_new (fun g => .pointer (some ⟨g, 0, none⟩)) (obi := .cells (sltC b).toArray 34 (0, 0)) rfl rfl Tw.kf Tw.pf fun g2 Bg2 Fg2 => ?_
 obtain dj3_0 : g1 ≠ g2 := Tw.dkf Fg2
 refine lm (v := .bool false) rfl rfl ?_
 refine wpL_done (fun W1 hW1 => ?_)
 change Code.wp ..
 refine wp_seq ?_
 refine wp_region_L _ hW1 ?_
 refine lm (v := .pointer (some ⟨g1, 0, none⟩)) rfl rfl ?_
 refine lv (v := .int .i64 a.col) rfl rfl (yb_cell (off := 0) rfl Tw.kr Tw.m1 Tryd.underlying3 rfl Tw.kr) ?_
 refine lm (v := .pointer (some ⟨g2, 0, none⟩)) rfl rfl ?_
 refine lv (v := .int .i64 b.col) rfl rfl (yb_cell (off := 0) rfl Tw.kr Tw.m0 Tryd.underlying3 rfl Tw.kr) ?_
 refine lp (v := .bool (decide (a.col = b.col))) rfl rfl (run_bin rfl (vx := (.int .i64 a.col)) (vy := (.int .i64 b.col)) Tw.kr Tw.kr fun w => bi_eql rfl w) ?_
 refine lm (v := .bool (decide (a.col = b.col))) rfl rfl ?_
 cases hd1 : (decide (a.col = b.col)) with
 | false =>
   have h1 : ¬ (a.col = b.col) := of_decide_eq_false hd1
   clear hd1
   refine ln rfl ?_
   refine ln rfl ?_
   refine ln rfl ?_
   refine ln rfl ?_
   refine ln rfl ?_
   refine lm (v := .bool false) rfl rfl ?_
   refine lm (v := .bool false) rfl rfl ?_
   refine ln rfl ?_
   refine ln rfl ?_
   refine ln rfl ?_
   refine ln rfl ?_
   refine ln rfl ?_
   refine lm (v := .bool false) rfl rfl ?_
   refine lm (v := .bool false) rfl rfl ?_
   refine wpL_done (fun W2 hW2 => ?_)
   change Code.wp ..
   refine wp_ret ?_
   try simp only [inBlock_ret, then_ret]
   refine bodyPost_ret (v := .bool false) ?_ rfl ?_
   · kernel_rfl
   · exact ⟨(bool_is (by unfold overS; simp [*])), hW2.1⟩
 | true =>
   have h1 : a.col = b.col := of_decide_eq_true hd1
   clear hd1
   refine lm (v := .pointer (some ⟨g1, 1, none⟩)) rfl rfl ?_
   refine lv (v := .int .i64 a.tier) rfl rfl (yb_cell (off := 1) rfl Tw.kr Tw.m1 Tryd.underlying3 rfl Tw.kr) ?_
   refine lm (v := .pointer (some ⟨g2, 1, none⟩)) rfl rfl ?_
   refine lv (v := .int .i64 b.tier) rfl rfl (yb_cell (off := 1) rfl Tw.kr Tw.m0 Tryd.underlying3 rfl Tw.kr) ?_
   refine lp (v := .bool (decide (b.tier < a.tier))) rfl rfl (run_bin rfl (vx := (.int .i64 a.tier)) (vy := (.int .i64 b.tier)) Tw.kr Tw.kr fun w => bi_gtr rfl w) ?_
   refine lm (v := .bool (decide (b.tier < a.tier))) rfl rfl ?_
   refine lm (v := .bool (decide (b.tier < a.tier))) rfl rfl ?_
   cases hd2 : (decide (b.tier < a.tier)) with
   | false =>
     have h2 : ¬ (b.tier < a.tier) := of_decide_eq_false hd2
     clear hd2
     refine ln rfl ?_
     refine ln rfl ?_
     refine ln rfl ?_
     refine ln rfl ?_
     refine ln rfl ?_
     refine lm (v := .bool false) rfl rfl ?_
     refine lm (v := .bool false) rfl rfl ?_
     refine wpL_done (fun W3 hW3 => ?_)
     change Code.wp ..
     refine wp_ret ?_
     try simp only [inBlock_ret, then_ret]
     refine bodyPost_ret (v := .bool false) ?_ rfl ?_
     · kernel_rfl
     · exact ⟨(bool_is (by unfold overS; simp [*])), hW3.1⟩
   | true =>
     have h2 : b.tier < a.tier := of_decide_eq_true hd2
     clear hd2
     refine lm (v := .pointer (some ⟨g1, 2, none⟩)) rfl rfl ?_
     refine lv (v := .int .u8 ((a.half : Nat) : Int)) rfl rfl (yb_cell (off := 2) rfl Tw.kr Tw.m1 Tryd.underlying5 rfl Tw.kr) ?_
     refine lm (v := .pointer (some ⟨g2, 2, none⟩)) rfl rfl ?_
     refine lv (v := .int .u8 ((b.half : Nat) : Int)) rfl rfl (yb_cell (off := 2) rfl Tw.kr Tw.m0 Tryd.underlying5 rfl Tw.kr) ?_
     refine lv (v := .bool (ovl a.half b.half)) rfl rfl (yb_call (f := 55) (args := #[.int .u8 ((a.half : Nat) : Int), .int .u8 ((b.half : Nat) : Int)]) Tw.kf fun W hW => ovl_any a.half b.half W) ?_
     refine lm (v := .bool (ovl a.half b.half)) rfl rfl ?_
     refine lm (v := .bool (ovl a.half b.half)) rfl rfl ?_
     refine wpL_done (fun W4 hW4 => ?_)
     change Code.wp ..
     refine wp_ret ?_
     try simp only [inBlock_ret, then_ret]
     refine bodyPost_ret (v := .bool (ovl a.half b.half)) ?_ rfl ?_
     · kernel_rfl
     · exact ⟨(bool_is (by unfold overS; simp [*])), hW4.1⟩
set_option maxRecDepth 100000 in
set_option maxHeartbeats 4000000 in
theorem isNaN_any (x : Int) (w : World) : Calls Tryd.prog 82 #[.int .i64 x] w fun e w' => e = .returned (.bool false) ∧ Below w.heap.size w w' := by
 go_enter Tryd.func82, Tryd.ntmps82
 refine wp_seq ?_
 refine wp_region_L [] (KS.start w) ?_
 refine lm (v := .bool false) rfl rfl ?_
 refine wpL_done (fun W1 hW1 => ?_)
 change Code.wp ..
 refine wp_seq ?_
 refine wp_region_L _ hW1 ?_
 refine lm (v := .int .i64 x) rfl rfl ?_
 refine lm (v := .int .i64 x) rfl rfl ?_
 refine lp (v := .bool false) rfl rfl (run_bin rfl (vx := (.int .i64 x)) (vy := (.int .i64 x)) Tw.kr Tw.kr fun w => bi_neq (decide_eq_true rfl) w) ?_
 refine lm (v := .bool false) rfl rfl ?_
 refine wpL_done (fun W2 hW2 => ?_)
 change Code.wp ..
 refine wp_ret ?_
 try simp only [inBlock_ret, then_ret]
 refine bodyPost_ret (v := .bool false) ?_ rfl ?_
 · kernel_rfl
 · exact ⟨rfl, hW2.1⟩
set_option maxRecDepth 100000 in
set_option maxHeartbeats 4000000 in
theorem isNaN8_any (x : Nat) (w : World) : Calls Tryd.prog 83 #[.int .u8 ((x : Nat) : Int)] w fun e w' => e = .returned (.bool false) ∧ Below w.heap.size w w' := by
 go_enter Tryd.func83, Tryd.ntmps83
 refine wp_seq ?_
 refine wp_region_L [] (KS.start w) ?_
 refine lm (v := .bool false) rfl rfl ?_
 refine wpL_done (fun W1 hW1 => ?_)
 change Code.wp ..
 refine wp_seq ?_
 refine wp_region_L _ hW1 ?_
 refine lm (v := .int .u8 ((x : Nat) : Int)) rfl rfl ?_
 refine lm (v := .int .u8 ((x : Nat) : Int)) rfl rfl ?_
 refine lp (v := .bool false) rfl rfl (run_bin rfl (vx := (.int .u8 ((x : Nat) : Int))) (vy := (.int .u8 ((x : Nat) : Int))) Tw.kr Tw.kr fun w => bn_neq (decide_eq_true rfl) w) ?_
 refine lm (v := .bool false) rfl rfl ?_
 refine wpL_done (fun W2 hW2 => ?_)
 change Code.wp ..
 refine wp_ret ?_
 try simp only [inBlock_ret, then_ret]
 refine bodyPost_ret (v := .bool false) ?_ rfl ?_
 · kernel_rfl
 · exact ⟨rfl, hW2.1⟩
set_option maxRecDepth 100000 in
set_option maxHeartbeats 4000000 in
theorem Cmp_any (x y : Int) (w : World) : Calls Tryd.prog 52 #[.int .i64 x, .int .i64 y] w fun e w' => e = .returned (.int .i64 (cmpI x y)) ∧ Below w.heap.size w w' := by
 go_enter Tryd.func52, Tryd.ntmps52
 refine wp_seq ?_
 refine wp_region_L [] (KS.start w) ?_
 refine lm (v := .int .i64 0) rfl rfl ?_
 refine wpL_done (fun W1 hW1 => ?_)
 change Code.wp ..
 refine wp_seq ?_
 refine wp_region_L _ hW1 ?_
 refine lm (v := .int .i64 x) rfl rfl ?_
 refine lv (v := .bool false) rfl rfl (yb_call (f := 82) (args := #[.int .i64 x]) Tw.kf fun W hW => isNaN_any x W) ?_
 refine lm (v := .bool false) rfl rfl ?_
 refine wpL_done (fun W2 hW2 => ?_)
 change Code.wp ..
 refine wp_seq ?_
 refine wp_region_L _ hW2 ?_
 refine lm (v := .int .i64 y) rfl rfl ?_
 refine lv (v := .bool false) rfl rfl (yb_call (f := 82) (args := #[.int .i64 y]) Tw.kf fun W hW => isNaN_any y W) ?_
 refine lm (v := .bool false) rfl rfl ?_
 refine wpL_done (fun W3 hW3 => ?_)
 change Code.wp ..
 refine wp_seq ?_
 refine wp_seq ?_
 refine wp_region_L _ hW3 ?_
 refine lm (v := .bool false) rfl rfl ?_
 refine wpL_done (fun W4 hW4 => ?_)
 change Code.wp ..
 refine wp_cond_false rfl ?_
 refine wp_skip ?_
 change Code.wp ..
 refine wp_seq ?_
 refine wp_seq ?_
 refine wp_region_L _ hW4 ?_
 refine lm (v := .bool false) rfl rfl ?_
 refine wpL_done (fun W5 hW5 => ?_)
 change Code.wp ..
 refine wp_cond_false rfl ?_
 refine wp_skip ?_
 change Code.wp ..
 refine wp_seq ?_
 refine wp_seq ?_
 refine wp_region_L _ hW5 ?_
 refine lm (v := .int .i64 x) rfl rfl ?_
 refine lm (v := .int .i64 y) rfl rfl ?_
 refine lp (v := .bool (decide (x < y))) rfl rfl (run_bin rfl (vx := (.int .i64 x)) (vy := (.int .i64 y)) Tw.kr Tw.kr fun w => bi_lss rfl w) ?_
 refine wpL_done (fun W6 hW6 => ?_)
 change Code.wp ..
 cases hd1 : (decide (x < y)) with
 | false =>
   have h1 : ¬ (x < y) := of_decide_eq_false hd1
   clear hd1
   refine wp_cond_false rfl ?_
   refine wp_skip ?_
   change Code.wp ..
   refine wp_seq ?_
   refine wp_seq ?_
   refine wp_region_L _ hW6 ?_
   refine lm (v := .int .i64 x) rfl rfl ?_
   refine lm (v := .int .i64 y) rfl rfl ?_
   refine lp (v := .bool (decide (y < x))) rfl rfl (run_bin rfl (vx := (.int .i64 x)) (vy := (.int .i64 y)) Tw.kr Tw.kr fun w => bi_gtr rfl w) ?_
   refine wpL_done (fun W7 hW7 => ?_)
   change Code.wp ..
   cases hd2 : (decide (y < x)) with
   | false =>
     have h2 : ¬ (y < x) := of_decide_eq_false hd2
     clear hd2
     refine wp_cond_false rfl ?_
     refine wp_skip ?_
     change Code.wp ..
     refine wp_seq ?_
     refine wp_region_L _ hW7 ?_
     refine lm (v := .int .i64 0) rfl rfl ?_
     refine wpL_done (fun W8 hW8 => ?_)
     change Code.wp ..
     refine wp_ret ?_
     try simp only [inBlock_ret, then_ret]
     refine bodyPost_ret (v := .int .i64 0) ?_ rfl ?_
     · kernel_rfl
     · exact ⟨(int_is (by unfold cmpI; simp [*])), hW8.1⟩
   | true =>
     have h2 : y < x := of_decide_eq_true hd2
     clear hd2
     refine wp_cond_true rfl ?_
     refine wp_seq ?_
     refine wp_region_L _ hW7 ?_
     refine lm (v := .int .i64 1) rfl rfl ?_
     refine wpL_done (fun W9 hW9 => ?_)
     change Code.wp ..
     refine wp_ret ?_
     try simp only [inBlock_ret, then_ret]
     refine bodyPost_ret (v := .int .i64 1) ?_ rfl ?_
     · kernel_rfl
     · exact ⟨(int_is (by unfold cmpI; simp [*])), hW9.1⟩
 | true =>
   have h1 : x < y := of_decide_eq_true hd1
   clear hd1
   refine wp_cond_true rfl ?_
   refine wp_seq ?_
   refine wp_region_L _ hW6 ?_
   refine lm (v := .int .i64 (-1)) rfl rfl ?_
   refine wpL_done (fun W10 hW10 => ?_)
   change Code.wp ..
   refine wp_ret ?_
   try simp only [inBlock_ret, then_ret]
   refine bodyPost_ret (v := .int .i64 (-1)) ?_ rfl ?_
   · kernel_rfl
   · exact ⟨(int_is (by unfold cmpI; simp [*])), hW10.1⟩
set_option maxRecDepth 100000 in
set_option maxHeartbeats 4000000 in
theorem Cmp8_any (x y : Nat) (w : World) : Calls Tryd.prog 53 #[.int .u8 ((x : Nat) : Int), .int .u8 ((y : Nat) : Int)] w fun e w' => e = .returned (.int .i64 (cmpI ((x : Nat) : Int) ((y : Nat) : Int))) ∧ Below w.heap.size w w' := by
 go_enter Tryd.func53, Tryd.ntmps53
 refine wp_seq ?_
 refine wp_region_L [] (KS.start w) ?_
 refine lm (v := .int .i64 0) rfl rfl ?_
 refine wpL_done (fun W1 hW1 => ?_)
 change Code.wp ..
 refine wp_seq ?_
 refine wp_region_L _ hW1 ?_
 refine lm (v := .int .u8 ((x : Nat) : Int)) rfl rfl ?_
 refine lv (v := .bool false) rfl rfl (yb_call (f := 83) (args := #[.int .u8 ((x : Nat) : Int)]) Tw.kf fun W hW => isNaN8_any x W) ?_
 refine lm (v := .bool false) rfl rfl ?_
 refine wpL_done (fun W2 hW2 => ?_)
 change Code.wp ..
 refine wp_seq ?_
 refine wp_region_L _ hW2 ?_
 refine lm (v := .int .u8 ((y : Nat) : Int)) rfl rfl ?_
 refine lv (v := .bool false) rfl rfl (yb_call (f := 83) (args := #[.int .u8 ((y : Nat) : Int)]) Tw.kf fun W hW => isNaN8_any y W) ?_
 refine lm (v := .bool false) rfl rfl ?_
 refine wpL_done (fun W3 hW3 => ?_)
 change Code.wp ..
 refine wp_seq ?_
 refine wp_seq ?_
 refine wp_region_L _ hW3 ?_
 refine lm (v := .bool false) rfl rfl ?_
 refine wpL_done (fun W4 hW4 => ?_)
 change Code.wp ..
 refine wp_cond_false rfl ?_
 refine wp_skip ?_
 change Code.wp ..
 refine wp_seq ?_
 refine wp_seq ?_
 refine wp_region_L _ hW4 ?_
 refine lm (v := .bool false) rfl rfl ?_
 refine wpL_done (fun W5 hW5 => ?_)
 change Code.wp ..
 refine wp_cond_false rfl ?_
 refine wp_skip ?_
 change Code.wp ..
 refine wp_seq ?_
 refine wp_seq ?_
 refine wp_region_L _ hW5 ?_
 refine lm (v := .int .u8 ((x : Nat) : Int)) rfl rfl ?_
 refine lm (v := .int .u8 ((y : Nat) : Int)) rfl rfl ?_
 refine lp (v := .bool (decide (x < y))) rfl rfl (run_bin rfl (vx := (.int .u8 ((x : Nat) : Int))) (vy := (.int .u8 ((y : Nat) : Int))) Tw.kr Tw.kr fun w => bn_lss rfl w) ?_
 refine wpL_done (fun W6 hW6 => ?_)
 change Code.wp ..
 cases hd1 : (decide (x < y)) with
 | false =>
   have h1 : ¬ (x < y) := of_decide_eq_false hd1
   clear hd1
   refine wp_cond_false rfl ?_
   refine wp_skip ?_
   change Code.wp ..
   refine wp_seq ?_
   refine wp_seq ?_
   refine wp_region_L _ hW6 ?_
   refine lm (v := .int .u8 ((x : Nat) : Int)) rfl rfl ?_
   refine lm (v := .int .u8 ((y : Nat) : Int)) rfl rfl ?_
   refine lp (v := .bool (decide (y < x))) rfl rfl (run_bin rfl (vx := (.int .u8 ((x : Nat) : Int))) (vy := (.int .u8 ((y : Nat) : Int))) Tw.kr Tw.kr fun w => bn_gtr rfl w) ?_
   refine wpL_done (fun W7 hW7 => ?_)
   change Code.wp ..
   cases hd2 : (decide (y < x)) with
   | false =>
     have h2 : ¬ (y < x) := of_decide_eq_false hd2
     clear hd2
     refine wp_cond_false rfl ?_
     refine wp_skip ?_
     change Code.wp ..
     refine wp_seq ?_
     refine wp_region_L _ hW7 ?_
     refine lm (v := .int .i64 0) rfl rfl ?_
     refine wpL_done (fun W8 hW8 => ?_)
     change Code.wp ..
     refine wp_ret ?_
     try simp only [inBlock_ret, then_ret]
     refine bodyPost_ret (v := .int .i64 0) ?_ rfl ?_
     · kernel_rfl
     · exact ⟨(int_is (by unfold cmpI; simp only [Int.ofNat_lt]; simp [*])), hW8.1⟩
   | true =>
     have h2 : y < x := of_decide_eq_true hd2
     clear hd2
     refine wp_cond_true rfl ?_
     refine wp_seq ?_
     refine wp_region_L _ hW7 ?_
     refine lm (v := .int .i64 1) rfl rfl ?_
     refine wpL_done (fun W9 hW9 => ?_)
     change Code.wp ..
     refine wp_ret ?_
     try simp only [inBlock_ret, then_ret]
     refine bodyPost_ret (v := .int .i64 1) ?_ rfl ?_
     · kernel_rfl
     · exact ⟨(int_is (by unfold cmpI; simp only [Int.ofNat_lt]; simp [*])), hW9.1⟩
 | true =>
   have h1 : x < y := of_decide_eq_true hd1
   clear hd1
   refine wp_cond_true rfl ?_
   refine wp_seq ?_
   refine wp_region_L _ hW6 ?_
   refine lm (v := .int .i64 (-1)) rfl rfl ?_
   refine wpL_done (fun W10 hW10 => ?_)
   change Code.wp ..
   refine wp_ret ?_
   try simp only [inBlock_ret, then_ret]
   refine bodyPost_ret (v := .int .i64 (-1)) ?_ rfl ?_
   · kernel_rfl
   · exact ⟨(int_is (by unfold cmpI; simp only [Int.ofNat_lt]; simp [*])), hW10.1⟩
set_option maxRecDepth 100000 in
set_option maxHeartbeats 4000000 in
theorem Or_any (l : List Int) (p : Option Addr) (c : Nat) (hl : l.length ≤ 4000000000) (w : World) (hp : SLV w p (l.flatMap inC)) : Calls Tryd.prog 51 #[.slice p l.length c] w fun e w' => e = .returned (.int .i64 (orI l)) ∧ Below w.heap.size w w' := by
 have HP := Lib.hid hp
 clear hp
 go_enter Tryd.func51, Tryd.ntmps51
 refine wp_seq ?_
 refine wp_region_L [] (KS.start w) ?_
 refine lm (v := .int .i64 0) rfl rfl ?_
 refine wpL_done (fun W1 hW1 => ?_)
 change Code.wp ..
 refine wp_seq ?_
 refine wp_region_L _ hW1 ?_
 refine lm (v := .int .i64 0) rfl rfl ?_
 refine wpL_done (fun W2 hW2 => ?_)
 change Code.wp ..
 refine wp_seq ?_
 refine wp_seq ?_
 refine wp_region_L _ hW2 ?_
 refine lm (v := .slice p l.length c) rfl rfl ?_
 refine lp (v := .int .i64 ((l.length : Nat) : Int)) rfl rfl (run_lenL (p := p) (cap := c) (n := l.length) rfl Tryd.underlying63 Tw.kr) ?_
 refine lm (v := .int .i64 0) rfl rfl ?_
 refine wpL_done (fun W3 hW3 => ?_)
 change Code.wp ..
 refine wp_block ?_
 go_loopw [8] (fun u8 wr => ∃ (k : Nat), (k ≤ l.length) ∧ (orI l = orI (l.drop k)) ∧ u8 = .int .i64 ((k : Nat) : Int) ∧ KS w [] wr) (fun u8 _ => l.length - (intOf u8).toNat)
 case atStart => exact ⟨0, (Nat.zero_le _), rfl, rfl, (hW3.sub (fun p hp => by first | exact hp | (simp only [List.mem_cons, List.mem_append, List.nil_append, List.not_mem_nil, or_assoc, or_false, false_or] at hp ⊢ <;> grind)))⟩
 case round =>
   obtain ⟨k, hk, hR, rfl, hL4⟩ := hrel
   refine wp_seq ?_
   refine wp_region_L _ hL4 ?_
   refine lp (v := .bool (decide (k < l.length))) rfl rfl (run_bin rfl (vx := (.int .i64 ((k : Nat) : Int))) (vy := (.int .i64 ((l.length : Nat) : Int))) Tw.kr Tw.kr fun w => bn_lss rfl w) ?_
   refine wpL_done (fun W5 hW5 => ?_)
   change Code.wp ..
   refine wp_seq ?_
   cases hd1 : (decide (k < l.length)) with
   | false =>
     have h1 : ¬ (k < l.length) := of_decide_eq_false hd1
     clear hd1
     refine wp_cond_false rfl ?_
     refine wp_exit ?_
     change Code.wp ..
     refine wp_seq ?_
     refine wp_region_L _ hW5 ?_
     refine lm (v := .int .i64 0) rfl rfl ?_
     refine lm (v := .int .i64 0) rfl rfl ?_
     refine wpL_done (fun W6 hW6 => ?_)
     change Code.wp ..
     refine wp_ret ?_
     try simp only [inBlock_ret, then_ret]
     refine bodyPost_ret (v := .int .i64 0) ?_ rfl ?_
     · kernel_rfl
     · exact ⟨(int_is (by rw [hR, or_end h1])), hW6.1⟩
   | true =>
     have h1 : k < l.length := of_decide_eq_true hd1
     clear hd1
     refine wp_cond_true rfl ?_
     refine wp_skip ?_
     change Code.wp ..
     refine wp_seq ?_
     refine wp_block ?_
     refine wp_seq ?_
     refine wp_region_L _ hW5 ?_
     obtain ⟨y1, g1_, f1_, hy1, hp1, hc1⟩ := RL.at (RL.base HP.out) inC_len (by decide) (hW5.sub (fun _ h => by cases h)) (k := k) Tw.om
     refine lp (v := .pointer (some ⟨g1_, f1_ + k * 1, none⟩)) rfl rfl (run_idxQ (p := p) (cap := c) (n := l.length) (j := .i64) (k := k) (sz := 1) rfl Tryd.underlying63 Tw.kr Tw.kr hp1 Tw.kr Tw.om) ?_
     refine lv (v := .int .i64 y1) rfl rfl (yb_rf (v := .int .i64 y1) rfl Tw.kr (fun W hW => hc1 W (hW.sub (fun _ h => by cases h)) 0 _ rfl) Tryd.underlying3 rfl) ?_
     refine lm (v := .int .i64 y1) rfl rfl ?_
     refine wpL_done (fun W7 hW7 => ?_)
     change Code.wp ..
     refine wp_seq ?_
     refine wp_region_L _ hW7 ?_
     refine lm (v := .int .i64 y1) rfl rfl ?_
     refine lm (v := .int .i64 0) rfl rfl ?_
     refine lp (v := .bool (!(decide (y1 = 0)))) rfl rfl (run_bin rfl (vx := (.int .i64 y1)) (vy := (.int .i64 0)) Tw.kr Tw.kr fun w => bi_neq rfl w) ?_
     refine wpL_done (fun W8 hW8 => ?_)
     change Code.wp ..
     cases hd2 : (decide (y1 = 0)) with
     | false =>
       have h2 : ¬ (y1 = 0) := of_decide_eq_false hd2
       clear hd2
       refine wp_cond_true rfl ?_
       refine wp_seq ?_
       refine wp_region_L _ hW8 ?_
       refine lm (v := .int .i64 y1) rfl rfl ?_
       refine lm (v := .int .i64 y1) rfl rfl ?_
       refine wpL_done (fun W9 hW9 => ?_)
       change Code.wp ..
       refine wp_ret ?_
       try simp only [inBlock_ret, then_ret]
       refine bodyPost_ret (v := .int .i64 y1) ?_ rfl ?_
       · kernel_rfl
       · exact ⟨(int_is (by rw [hR, or_step hy1, if_neg h2])), hW9.1⟩
     | true =>
       have h2 : y1 = 0 := of_decide_eq_true hd2
       clear hd2
       refine wp_cond_false rfl ?_
       refine wp_skip ?_
       change Code.wp ..
       refine wp_region_L _ hW8 ?_
       refine lp (v := .int .i64 (((k + 1) : Nat) : Int)) rfl rfl (run_bin rfl (vx := (.int .i64 ((k : Nat) : Int))) (vy := (.int .i64 ((1 : Nat) : Int))) Tw.kr Tw.kr fun w => bn_add (z := (k + 1)) rfl (wr_i64 Tw.om) w) ?_
       refine lm (v := .int .i64 (((k + 1) : Nat) : Int)) rfl rfl ?_
       refine wpL_done (fun W10 hW10 => ?_)
       go_roundw
       case rel =>
         repeat apply Exists.intro
         exact ⟨⟨k + 1, Tw.om, (by rw [hR, or_step hy1, if_pos h2]), rfl, (hW10.sub (fun p hp => by first | exact hp | (simp only [List.mem_cons, List.mem_append, List.nil_append, List.not_mem_nil, or_assoc, or_false, false_or] at hp ⊢ <;> grind)))⟩, rfl⟩
       case measure => (show l.length - (intOf (.int .i64 (((k + 1) : Nat) : Int))).toNat < l.length - (intOf (.int .i64 ((k : Nat) : Int))).toNat); simp only [intOf]; omega
set_option maxRecDepth 100000 in
set_option maxHeartbeats 4000000 in
theorem Compare_any (a b : Slt) (w : World) : Calls Tryd.prog 19 #[.agg (sltC a).toArray, .agg (sltC b).toArray] w fun e w' => e = .returned (.int .i64 (cmpS a b)) ∧ Below w.heap.size w w' := by
 go_enter Tryd.func19, Tryd.ntmps19
 refine wp_seq ?_
 refine wp_region_L [] (KS.start w) ?_
 refine wpL_new (fun g => .pointer (some ⟨g, 0, none⟩)) (obi := .cells (sltC a).toArray 34 (0, 0)) rfl rfl Tw.kf Tw.pf fun g1 Bg1 Fg1 => ?_
 refine wpL_new (fun g => .pointer (some ⟨g, 0, none⟩)) (obi := .cells (sltC b).toArray 34 (0, 0)) rfl rfl Tw.kf Tw.pf fun g2 Bg2 Fg2 => ?_
 obtain dj3_0 : g1 ≠ g2 := Tw.dkf Fg2
 refine lm (v := .int .i64 0) rfl rfl ?_
 refine wpL_done (fun W1 hW1 => ?_)
 change Code.wp ..
 refine wp_seq ?_
 refine wp_region_V _ Tw.kr hW1 ?_
 refine vm (i := 0) (v := .pointer (some ⟨g1, 0, none⟩)) rfl rfl rfl ?_
 refine vv (i := 1) (v := .int .i64 a.col) rfl rfl rfl (yb_cell (off := 0) rfl Tw.kr Tw.m1 Tryd.underlying3 rfl Tw.kr) ?_
 refine vm (i := 2) (v := .pointer (some ⟨g2, 0, none⟩)) rfl rfl rfl ?_
 refine vv (i := 3) (v := .int .i64 b.col) rfl rfl rfl (yb_cell (off := 0) rfl Tw.kr Tw.m0 Tryd.underlying3 rfl Tw.kr) ?_
 refine vv (i := 4) (v := .int .i64 (cmpI a.col b.col)) rfl rfl rfl (yb_call (f := 52) (args := #[.int .i64 a.col, .int .i64 b.col]) Tw.kf fun W hW => Cmp_any a.col b.col W) ?_
 refine vm (i := 5) (v := .pointer (some ⟨g1, 1, none⟩)) rfl rfl rfl ?_
 refine vv (i := 6) (v := .int .i64 a.tier) rfl rfl rfl (yb_cell (off := 1) rfl Tw.kr Tw.m1 Tryd.underlying3 rfl Tw.kr) ?_
 refine vm (i := 7) (v := .pointer (some ⟨g2, 1, none⟩)) rfl rfl rfl ?_
 refine vv (i := 8) (v := .int .i64 b.tier) rfl rfl rfl (yb_cell (off := 1) rfl Tw.kr Tw.m0 Tryd.underlying3 rfl Tw.kr) ?_
 refine vv (i := 9) (v := .int .i64 (cmpI a.tier b.tier)) rfl rfl rfl (yb_call (f := 52) (args := #[.int .i64 a.tier, .int .i64 b.tier]) Tw.kf fun W hW => Cmp_any a.tier b.tier W) ?_
 refine vm (i := 10) (v := .pointer (some ⟨g1, 2, none⟩)) rfl rfl rfl ?_
 refine vv (i := 11) (v := .int .u8 ((a.half : Nat) : Int)) rfl rfl rfl (yb_cell (off := 2) rfl Tw.kr Tw.m1 Tryd.underlying5 rfl Tw.kr) ?_
 refine vm (i := 12) (v := .pointer (some ⟨g2, 2, none⟩)) rfl rfl rfl ?_
 refine vv (i := 13) (v := .int .u8 ((b.half : Nat) : Int)) rfl rfl rfl (yb_cell (off := 2) rfl Tw.kr Tw.m0 Tryd.underlying5 rfl Tw.kr) ?_
 refine vv (i := 14) (v := .int .i64 (cmpI ((a.half : Nat) : Int) ((b.half : Nat) : Int))) rfl rfl rfl (yb_call (f := 53) (args := #[.int .u8 ((a.half : Nat) : Int), .int .u8 ((b.half : Nat) : Int)]) Tw.kf fun W hW => Cmp8_any a.half b.half W) ?_
 refine wpV_ns (fun g => .slice (some ⟨g, 0, none⟩) 3 3) (i := 15) (obi := .cells #[.int .i64 (cmpI a.col b.col), .int .i64 (cmpI a.tier b.tier), .int .i64 (cmpI ((a.half : Nat) : Int) ((b.half : Nat) : Int))] 3 (0, 0)) rfl rfl rfl Tw.kr Tw.kf Tw.pf fun g4 Bg4 Fg4 => ?_
 obtain ⟨dj5_0, dj5_1⟩ : g2 ≠ g4 ∧ g1 ≠ g4 := Tw.dkf Fg4
 refine vv (i := 16) (v := .int .i64 (orI [(cmpI a.col b.col), (cmpI a.tier b.tier), (cmpI ((a.half : Nat) : Int) ((b.half : Nat) : Int))])) rfl rfl rfl (yb_call (f := 51) (args := #[.slice (some ⟨g4, 0, none⟩) 3 3]) Tw.kf fun W hW => Or_any [(cmpI a.col b.col), (cmpI a.tier b.tier), (cmpI ((a.half : Nat) : Int) ((b.half : Nat) : Int))] (some ⟨g4, 0, none⟩) 3 (Nat.le_of_ble_eq_true rfl) W (blk_slv hW Tw.m0)) ?_
 refine vm (i := 17) (v := .int .i64 (orI [(cmpI a.col b.col), (cmpI a.tier b.tier), (cmpI ((a.half : Nat) : Int) ((b.half : Nat) : Int))])) rfl rfl rfl ?_
 refine wpV_done Tw.kr (fun W2 hW2 => ?_) _
 change Code.wp ..
 refine wp_ret ?_
 try simp only [inBlock_ret, then_ret]
 refine bodyPost_ret (v := .int .i64 (orI [(cmpI a.col b.col), (cmpI a.tier b.tier), (cmpI ((a.half : Nat) : Int) ((b.half : Nat) : Int))])) ?_ rfl ?_
 · kernel_rfl
 · exact ⟨rfl, hW2.1⟩
end Go.Proofs.YtlinjngifacmoaaDoor
namespace Go.Proofs.YtlinjngifacmoaaDoor
open Go Go.RowKit Tw
set_option maxRecDepth 100000 in
set_option maxHeartbeats 4000000 in
theorem IndexS_any (l : List Slt) (p : Option Addr) (c : Nat) (x : Slt) (hl : l.length ≤ 4000000000) (w : World) (hp : SLV w p (l.flatMap sltC)) : Calls Tryd.prog 84 #[.slice p l.length c, .agg (sltC x).toArray] w fun e w' => e = .returned (.int .i64 (fiN (fst (eqS x) l))) ∧ Below w.heap.size w w' := by
 have HP := Lib.hid hp
 clear hp
 go_enter Tryd.func84, Tryd.ntmps84
 refine wp_seq ?_
 refine wp_region_L [] (KS.start w) ?_
 refine wpL_new (fun g => .pointer (some ⟨g, 0, none⟩)) (obi := .cells (sltC x).toArray 34 (0, 0)) rfl rfl Tw.kf Tw.pf fun g1 Bg1 Fg1 => ?_
 refine lm (v := .int .i64 0) rfl rfl ?_
 refine wpL_done (fun W1 hW1 => ?_)
 change Code.wp ..
 refine wp_seq ?_
 refine wp_seq ?_
 refine wp_region_L _ hW1 ?_
 refine lm (v := .slice p l.length c) rfl rfl ?_
 refine lp (v := .int .i64 ((l.length : Nat) : Int)) rfl rfl (run_lenL (p := p) (cap := c) (n := l.length) rfl Tryd.underlying35 Tw.kr) ?_
 refine lm (v := .int .i64 0) rfl rfl ?_
 refine wpL_done (fun W2 hW2 => ?_)
 change Code.wp ..
 refine wp_block ?_
 go_loopw [8] (fun u8 wr => ∃ (k : Nat), (k ≤ l.length) ∧ (fstF (eqS x) 0 (l.take k) = none) ∧ u8 = .int .i64 ((k : Nat) : Int) ∧ KS w [(g1, .cells (sltC x).toArray 34 (0, 0))] wr) (fun u8 _ => l.length - (intOf u8).toNat)
 case atStart => exact ⟨0, (Nat.zero_le _), fst_zero, rfl, (hW2.sub (fun p hp => by first | exact hp | (simp only [List.mem_cons, List.mem_append, List.nil_append, List.not_mem_nil, or_assoc, or_false, false_or] at hp ⊢ <;> grind)))⟩
 case round =>
   obtain ⟨k, hk, hF, rfl, hL3⟩ := hrel
   refine wp_seq ?_
   refine wp_region_L _ hL3 ?_
   refine lp (v := .bool (decide (k < l.length))) rfl rfl (run_bin rfl (vx := (.int .i64 ((k : Nat) : Int))) (vy := (.int .i64 ((l.length : Nat) : Int))) Tw.kr Tw.kr fun w => bn_lss rfl w) ?_
   refine wpL_done (fun W4 hW4 => ?_)
   change Code.wp ..
   refine wp_seq ?_
   cases hd1 : (decide (k < l.length)) with
   | false =>
     have h1 : ¬ (k < l.length) := of_decide_eq_false hd1
     clear hd1
     refine wp_cond_false rfl ?_
     refine wp_exit ?_
     change Code.wp ..
     refine wp_seq ?_
     refine wp_region_L _ hW4 ?_
     refine lm (v := .int .i64 (-1)) rfl rfl ?_
     refine wpL_done (fun W5 hW5 => ?_)
     change Code.wp ..
     refine wp_ret ?_
     try simp only [inBlock_ret, then_ret]
     refine bodyPost_ret (v := .int .i64 (-1)) ?_ rfl ?_
     · kernel_rfl
     · exact ⟨(int_is (by rw [fst_end hF h1]; rfl)), hW5.1⟩
   | true =>
     have h1 : k < l.length := of_decide_eq_true hd1
     clear hd1
     refine wp_cond_true rfl ?_
     refine wp_skip ?_
     change Code.wp ..
     refine wp_seq ?_
     refine wp_block ?_
     refine wp_seq ?_
     refine wp_region_L _ hW4 ?_
     refine lm (v := .int .i64 ((k : Nat) : Int)) rfl rfl ?_
     refine lm (v := .int .i64 ((k : Nat) : Int)) rfl rfl ?_
     refine wpL_done (fun W6 hW6 => ?_)
     change Code.wp ..
     refine wp_seq ?_
     refine wp_region_V _ Tw.kr hW6 ?_
     refine vv (i := 0) (v := .agg (sltC x).toArray) rfl rfl rfl (yb_load (n := 3) (off := 0) rfl Tw.kr Tw.m0 Tryd.underlying34 rfl Tw.kr (by first | (simp [Value.cells]; done) | exact Nat.le_of_ble_eq_true rfl) Tw.kr) ?_
     refine vm (i := 1) (v := .slice p l.length c) rfl rfl rfl ?_
     refine vm (i := 2) (v := .int .i64 ((k : Nat) : Int)) rfl rfl rfl ?_
     obtain ⟨y2, g2_, f2_, hy2, hp2, hc2⟩ := RL.at (RL.base HP.out) sltC_len (by decide) (hW6.sub (fun _ h => by cases h)) (k := k) Tw.om
     refine vp (i := 3) (v := .pointer (some ⟨g2_, f2_ + k * 3, none⟩)) rfl rfl rfl (run_idxQ (p := p) (cap := c) (n := l.length) (j := .i64) (k := k) (sz := 3) rfl Tryd.underlying35 Tw.kr Tw.kr hp2 Tw.kr Tw.om) ?_
     refine vb (i := 4) (v := .agg (sltC y2).toArray) rfl rfl rfl (yb_rs (off := f2_ + k * 3) (cs := sltC y2) rfl Tw.kr (fun W hW => hc2 W (hW.sub (fun _ h => by cases h))) Tryd.underlying34 rfl Tw.kr) ?_
     refine vp (i := 5) (v := .bool (eqS x y2)) rfl rfl rfl (run_bin rfl (vx := .agg (sltC x).toArray) (vy := .agg (sltC y2).toArray) Tw.kr Tw.kr fun w => eq_slt w) ?_
     refine wpV_done Tw.kr (fun W7 hW7 => ?_) _
     change Code.wp ..
     cases h2 : (eqS x y2) with
     | false =>
       refine wp_cond_false rfl ?_
       refine wp_skip ?_
       change Code.wp ..
       refine wp_region_L _ hW7 ?_
       refine lp (v := .int .i64 (((k + 1) : Nat) : Int)) rfl rfl (run_bin rfl (vx := (.int .i64 ((k : Nat) : Int))) (vy := (.int .i64 ((1 : Nat) : Int))) Tw.kr Tw.kr fun w => bn_add (z := (k + 1)) rfl (wr_i64 Tw.om) w) ?_
       refine lm (v := .int .i64 (((k + 1) : Nat) : Int)) rfl rfl ?_
       refine wpL_done (fun W8 hW8 => ?_)
       go_roundw
       case rel =>
         repeat apply Exists.intro
         exact ⟨⟨k + 1, Tw.om, (fst_next hF hy2 h2), rfl, (hW8.sub (fun p hp => by first | exact hp | (simp only [List.mem_cons, List.mem_append, List.nil_append, List.not_mem_nil, or_assoc, or_false, false_or] at hp ⊢ <;> grind)))⟩, rfl⟩
       case measure => (show l.length - (intOf (.int .i64 (((k + 1) : Nat) : Int))).toNat < l.length - (intOf (.int .i64 ((k : Nat) : Int))).toNat); simp only [intOf]; omega
     | true =>
       refine wp_cond_true rfl ?_
       refine wp_seq ?_
       refine wp_region_L _ hW7 ?_
       refine lm (v := .int .i64 ((k : Nat) : Int)) rfl rfl ?_
       refine lm (v := .int .i64 ((k : Nat) : Int)) rfl rfl ?_
       refine wpL_done (fun W9 hW9 => ?_)
       change Code.wp ..
       refine wp_ret ?_
       try simp only [inBlock_ret, then_ret]
       refine bodyPost_ret (v := .int .i64 ((k : Nat) : Int)) ?_ rfl ?_
       · kernel_rfl
       · exact ⟨(int_is (by rw [fst_here hF hy2 h2]; rfl)), hW9.1⟩
set_option maxRecDepth 100000 in
set_option maxHeartbeats 4000000 in
theorem ContainsS_any (l : List Slt) (p : Option Addr) (c : Nat) (x : Slt) (hl : l.length ≤ 4000000000) (w : World) (hp : SLV w p (l.flatMap sltC)) : Calls Tryd.prog 58 #[.slice p l.length c, .agg (sltC x).toArray] w fun e w' => e = .returned (.bool (fst (eqS x) l).isSome) ∧ Below w.heap.size w w' := by
 have HP := Lib.hid hp
 clear hp
 go_enter Tryd.func58, Tryd.ntmps58
 refine wp_seq ?_
 refine wp_region_L [] (KS.start w) ?_
 refine wpL_new (fun g => .pointer (some ⟨g, 0, none⟩)) (obi := .cells (sltC x).toArray 34 (0, 0)) rfl rfl Tw.kf Tw.pf fun g1 Bg1 Fg1 => ?_
 refine lm (v := .bool false) rfl rfl ?_
 refine wpL_done (fun W1 hW1 => ?_)
 change Code.wp ..
 refine wp_seq ?_
 refine wp_region_L _ hW1 ?_
 refine lm (v := .slice p l.length c) rfl rfl ?_
 refine lv (v := .agg (sltC x).toArray) rfl rfl (yb_load (n := 3) (off := 0) rfl Tw.kr Tw.m0 Tryd.underlying34 rfl Tw.kr (by first | (simp [Value.cells]; done) | exact Nat.le_of_ble_eq_true rfl) Tw.kr) ?_
 refine lv (v := .int .i64 (fiN (fst (eqS x) l))) rfl rfl (yb_call (f := 84) (args := #[.slice p l.length c, .agg (sltC x).toArray]) Tw.kf fun W hW => IndexS_any l p c x Tw.om W ((RL.base HP.out) _ (hW.sub (fun _ h => by cases h)))) ?_
 refine lp (v := .bool (!(decide ((fiN (fst (eqS x) l)) < 0)))) rfl rfl (run_bin rfl (vx := (.int .i64 (fiN (fst (eqS x) l)))) (vy := (.int .i64 0)) Tw.kr Tw.kr fun w => bi_geq rfl w) ?_
 refine lm (v := .bool (!(decide ((fiN (fst (eqS x) l)) < 0)))) rfl rfl ?_
 refine wpL_done (fun W2 hW2 => ?_)
 change Code.wp ..
 refine wp_ret ?_
 try simp only [inBlock_ret, then_ret]
 refine bodyPost_ret (v := .bool (!(decide ((fiN (fst (eqS x) l)) < 0)))) ?_ rfl ?_
 · kernel_rfl
 · exact ⟨(bool_is (fi_ge _)), hW2.1⟩
set_option maxRecDepth 100000 in
set_option maxHeartbeats 4000000 in
theorem IndexU_any (l : List Nat) (p : Option Addr) (c : Nat) (x : Nat) (hl : l.length ≤ 4000000000) (w : World) (hp : SLV w p (l.flatMap u8C)) : Calls Tryd.prog 80 #[.slice p l.length c, .int .u8 ((x : Nat) : Int)] w fun e w' => e = .returned (.int .i64 (fiN (fst (fun m => decide (x = m)) l))) ∧ Below w.heap.size w w' := by
 have HP := Lib.hid hp
 clear hp
 go_enter Tryd.func80, Tryd.ntmps80
 refine wp_seq ?_
 refine wp_region_L [] (KS.start w) ?_
 refine lm (v := .int .i64 0) rfl rfl ?_
 refine wpL_done (fun W1 hW1 => ?_)
 change Code.wp ..
 refine wp_seq ?_
 refine wp_seq ?_
 refine wp_region_L _ hW1 ?_
 refine lm (v := .slice p l.length c) rfl rfl ?_
 refine lp (v := .int .i64 ((l.length : Nat) : Int)) rfl rfl (run_lenL (p := p) (cap := c) (n := l.length) rfl Tryd.underlying78 Tw.kr) ?_
 refine lm (v := .int .i64 0) rfl rfl ?_
 refine wpL_done (fun W2 hW2 => ?_)
 change Code.wp ..
 refine wp_block ?_
 go_loopw [8] (fun u8 wr => ∃ (k : Nat), (k ≤ l.length) ∧ (fstF (fun m => decide (x = m)) 0 (l.take k) = none) ∧ u8 = .int .i64 ((k : Nat) : Int) ∧ KS w [] wr) (fun u8 _ => l.length - (intOf u8).toNat)
 case atStart => exact ⟨0, (Nat.zero_le _), fst_zero, rfl, (hW2.sub (fun p hp => by first | exact hp | (simp only [List.mem_cons, List.mem_append, List.nil_append, List.not_mem_nil, or_assoc, or_false, false_or] at hp ⊢ <;> grind)))⟩
 case round =>
   obtain ⟨k, hk, hF, rfl, hL3⟩ := hrel
   refine wp_seq ?_
   refine wp_region_L _ hL3 ?_
   refine lp (v := .bool (decide (k < l.length))) rfl rfl (run_bin rfl (vx := (.int .i64 ((k : Nat) : Int))) (vy := (.int .i64 ((l.length : Nat) : Int))) Tw.kr Tw.kr fun w => bn_lss rfl w) ?_
   refine wpL_done (fun W4 hW4 => ?_)
   change Code.wp ..
   refine wp_seq ?_
   cases hd1 : (decide (k < l.length)) with
   | false =>
     have h1 : ¬ (k < l.length) := of_decide_eq_false hd1
     clear hd1
     refine wp_cond_false rfl ?_
     refine wp_exit ?_
     change Code.wp ..
     refine wp_seq ?_
     refine wp_region_L _ hW4 ?_
     refine lm (v := .int .i64 (-1)) rfl rfl ?_
     refine wpL_done (fun W5 hW5 => ?_)
     change Code.wp ..
     refine wp_ret ?_
     try simp only [inBlock_ret, then_ret]
     refine bodyPost_ret (v := .int .i64 (-1)) ?_ rfl ?_
     · kernel_rfl
     · exact ⟨(int_is (by rw [fst_end hF h1]; rfl)), hW5.1⟩
   | true =>
     have h1 : k < l.length := of_decide_eq_true hd1
     clear hd1
     refine wp_cond_true rfl ?_
     refine wp_skip ?_
     change Code.wp ..
     refine wp_seq ?_
     refine wp_block ?_
     refine wp_seq ?_
     refine wp_region_L _ hW4 ?_
     refine lm (v := .int .i64 ((k : Nat) : Int)) rfl rfl ?_
     refine lm (v := .int .i64 ((k : Nat) : Int)) rfl rfl ?_
     refine wpL_done (fun W6 hW6 => ?_)
     change Code.wp ..
     refine wp_seq ?_
     refine wp_region_L _ hW6 ?_
     refine lm (v := .int .u8 ((x : Nat) : Int)) rfl rfl ?_
     refine lm (v := .slice p l.length c) rfl rfl ?_
     refine lm (v := .int .i64 ((k : Nat) : Int)) rfl rfl ?_
     obtain ⟨y1, g1_, f1_, hy1, hp1, hc1⟩ := RL.at (RL.base HP.out) u8C_len (by decide) (hW6.sub (fun _ h => by cases h)) (k := k) Tw.om
     refine lp (v := .pointer (some ⟨g1_, f1_ + k * 1, none⟩)) rfl rfl (run_idxQ (p := p) (cap := c) (n := l.length) (j := .i64) (k := k) (sz := 1) rfl Tryd.underlying78 Tw.kr Tw.kr hp1 Tw.kr Tw.om) ?_
     refine lv (v := .int .u8 ((y1 : Nat) : Int)) rfl rfl (yb_rf (v := .int .u8 ((y1 : Nat) : Int)) rfl Tw.kr (fun W hW => hc1 W (hW.sub (fun _ h => by cases h)) 0 _ rfl) Tryd.underlying5 rfl) ?_
     refine lp (v := .bool (decide (x = y1))) rfl rfl (run_bin rfl (vx := (.int .u8 ((x : Nat) : Int))) (vy := (.int .u8 ((y1 : Nat) : Int))) Tw.kr Tw.kr fun w => bn_eql rfl w) ?_
     refine wpL_done (fun W7 hW7 => ?_)
     change Code.wp ..
     cases hd2 : (decide (x = y1)) with
     | false =>
       have h2 : ¬ (x = y1) := of_decide_eq_false hd2
       clear hd2
       refine wp_cond_false rfl ?_
       refine wp_skip ?_
       change Code.wp ..
       refine wp_region_L _ hW7 ?_
       refine lp (v := .int .i64 (((k + 1) : Nat) : Int)) rfl rfl (run_bin rfl (vx := (.int .i64 ((k : Nat) : Int))) (vy := (.int .i64 ((1 : Nat) : Int))) Tw.kr Tw.kr fun w => bn_add (z := (k + 1)) rfl (wr_i64 Tw.om) w) ?_
       refine lm (v := .int .i64 (((k + 1) : Nat) : Int)) rfl rfl ?_
       refine wpL_done (fun W8 hW8 => ?_)
       go_roundw
       case rel =>
         repeat apply Exists.intro
         exact ⟨⟨k + 1, Tw.om, (fst_next hF hy1 (decide_eq_false h2)), rfl, (hW8.sub (fun p hp => by first | exact hp | (simp only [List.mem_cons, List.mem_append, List.nil_append, List.not_mem_nil, or_assoc, or_false, false_or] at hp ⊢ <;> grind)))⟩, rfl⟩
       case measure => (show l.length - (intOf (.int .i64 (((k + 1) : Nat) : Int))).toNat < l.length - (intOf (.int .i64 ((k : Nat) : Int))).toNat); simp only [intOf]; omega
     | true =>
       have h2 : x = y1 := of_decide_eq_true hd2
       clear hd2
       refine wp_cond_true rfl ?_
       refine wp_seq ?_
       refine wp_region_L _ hW7 ?_
       refine lm (v := .int .i64 ((k : Nat) : Int)) rfl rfl ?_
       refine lm (v := .int .i64 ((k : Nat) : Int)) rfl rfl ?_
       refine wpL_done (fun W9 hW9 => ?_)
       change Code.wp ..
       refine wp_ret ?_
       try simp only [inBlock_ret, then_ret]
       refine bodyPost_ret (v := .int .i64 ((k : Nat) : Int)) ?_ rfl ?_
       · kernel_rfl
       · exact ⟨(int_is (by rw [fst_here hF hy1 (decide_eq_true h2)]; rfl)), hW9.1⟩
set_option maxRecDepth 100000 in
set_option maxHeartbeats 4000000 in
theorem ContainsU_any (l : List Nat) (p : Option Addr) (c : Nat) (x : Nat) (hl : l.length ≤ 4000000000) (w : World) (hp : SLV w p (l.flatMap u8C)) : Calls Tryd.prog 46 #[.slice p l.length c, .int .u8 ((x : Nat) : Int)] w fun e w' => e = .returned (.bool (fst (fun m => decide (x = m)) l).isSome) ∧ Below w.heap.size w w' := by
 have HP := Lib.hid hp
 clear hp
 go_enter Tryd.func46, Tryd.ntmps46
 refine wp_seq ?_
 refine wp_region_L [] (KS.start w) ?_
 refine lm (v := .bool false) rfl rfl ?_
 refine wpL_done (fun W1 hW1 => ?_)
 change Code.wp ..
 refine wp_seq ?_
 refine wp_region_L _ hW1 ?_
 refine lm (v := .slice p l.length c) rfl rfl ?_
 refine lm (v := .int .u8 ((x : Nat) : Int)) rfl rfl ?_
 refine lv (v := .int .i64 (fiN (fst (fun m => decide (x = m)) l))) rfl rfl (yb_call (f := 80) (args := #[.slice p l.length c, .int .u8 ((x : Nat) : Int)]) Tw.kf fun W hW => IndexU_any l p c x Tw.om W ((RL.base HP.out) _ (hW.sub (fun _ h => by cases h)))) ?_
 refine lp (v := .bool (!(decide ((fiN (fst (fun m => decide (x = m)) l)) < 0)))) rfl rfl (run_bin rfl (vx := (.int .i64 (fiN (fst (fun m => decide (x = m)) l)))) (vy := (.int .i64 0)) Tw.kr Tw.kr fun w => bi_geq rfl w) ?_
 refine lm (v := .bool (!(decide ((fiN (fst (fun m => decide (x = m)) l)) < 0)))) rfl rfl ?_
 refine wpL_done (fun W2 hW2 => ?_)
 change Code.wp ..
 refine wp_ret ?_
 try simp only [inBlock_ret, then_ret]
 refine bodyPost_ret (v := .bool (!(decide ((fiN (fst (fun m => decide (x = m)) l)) < 0)))) ?_ rfl ?_
 · kernel_rfl
 · exact ⟨(bool_is (fi_ge _)), hW2.1⟩
set_option maxRecDepth 100000 in
set_option maxHeartbeats 4000000 in
theorem halves_any (z : Nat) (w : World) : Calls Tryd.prog 47 #[.int .u8 ((z : Nat) : Int)] w fun e w' => ∃ v, e = .returned v ∧ OutV w w' 5 1 v (hsX z).length ((hsX z).flatMap u8C) ∧ Below w.heap.size w w' := by
 go_enter Tryd.func47, Tryd.ntmps47
 refine wp_seq ?_
 refine wp_region_L [] (KS.start w) ?_
 refine lm (v := .slice none 0 0) rfl rfl ?_
 refine wpL_done (fun W1 hW1 => ?_)
 change Code.wp ..
 refine wp_seq ?_
 refine wp_seq ?_
 refine wp_region_L _ hW1 ?_
 refine lm (v := .int .u8 ((z : Nat) : Int)) rfl rfl ?_
 refine wpL_done (fun W2 hW2 => ?_)
 change Code.wp ..
 refine wp_block ?_
 refine wp_seq ?_
 refine wp_region_L _ hW2 ?_
 refine lp (v := .bool (decide (z = 20))) rfl rfl (run_bin rfl (vx := (.int .u8 ((z : Nat) : Int))) (vy := (.int .u8 ((20 : Nat) : Int))) Tw.kr Tw.kr fun w => bn_eql rfl w) ?_
 refine lm (v := .bool (decide (z = 20))) rfl rfl ?_
 refine wpL_done (fun W3 hW3 => ?_)
 change Code.wp ..
 cases hd1 : (decide (z = 20)) with
 | false =>
   have h1 : ¬ (z = 20) := of_decide_eq_false hd1
   clear hd1
   refine wp_cond_false rfl ?_
   refine wp_seq ?_
   refine wp_region_L _ hW3 ?_
   refine lp (v := .bool (decide (z = 40))) rfl rfl (run_bin rfl (vx := (.int .u8 ((z : Nat) : Int))) (vy := (.int .u8 ((40 : Nat) : Int))) Tw.kr Tw.kr fun w => bn_eql rfl w) ?_
   refine lm (v := .bool (decide (z = 40))) rfl rfl ?_
   refine wpL_done (fun W4 hW4 => ?_)
   change Code.wp ..
   cases hd2 : (decide (z = 40)) with
   | false =>
     have h2 : ¬ (z = 40) := of_decide_eq_false hd2
     clear hd2
     refine wp_cond_false rfl ?_
     refine wp_skip ?_
     change Code.wp ..
     refine wp_seq ?_
     refine wp_region_L _ hW4 ?_
     refine lm (v := .slice none 0 0) rfl rfl ?_
     refine wpL_done (fun W5 hW5 => ?_)
     change Code.wp ..
     refine wp_ret ?_
     try simp only [inBlock_ret, then_ret]
     refine bodyPost_ret (v := .slice none 0 0) ?_ rfl ?_
     · kernel_rfl
     · exact ⟨_, rfl, by rw [(show hsX z = [] from by unfold hsX; rw [if_neg h1, if_neg h2])]; exact .inl ⟨rfl, rfl, rfl⟩, hW5.1⟩
   | true =>
     have h2 : z = 40 := of_decide_eq_true hd2
     clear hd2
     refine wp_cond_true rfl ?_
     refine wp_seq ?_
     refine wp_region_L _ hW4 ?_
     refine wpL_new (fun g => .slice (some ⟨g, 0, none⟩) 1 1) (obi := .cells #[.int .u8 0] 5 (0, 0)) rfl rfl Tw.kf Tw.pf fun g1 Bg1 Fg1 => ?_
     refine lm (v := .slice (some ⟨g1, 0, none⟩) 1 1) rfl rfl ?_
     refine wpL_done (fun W6 hW6 => ?_)
     change Code.wp ..
     refine wp_ret ?_
     try simp only [inBlock_ret, then_ret]
     refine bodyPost_ret (v := .slice (some ⟨g1, 0, none⟩) 1 1) ?_ rfl ?_
     · kernel_rfl
     · exact ⟨_, rfl, by rw [(show hsX z = [0] from by unfold hsX; rw [if_neg h1, if_pos h2])]; exact blk_out (l := [0]) u8C_len hW6 Tw.m0 (by assumption) (by decide), hW6.1⟩
 | true =>
   have h1 : z = 20 := of_decide_eq_true hd1
   clear hd1
   refine wp_cond_true rfl ?_
   refine wp_seq ?_
   refine wp_region_L _ hW3 ?_
   refine wpL_new (fun g => .slice (some ⟨g, 0, none⟩) 2 2) (obi := .cells #[.int .u8 1, .int .u8 2] 5 (0, 0)) rfl rfl Tw.kf Tw.pf fun g2 Bg2 Fg2 => ?_
   refine lm (v := .slice (some ⟨g2, 0, none⟩) 2 2) rfl rfl ?_
   refine wpL_done (fun W7 hW7 => ?_)
   change Code.wp ..
   refine wp_ret ?_
   try simp only [inBlock_ret, then_ret]
   refine bodyPost_ret (v := .slice (some ⟨g2, 0, none⟩) 2 2) ?_ rfl ?_
   · kernel_rfl
   · exact ⟨_, rfl, by rw [(show hsX z = [1, 2] from by unfold hsX; rw [if_pos h1])]; exact blk_out (l := [1, 2]) u8C_len hW7 Tw.m0 (by assumption) (by decide), hW7.1⟩
set_option maxRecDepth 100000 in
set_option maxHeartbeats 4000000 in
theorem exists_any (cs : List Col) (pc : Option Addr) (cc : Nat) (lc : cs.length ≤ 4000000000) (os : List Cov) (po : Option Addr) (co : Nat) (lo : os.length ≤ 4000000000) (t : Tl) (n t0 : Int) (w : World) (hc : SLV w pc (cs.flatMap colC)) (ho : SLV w po (os.flatMap covC)) : Calls Tryd.prog 45 #[.agg (shC (.slice pc cs.length cc) (.slice po os.length co) t).toArray, .int .i64 n, .int .i64 t0] w fun e w' => e = .returned (.bool (exS cs n t0)) ∧ Below w.heap.size w w' := by
 have HC := Lib.hid hc
 clear hc
 have HO := Lib.hid ho
 clear ho
 go_enter Tryd.func45, Tryd.ntmps45
 refine wp_seq ?_
 refine wp_region_L [] (KS.start w) ?_
 refine wpL_new (fun g => .pointer (some ⟨g, 0, none⟩)) (obi := .cells (shC (.slice pc cs.length cc) (.slice po os.length co) t).toArray 32 (0, 0)) rfl rfl Tw.kf Tw.pf fun g1 Bg1 Fg1 => ?_
 refine lm (v := .bool false) rfl rfl ?_
 refine wpL_done (fun W1 hW1 => ?_)
 change Code.wp ..
 refine wp_seq ?_
 refine wp_region_L _ hW1 ?_
 refine lm (v := .int .i64 n) rfl rfl ?_
 refine lp (v := .bool (!(decide (n < 0)))) rfl rfl (run_bin rfl (vx := (.int .i64 n)) (vy := (.int .i64 0)) Tw.kr Tw.kr fun w => bi_geq rfl w) ?_
 refine lm (v := .bool (!(decide (n < 0)))) rfl rfl ?_
 cases hd1 : (decide (n < 0)) with
 | false =>
   have h1 : ¬ (n < 0) := of_decide_eq_false hd1
   clear hd1
   refine lm (v := .int .i64 n) rfl rfl ?_
   refine lm (v := .pointer (some ⟨g1, 0, none⟩)) rfl rfl ?_
   refine lv (v := .slice pc cs.length cc) rfl rfl (yb_cell (off := 0) rfl Tw.kr Tw.m0 Tryd.underlying22 rfl Tw.kr) ?_
   refine lp (v := .int .i64 ((cs.length : Nat) : Int)) rfl rfl (run_lenL (p := pc) (cap := cc) (n := cs.length) rfl Tryd.underlying22 Tw.kr) ?_
   refine lp (v := .bool (decide (n < ((cs.length : Nat) : Int)))) rfl rfl (run_bin rfl (vx := (.int .i64 n)) (vy := (.int .i64 ((cs.length : Nat) : Int))) Tw.kr Tw.kr fun w => bi_lss rfl w) ?_
   refine lm (v := .bool (decide (n < ((cs.length : Nat) : Int)))) rfl rfl ?_
   refine lm (v := .bool (decide (n < ((cs.length : Nat) : Int)))) rfl rfl ?_
   cases hd2 : (decide (n < ((cs.length : Nat) : Int))) with
   | false =>
     have h2 : ¬ (n < ((cs.length : Nat) : Int)) := of_decide_eq_false hd2
     clear hd2
     refine ln rfl ?_
     refine ln rfl ?_
     refine lm (v := .bool false) rfl rfl ?_
     refine lm (v := .bool false) rfl rfl ?_
     refine ln rfl ?_
     refine ln rfl ?_
     refine ln rfl ?_
     refine ln rfl ?_
     refine ln rfl ?_
     refine ln rfl ?_
     refine ln rfl ?_
     refine ln rfl ?_
     refine lm (v := .bool false) rfl rfl ?_
     refine lm (v := .bool false) rfl rfl ?_
     refine wpL_done (fun W2 hW2 => ?_)
     change Code.wp ..
     refine wp_ret ?_
     try simp only [inBlock_ret, then_ret]
     refine bodyPost_ret (v := .bool false) ?_ rfl ?_
     · kernel_rfl
     · exact ⟨(bool_is (by unfold exS; rw [(el_big (d := col0) (l := cs) h1 h2).1]; rfl)), hW2.1⟩
   | true =>
     have h2 : n < ((cs.length : Nat) : Int) := of_decide_eq_true hd2
     clear hd2
     refine lm (v := .int .i64 t0) rfl rfl ?_
     refine lp (v := .bool (!(decide (t0 < 0)))) rfl rfl (run_bin rfl (vx := (.int .i64 t0)) (vy := (.int .i64 0)) Tw.kr Tw.kr fun w => bi_geq rfl w) ?_
     refine lm (v := .bool (!(decide (t0 < 0)))) rfl rfl ?_
     refine lm (v := .bool (!(decide (t0 < 0)))) rfl rfl ?_
     cases hd3 : (decide (t0 < 0)) with
     | false =>
       have h3 : ¬ (t0 < 0) := of_decide_eq_false hd3
       clear hd3
       refine lm (v := .int .i64 t0) rfl rfl ?_
       refine lm (v := .pointer (some ⟨g1, 0, none⟩)) rfl rfl ?_
       refine lv (v := .slice pc cs.length cc) rfl rfl (yb_cell (off := 0) rfl Tw.kr Tw.m0 Tryd.underlying22 rfl Tw.kr) ?_
       refine lm (v := .int .i64 n) rfl rfl ?_
       obtain ⟨m, hm⟩ : ∃ m : Nat, n = (m : Int) := ⟨n.toNat, by omega⟩
       subst hm
       obtain ⟨y2, g2_, f2_, hy2, hp2, hc2⟩ := RL.at (RL.base HC.out) colC_len (by decide) (hW1.sub (fun _ h => by cases h)) (k := m) Tw.om
       refine lp (v := .pointer (some ⟨g2_, f2_ + m * 12, none⟩)) rfl rfl (run_idxQ (p := pc) (cap := cc) (n := cs.length) (j := .i64) (k := m) (sz := 12) rfl Tryd.underlying22 Tw.kr Tw.kr hp2 Tw.kr Tw.om) ?_
       refine lm (v := .pointer (some ⟨g2_, f2_ + m * 12 + 3, none⟩)) rfl rfl ?_
       refine lv (v := .int .i64 y2.tiers) rfl rfl (yb_rf (v := .int .i64 y2.tiers) rfl Tw.kr (fun W hW => hc2 W (hW.sub (fun _ h => by cases h)) 3 _ rfl) Tryd.underlying3 rfl) ?_
       refine lp (v := .bool (decide (t0 < y2.tiers))) rfl rfl (run_bin rfl (vx := (.int .i64 t0)) (vy := (.int .i64 y2.tiers)) Tw.kr Tw.kr fun w => bi_lss rfl w) ?_
       refine lm (v := .bool (decide (t0 < y2.tiers))) rfl rfl ?_
       refine lm (v := .bool (decide (t0 < y2.tiers))) rfl rfl ?_
       refine wpL_done (fun W3 hW3 => ?_)
       change Code.wp ..
       refine wp_ret ?_
       try simp only [inBlock_ret, then_ret]
       refine bodyPost_ret (v := .bool (decide (t0 < y2.tiers))) ?_ rfl ?_
       · kernel_rfl
       · exact ⟨(bool_is (by unfold exS; obtain ⟨h8, h9⟩ := el_in (d := col0) (l := cs) h1 (show cs[((m : Nat) : Int).toNat]? = some _ from hy2); rw [h8, h9]; simp [h3])), hW3.1⟩
     | true =>
       have h3 : t0 < 0 := of_decide_eq_true hd3
       clear hd3
       refine ln rfl ?_
       refine ln rfl ?_
       refine ln rfl ?_
       refine ln rfl ?_
       refine ln rfl ?_
       refine ln rfl ?_
       refine ln rfl ?_
       refine ln rfl ?_
       refine lm (v := .bool false) rfl rfl ?_
       refine lm (v := .bool false) rfl rfl ?_
       refine wpL_done (fun W4 hW4 => ?_)
       change Code.wp ..
       refine wp_ret ?_
       try simp only [inBlock_ret, then_ret]
       refine bodyPost_ret (v := .bool false) ?_ rfl ?_
       · kernel_rfl
       · exact ⟨(bool_is (by unfold exS; simp [h3])), hW4.1⟩
 | true =>
   have h1 : n < 0 := of_decide_eq_true hd1
   clear hd1
   refine ln rfl ?_
   refine ln rfl ?_
   refine ln rfl ?_
   refine ln rfl ?_
   refine ln rfl ?_
   refine lm (v := .bool false) rfl rfl ?_
   refine lm (v := .bool false) rfl rfl ?_
   refine ln rfl ?_
   refine ln rfl ?_
   refine lm (v := .bool false) rfl rfl ?_
   refine lm (v := .bool false) rfl rfl ?_
   refine ln rfl ?_
   refine ln rfl ?_
   refine ln rfl ?_
   refine ln rfl ?_
   refine ln rfl ?_
   refine ln rfl ?_
   refine ln rfl ?_
   refine ln rfl ?_
   refine lm (v := .bool false) rfl rfl ?_
   refine lm (v := .bool false) rfl rfl ?_
   refine wpL_done (fun W5 hW5 => ?_)
   change Code.wp ..
   refine wp_ret ?_
   try simp only [inBlock_ret, then_ret]
   refine bodyPost_ret (v := .bool false) ?_ rfl ?_
   · kernel_rfl
   · exact ⟨(bool_is (by unfold exS; rw [(el_neg (d := col0) (l := cs) h1).1]; rfl)), hW5.1⟩
set_option maxRecDepth 100000 in
set_option maxHeartbeats 4000000 in
theorem SRight_any (cs : List Col) (pc : Option Addr) (cc : Nat) (lc : cs.length ≤ 4000000000) (os : List Cov) (po : Option Addr) (co : Nat) (lo : os.length ≤ 4000000000) (t : Tl) (x : Slt) (z : Nat) (w : World) (hc : SLV w pc (cs.flatMap colC)) (ho : SLV w po (os.flatMap covC)) : Calls Tryd.prog 14 #[.agg (shC (.slice pc cs.length cc) (.slice po os.length co) t).toArray, .agg (sltC x).toArray, .int .u8 ((z : Nat) : Int)] w fun e w' => e = .returned (.bool (rightS cs x z)) ∧ Below w.heap.size w w' := by
 have HC := Lib.hid hc
 clear hc
 have HO := Lib.hid ho
 clear ho
 go_enter Tryd.func14, Tryd.ntmps14
 refine wp_seq ?_
 refine wp_region_L [] (KS.start w) ?_
 refine wpL_new (fun g => .pointer (some ⟨g, 0, none⟩)) (obi := .cells (shC (.slice pc cs.length cc) (.slice po os.length co) t).toArray 32 (0, 0)) rfl rfl Tw.kf Tw.pf fun g1 Bg1 Fg1 => ?_
 refine wpL_new (fun g => .pointer (some ⟨g, 0, none⟩)) (obi := .cells (sltC x).toArray 34 (0, 0)) rfl rfl Tw.kf Tw.pf fun g2 Bg2 Fg2 => ?_
 obtain dj3_0 : g1 ≠ g2 := Tw.dkf Fg2
 refine lm (v := .bool false) rfl rfl ?_
 refine wpL_done (fun W1 hW1 => ?_)
 change Code.wp ..
 refine wp_seq ?_
 refine wp_region_V _ Tw.kr hW1 ?_
 refine vv (i := 0) (v := .agg (shC (.slice pc cs.length cc) (.slice po os.length co) t).toArray) rfl rfl rfl (yb_load (n := 13) (off := 0) rfl Tw.kr Tw.m1 Tryd.underlying32 rfl Tw.kr (by first | (simp [Value.cells]; done) | exact Nat.le_of_ble_eq_true rfl) Tw.kr) ?_
 refine vm (i := 1) (v := .pointer (some ⟨g2, 0, none⟩)) rfl rfl rfl ?_
 refine vv (i := 2) (v := .int .i64 x.col) rfl rfl rfl (yb_cell (off := 0) rfl Tw.kr Tw.m0 Tryd.underlying3 rfl Tw.kr) ?_
 refine vm (i := 3) (v := .pointer (some ⟨g2, 1, none⟩)) rfl rfl rfl ?_
 refine vv (i := 4) (v := .int .i64 x.tier) rfl rfl rfl (yb_cell (off := 1) rfl Tw.kr Tw.m0 Tryd.underlying3 rfl Tw.kr) ?_
 refine vv (i := 5) (v := .bool (exS cs x.col x.tier)) rfl rfl rfl (yb_call (f := 45) (args := #[.agg (shC (.slice pc cs.length cc) (.slice po os.length co) t).toArray, .int .i64 x.col, .int .i64 x.tier]) Tw.kf fun W hW => exists_any cs pc cc Tw.om os po co Tw.om t x.col x.tier W ((RL.base HC.out) _ (hW.sub (fun _ h => by cases h))) ((RL.base HO.out) _ (hW.sub (fun _ h => by cases h)))) ?_
 refine vm (i := 6) (v := .bool (exS cs x.col x.tier)) rfl rfl rfl ?_
 cases h1 : (exS cs x.col x.tier) with
 | false =>
   refine vn (i := 7) rfl rfl ?_
   refine vn (i := 9) rfl rfl ?_
   refine vn (i := 10) rfl rfl ?_
   refine vn (i := 8) rfl rfl ?_
   refine vn (i := 11) rfl rfl ?_
   refine vm (i := 12) (v := .bool false) rfl rfl rfl ?_
   refine vm (i := 13) (v := .bool false) rfl rfl rfl ?_
   refine wpV_done Tw.kr (fun W2 hW2 => ?_) _
   change Code.wp ..
   refine wp_ret ?_
   try simp only [inBlock_ret, then_ret]
   refine bodyPost_ret (v := .bool false) ?_ rfl ?_
   · kernel_rfl
   · exact ⟨(bool_is (by unfold rightS; simp [*, hasH])), hW2.1⟩
 | true =>
   refine vm (i := 7) (v := .int .u8 ((z : Nat) : Int)) rfl rfl rfl ?_
   refine vm (i := 9) (v := .pointer (some ⟨g2, 2, none⟩)) rfl rfl rfl ?_
   refine vv (i := 10) (v := .int .u8 ((x.half : Nat) : Int)) rfl rfl rfl (yb_cell (off := 2) rfl Tw.kr Tw.m0 Tryd.underlying5 rfl Tw.kr) ?_
   refine wpV_c (i := 8) (OutRL u8C w [(g2, .cells (sltC x).toArray 34 (0, 0)), (g1, .cells (shC (.slice pc cs.length cc) (.slice po os.length co) t).toArray 32 (0, 0))] (hsX z)) rfl rfl Tw.kr Tw.kr Tw.kf (fun W hW => calls_r hW (halves_any z W)) (fun v K9 hG => hG.sub) Tw.pf ?_
   rintro _ _ ⟨p4, c4, Kl4, rfl, n4, R4, N4, rfl⟩
   obtain ⟨dj5_0, dj5_1⟩ : Dk g2 Kl4 ∧ Dk g1 Kl4 := Tw.djf N4
   refine vv (i := 11) (v := .bool ((fst (fun m => decide (x.half = m)) (hsX z)).isSome)) rfl rfl rfl (yb_call (f := 46) (args := #[.slice p4 ((hsX z).length) c4, .int .u8 ((x.half : Nat) : Int)]) Tw.kf fun W hW => ContainsU_any (hsX z) p4 c4 x.half (by have := hsX_len z; omega) W (R4 _ (hW.sub (fun p hp => by simp only [List.mem_cons, List.mem_append, List.nil_append, List.not_mem_nil, or_assoc, or_false, false_or, hp, true_or, or_true])))) ?_
   refine vm (i := 12) (v := .bool ((fst (fun m => decide (x.half = m)) (hsX z)).isSome)) rfl rfl rfl ?_
   refine vm (i := 13) (v := .bool ((fst (fun m => decide (x.half = m)) (hsX z)).isSome)) rfl rfl rfl ?_
   refine wpV_done Tw.kr (fun W3 hW3 => ?_) _
   change Code.wp ..
   refine wp_ret ?_
   try simp only [inBlock_ret, then_ret]
   refine bodyPost_ret (v := .bool ((fst (fun m => decide (x.half = m)) (hsX z)).isSome)) ?_ rfl ?_
   · kernel_rfl
   · exact ⟨(bool_is (by unfold rightS; simp [*, hasH])), hW3.1⟩
set_option maxRecDepth 100000 in
set_option maxHeartbeats 4000000 in
theorem Held1_any (h : Nat) (x : Slt) (l : List Slt) (p : Option Addr) (c : Nat) (g1 g2 : Nat) (hl : l.length ≤ 4000000000) (hx : -9223372036854775808 < x.tier ∧ x.tier ≤ 9223372036854775807) (w : World) (h1 : CapR w g1 [.slice p l.length c]) (h2 : CapR w g2 (sltC x)) (hp : SLV w p (l.flatMap sltC)) : Calls Tryd.prog 57 #[.int .u8 ((h : Nat) : Int), .pointer (some ⟨g1, 0, none⟩), .pointer (some ⟨g2, 0, none⟩)] w fun e w' => e = .returned (.bool (belowS x l h)) ∧ Below w.heap.size w w' := by
 have H1 := Lib.hid h1
 clear h1
 have H2 := Lib.hid h2
 clear h2
 have HP := Lib.hid hp
 clear hp
 go_enter Tryd.func57, Tryd.ntmps57
 refine wp_seq ?_
 refine wp_region_L [] (KS.start w) ?_
 refine lm (v := .bool false) rfl rfl ?_
 refine wpL_done (fun W1 hW1 => ?_)
 change Code.wp ..
 refine wp_seq ?_
 refine wp_region_L _ hW1 ?_
 refine lv (v := .slice p l.length c) rfl rfl (yb_rf (v := .slice p l.length c) rfl Tw.kr (fun W hW => ((H1.out).keep hW.1).2 0 _ rfl) Tryd.underlying35 rfl) ?_
 refine lm (v := .pointer (some ⟨g2, 0, none⟩)) rfl rfl ?_
 refine lv (v := .int .i64 x.col) rfl rfl (yb_rf (v := .int .i64 x.col) rfl Tw.kr (fun W hW => ((H2.out).keep hW.1).2 0 _ rfl) Tryd.underlying3 rfl) ?_
 refine lm (v := .pointer (some ⟨g2, 1, none⟩)) rfl rfl ?_
 refine lv (v := .int .i64 x.tier) rfl rfl (yb_rf (v := .int .i64 x.tier) rfl Tw.kr (fun W hW => ((H2.out).keep hW.1).2 1 _ rfl) Tryd.underlying3 rfl) ?_
 refine lp (v := .int .i64 (x.tier - 1)) rfl rfl (run_bin rfl (vx := (.int .i64 x.tier)) (vy := (.int .i64 1)) Tw.kr Tw.kr fun w => bi_sub (z := (x.tier - 1)) rfl (wi_i64 Tw.om) w) ?_
 refine lm (v := .int .u8 ((h : Nat) : Int)) rfl rfl ?_
 refine lm (v := .agg #[.int .i64 x.col, .int .i64 (x.tier - 1), .int .u8 ((h : Nat) : Int)]) rfl rfl ?_
 refine lv (v := .bool ((fst (eqS (⟨x.col, (x.tier - 1), h⟩ : Slt)) l).isSome)) rfl rfl (yb_call (f := 58) (args := #[.slice p l.length c, .agg #[.int .i64 x.col, .int .i64 (x.tier - 1), .int .u8 ((h : Nat) : Int)]]) Tw.kf fun W hW => ContainsS_any l p c (⟨x.col, (x.tier - 1), h⟩ : Slt) Tw.om W ((RL.base HP.out) _ (hW.sub (fun _ h => by cases h)))) ?_
 refine lm (v := .bool ((fst (eqS (⟨x.col, (x.tier - 1), h⟩ : Slt)) l).isSome)) rfl rfl ?_
 refine wpL_done (fun W2 hW2 => ?_)
 change Code.wp ..
 refine wp_ret ?_
 try simp only [inBlock_ret, then_ret]
 refine bodyPost_ret (v := .bool ((fst (eqS (⟨x.col, (x.tier - 1), h⟩ : Slt)) l).isSome)) ?_ rfl ?_
 · kernel_rfl
 · exact ⟨rfl, hW2.1⟩
set_option maxRecDepth 100000 in
set_option maxHeartbeats 4000000 in
theorem Held_any (x : Slt) (l : List Slt) (p : Option Addr) (c : Nat) (hl : l.length ≤ 4000000000) (hx : -9223372036854775808 ≤ x.tier ∧ x.tier ≤ 9223372036854775807) (w : World) (hp : SLV w p (l.flatMap sltC)) : Calls Tryd.prog 25 #[.agg (sltC x).toArray, .slice p l.length c] w fun e w' => e = .returned (.bool (heldS x l)) ∧ Below w.heap.size w w' := by
 have HP := Lib.hid hp
 clear hp
 go_enter Tryd.func25, Tryd.ntmps25
 refine wp_seq ?_
 refine wp_region_L [] (KS.start w) ?_
 refine wpL_new (fun g => .pointer (some ⟨g, 0, none⟩)) (obi := .cells (sltC x).toArray 34 (0, 0)) rfl rfl Tw.kf Tw.pf fun g1 Bg1 Fg1 => ?_
 refine wpL_new (fun g => .pointer (some ⟨g, 0, none⟩)) (obi := .cells #[.slice p l.length c] 35 (0, 0)) rfl rfl Tw.kf Tw.pf fun g2 Bg2 Fg2 => ?_
 obtain dj3_0 : g1 ≠ g2 := Tw.dkf Fg2
 refine lm (v := .bool false) rfl rfl ?_
 refine wpL_done (fun W1 hW1 => ?_)
 change Code.wp ..
 refine wp_seq ?_
 refine wp_seq ?_
 refine wp_region_L _ hW1 ?_
 refine lm (v := .pointer (some ⟨g1, 1, none⟩)) rfl rfl ?_
 refine lv (v := .int .i64 x.tier) rfl rfl (yb_cell (off := 1) rfl Tw.kr Tw.m1 Tryd.underlying3 rfl Tw.kr) ?_
 refine lp (v := .bool (!(decide (0 < x.tier)))) rfl rfl (run_bin rfl (vx := (.int .i64 x.tier)) (vy := (.int .i64 0)) Tw.kr Tw.kr fun w => bi_leq rfl w) ?_
 refine wpL_done (fun W2 hW2 => ?_)
 change Code.wp ..
 cases hd1 : (decide (0 < x.tier)) with
 | false =>
   have h1 : ¬ (0 < x.tier) := of_decide_eq_false hd1
   clear hd1
   refine wp_cond_true rfl ?_
   refine wp_seq ?_
   refine wp_region_L _ hW2 ?_
   refine lm (v := .bool true) rfl rfl ?_
   refine wpL_done (fun W3 hW3 => ?_)
   change Code.wp ..
   refine wp_ret ?_
   try simp only [inBlock_ret, then_ret]
   refine bodyPost_ret (v := .bool true) ?_ rfl ?_
   · kernel_rfl
   · exact ⟨(bool_is (by unfold heldS; rw [decide_eq_true (p := x.tier ≤ 0) Tw.om] <;> simp)), hW3.1⟩
 | true =>
   have h1 : 0 < x.tier := of_decide_eq_true hd1
   clear hd1
   refine wp_cond_false rfl ?_
   refine wp_skip ?_
   change Code.wp ..
   refine wp_seq ?_
   refine wp_region_L _ hW2 ?_
   refine lm (v := .func (.func 57) #[] #[.pointer (some ⟨g2, 0, none⟩), .pointer (some ⟨g1, 0, none⟩)]) rfl rfl ?_
   refine lm (v := .func (.func 57) #[] #[.pointer (some ⟨g2, 0, none⟩), .pointer (some ⟨g1, 0, none⟩)]) rfl rfl ?_
   refine wpL_done (fun W4 hW4 => ?_)
   change Code.wp ..
   refine wp_seq ?_
   refine wp_region_L _ hW4 ?_
   refine lm (v := .func (.func 57) #[] #[.pointer (some ⟨g2, 0, none⟩), .pointer (some ⟨g1, 0, none⟩)]) rfl rfl ?_
   refine lm (v := .pointer (some ⟨g1, 2, none⟩)) rfl rfl ?_
   refine lv (v := .int .u8 ((x.half : Nat) : Int)) rfl rfl (yb_cell (off := 2) rfl Tw.kr Tw.m1 Tryd.underlying5 rfl Tw.kr) ?_
   refine lv (v := .bool (belowS x l x.half)) rfl rfl (yb_call (f := 57) (args := #[.int .u8 ((x.half : Nat) : Int), .pointer (some ⟨g2, 0, none⟩), .pointer (some ⟨g1, 0, none⟩)]) Tw.kf fun W hW => Held1_any x.half x l p c g2 g1 Tw.om Tw.om W (CapR.of hW Tw.m0) (CapR.of hW Tw.m1) ((RL.base HP.out) _ (hW.sub (fun _ h => by cases h)))) ?_
   refine lm (v := .bool (belowS x l x.half)) rfl rfl ?_
   cases h2 : (belowS x l x.half) with
   | false =>
     refine lm (v := .pointer (some ⟨g1, 2, none⟩)) rfl rfl ?_
     refine lv (v := .int .u8 ((x.half : Nat) : Int)) rfl rfl (yb_cell (off := 2) rfl Tw.kr Tw.m1 Tryd.underlying5 rfl Tw.kr) ?_
     refine lp (v := .bool (decide (x.half = 0))) rfl rfl (run_bin rfl (vx := (.int .u8 ((x.half : Nat) : Int))) (vy := (.int .u8 ((0 : Nat) : Int))) Tw.kr Tw.kr fun w => bn_eql rfl w) ?_
     refine lm (v := .bool (decide (x.half = 0))) rfl rfl ?_
     cases hd3 : (decide (x.half = 0)) with
     | false =>
       have h3 : ¬ (x.half = 0) := of_decide_eq_false hd3
       clear hd3
       refine ln rfl ?_
       refine ln rfl ?_
       refine lm (v := .bool false) rfl rfl ?_
       refine lm (v := .bool false) rfl rfl ?_
       refine ln rfl ?_
       refine ln rfl ?_
       refine lm (v := .bool false) rfl rfl ?_
       refine lm (v := .bool false) rfl rfl ?_
       refine lm (v := .bool false) rfl rfl ?_
       refine wpL_done (fun W5 hW5 => ?_)
       change Code.wp ..
       refine wp_ret ?_
       try simp only [inBlock_ret, then_ret]
       refine bodyPost_ret (v := .bool false) ?_ rfl ?_
       · kernel_rfl
       · exact ⟨(bool_is (by unfold heldS; rw [decide_eq_false (p := x.tier ≤ 0) Tw.om, h2, decide_eq_false h3] <;> simp)), hW5.1⟩
     | true =>
       have h3 : x.half = 0 := of_decide_eq_true hd3
       clear hd3
       refine lm (v := .func (.func 57) #[] #[.pointer (some ⟨g2, 0, none⟩), .pointer (some ⟨g1, 0, none⟩)]) rfl rfl ?_
       refine lv (v := .bool (belowS x l 1)) rfl rfl (yb_call (f := 57) (args := #[.int .u8 1, .pointer (some ⟨g2, 0, none⟩), .pointer (some ⟨g1, 0, none⟩)]) Tw.kf fun W hW => Held1_any 1 x l p c g2 g1 Tw.om Tw.om W (CapR.of hW Tw.m0) (CapR.of hW Tw.m1) ((RL.base HP.out) _ (hW.sub (fun _ h => by cases h)))) ?_
       refine lm (v := .bool (belowS x l 1)) rfl rfl ?_
       refine lm (v := .bool (belowS x l 1)) rfl rfl ?_
       cases h4 : (belowS x l 1) with
       | false =>
         refine ln rfl ?_
         refine ln rfl ?_
         refine lm (v := .bool false) rfl rfl ?_
         refine lm (v := .bool false) rfl rfl ?_
         refine lm (v := .bool false) rfl rfl ?_
         refine wpL_done (fun W6 hW6 => ?_)
         change Code.wp ..
         refine wp_ret ?_
         try simp only [inBlock_ret, then_ret]
         refine bodyPost_ret (v := .bool false) ?_ rfl ?_
         · kernel_rfl
         · exact ⟨(bool_is (by unfold heldS; rw [decide_eq_false (p := x.tier ≤ 0) Tw.om, h2, decide_eq_true h3, h4] <;> simp)), hW6.1⟩
       | true =>
         refine lm (v := .func (.func 57) #[] #[.pointer (some ⟨g2, 0, none⟩), .pointer (some ⟨g1, 0, none⟩)]) rfl rfl ?_
         refine lv (v := .bool (belowS x l 2)) rfl rfl (yb_call (f := 57) (args := #[.int .u8 2, .pointer (some ⟨g2, 0, none⟩), .pointer (some ⟨g1, 0, none⟩)]) Tw.kf fun W hW => Held1_any 2 x l p c g2 g1 Tw.om Tw.om W (CapR.of hW Tw.m0) (CapR.of hW Tw.m1) ((RL.base HP.out) _ (hW.sub (fun _ h => by cases h)))) ?_
         refine lm (v := .bool (belowS x l 2)) rfl rfl ?_
         refine lm (v := .bool (belowS x l 2)) rfl rfl ?_
         refine lm (v := .bool (belowS x l 2)) rfl rfl ?_
         refine wpL_done (fun W7 hW7 => ?_)
         change Code.wp ..
         refine wp_ret ?_
         try simp only [inBlock_ret, then_ret]
         refine bodyPost_ret (v := .bool (belowS x l 2)) ?_ rfl ?_
         · kernel_rfl
         · exact ⟨(bool_is (by unfold heldS; rw [decide_eq_false (p := x.tier ≤ 0) Tw.om, h2, decide_eq_true h3, h4] <;> simp)), hW7.1⟩
   | true =>
     refine ln rfl ?_
     refine ln rfl ?_
     refine ln rfl ?_
     refine ln rfl ?_
     refine ln rfl ?_
     refine ln rfl ?_
     refine ln rfl ?_
     refine ln rfl ?_
     refine ln rfl ?_
     refine ln rfl ?_
     refine ln rfl ?_
     refine lm (v := .bool true) rfl rfl ?_
     refine lm (v := .bool true) rfl rfl ?_
     refine wpL_done (fun W8 hW8 => ?_)
     change Code.wp ..
     refine wp_ret ?_
     try simp only [inBlock_ret, then_ret]
     refine bodyPost_ret (v := .bool true) ?_ rfl ?_
     · kernel_rfl
     · exact ⟨(bool_is (by unfold heldS; rw [decide_eq_false (p := x.tier ≤ 0) Tw.om, h2] <;> simp)), hW8.1⟩
end Go.Proofs.YtlinjngifacmoaaDoor
/- What holds of a region outside of a round holds in a round, too, at the wide fence. Nothing of the program. -/
namespace Tw
open Go Go.RowKit Go.Proofs.YtlinjngifacmoaaDoor
abbrev FX (r : Option Nat) : Fence := { fn := fun _ => True, depth := none, alive := false, round := r }
theorem calls_round {P : Program} {n : Nat} {l : Option Nat} {f : FuncId} {args : Array Value} {w : World} {R : Ending → World → Prop} (h : Calls P f args w R) : CallsIn (FX l) n P f args w R := (callsIn_wide (n := n)).2 h
theorem rows_round {P : Program} {n : Nat} {l : Option Nat} {row : String} {args : Array Value} {w : World} {R : Value → World → Prop} (h : Rows P row args w R) : RowsIn (FX l) n P row args w R := fun c cs _ =>
 let ⟨v, w', r, s⟩ := h c cs
 ⟨v, w', r, (StepsIn.of_steps s).mono fun m _ => fenced_wide P m⟩
def onlyN (Q : Exit → Act → World → Prop) : Exit → Act → World → Prop
 | .normal, a, w => Q .normal a w
 | _, _, _ => False
theorem lets_onlyN {Q : Exit → Act → World → Prop} (h : LetsOut (onlyN Q)) : False := by
 obtain ⟨_, _, h⟩ := h
 exact h
theorem oper_round {P : Program} {n : Nat} {l : Option Nat} {o : Oper} {a : Act} {w : World} {K : Act → World → Prop} {Q E : Exit → Act → World → Prop} (hdef : ∀ c, o.op ≠ .defer c) (h : o.wp P a w K (onlyN E)) : o.wpIn (FX l) n P a w K Q := by
 refine ⟨fun _ _ => trivial, ?_⟩
 rw [Oper.semAt_eq _ _ _ hdef]
 unfold Oper.wp at h
 generalize (execOp a.eval o).run P w = r at h ⊢
 cases r with
 | ok nx w' =>
   cases nx with
   | value v => exact h
   | skip => exact h
   | defer d => exact h
   | enter f args =>
     refine ⟨(fun hh => by cases hh), calls_round (Calls.mono h ?_)⟩
     intro e w'' hr
     cases e with
     | returned v => exact hr
     | panicked c => exact hr.elim
     | outgrown => exact (lets_onlyN hr).elim
   | row row args => exact ⟨(fun hh => by cases hh), rows_round h⟩
   | _ => exact h.elim
 | halt s w' =>
   cases s with
   | panic v => exact h.elim
   | _ => exact h.elim
def noDefer (o : Oper) : Bool := match o.op with | .defer _ => false | _ => true
theorem noDefer_ne {o : Oper} (h : noDefer o = true) : ∀ c, o.op ≠ .defer c := fun c e => by unfold noDefer at h; rw [e] at h; cases h
theorem list_round {P : Program} {n : Nat} {l : Option Nat} {ops : Array Oper} {Q : Exit → Act → World → Prop} : ∀ (rest : List Oper) (a : Act) (w : World), rest.all noDefer = true → wpList P ops (onlyN Q) rest a w → wpListIn (FX l) n P ops Q rest a w
 | [], _, _, _, h => h
 | o :: rest, a, w, hd, h => by
   simp only [List.all_cons, Bool.and_eq_true] at hd
   unfold wpList at h
   unfold wpListIn
   split
   · rename_i hw
     rw [if_pos hw] at h
     rcases h with h | ⟨_, h⟩
     · exact Oper.wpIn_mono (fun a w hh => list_round rest a w hd.2 hh) (oper_round (noDefer_ne hd.1) h)
     · exact (lets_onlyN h).elim
   · rename_i hw
     rw [if_neg hw] at h
     exact ⟨fun _ _ => trivial, list_round rest _ w hd.2 h⟩
section
variable {P : Program} {W0 : Base} {n : Nat} {r : Option Nat}
theorem wp_region_LI {id : Nat} {l : List Oper} {Q : Exit → Act → World → Prop} {a : Act} {w : World} (K : List (Nat × Obj)) (hd : l.all noDefer = true) (hK : KS W0 K w) (h : wpL P l.toArray (onlyN Q) W0 l a K) : (Code.region id l.toArray false).wpIn (FX r) n P Q a w :=
 wpIn_region_lit (list_round l a w hd (h.of w hK))
theorem any_round {ops : Array Oper} {md : Region.Mode} {Q : Exit → Act → World → Prop} (hd : ∀ (i : Nat) (o : Oper), ops[i]? = some o → noDefer o = true) : ∀ (fuel : Nat) (listed : Array Bool) (a : Act) (w : World), wpAny P md ops (onlyN Q) fuel listed a w → wpAnyIn (FX r) n P md ops Q fuel listed a w
 | 0, _, _, _, h => ⟨h.1, h.2⟩
 | fuel + 1, listed, a, w, h => by
   refine ⟨fun hr => h.1 hr, fun i hi => ?_⟩
   have hh := h.2 i hi
   unfold wpOp at hh
   unfold wpOpIn
   cases ho : ops[i]? with
   | none => rw [ho] at hh; exact any_round hd fuel _ a w hh
   | some o =>
     rw [ho] at hh
     simp only at hh ⊢
     split
     · rename_i hw
       rw [if_pos hw] at hh
       rcases hh with hh | ⟨_, hh⟩
       · exact Oper.wpIn_mono (fun a w hx => any_round hd fuel _ a w hx) (oper_round (noDefer_ne (hd i o ho)) hh)
       · exact (lets_onlyN hh).elim
     · rename_i hw
       rw [if_neg hw] at hh
       exact ⟨fun _ _ => trivial, any_round hd fuel _ _ w hh⟩
theorem wp_region_VI {id : Nat} {ops : Array Oper} {Q : Exit → Act → World → Prop} {a : Act} {w : World} (K : List (Nat × Obj)) (hm : P.follows .mixedOrders = true) (hd : ops.toList.all noDefer = true) (hK : KS W0 K w)
   (h : wpV P .any ops (onlyN Q) W0 ops.size (Array.replicate ops.size false) a K) : (Code.region id ops true).wpIn (FX r) n P Q a w :=
 wpIn_region_any hm (any_round (fun i o ho => List.all_eq_true.1 hd o (Array.mem_toList_iff.2 (Array.mem_of_getElem? ho))) _ _ _ _ (wpV_sound _ _ _ _ h _ hK.drew))
end
end Tw
/- A region that calls the round of a loop over an iterator (yield). Nothing of the program. -/
namespace Tw
open Go Go.RowKit Go.Proofs.YtlinjngifacmoaaDoor
def onlyR (K : Act → World → Prop) : Exit → Act → World → Prop
 | .normal, a, w => K a w
 | _, _, _ => False
theorem onlyR_N (K : Act → World → Prop) : onlyR K = onlyN (onlyR K) := by funext e a w; cases e <;> rfl
section
variable {P : Program} {n : Nat} {r : Option Nat} {ops : Array Oper} {Q : Exit → Act → World → Prop}
theorem list_app (rest : List Oper) : ∀ (pre : List Oper) (a : Act) (w : World), pre.all noDefer = true → wpList P ops (onlyR (wpListIn (FX r) n P ops Q rest)) pre a w → wpListIn (FX r) n P ops Q (pre ++ rest) a w
 | [], _, _, _, h => h
 | o :: pre, a, w, hd, h => by
   simp only [List.all_cons, Bool.and_eq_true] at hd
   rw [List.cons_append]
   unfold wpList at h
   unfold wpListIn
   split
   · rename_i hw
     rw [if_pos hw] at h
     rcases h with h | ⟨_, h⟩
     · rw [onlyR_N] at h
       refine Oper.wpIn_mono (fun a w hh => list_app rest pre a w hd.2 ?_) (oper_round (noDefer_ne hd.1) h)
       rw [onlyR_N]
       exact hh
     · rw [onlyR_N] at h
       exact (lets_onlyN h).elim
   · rename_i hw
     rw [if_neg hw] at h
     exact ⟨fun _ _ => trivial, list_app rest pre _ w hd.2 h⟩
theorem wp_region_S {id : Nat} {l : List Oper} {a : Act} {w : World} {W0 : Base} (pre rest : List Oper) (K : List (Nat × Obj)) (hl : l = pre ++ rest) (hd : pre.all noDefer = true) (hK : KS W0 K w) (h : wpL P l.toArray (onlyR (wpListIn (FX r) n P l.toArray Q rest)) W0 pre a K) : (Code.region id l.toArray false).wpIn (FX r) n P Q a w := by
 refine wpIn_region_lit ?_
 have h1 := list_app rest pre a w hd (h.of w hK)
 rw [← hl] at h1
 exact h1
theorem wpl_rest {rest : List Oper} {a : Act} {w : World} {W0 : Base} (K : List (Nat × Obj)) (hd : rest.all noDefer = true) (hK : KS W0 K w) (h : wpL P ops (onlyN Q) W0 rest a K) : wpListIn (FX r) n P ops Q rest a w := list_round rest a w hd (h.of w hK)
theorem wpl_yield {o : Oper} {rest : List Oper} {a : Act} {w : World} {c x : Operand} {tt : TypeId} {l d : Nat} {v : Value} {A B : World → Prop} {tm : Array Value} {df : List Deferred} {T1 T2 : Array Value} (ha : a = ⟨tm, df⟩) (ho : o.op = .call { callee := .value c, args := #[x], argTypes := #[tt] }) (hc : a.eval c = .func (.yield l) #[] #[]) (hx : a.eval x = v)
   (hw : Region.wanted o (yielded ops a.tmps) = true) (hd : o.dst = some d) (hY : YieldAt (FX r) (n - 1) P l #[v] w fun e W' => (e = .returned (.bool true) ∧ A W') ∨ (e = .returned (.bool false) ∧ B W'))
   (hT1 : tm.setIfInBounds d (.bool true) = T1) (hT2 : tm.setIfInBounds d (.bool false) = T2)
   (h1 : ∀ W', A W' → wpListIn (FX r) n P ops Q rest ⟨T1, df⟩ W') (h2 : ∀ W', B W' → wpListIn (FX r) n P ops Q rest ⟨T2, df⟩ W') : wpListIn (FX r) n P ops Q (o :: rest) a w := by
 subst ha
 obtain ⟨fn, tmps, assign, body, hy, hR⟩ := hY
 refine wpListIn_step fun K hK => ?_
 rw [if_pos hw]
 refine ⟨fun _ _ => trivial, ?_⟩
 rw [Oper.semAt_eq _ _ _ (fun c' e => by rw [ho] at e; cases e)]
 have hrun : (execOp (Act.eval ⟨tm, df⟩) o).run P w = .ok (.round l fn tmps assign body) w := by
   generalize Act.eval ⟨tm, df⟩ = ev at hc hx
   simp [execOp, ho, resolve, invoke, hc, hx, hy, Deferred.ofValue]
 rw [hrun]
 refine ⟨(fun hh => by cases hh), hR.mono ?_⟩
 rintro e W' (⟨rfl, hA⟩ | ⟨rfl, hB⟩)
 · refine hK _ _ ?_
   rw [hd]
   simp only [Act.put]
   rw [hT1]
   exact h1 W' hA
 · refine hK _ _ ?_
   rw [hd]
   simp only [Act.put]
   rw [hT2]
   exact h2 W' hB
end
end Tw
