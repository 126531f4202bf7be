import Derived.Test.YtllmpemmknblaaaDoorJQz00
import Derived.Test.YtllmpemmknblaaaDoorBS02
import Derived.Test.YtllmpemmknblaaaDoorBS00
import Derived.Laws.CopyRow
import Derived.Laws.MakeOwn
import Derived.Laws.OwnMore
import Derived.Laws.Small
/- Part of the proof: JE, JF, JG, JI, IA, IB, IS, IC, IU, ID, IE, IO, HX, Y1, IP, JK. -/
set_option linter.unusedVariables false
set_option linter.unusedSimpArgs false
set_option linter.unusedSectionVars false
namespace Go.Proofs.YtllmpemmknblaaaDoor
open Go Go.RowKit Tw
set_option maxRecDepth 100000 in
set_option maxHeartbeats 4000000 in
theorem RTotal_any (l : List Bx) (p : Option Addr) (c : Nat) (hl : l.length ≤ 4000000000) (w : World) (hp : SLV w p (bcs l)) : Calls Tryd.prog 34 #[.slice p l.length c] w fun e w' => e = .returned (smV (totalX l)) ∧ Below w.heap.size w w' := by
 have HP := Lib.hid hp
 clear hp
 go_enter Tryd.func34, Tryd.ntmps34
 refine wp_seq ?_
 refine wp_region_L [] (KS.start w) ?_
 refine wpL_new (fun g => .pointer (some ⟨g, 0, none⟩)) (obi := .cells #[.int .i64 0, .int .i64 0, .int .i64 0, .int .i64 0, .int .i64 0] 66 (0, 0)) rfl rfl Tw.kf Tw.pf fun g1 Bg1 Fg1 => ?_
 refine wpL_done (fun W1 hW1 => ?_)
 change Code.wp ..
 refine wp_seq ?_
 refine wp_region_L _ hW1 ?_
 refine wpL_new (fun g => .pointer (some ⟨g, 0, none⟩)) (obi := .cells #[.int .i64 0, .int .i64 0, .int .i64 0, .int .i64 0, .int .i64 0] 66 (0, 0)) rfl rfl Tw.kf Tw.pf fun g2 Bg2 Fg2 => ?_
 obtain dj3_0 : g1 ≠ g2 := Tw.dkf Fg2
 refine wpL_done (fun W2 hW2 => ?_)
 change Code.wp ..
 refine wp_seq ?_
 refine wp_seq ?_
 refine wp_region_L _ hW2 ?_
 refine lm (v := .int .i64 0) rfl rfl ?_
 refine wpL_done (fun W3 hW3 => ?_)
 change Code.wp ..
 refine wp_block ?_
 go_loopw [4] (fun u4 wr => ∃ (k : Nat), (k ≤ l.length) ∧ u4 = .int .i64 ((k : Nat) : Int) ∧ KS w [(g2, .cells (smC (totalX (l.take k))) 66 (0, 0)), (g1, .cells #[.int .i64 0, .int .i64 0, .int .i64 0, .int .i64 0, .int .i64 0] 66 (0, 0))] wr) (fun u4 _ => l.length - (intOf u4).toNat)
 case atStart => exact ⟨0, (Nat.zero_le _), rfl, hW3⟩
 case round =>
   obtain ⟨k, hk, rfl, hL4⟩ := hrel
   obtain ⟨so1, so2, so3, so4, so5, so6⟩ := sm_ok l (k := k) Tw.om
   refine wp_seq ?_
   refine wp_seq ?_
   refine wp_region_L _ hL4 ?_
   refine lm (v := .int .i64 ((k : Nat) : Int)) rfl rfl ?_
   refine lm (v := .slice p l.length c) rfl rfl ?_
   refine lp (v := .int .i64 ((l.length : Nat) : Int)) rfl rfl (run_lenL (p := p) (cap := c) (n := l.length) rfl Tryd.underlying22 Tw.kr) ?_
   refine lp (v := .bool (decide (k < l.length))) rfl rfl (run_bin rfl (vx := (.int .i64 ((k : Nat) : Int))) (vy := (.int .i64 ((l.length : Nat) : Int))) Tw.kr Tw.kr fun w => bn_lss rfl w) ?_
   refine wpL_done (fun W5 hW5 => ?_)
   change Code.wp ..
   cases hd1 : (decide (k < l.length)) with
   | false =>
     have h1 : ¬ (k < l.length) := of_decide_eq_false hd1
     clear hd1
     refine wp_cond_false rfl ?_
     refine wp_exit ?_
     change Code.wp ..
     refine wp_seq ?_
     refine wp_region_L _ hW5 ?_
     refine lv (v := .agg #[.int .i64 ((((totalX (l.take k)).n) : Nat) : Int), .int .i64 ((((totalX (l.take k)).h) : Nat) : Int), .int .i64 ((totalX (l.take k)).k), .int .i64 ((((totalX (l.take k)).r) : Nat) : Int), .int .i64 ((((totalX (l.take k)).d) : Nat) : Int)]) rfl rfl (yb_load (n := 5) (off := 0) rfl Tw.kr Tw.m0 Tryd.underlying66 rfl Tw.kr (by first | (simp; done) | exact Nat.le_of_ble_eq_true rfl) Tw.kr) ?_
     refine wpL_s [(g2, .cells (smC (totalX (l.take k))) 66 (0, 0)), (g1, .cells #[.int .i64 ((((totalX (l.take k)).n) : Nat) : Int), .int .i64 ((((totalX (l.take k)).h) : Nat) : Int), .int .i64 ((totalX (l.take k)).k), .int .i64 ((((totalX (l.take k)).r) : Nat) : Int), .int .i64 ((((totalX (l.take k)).d) : Nat) : Int)] 66 (0, 0))] rfl rfl (st_row (off := 0) (v := .agg #[.int .i64 ((((totalX (l.take k)).n) : Nat) : Int), .int .i64 ((((totalX (l.take k)).h) : Nat) : Int), .int .i64 ((totalX (l.take k)).k), .int .i64 ((((totalX (l.take k)).r) : Nat) : Int), .int .i64 ((((totalX (l.take k)).d) : Nat) : Int)]) rfl Tw.kr Tw.kr Tw.m1 Bg1 Tw.kr (by first | (simp [Value.cells]; done) | exact Nat.le_of_ble_eq_true rfl) (by intro v hv; simp [Value.cells, strV] at hv; first | (subst hv; rfl) | (rcases hv with rfl | rfl | rfl | rfl | rfl <;> rfl)) Tw.kr (List.forall_mem_cons.2 ⟨.inr ⟨Tw.m0, Tw.nee⟩, (List.forall_mem_cons.2 ⟨.inl rfl, (List.forall_mem_nil _)⟩)⟩)) ?_
     refine wpL_done (fun W6 hW6 => ?_)
     change Code.wp ..
     refine wp_ret ?_
     try simp only [inBlock_ret, then_ret]
     refine bodyPost_ret (v := .agg #[.int .i64 ((((totalX (l.take k)).n) : Nat) : Int), .int .i64 ((((totalX (l.take k)).h) : Nat) : Int), .int .i64 ((totalX (l.take k)).k), .int .i64 ((((totalX (l.take k)).r) : Nat) : Int), .int .i64 ((((totalX (l.take k)).d) : Nat) : Int)]) ?_ rfl ?_
     · exact (res_cell (p := 2) rfl rfl (hW6.2 _ Tw.m1) Tryd.underlying66 rfl Tw.kr)
     · exact ⟨(ret_v (by rw [List.take_of_length_le Tw.om]; rfl)), hW6.1⟩
   | true =>
     have h1 : k < l.length := of_decide_eq_true hd1
     clear hd1
     refine wp_cond_true rfl ?_
     refine wp_skip ?_
     change Code.wp ..
     refine wp_seq ?_
     refine wp_block ?_
     refine wp_seq ?_
     refine wp_seq ?_
     refine wp_region_L _ hW5 ?_
     refine lm (v := .slice p l.length c) rfl rfl ?_
     refine lm (v := .int .i64 ((k : Nat) : Int)) rfl rfl ?_
     obtain ⟨b4, g4_, f4, hy4, hp4, lt4, hc4⟩ := bl_at (k := k) HP.out Tw.om
     refine lp (v := .pointer (some ⟨g4_, f4 + k * 9, none⟩)) rfl rfl (run_idxQ (p := p) (cap := c) (n := l.length) (j := .i64) (k := k) (sz := 9) rfl Tryd.underlying22 Tw.kr Tw.kr hp4 Tw.kr Tw.om) ?_
     refine lv (v := bxV b4) rfl rfl (yb_olds (off := f4 + k * 9) (cs := (bxC b4).toList) rfl Tw.kr hc4 lt4 Tryd.underlying26 rfl Tw.kr) ?_
     refine lv (v := .bool (rightX b4)) rfl rfl (yb_call (f := 38) (args := #[bxV b4]) Tw.kf fun W hW => RRight_any b4 W) ?_
     refine lp (v := .bool (!(rightX b4))) rfl rfl (run_un rfl Tw.kr fun w => un_not w) ?_
     refine wpL_done (fun W7 hW7 => ?_)
     change Code.wp ..
     cases h2 : (rightX b4) with
     | false =>
       refine wp_cond_true rfl ?_
       refine wp_exit ?_
       change Code.wp ..
       refine wp_region_L _ hW7 ?_
       refine lm (v := .int .i64 ((k : Nat) : Int)) rfl rfl ?_
       refine lp (v := .int .i64 (((k + 1) : Nat) : Int)) rfl rfl (run_bin rfl (vx := (.int .i64 ((k : Nat) : Int))) (vy := (.int .i64 ((1 : Nat) : Int))) Tw.kr Tw.kr fun w => bn_add (z := (k + 1)) rfl (wr_i64 Tw.om) w) ?_
       refine lm (v := .int .i64 (((k + 1) : Nat) : Int)) rfl rfl ?_
       refine wpL_done (fun W8 hW8 => ?_)
       have hts := (total_snoc hy4).trans (add_wrong h2)
       have he : smC (totalX (l.take (k + 1))) = smC (totalX (l.take k)) := by rw [hts]
       go_roundw
       case rel =>
         repeat apply Exists.intro
         exact ⟨⟨k + 1, Tw.om, rfl, (by rw [he]; exact hW8.sub (List.forall_mem_cons.2 ⟨Tw.m0, (List.forall_mem_cons.2 ⟨Tw.m1, (List.forall_mem_nil _)⟩)⟩))⟩, rfl⟩
       case measure => (show l.length - (intOf (.int .i64 (((k + 1) : Nat) : Int))).toNat < l.length - (intOf (.int .i64 ((k : Nat) : Int))).toNat); simp only [intOf]; omega
     | true =>
       have hkb := right_kilos h2
       have hhb := halves_le b4
       refine wp_cond_false rfl ?_
       refine wp_skip ?_
       change Code.wp ..
       refine wp_seq ?_
       refine wp_region_L _ hW7 ?_
       refine lm (v := .pointer (some ⟨g2, 0, none⟩)) rfl rfl ?_
       refine lv (v := .int .i64 ((((totalX (l.take k)).n) : Nat) : Int)) rfl rfl (yb_cell (off := 0) rfl Tw.kr Tw.m0 Tryd.underlying3 rfl Tw.kr) ?_
       refine lp (v := .int .i64 (((((totalX (l.take k)).n) + 1) : Nat) : Int)) rfl rfl (run_bin rfl (vx := (.int .i64 ((((totalX (l.take k)).n) : Nat) : Int))) (vy := (.int .i64 ((1 : Nat) : Int))) Tw.kr Tw.kr fun w => bn_add (z := (((totalX (l.take k)).n) + 1)) rfl (wr_i64 Tw.om) w) ?_
       refine lm (v := .pointer (some ⟨g2, 0, none⟩)) rfl rfl ?_
       refine wpL_s [(g2, .cells #[.int .i64 (((((totalX (l.take k)).n) + 1) : Nat) : Int), .int .i64 ((((totalX (l.take k)).h) : Nat) : Int), .int .i64 ((totalX (l.take k)).k), .int .i64 ((((totalX (l.take k)).r) : Nat) : Int), .int .i64 ((((totalX (l.take k)).d) : Nat) : Int)] 66 (0, 0)), (g1, .cells #[.int .i64 0, .int .i64 0, .int .i64 0, .int .i64 0, .int .i64 0] 66 (0, 0))] rfl rfl (st_row (off := 0) (v := .int .i64 (((((totalX (l.take k)).n) + 1) : Nat) : Int)) rfl Tw.kr Tw.kr Tw.m0 Bg2 Tw.kr (by first | (simp [Value.cells]; done) | exact Nat.le_of_ble_eq_true rfl) (by intro v hv; simp [Value.cells, strV] at hv; first | (subst hv; rfl) | (rcases hv with rfl <;> rfl)) Tw.kr (List.forall_mem_cons.2 ⟨.inl rfl, (List.forall_mem_cons.2 ⟨.inr ⟨Tw.m1, Tw.nee⟩, (List.forall_mem_nil _)⟩)⟩)) ?_
       refine wpL_done (fun W9 hW9 => ?_)
       change Code.wp ..
       refine wp_seq ?_
       refine wp_region_V _ Tw.kr hW9 ?_
       refine vm (i := 0) (v := .pointer (some ⟨g2, 1, none⟩)) rfl rfl rfl ?_
       refine vv (i := 1) (v := .int .i64 ((((totalX (l.take k)).h) : Nat) : Int)) rfl rfl rfl (yb_cell (off := 1) rfl Tw.kr Tw.m0 Tryd.underlying3 rfl Tw.kr) ?_
       refine vm (i := 2) (v := .slice p l.length c) rfl rfl rfl ?_
       refine vm (i := 3) (v := .int .i64 ((k : Nat) : Int)) rfl rfl rfl ?_
       refine vp (i := 4) (v := .pointer (some ⟨g4_, f4 + k * 9, none⟩)) rfl rfl rfl (run_idxQ (p := p) (cap := c) (n := l.length) (j := .i64) (k := k) (sz := 9) rfl Tryd.underlying22 Tw.kr Tw.kr hp4 Tw.kr Tw.om) ?_
       refine vv (i := 5) (v := bxV b4) rfl rfl rfl (yb_olds (off := f4 + k * 9) (cs := (bxC b4).toList) rfl Tw.kr hc4 lt4 Tryd.underlying26 rfl Tw.kr) ?_
       refine vv (i := 6) (v := .int .i64 (((halvesX b4) : Nat) : Int)) rfl rfl rfl (yb_call (f := 40) (args := #[bxV b4]) Tw.kf fun W hW => RHalves_any b4 W) ?_
       refine vp (i := 7) (v := .int .i64 (((((totalX (l.take k)).h) + (halvesX b4)) : Nat) : Int)) rfl rfl rfl (run_bin rfl (vx := (.int .i64 ((((totalX (l.take k)).h) : Nat) : Int))) (vy := (.int .i64 (((halvesX b4) : Nat) : Int))) Tw.kr Tw.kr fun w => bn_add (z := (((totalX (l.take k)).h) + (halvesX b4))) rfl (wr_i64 Tw.om) w) ?_
       refine vm (i := 8) (v := .pointer (some ⟨g2, 1, none⟩)) rfl rfl rfl ?_
       refine wpV_s [(g2, .cells #[.int .i64 (((((totalX (l.take k)).n) + 1) : Nat) : Int), .int .i64 (((((totalX (l.take k)).h) + (halvesX b4)) : Nat) : Int), .int .i64 ((totalX (l.take k)).k), .int .i64 ((((totalX (l.take k)).r) : Nat) : Int), .int .i64 ((((totalX (l.take k)).d) : Nat) : Int)] 66 (0, 0)), (g1, .cells #[.int .i64 0, .int .i64 0, .int .i64 0, .int .i64 0, .int .i64 0] 66 (0, 0))] (i := 9) rfl Tw.kr rfl rfl rfl (st_row (off := 1) (v := .int .i64 (((((totalX (l.take k)).h) + (halvesX b4)) : Nat) : Int)) rfl Tw.kr Tw.kr Tw.m0 Bg2 Tw.kr (by first | (simp [Value.cells]; done) | exact Nat.le_of_ble_eq_true rfl) (by intro v hv; simp [Value.cells, strV] at hv; first | (subst hv; rfl) | (rcases hv with rfl <;> rfl)) Tw.kr (List.forall_mem_cons.2 ⟨.inl rfl, (List.forall_mem_cons.2 ⟨.inr ⟨Tw.m1, Tw.nee⟩, (List.forall_mem_nil _)⟩)⟩)) ?_
       refine wpV_done Tw.kr (fun W10 hW10 => ?_) _
       change Code.wp ..
       refine wp_seq ?_
       refine wp_region_V _ Tw.kr hW10 ?_
       refine vm (i := 0) (v := .pointer (some ⟨g2, 2, none⟩)) rfl rfl rfl ?_
       refine vv (i := 1) (v := .int .i64 ((totalX (l.take k)).k)) rfl rfl rfl (yb_cell (off := 2) rfl Tw.kr Tw.m0 Tryd.underlying3 rfl Tw.kr) ?_
       refine vm (i := 2) (v := .slice p l.length c) rfl rfl rfl ?_
       refine vm (i := 3) (v := .int .i64 ((k : Nat) : Int)) rfl rfl rfl ?_
       refine vp (i := 4) (v := .pointer (some ⟨g4_, f4 + k * 9, none⟩)) rfl rfl rfl (run_idxQ (p := p) (cap := c) (n := l.length) (j := .i64) (k := k) (sz := 9) rfl Tryd.underlying22 Tw.kr Tw.kr hp4 Tw.kr Tw.om) ?_
       refine vm (i := 5) (v := .pointer (some ⟨g4_, f4 + k * 9 + 4, none⟩)) rfl rfl rfl ?_
       refine vv (i := 6) (v := .int .i64 b4.kilos) rfl rfl rfl (yb_old (off := f4 + k * 9 + 4) rfl Tw.kr (hc4 4 _ rfl) lt4 Tryd.underlying3 rfl) ?_
       refine vp (i := 7) (v := .int .i64 (((totalX (l.take k)).k) + b4.kilos)) rfl rfl rfl (run_bin rfl (vx := (.int .i64 ((totalX (l.take k)).k))) (vy := (.int .i64 b4.kilos)) Tw.kr Tw.kr fun w => bi_add (z := (((totalX (l.take k)).k) + b4.kilos)) rfl (wi_i64 Tw.om) w) ?_
       refine vm (i := 8) (v := .pointer (some ⟨g2, 2, none⟩)) rfl rfl rfl ?_
       refine wpV_s [(g2, .cells #[.int .i64 (((((totalX (l.take k)).n) + 1) : Nat) : Int), .int .i64 (((((totalX (l.take k)).h) + (halvesX b4)) : Nat) : Int), .int .i64 (((totalX (l.take k)).k) + b4.kilos), .int .i64 ((((totalX (l.take k)).r) : Nat) : Int), .int .i64 ((((totalX (l.take k)).d) : Nat) : Int)] 66 (0, 0)), (g1, .cells #[.int .i64 0, .int .i64 0, .int .i64 0, .int .i64 0, .int .i64 0] 66 (0, 0))] (i := 9) rfl Tw.kr rfl rfl rfl (st_row (off := 2) (v := .int .i64 (((totalX (l.take k)).k) + b4.kilos)) rfl Tw.kr Tw.kr Tw.m0 Bg2 Tw.kr (by first | (simp [Value.cells]; done) | exact Nat.le_of_ble_eq_true rfl) (by intro v hv; simp [Value.cells, strV] at hv; first | (subst hv; rfl) | (rcases hv with rfl <;> rfl)) Tw.kr (List.forall_mem_cons.2 ⟨.inl rfl, (List.forall_mem_cons.2 ⟨.inr ⟨Tw.m1, Tw.nee⟩, (List.forall_mem_nil _)⟩)⟩)) ?_
       refine wpV_done Tw.kr (fun W11 hW11 => ?_) _
       change Code.wp ..
       refine wp_seq ?_
       refine wp_seq ?_
       refine wp_region_L _ hW11 ?_
       refine lm (v := .slice p l.length c) rfl rfl ?_
       refine lm (v := .int .i64 ((k : Nat) : Int)) rfl rfl ?_
       refine lp (v := .pointer (some ⟨g4_, f4 + k * 9, none⟩)) rfl rfl (run_idxQ (p := p) (cap := c) (n := l.length) (j := .i64) (k := k) (sz := 9) rfl Tryd.underlying22 Tw.kr Tw.kr hp4 Tw.kr Tw.om) ?_
       refine lm (v := .pointer (some ⟨g4_, f4 + k * 9 + 8, none⟩)) rfl rfl ?_
       refine lv (v := .bool b4.rf) rfl rfl (yb_old (off := f4 + k * 9 + 8) rfl Tw.kr (hc4 8 _ rfl) lt4 Tryd.underlying4 rfl) ?_
       refine wpL_done (fun W12 hW12 => ?_)
       change Code.wp ..
       cases h3 : b4.rf with
       | false =>
         refine wp_cond_false rfl ?_
         refine wp_skip ?_
         change Code.wp ..
         refine wp_seq ?_
         refine wp_region_L _ hW12 ?_
         refine lm (v := .slice p l.length c) rfl rfl ?_
         refine lm (v := .int .i64 ((k : Nat) : Int)) rfl rfl ?_
         refine lp (v := .pointer (some ⟨g4_, f4 + k * 9, none⟩)) rfl rfl (run_idxQ (p := p) (cap := c) (n := l.length) (j := .i64) (k := k) (sz := 9) rfl Tryd.underlying22 Tw.kr Tw.kr hp4 Tw.kr Tw.om) ?_
         refine lm (v := .pointer (some ⟨g4_, f4 + k * 9 + 7, none⟩)) rfl rfl ?_
         refine lv (v := .int .u8 ((b4.cls : Nat) : Int)) rfl rfl (yb_old (off := f4 + k * 9 + 7) rfl Tw.kr (hc4 7 _ rfl) lt4 Tryd.underlying5 rfl) ?_
         refine lp (v := .bool (decide (0 < b4.cls))) rfl rfl (run_bin rfl (vx := (.int .u8 ((b4.cls : Nat) : Int))) (vy := (.int .u8 ((0 : Nat) : Int))) Tw.kr Tw.kr fun w => bn_gtr rfl w) ?_
         refine wpL_done (fun W13 hW13 => ?_)
         change Code.wp ..
         cases hd4 : (decide (0 < b4.cls)) with
         | false =>
           have h4 : ¬ (0 < b4.cls) := of_decide_eq_false hd4
           clear hd4
           refine wp_cond_false rfl ?_
           refine wp_skip ?_
           change Code.wp ..
           refine wp_region_L _ hW13 ?_
           refine lm (v := .int .i64 ((k : Nat) : Int)) rfl rfl ?_
           refine lp (v := .int .i64 (((k + 1) : Nat) : Int)) rfl rfl (run_bin rfl (vx := (.int .i64 ((k : Nat) : Int))) (vy := (.int .i64 ((1 : Nat) : Int))) Tw.kr Tw.kr fun w => bn_add (z := (k + 1)) rfl (wr_i64 Tw.om) w) ?_
           refine lm (v := .int .i64 (((k + 1) : Nat) : Int)) rfl rfl ?_
           refine wpL_done (fun W14 hW14 => ?_)
           have hts := (total_snoc hy4).trans (add_right h2)
           have hcb : (if b4.cls = 0 then 0 else 1) = 0 := by first | rw [if_pos Tw.om] | rw [if_neg Tw.om]
           have he : smC (totalX (l.take (k + 1))) = #[.int .i64 (((((totalX (l.take k)).n) + 1) : Nat) : Int), .int .i64 (((((totalX (l.take k)).h) + (halvesX b4)) : Nat) : Int), .int .i64 (((totalX (l.take k)).k) + b4.kilos), .int .i64 ((((totalX (l.take k)).r) : Nat) : Int), .int .i64 ((((totalX (l.take k)).d) : Nat) : Int)] := by rw [hts]; simp [smC, add1, hcb, h3]
           go_roundw
           case rel =>
             repeat apply Exists.intro
             exact ⟨⟨k + 1, Tw.om, rfl, (by rw [he]; exact hW14.sub (List.forall_mem_cons.2 ⟨Tw.m0, (List.forall_mem_cons.2 ⟨Tw.m1, (List.forall_mem_nil _)⟩)⟩))⟩, rfl⟩
           case measure => (show l.length - (intOf (.int .i64 (((k + 1) : Nat) : Int))).toNat < l.length - (intOf (.int .i64 ((k : Nat) : Int))).toNat); simp only [intOf]; omega
         | true =>
           have h4 : 0 < b4.cls := of_decide_eq_true hd4
           clear hd4
           refine wp_cond_true rfl ?_
           refine wp_region_L _ hW13 ?_
           refine lm (v := .pointer (some ⟨g2, 4, none⟩)) rfl rfl ?_
           refine lv (v := .int .i64 ((((totalX (l.take k)).d) : Nat) : Int)) rfl rfl (yb_cell (off := 4) rfl Tw.kr Tw.m0 Tryd.underlying3 rfl Tw.kr) ?_
           refine lp (v := .int .i64 (((((totalX (l.take k)).d) + 1) : Nat) : Int)) rfl rfl (run_bin rfl (vx := (.int .i64 ((((totalX (l.take k)).d) : Nat) : Int))) (vy := (.int .i64 ((1 : Nat) : Int))) Tw.kr Tw.kr fun w => bn_add (z := (((totalX (l.take k)).d) + 1)) rfl (wr_i64 Tw.om) w) ?_
           refine lm (v := .pointer (some ⟨g2, 4, none⟩)) rfl rfl ?_
           refine wpL_s [(g2, .cells #[.int .i64 (((((totalX (l.take k)).n) + 1) : Nat) : Int), .int .i64 (((((totalX (l.take k)).h) + (halvesX b4)) : Nat) : Int), .int .i64 (((totalX (l.take k)).k) + b4.kilos), .int .i64 ((((totalX (l.take k)).r) : Nat) : Int), .int .i64 (((((totalX (l.take k)).d) + 1) : Nat) : Int)] 66 (0, 0)), (g1, .cells #[.int .i64 0, .int .i64 0, .int .i64 0, .int .i64 0, .int .i64 0] 66 (0, 0))] rfl rfl (st_row (off := 4) (v := .int .i64 (((((totalX (l.take k)).d) + 1) : Nat) : Int)) rfl Tw.kr Tw.kr Tw.m0 Bg2 Tw.kr (by first | (simp [Value.cells]; done) | exact Nat.le_of_ble_eq_true rfl) (by intro v hv; simp [Value.cells, strV] at hv; first | (subst hv; rfl) | (rcases hv with rfl <;> rfl)) Tw.kr (List.forall_mem_cons.2 ⟨.inl rfl, (List.forall_mem_cons.2 ⟨.inr ⟨Tw.m1, Tw.nee⟩, (List.forall_mem_nil _)⟩)⟩)) ?_
           refine wpL_done (fun W15 hW15 => ?_)
           change Code.wp ..
           refine wp_region_L _ hW15 ?_
           refine lm (v := .int .i64 ((k : Nat) : Int)) rfl rfl ?_
           refine lp (v := .int .i64 (((k + 1) : Nat) : Int)) rfl rfl (run_bin rfl (vx := (.int .i64 ((k : Nat) : Int))) (vy := (.int .i64 ((1 : Nat) : Int))) Tw.kr Tw.kr fun w => bn_add (z := (k + 1)) rfl (wr_i64 Tw.om) w) ?_
           refine lm (v := .int .i64 (((k + 1) : Nat) : Int)) rfl rfl ?_
           refine wpL_done (fun W16 hW16 => ?_)
           have hts := (total_snoc hy4).trans (add_right h2)
           have hcb : (if b4.cls = 0 then 0 else 1) = 1 := by first | rw [if_pos Tw.om] | rw [if_neg Tw.om]
           have he : smC (totalX (l.take (k + 1))) = #[.int .i64 (((((totalX (l.take k)).n) + 1) : Nat) : Int), .int .i64 (((((totalX (l.take k)).h) + (halvesX b4)) : Nat) : Int), .int .i64 (((totalX (l.take k)).k) + b4.kilos), .int .i64 ((((totalX (l.take k)).r) : Nat) : Int), .int .i64 (((((totalX (l.take k)).d) + 1) : Nat) : Int)] := by rw [hts]; simp [smC, add1, hcb, h3]
           go_roundw
           case rel =>
             repeat apply Exists.intro
             exact ⟨⟨k + 1, Tw.om, rfl, (by rw [he]; exact hW16.sub (List.forall_mem_cons.2 ⟨Tw.m0, (List.forall_mem_cons.2 ⟨Tw.m1, (List.forall_mem_nil _)⟩)⟩))⟩, rfl⟩
           case measure => (show l.length - (intOf (.int .i64 (((k + 1) : Nat) : Int))).toNat < l.length - (intOf (.int .i64 ((k : Nat) : Int))).toNat); simp only [intOf]; omega
       | true =>
         refine wp_cond_true rfl ?_
         refine wp_region_L _ hW12 ?_
         refine lm (v := .pointer (some ⟨g2, 3, none⟩)) rfl rfl ?_
         refine lv (v := .int .i64 ((((totalX (l.take k)).r) : Nat) : Int)) rfl rfl (yb_cell (off := 3) rfl Tw.kr Tw.m0 Tryd.underlying3 rfl Tw.kr) ?_
         refine lp (v := .int .i64 (((((totalX (l.take k)).r) + 1) : Nat) : Int)) rfl rfl (run_bin rfl (vx := (.int .i64 ((((totalX (l.take k)).r) : Nat) : Int))) (vy := (.int .i64 ((1 : Nat) : Int))) Tw.kr Tw.kr fun w => bn_add (z := (((totalX (l.take k)).r) + 1)) rfl (wr_i64 Tw.om) w) ?_
         refine lm (v := .pointer (some ⟨g2, 3, none⟩)) rfl rfl ?_
         refine wpL_s [(g2, .cells #[.int .i64 (((((totalX (l.take k)).n) + 1) : Nat) : Int), .int .i64 (((((totalX (l.take k)).h) + (halvesX b4)) : Nat) : Int), .int .i64 (((totalX (l.take k)).k) + b4.kilos), .int .i64 (((((totalX (l.take k)).r) + 1) : Nat) : Int), .int .i64 ((((totalX (l.take k)).d) : Nat) : Int)] 66 (0, 0)), (g1, .cells #[.int .i64 0, .int .i64 0, .int .i64 0, .int .i64 0, .int .i64 0] 66 (0, 0))] rfl rfl (st_row (off := 3) (v := .int .i64 (((((totalX (l.take k)).r) + 1) : Nat) : Int)) rfl Tw.kr Tw.kr Tw.m0 Bg2 Tw.kr (by first | (simp [Value.cells]; done) | exact Nat.le_of_ble_eq_true rfl) (by intro v hv; simp [Value.cells, strV] at hv; first | (subst hv; rfl) | (rcases hv with rfl <;> rfl)) Tw.kr (List.forall_mem_cons.2 ⟨.inl rfl, (List.forall_mem_cons.2 ⟨.inr ⟨Tw.m1, Tw.nee⟩, (List.forall_mem_nil _)⟩)⟩)) ?_
         refine wpL_done (fun W17 hW17 => ?_)
         change Code.wp ..
         refine wp_seq ?_
         refine wp_region_L _ hW17 ?_
         refine lm (v := .slice p l.length c) rfl rfl ?_
         refine lm (v := .int .i64 ((k : Nat) : Int)) rfl rfl ?_
         refine lp (v := .pointer (some ⟨g4_, f4 + k * 9, none⟩)) rfl rfl (run_idxQ (p := p) (cap := c) (n := l.length) (j := .i64) (k := k) (sz := 9) rfl Tryd.underlying22 Tw.kr Tw.kr hp4 Tw.kr Tw.om) ?_
         refine lm (v := .pointer (some ⟨g4_, f4 + k * 9 + 7, none⟩)) rfl rfl ?_
         refine lv (v := .int .u8 ((b4.cls : Nat) : Int)) rfl rfl (yb_old (off := f4 + k * 9 + 7) rfl Tw.kr (hc4 7 _ rfl) lt4 Tryd.underlying5 rfl) ?_
         refine lp (v := .bool (decide (0 < b4.cls))) rfl rfl (run_bin rfl (vx := (.int .u8 ((b4.cls : Nat) : Int))) (vy := (.int .u8 ((0 : Nat) : Int))) Tw.kr Tw.kr fun w => bn_gtr rfl w) ?_
         refine wpL_done (fun W18 hW18 => ?_)
         change Code.wp ..
         cases hd5 : (decide (0 < b4.cls)) with
         | false =>
           have h5 : ¬ (0 < b4.cls) := of_decide_eq_false hd5
           clear hd5
           refine wp_cond_false rfl ?_
           refine wp_skip ?_
           change Code.wp ..
           refine wp_region_L _ hW18 ?_
           refine lm (v := .int .i64 ((k : Nat) : Int)) rfl rfl ?_
           refine lp (v := .int .i64 (((k + 1) : Nat) : Int)) rfl rfl (run_bin rfl (vx := (.int .i64 ((k : Nat) : Int))) (vy := (.int .i64 ((1 : Nat) : Int))) Tw.kr Tw.kr fun w => bn_add (z := (k + 1)) rfl (wr_i64 Tw.om) w) ?_
           refine lm (v := .int .i64 (((k + 1) : Nat) : Int)) rfl rfl ?_
           refine wpL_done (fun W19 hW19 => ?_)
           have hts := (total_snoc hy4).trans (add_right h2)
           have hcb : (if b4.cls = 0 then 0 else 1) = 0 := by first | rw [if_pos Tw.om] | rw [if_neg Tw.om]
           have he : smC (totalX (l.take (k + 1))) = #[.int .i64 (((((totalX (l.take k)).n) + 1) : Nat) : Int), .int .i64 (((((totalX (l.take k)).h) + (halvesX b4)) : Nat) : Int), .int .i64 (((totalX (l.take k)).k) + b4.kilos), .int .i64 (((((totalX (l.take k)).r) + 1) : Nat) : Int), .int .i64 ((((totalX (l.take k)).d) : Nat) : Int)] := by rw [hts]; simp [smC, add1, hcb, h3]
           go_roundw
           case rel =>
             repeat apply Exists.intro
             exact ⟨⟨k + 1, Tw.om, rfl, (by rw [he]; exact hW19.sub (List.forall_mem_cons.2 ⟨Tw.m0, (List.forall_mem_cons.2 ⟨Tw.m1, (List.forall_mem_nil _)⟩)⟩))⟩, rfl⟩
           case measure => (show l.length - (intOf (.int .i64 (((k + 1) : Nat) : Int))).toNat < l.length - (intOf (.int .i64 ((k : Nat) : Int))).toNat); simp only [intOf]; omega
         | true =>
           have h5 : 0 < b4.cls := of_decide_eq_true hd5
           clear hd5
           refine wp_cond_true rfl ?_
           refine wp_region_L _ hW18 ?_
           refine lm (v := .pointer (some ⟨g2, 4, none⟩)) rfl rfl ?_
           refine lv (v := .int .i64 ((((totalX (l.take k)).d) : Nat) : Int)) rfl rfl (yb_cell (off := 4) rfl Tw.kr Tw.m0 Tryd.underlying3 rfl Tw.kr) ?_
           refine lp (v := .int .i64 (((((totalX (l.take k)).d) + 1) : Nat) : Int)) rfl rfl (run_bin rfl (vx := (.int .i64 ((((totalX (l.take k)).d) : Nat) : Int))) (vy := (.int .i64 ((1 : Nat) : Int))) Tw.kr Tw.kr fun w => bn_add (z := (((totalX (l.take k)).d) + 1)) rfl (wr_i64 Tw.om) w) ?_
           refine lm (v := .pointer (some ⟨g2, 4, none⟩)) rfl rfl ?_
           refine wpL_s [(g2, .cells #[.int .i64 (((((totalX (l.take k)).n) + 1) : Nat) : Int), .int .i64 (((((totalX (l.take k)).h) + (halvesX b4)) : Nat) : Int), .int .i64 (((totalX (l.take k)).k) + b4.kilos), .int .i64 (((((totalX (l.take k)).r) + 1) : Nat) : Int), .int .i64 (((((totalX (l.take k)).d) + 1) : Nat) : Int)] 66 (0, 0)), (g1, .cells #[.int .i64 0, .int .i64 0, .int .i64 0, .int .i64 0, .int .i64 0] 66 (0, 0))] rfl rfl (st_row (off := 4) (v := .int .i64 (((((totalX (l.take k)).d) + 1) : Nat) : Int)) rfl Tw.kr Tw.kr Tw.m0 Bg2 Tw.kr (by first | (simp [Value.cells]; done) | exact Nat.le_of_ble_eq_true rfl) (by intro v hv; simp [Value.cells, strV] at hv; first | (subst hv; rfl) | (rcases hv with rfl <;> rfl)) Tw.kr (List.forall_mem_cons.2 ⟨.inl rfl, (List.forall_mem_cons.2 ⟨.inr ⟨Tw.m1, Tw.nee⟩, (List.forall_mem_nil _)⟩)⟩)) ?_
           refine wpL_done (fun W20 hW20 => ?_)
           change Code.wp ..
           refine wp_region_L _ hW20 ?_
           refine lm (v := .int .i64 ((k : Nat) : Int)) rfl rfl ?_
           refine lp (v := .int .i64 (((k + 1) : Nat) : Int)) rfl rfl (run_bin rfl (vx := (.int .i64 ((k : Nat) : Int))) (vy := (.int .i64 ((1 : Nat) : Int))) Tw.kr Tw.kr fun w => bn_add (z := (k + 1)) rfl (wr_i64 Tw.om) w) ?_
           refine lm (v := .int .i64 (((k + 1) : Nat) : Int)) rfl rfl ?_
           refine wpL_done (fun W21 hW21 => ?_)
           have hts := (total_snoc hy4).trans (add_right h2)
           have hcb : (if b4.cls = 0 then 0 else 1) = 1 := by first | rw [if_pos Tw.om] | rw [if_neg Tw.om]
           have he : smC (totalX (l.take (k + 1))) = #[.int .i64 (((((totalX (l.take k)).n) + 1) : Nat) : Int), .int .i64 (((((totalX (l.take k)).h) + (halvesX b4)) : Nat) : Int), .int .i64 (((totalX (l.take k)).k) + b4.kilos), .int .i64 (((((totalX (l.take k)).r) + 1) : Nat) : Int), .int .i64 (((((totalX (l.take k)).d) + 1) : Nat) : Int)] := by rw [hts]; simp [smC, add1, hcb, h3]
           go_roundw
           case rel =>
             repeat apply Exists.intro
             exact ⟨⟨k + 1, Tw.om, rfl, (by rw [he]; exact hW21.sub (List.forall_mem_cons.2 ⟨Tw.m0, (List.forall_mem_cons.2 ⟨Tw.m1, (List.forall_mem_nil _)⟩)⟩))⟩, rfl⟩
           case measure => (show l.length - (intOf (.int .i64 (((k + 1) : Nat) : Int))).toNat < l.length - (intOf (.int .i64 ((k : Nat) : Int))).toNat); simp only [intOf]; omega
end Go.Proofs.YtllmpemmknblaaaDoor
namespace Go.Proofs.YtllmpemmknblaaaDoor
open Go Go.RowKit Tw
theorem order_next {l : List Bx} {i : Nat} {x : Bx} (hx : l[i]? = some x) : orderX (l.take (i + 1)) = insB x (orderX (l.take i)) := by
 obtain ⟨hi, rfl⟩ := List.getElem?_eq_some_iff.1 hx
 rw [List.take_succ_eq_append_getElem hi]
 unfold orderX
 rw [List.foldl_append]
 rfl
def InsK (x : Bx) (ol nl : List Bx) (k : Nat) (dn : Bool) : Prop := insB x ol = nl ++ (if dn = true then ol.drop k else insB x (ol.drop k))
theorem insK_start (x : Bx) (ol : List Bx) : InsK x ol [] 0 false := rfl
section
variable {x b : Bx} {ol nl : List Bx} {k : Nat} {dn : Bool}
theorem insK_a (h : InsK x ol nl k dn) (hd : dn = false) (hb : ol[k]? = some b) (hx : before x b = true) : InsK x ol (nl ++ [x] ++ [b]) (k + 1) true := by
 unfold InsK at *
 rw [h, hd, drop_at hb]
 rw [if_neg (by decide), if_pos rfl]
 show nl ++ (if before x b = true then _ else _) = _
 rw [if_pos hx]
 simp
theorem insK_b (h : InsK x ol nl k dn) (hd : dn = false) (hb : ol[k]? = some b) (hx : before x b = false) : InsK x ol (nl ++ [b]) (k + 1) false := by
 unfold InsK at *
 rw [h, hd, drop_at hb]
 rw [if_neg (by decide), if_neg (by decide)]
 show nl ++ (if before x b = true then _ else _) = _
 rw [if_neg (by rw [hx]; decide)]
 simp
theorem insK_c (h : InsK x ol nl k dn) (hd : dn = true) (hb : ol[k]? = some b) : InsK x ol (nl ++ [b]) (k + 1) true := by
 unfold InsK at *
 rw [h, hd, drop_at hb]
 rw [if_pos rfl, if_pos rfl]
 simp
theorem insK_yes (h : InsK x ol nl k dn) (hd : dn = true) (hk : ¬ k < ol.length) : nl = insB x ol := by
 unfold InsK at h
 rw [h, hd, if_pos rfl, List.drop_of_length_le Tw.om, List.append_nil]
theorem insK_no (h : InsK x ol nl k dn) (hd : dn = false) (hk : ¬ k < ol.length) : nl ++ [x] = insB x ol := by
 unfold InsK at h
 rw [h, hd, if_neg (by decide), List.drop_of_length_le Tw.om]
 rfl
end
theorem rorder_out {w w' : World} {v : Value} {l ol : List Bx} {i : Nat} (hol : ol = orderX (l.take i)) (hi : i ≤ l.length) (h2 : ¬ i < l.length) (h : OutV w w' 26 9 v ol.length (bcs ol)) : OutV w w' 26 9 v l.length (bcs (orderX l)) := by
 have e : ol = orderX l := by rw [hol, List.take_of_length_le Tw.om]
 rw [e, order_len] at h
 exact h
set_option maxRecDepth 100000 in
set_option maxHeartbeats 4000000 in
theorem ROrder_any (l : List Bx) (p : Option Addr) (c : Nat) (hl : l.length ≤ 4000000000) (w : World) (hp : SLV w p (bcs l)) : Calls Tryd.prog 33 #[.slice p l.length c] w fun e w' => ∃ v, e = .returned v ∧ OutV w w' 26 9 v l.length (bcs (orderX l)) ∧ Below w.heap.size w w' := by
 have HP := Lib.hid hp
 clear hp
 go_enter Tryd.func33, Tryd.ntmps33
 refine wp_seq ?_
 refine wp_region_L [] (KS.start w) ?_
 refine lm (v := .slice none 0 0) rfl rfl ?_
 refine wpL_done (fun W1 hW1 => ?_)
 change Code.wp ..
 refine wp_seq ?_
 refine wp_region_L _ hW1 ?_
 refine lm (v := .slice none 0 0) rfl rfl ?_
 refine wpL_done (fun W2 hW2 => ?_)
 change Code.wp ..
 refine wp_seq ?_
 refine wp_seq ?_
 refine wp_region_L _ hW2 ?_
 refine lm (v := .int .i64 0) rfl rfl ?_
 refine wpL_done (fun W3 hW3 => ?_)
 change Code.wp ..
 refine wp_block ?_
 go_loopw [3, 4] (fun u3 u4 wr => ∃ (i : Nat) (vo : Value) (ol : List Bx) (Ko : List (Nat × Obj)), (i ≤ l.length) ∧ (ol = orderX (l.take i)) ∧ (OwnL w 26 9 vo ol.length (bcs ol) Ko) ∧ vo = u3 ∧ u4 = .int .i64 ((i : Nat) : Int) ∧ KS w Ko wr) (fun _ u4 _ => l.length - (intOf u4).toNat)
 case atStart => exact ⟨0, (.slice none 0 0), [], [], (Nat.zero_le _), rfl, (OwnL.nil _ _ _), rfl, rfl, (hW3.sub (fun p hp => by first | exact hp | (simp only [List.mem_cons, List.mem_append, List.nil_append, List.not_mem_nil, or_assoc, or_false, false_or] at hp ⊢ <;> grind)))⟩
 case round =>
   obtain ⟨i, vo, ol, Ko, hi, hol, hO, rfl, rfl, hL4⟩ := hrel
   have hll : ol.length = i := by rw [hol, order_len, List.length_take]; omega
   refine wp_seq ?_
   refine wp_seq ?_
   refine wp_region_L _ hL4 ?_
   refine lm (v := .int .i64 ((i : Nat) : Int)) rfl rfl ?_
   refine lm (v := .slice p l.length c) rfl rfl ?_
   refine lp (v := .int .i64 ((l.length : Nat) : Int)) rfl rfl (run_lenL (p := p) (cap := c) (n := l.length) rfl Tryd.underlying22 Tw.kr) ?_
   refine lp (v := .bool (decide (i < l.length))) rfl rfl (run_bin rfl (vx := (.int .i64 ((i : Nat) : Int))) (vy := (.int .i64 ((l.length : Nat) : Int))) Tw.kr Tw.kr fun w => bn_lss rfl w) ?_
   refine wpL_done (fun W5 hW5 => ?_)
   change Code.wp ..
   cases hd1 : (decide (i < l.length)) with
   | false =>
     have h1 : ¬ (i < l.length) := of_decide_eq_false hd1
     clear hd1
     refine wp_cond_false rfl ?_
     refine wp_exit ?_
     change Code.wp ..
     refine wp_seq ?_
     refine wp_region_L _ hW5 ?_
     refine lm (v := vo) rfl rfl ?_
     refine lm (v := vo) rfl rfl ?_
     refine wpL_done (fun W6 hW6 => ?_)
     change Code.wp ..
     refine wp_ret ?_
     try simp only [inBlock_ret, then_ret]
     refine bodyPost_ret (v := vo) ?_ rfl ?_
     · kernel_rfl
     · exact ⟨_, rfl, rorder_out hol Tw.om Tw.om (hO.out (fun p hp => by simp only [List.mem_cons, List.mem_append, List.nil_append, List.not_mem_nil, or_assoc, or_false, false_or, hp, true_or, or_true]) hW6), hW6.1⟩
   | true =>
     have h1 : i < l.length := of_decide_eq_true hd1
     clear hd1
     refine wp_cond_true rfl ?_
     refine wp_skip ?_
     change Code.wp ..
     refine wp_seq ?_
     refine wp_block ?_
     refine wp_seq ?_
     refine wp_region_L _ hW5 ?_
     refine lm (v := .slice none 0 0) rfl rfl ?_
     refine wpL_done (fun W7 hW7 => ?_)
     change Code.wp ..
     refine wp_seq ?_
     refine wp_region_L _ hW7 ?_
     refine lm (v := .bool false) rfl rfl ?_
     refine wpL_done (fun W8 hW8 => ?_)
     change Code.wp ..
     refine wp_seq ?_
     refine wp_seq ?_
     refine wp_region_L _ hW8 ?_
     refine lm (v := .int .i64 0) rfl rfl ?_
     refine wpL_done (fun W9 hW9 => ?_)
     change Code.wp ..
     refine wp_block ?_
     obtain ⟨p2, c2, rfl, hc2, HB2⟩ := own_bs hO
     obtain ⟨b3, g3_, f3, hy3, hp3, lt3, hc3⟩ := bl_at (k := i) HP.out Tw.om
     go_loopw [5, 6, 7] (fun u5 u6 u7 wr => ∃ (k : Nat) (vnx : Value) (nl : List Bx) (dn : Bool) (Kn : List (Nat × Obj)), (k ≤ ol.length) ∧ (InsK b3 ol nl k dn) ∧ (OwnL w 26 9 vnx nl.length (bcs nl) Kn) ∧ (nl.length ≤ k + 1) ∧ (dn = false → nl.length ≤ k) ∧ (Dj Ko Kn) ∧ vnx = u5 ∧ u6 = .bool dn ∧ u7 = .int .i64 ((k : Nat) : Int) ∧ KS w (Ko ++ Kn) wr) (fun _ _ u7 _ => ol.length - (intOf u7).toNat)
     case atStart => exact ⟨0, (.slice none 0 0), [], false, [], (Nat.zero_le _), (insK_start b3 ol), (OwnL.nil _ _ _), (by simp), (fun _ => by simp), (show Dj Ko [] from Tw.djt), rfl, rfl, rfl, (hW9.sub (fun p hp => by first | exact hp | (simp only [List.mem_cons, List.mem_append, List.nil_append, List.not_mem_nil, or_assoc, or_false, false_or] at hp ⊢ <;> grind)))⟩
     case round =>
       obtain ⟨k, vnx, nl, dn, Kn, hk, hN, hOn, hnl, hnf, dh4_0, rfl, rfl, rfl, hL10⟩ := hrel
       refine wp_seq ?_
       refine wp_seq ?_
       refine wp_region_L _ hL10 ?_
       refine lm (v := .int .i64 ((k : Nat) : Int)) rfl rfl ?_
       refine lm (v := .slice p2 ol.length c2) rfl rfl ?_
       refine lp (v := .int .i64 ((ol.length : Nat) : Int)) rfl rfl (run_lenL (p := p2) (cap := c2) (n := ol.length) rfl Tryd.underlying22 Tw.kr) ?_
       refine lp (v := .bool (decide (k < ol.length))) rfl rfl (run_bin rfl (vx := (.int .i64 ((k : Nat) : Int))) (vy := (.int .i64 ((ol.length : Nat) : Int))) Tw.kr Tw.kr fun w => bn_lss rfl w) ?_
       refine wpL_done (fun W11 hW11 => ?_)
       change Code.wp ..
       cases hd2 : (decide (k < ol.length)) with
       | false =>
         have h2 : ¬ (k < ol.length) := of_decide_eq_false hd2
         clear hd2
         refine wp_cond_false rfl ?_
         refine wp_exit ?_
         change Code.wp ..
         refine wp_seq ?_
         refine wp_seq ?_
         refine wp_region_L _ hW11 ?_
         refine lm (v := .bool dn) rfl rfl ?_
         refine lp (v := .bool (!dn)) rfl rfl (run_un rfl Tw.kr fun w => un_not w) ?_
         refine wpL_done (fun W12 hW12 => ?_)
         change Code.wp ..
         cases h3 : dn with
         | false =>
           have hnk := hnf h3
           refine wp_cond_true rfl ?_
           refine wp_region_L _ hW12 ?_
           refine lm (v := vnx) rfl rfl ?_
           refine lm (v := .slice p l.length c) rfl rfl ?_
           refine lm (v := .int .i64 ((i : Nat) : Int)) rfl rfl ?_
           refine lp (v := .pointer (some ⟨g3_, f3 + i * 9, none⟩)) rfl rfl (run_idxQ (p := p) (cap := c) (n := l.length) (j := .i64) (k := i) (sz := 9) rfl Tryd.underlying22 Tw.kr Tw.kr hp3 Tw.kr Tw.om) ?_
           refine lv (v := bxV b3) rfl rfl (yb_olds (off := f3 + i * 9) (cs := (bxC b3).toList) rfl Tw.kr hc3 lt3 Tryd.underlying26 rfl Tw.kr) ?_
           refine wpL_new (fun g => .slice (some ⟨g, 0, none⟩) 1 1) (obi := .cells ((bcs [b3]).toArray) 26 (0, 0)) rfl rfl Tw.kf Tw.pf fun g5 Bg5 Fg5 => ?_
           obtain ⟨dj6_0, dj6_1⟩ : Dk g5 Ko ∧ Dk g5 Kn := Tw.dkf Fg5
           refine wpL_g (AppO w 26 9 Ko (nl.length + 1) ((bcs nl) ++ (bcs [b3]))) rfl rfl (app_own el_bx (m := 1) (c := 1) (news := (bcs [b3])) rfl Tw.kr Tw.kr Tw.m0 hOn Tw.sc (fun p hp => ⟨by simp only [List.mem_cons, List.mem_append, List.nil_append, List.not_mem_nil, or_assoc, or_false, false_or] at hp ⊢ <;> grind, (show Dj Ko Kn from Tw.djt) p hp⟩) (by rw [bcs_len]; rfl) (bcs_onec _) Tw.om Tw.om Tw.om) Tw.pf ?_
           rintro v7 K9 ⟨Kl7, O7, N7, rfl⟩
           replace O7 : OwnL w 26 9 v7 (nl.length + 1) (bcs (nl ++ [b3])) Kl7 := by rw [bcs_app]; exact O7
           obtain dj8_0 : Dj Ko Kl7 := Tw.djf N7
           refine lm (v := v7) rfl rfl ?_
           refine wpL_done (fun W13 hW13 => ?_)
           change Code.wp ..
           refine wp_region_L _ hW13 ?_
           refine lm (v := v7) rfl rfl ?_
           refine lm (v := v7) rfl rfl ?_
           refine wpL_done (fun W14 hW14 => ?_)
           change Code.wp ..
           refine wp_region_L _ hW14 ?_
           refine lm (v := .int .i64 ((i : Nat) : Int)) rfl rfl ?_
           refine lp (v := .int .i64 (((i + 1) : Nat) : Int)) rfl rfl (run_bin rfl (vx := (.int .i64 ((i : Nat) : Int))) (vy := (.int .i64 ((1 : Nat) : Int))) Tw.kr Tw.kr fun w => bn_add (z := (i + 1)) rfl (wr_i64 Tw.om) w) ?_
           refine lm (v := .int .i64 (((i + 1) : Nat) : Int)) rfl rfl ?_
           refine wpL_done (fun W15 hW15 => ?_)
           go_roundw
           case rel =>
             repeat apply Exists.intro
             exact ⟨⟨i + 1, v7, (nl ++ [b3]), Kl7, Tw.om, ((insK_no hN h3 h2).trans (by rw [order_next hy3, ← hol])), (by have h := O7; simpa only [List.length_append, List.length_cons, List.length_nil] using h), rfl, rfl, (hW15.sub (fun p hp => by first | exact hp | (simp only [List.mem_cons, List.mem_append, List.nil_append, List.not_mem_nil, or_assoc, or_false, false_or] at hp ⊢ <;> grind)))⟩, rfl⟩
           case measure => (show l.length - (intOf (.int .i64 (((i + 1) : Nat) : Int))).toNat < l.length - (intOf (.int .i64 ((i : Nat) : Int))).toNat); simp only [intOf]; omega
         | true =>
           refine wp_cond_false rfl ?_
           refine wp_skip ?_
           change Code.wp ..
           refine wp_region_L _ hW12 ?_
           refine lm (v := vnx) rfl rfl ?_
           refine lm (v := vnx) rfl rfl ?_
           refine wpL_done (fun W16 hW16 => ?_)
           change Code.wp ..
           refine wp_region_L _ hW16 ?_
           refine lm (v := .int .i64 ((i : Nat) : Int)) rfl rfl ?_
           refine lp (v := .int .i64 (((i + 1) : Nat) : Int)) rfl rfl (run_bin rfl (vx := (.int .i64 ((i : Nat) : Int))) (vy := (.int .i64 ((1 : Nat) : Int))) Tw.kr Tw.kr fun w => bn_add (z := (i + 1)) rfl (wr_i64 Tw.om) w) ?_
           refine lm (v := .int .i64 (((i + 1) : Nat) : Int)) rfl rfl ?_
           refine wpL_done (fun W17 hW17 => ?_)
           go_roundw
           case rel =>
             repeat apply Exists.intro
             exact ⟨⟨i + 1, vnx, nl, Kn, Tw.om, ((insK_yes hN h3 h2).trans (by rw [order_next hy3, ← hol])), (by have h := hOn; simpa only [List.length_append, List.length_cons, List.length_nil] using h), rfl, rfl, (hW17.sub (fun p hp => by first | exact hp | (simp only [List.mem_cons, List.mem_append, List.nil_append, List.not_mem_nil, or_assoc, or_false, false_or] at hp ⊢ <;> grind)))⟩, rfl⟩
           case measure => (show l.length - (intOf (.int .i64 (((i + 1) : Nat) : Int))).toNat < l.length - (intOf (.int .i64 ((i : Nat) : Int))).toNat); simp only [intOf]; omega
       | true =>
         have h2 : k < ol.length := of_decide_eq_true hd2
         clear hd2
         refine wp_cond_true rfl ?_
         refine wp_skip ?_
         change Code.wp ..
         refine wp_seq ?_
         refine wp_block ?_
         refine wp_seq ?_
         refine wp_seq ?_
         refine wp_region_V _ Tw.kr hW11 ?_
         refine vm (i := 0) (v := .bool dn) rfl rfl rfl ?_
         refine vp (i := 1) (v := .bool (!dn)) rfl rfl rfl (run_un rfl Tw.kr fun w => un_not w) ?_
         refine vm (i := 2) (v := .bool (!dn)) rfl rfl rfl ?_
         cases h4 : dn with
         | false =>
           have hnk := hnf h4
           refine vm (i := 3) (v := .slice p l.length c) rfl rfl rfl ?_
           refine vm (i := 4) (v := .int .i64 ((i : Nat) : Int)) rfl rfl rfl ?_
           refine vp (i := 5) (v := .pointer (some ⟨g3_, f3 + i * 9, none⟩)) rfl rfl rfl (run_idxQ (p := p) (cap := c) (n := l.length) (j := .i64) (k := i) (sz := 9) rfl Tryd.underlying22 Tw.kr Tw.kr hp3 Tw.kr Tw.om) ?_
           refine vv (i := 6) (v := bxV b3) rfl rfl rfl (yb_olds (off := f3 + i * 9) (cs := (bxC b3).toList) rfl Tw.kr hc3 lt3 Tryd.underlying26 rfl Tw.kr) ?_
           refine vm (i := 7) (v := .slice p2 ol.length c2) rfl rfl rfl ?_
           refine vm (i := 8) (v := .int .i64 ((k : Nat) : Int)) rfl rfl rfl ?_
           obtain ⟨b9, g9_, f9, hy9, hp9, hc9⟩ := (HB2).at (hW11.sub (fun p hp => by simp only [List.mem_cons, List.mem_append, List.nil_append, List.not_mem_nil, or_assoc, or_false, false_or, hp, true_or, or_true])) (k := k) (by first | omega | (simp only [List.length_drop, List.length_take, List.length_append]; omega))
           refine vp (i := 9) (v := .pointer (some ⟨g9_, f9 + k * 9, none⟩)) rfl rfl rfl (run_idxQ (p := p2) (cap := c2) (n := ol.length) (j := .i64) (k := k) (sz := 9) rfl Tryd.underlying22 Tw.kr Tw.kr hp9 Tw.kr Tw.om) ?_
           refine vv (i := 10) (v := bxV b9) rfl rfl rfl (yb_bs (off := f9 + k * 9) (b := b9) rfl Tw.kr (fun W hW jq vq hv => hc9 W (hW.sub (fun p hp => by simp only [List.mem_cons, List.mem_append, List.nil_append, List.not_mem_nil, or_assoc, or_false, false_or, hp, true_or, or_true])) jq vq hv) Tryd.underlying26 rfl Tw.kr) ?_
           refine vv (i := 11) (v := .bool (before b3 b9)) rfl rfl rfl (yb_call (f := 49) (args := #[bxV b3, bxV b9]) Tw.kf fun W hW => RBefore_any b3 b9 W) ?_
           refine vm (i := 12) (v := .bool (before b3 b9)) rfl rfl rfl ?_
           refine wpV_done Tw.kr (fun W18 hW18 => ?_) _
           change Code.wp ..
           cases h5 : (before b3 b9) with
           | false =>
             refine wp_cond_false rfl ?_
             refine wp_skip ?_
             change Code.wp ..
             refine wp_region_L _ hW18 ?_
             refine lm (v := vnx) rfl rfl ?_
             refine lm (v := .slice p2 ol.length c2) rfl rfl ?_
             refine lm (v := .int .i64 ((k : Nat) : Int)) rfl rfl ?_
             refine lp (v := .pointer (some ⟨g9_, f9 + k * 9, none⟩)) rfl rfl (run_idxQ (p := p2) (cap := c2) (n := ol.length) (j := .i64) (k := k) (sz := 9) rfl Tryd.underlying22 Tw.kr Tw.kr hp9 Tw.kr Tw.om) ?_
             refine lv (v := bxV b9) rfl rfl (yb_bs (off := f9 + k * 9) (b := b9) rfl Tw.kr (fun W hW jq vq hv => hc9 W (hW.sub (fun p hp => by simp only [List.mem_cons, List.mem_append, List.nil_append, List.not_mem_nil, or_assoc, or_false, false_or, hp, true_or, or_true])) jq vq hv) Tryd.underlying26 rfl Tw.kr) ?_
             refine wpL_new (fun g => .slice (some ⟨g, 0, none⟩) 1 1) (obi := .cells ((bcs [b9]).toArray) 26 (0, 0)) rfl rfl Tw.kf Tw.pf fun g10 Bg10 Fg10 => ?_
             obtain ⟨dj11_0, dj11_1⟩ : Dk g10 Ko ∧ Dk g10 Kn := Tw.dkf Fg10
             refine wpL_g (AppO w 26 9 Ko (nl.length + 1) ((bcs nl) ++ (bcs [b9]))) rfl rfl (app_own el_bx (m := 1) (c := 1) (news := (bcs [b9])) rfl Tw.kr Tw.kr Tw.m0 hOn Tw.sc (fun p hp => ⟨by simp only [List.mem_cons, List.mem_append, List.nil_append, List.not_mem_nil, or_assoc, or_false, false_or] at hp ⊢ <;> grind, (show Dj Ko Kn from Tw.djt) p hp⟩) (by rw [bcs_len]; rfl) (bcs_onec _) Tw.om Tw.om Tw.om) Tw.pf ?_
             rintro v12 K9 ⟨Kl12, O12, N12, rfl⟩
             replace O12 : OwnL w 26 9 v12 (nl.length + 1) (bcs (nl ++ [b9])) Kl12 := by rw [bcs_app]; exact O12
             obtain dj13_0 : Dj Ko Kl12 := Tw.djf N12
             refine lm (v := v12) rfl rfl ?_
             refine wpL_done (fun W19 hW19 => ?_)
             change Code.wp ..
             refine wp_region_L _ hW19 ?_
             refine lm (v := .int .i64 ((k : Nat) : Int)) rfl rfl ?_
             refine lp (v := .int .i64 (((k + 1) : Nat) : Int)) rfl rfl (run_bin rfl (vx := (.int .i64 ((k : Nat) : Int))) (vy := (.int .i64 ((1 : Nat) : Int))) Tw.kr Tw.kr fun w => bn_add (z := (k + 1)) rfl (wr_i64 Tw.om) w) ?_
             refine lm (v := .int .i64 (((k + 1) : Nat) : Int)) rfl rfl ?_
             refine wpL_done (fun W20 hW20 => ?_)
             go_roundw
             case rel =>
               repeat apply Exists.intro
               exact ⟨⟨k + 1, v12, (nl ++ [b9]), false, Kl12, Tw.om, (insK_b hN h4 hy9 h5), (by have h := O12; simpa only [List.length_append, List.length_cons, List.length_nil] using h), (by simp only [List.length_append, List.length_cons, List.length_nil]; omega), (fun _ => by simp only [List.length_append, List.length_cons, List.length_nil]; omega), (show Dj Ko Kl12 from Tw.djt), rfl, rfl, rfl, (hW20.sub (fun p hp => by first | exact hp | (simp only [List.mem_cons, List.mem_append, List.nil_append, List.not_mem_nil, or_assoc, or_false, false_or] at hp ⊢ <;> grind)))⟩, rfl⟩
             case measure => (show ol.length - (intOf (.int .i64 (((k + 1) : Nat) : Int))).toNat < ol.length - (intOf (.int .i64 ((k : Nat) : Int))).toNat); simp only [intOf]; omega
           | true =>
             refine wp_cond_true rfl ?_
             refine wp_seq ?_
             refine wp_region_L _ hW18 ?_
             refine lm (v := vnx) rfl rfl ?_
             refine lm (v := .slice p l.length c) rfl rfl ?_
             refine lm (v := .int .i64 ((i : Nat) : Int)) rfl rfl ?_
             refine lp (v := .pointer (some ⟨g3_, f3 + i * 9, none⟩)) rfl rfl (run_idxQ (p := p) (cap := c) (n := l.length) (j := .i64) (k := i) (sz := 9) rfl Tryd.underlying22 Tw.kr Tw.kr hp3 Tw.kr Tw.om) ?_
             refine lv (v := bxV b3) rfl rfl (yb_olds (off := f3 + i * 9) (cs := (bxC b3).toList) rfl Tw.kr hc3 lt3 Tryd.underlying26 rfl Tw.kr) ?_
             refine wpL_new (fun g => .slice (some ⟨g, 0, none⟩) 1 1) (obi := .cells ((bcs [b3]).toArray) 26 (0, 0)) rfl rfl Tw.kf Tw.pf fun g14 Bg14 Fg14 => ?_
             obtain ⟨dj15_0, dj15_1⟩ : Dk g14 Ko ∧ Dk g14 Kn := Tw.dkf Fg14
             refine wpL_g (AppO w 26 9 Ko (nl.length + 1) ((bcs nl) ++ (bcs [b3]))) rfl rfl (app_own el_bx (m := 1) (c := 1) (news := (bcs [b3])) rfl Tw.kr Tw.kr Tw.m0 hOn Tw.sc (fun p hp => ⟨by simp only [List.mem_cons, List.mem_append, List.nil_append, List.not_mem_nil, or_assoc, or_false, false_or] at hp ⊢ <;> grind, (show Dj Ko Kn from Tw.djt) p hp⟩) (by rw [bcs_len]; rfl) (bcs_onec _) Tw.om Tw.om Tw.om) Tw.pf ?_
             rintro v16 K9 ⟨Kl16, O16, N16, rfl⟩
             replace O16 : OwnL w 26 9 v16 (nl.length + 1) (bcs (nl ++ [b3])) Kl16 := by rw [bcs_app]; exact O16
             obtain dj17_0 : Dj Ko Kl16 := Tw.djf N16
             refine lm (v := v16) rfl rfl ?_
             refine wpL_done (fun W21 hW21 => ?_)
             change Code.wp ..
             refine wp_region_L _ hW21 ?_
             refine lm (v := .bool true) rfl rfl ?_
             refine wpL_done (fun W22 hW22 => ?_)
             change Code.wp ..
             refine wp_region_L _ hW22 ?_
             refine lm (v := v16) rfl rfl ?_
             refine lm (v := .slice p2 ol.length c2) rfl rfl ?_
             refine lm (v := .int .i64 ((k : Nat) : Int)) rfl rfl ?_
             refine lp (v := .pointer (some ⟨g9_, f9 + k * 9, none⟩)) rfl rfl (run_idxQ (p := p2) (cap := c2) (n := ol.length) (j := .i64) (k := k) (sz := 9) rfl Tryd.underlying22 Tw.kr Tw.kr hp9 Tw.kr Tw.om) ?_
             refine lv (v := bxV b9) rfl rfl (yb_bs (off := f9 + k * 9) (b := b9) rfl Tw.kr (fun W hW jq vq hv => hc9 W (hW.sub (fun p hp => by simp only [List.mem_cons, List.mem_append, List.nil_append, List.not_mem_nil, or_assoc, or_false, false_or, hp, true_or, or_true])) jq vq hv) Tryd.underlying26 rfl Tw.kr) ?_
             refine wpL_new (fun g => .slice (some ⟨g, 0, none⟩) 1 1) (obi := .cells ((bcs [b9]).toArray) 26 (0, 0)) rfl rfl Tw.kf Tw.pf fun g18 Bg18 Fg18 => ?_
             obtain ⟨dj19_0, dj19_1⟩ : Dk g18 Ko ∧ Dk g18 Kl16 := Tw.dkf Fg18
             refine wpL_g (AppO w 26 9 Ko ((nl.length + 1) + 1) ((bcs (nl ++ [b3])) ++ (bcs [b9]))) rfl rfl (app_own el_bx (m := 1) (c := 1) (news := (bcs [b9])) rfl Tw.kr Tw.kr Tw.m0 O16 Tw.sc (fun p hp => ⟨by simp only [List.mem_cons, List.mem_append, List.nil_append, List.not_mem_nil, or_assoc, or_false, false_or] at hp ⊢ <;> grind, (show Dj Ko Kl16 from Tw.djt) p hp⟩) (by rw [bcs_len]; rfl) (bcs_onec _) Tw.om Tw.om Tw.om) Tw.pf ?_
             rintro v20 K9 ⟨Kl20, O20, N20, rfl⟩
             replace O20 : OwnL w 26 9 v20 ((nl.length + 1) + 1) (bcs ((nl ++ [b3]) ++ [b9])) Kl20 := by rw [bcs_app]; exact O20
             obtain dj21_0 : Dj Ko Kl20 := Tw.djf N20
             refine lm (v := v20) rfl rfl ?_
             refine wpL_done (fun W23 hW23 => ?_)
             change Code.wp ..
             refine wp_region_L _ hW23 ?_
             refine lm (v := .int .i64 ((k : Nat) : Int)) rfl rfl ?_
             refine lp (v := .int .i64 (((k + 1) : Nat) : Int)) rfl rfl (run_bin rfl (vx := (.int .i64 ((k : Nat) : Int))) (vy := (.int .i64 ((1 : Nat) : Int))) Tw.kr Tw.kr fun w => bn_add (z := (k + 1)) rfl (wr_i64 Tw.om) w) ?_
             refine lm (v := .int .i64 (((k + 1) : Nat) : Int)) rfl rfl ?_
             refine wpL_done (fun W24 hW24 => ?_)
             go_roundw
             case rel =>
               repeat apply Exists.intro
               exact ⟨⟨k + 1, v20, ((nl ++ [b3]) ++ [b9]), true, Kl20, Tw.om, (insK_a hN h4 hy9 h5), (by have h := O20; simpa only [List.length_append, List.length_cons, List.length_nil] using h), (by simp only [List.length_append, List.length_cons, List.length_nil]; omega), (fun h => by cases h), (show Dj Ko Kl20 from Tw.djt), rfl, rfl, rfl, (hW24.sub (fun p hp => by first | exact hp | (simp only [List.mem_cons, List.mem_append, List.nil_append, List.not_mem_nil, or_assoc, or_false, false_or] at hp ⊢ <;> grind)))⟩, rfl⟩
             case measure => (show ol.length - (intOf (.int .i64 (((k + 1) : Nat) : Int))).toNat < ol.length - (intOf (.int .i64 ((k : Nat) : Int))).toNat); simp only [intOf]; omega
         | true =>
           refine vn (i := 3) rfl rfl ?_
           refine vn (i := 4) rfl rfl ?_
           refine vn (i := 5) rfl rfl ?_
           refine vn (i := 6) rfl rfl ?_
           refine vn (i := 7) rfl rfl ?_
           refine vn (i := 8) rfl rfl ?_
           refine vn (i := 9) rfl rfl ?_
           refine vn (i := 10) rfl rfl ?_
           refine vn (i := 11) rfl rfl ?_
           refine vm (i := 12) (v := .bool false) rfl rfl rfl ?_
           refine wpV_done Tw.kr (fun W25 hW25 => ?_) _
           change Code.wp ..
           refine wp_cond_false rfl ?_
           refine wp_skip ?_
           change Code.wp ..
           refine wp_region_L _ hW25 ?_
           refine lm (v := vnx) rfl rfl ?_
           refine lm (v := .slice p2 ol.length c2) rfl rfl ?_
           refine lm (v := .int .i64 ((k : Nat) : Int)) rfl rfl ?_
           obtain ⟨b22, g22_, f22, hy22, hp22, hc22⟩ := (HB2).at (hW25.sub (fun p hp => by simp only [List.mem_cons, List.mem_append, List.nil_append, List.not_mem_nil, or_assoc, or_false, false_or, hp, true_or, or_true])) (k := k) (by first | omega | (simp only [List.length_drop, List.length_take, List.length_append]; omega))
           refine lp (v := .pointer (some ⟨g22_, f22 + k * 9, none⟩)) rfl rfl (run_idxQ (p := p2) (cap := c2) (n := ol.length) (j := .i64) (k := k) (sz := 9) rfl Tryd.underlying22 Tw.kr Tw.kr hp22 Tw.kr Tw.om) ?_
           refine lv (v := bxV b22) rfl rfl (yb_bs (off := f22 + k * 9) (b := b22) rfl Tw.kr (fun W hW jq vq hv => hc22 W (hW.sub (fun p hp => by simp only [List.mem_cons, List.mem_append, List.nil_append, List.not_mem_nil, or_assoc, or_false, false_or, hp, true_or, or_true])) jq vq hv) Tryd.underlying26 rfl Tw.kr) ?_
           refine wpL_new (fun g => .slice (some ⟨g, 0, none⟩) 1 1) (obi := .cells ((bcs [b22]).toArray) 26 (0, 0)) rfl rfl Tw.kf Tw.pf fun g23 Bg23 Fg23 => ?_
           obtain ⟨dj24_0, dj24_1⟩ : Dk g23 Ko ∧ Dk g23 Kn := Tw.dkf Fg23
           refine wpL_g (AppO w 26 9 Ko (nl.length + 1) ((bcs nl) ++ (bcs [b22]))) rfl rfl (app_own el_bx (m := 1) (c := 1) (news := (bcs [b22])) rfl Tw.kr Tw.kr Tw.m0 hOn Tw.sc (fun p hp => ⟨by simp only [List.mem_cons, List.mem_append, List.nil_append, List.not_mem_nil, or_assoc, or_false, false_or] at hp ⊢ <;> grind, (show Dj Ko Kn from Tw.djt) p hp⟩) (by rw [bcs_len]; rfl) (bcs_onec _) Tw.om Tw.om Tw.om) Tw.pf ?_
           rintro v25 K9 ⟨Kl25, O25, N25, rfl⟩
           replace O25 : OwnL w 26 9 v25 (nl.length + 1) (bcs (nl ++ [b22])) Kl25 := by rw [bcs_app]; exact O25
           obtain dj26_0 : Dj Ko Kl25 := Tw.djf N25
           refine lm (v := v25) rfl rfl ?_
           refine wpL_done (fun W26 hW26 => ?_)
           change Code.wp ..
           refine wp_region_L _ hW26 ?_
           refine lm (v := .int .i64 ((k : Nat) : Int)) rfl rfl ?_
           refine lp (v := .int .i64 (((k + 1) : Nat) : Int)) rfl rfl (run_bin rfl (vx := (.int .i64 ((k : Nat) : Int))) (vy := (.int .i64 ((1 : Nat) : Int))) Tw.kr Tw.kr fun w => bn_add (z := (k + 1)) rfl (wr_i64 Tw.om) w) ?_
           refine lm (v := .int .i64 (((k + 1) : Nat) : Int)) rfl rfl ?_
           refine wpL_done (fun W27 hW27 => ?_)
           go_roundw
           case rel =>
             repeat apply Exists.intro
             exact ⟨⟨k + 1, v25, (nl ++ [b22]), true, Kl25, Tw.om, (insK_c hN h4 hy22), (by have h := O25; simpa only [List.length_append, List.length_cons, List.length_nil] using h), (by simp only [List.length_append, List.length_cons, List.length_nil]; omega), (fun h => by cases h), (show Dj Ko Kl25 from Tw.djt), rfl, rfl, rfl, (hW27.sub (fun p hp => by first | exact hp | (simp only [List.mem_cons, List.mem_append, List.nil_append, List.not_mem_nil, or_assoc, or_false, false_or] at hp ⊢ <;> grind)))⟩, rfl⟩
           case measure => (show ol.length - (intOf (.int .i64 (((k + 1) : Nat) : Int))).toNat < ol.length - (intOf (.int .i64 ((k : Nat) : Int))).toNat); simp only [intOf]; omega
end Go.Proofs.YtllmpemmknblaaaDoor
namespace Go.Proofs.YtllmpemmknblaaaDoor
open Go Go.RowKit Tw
theorem made_boxes (n : Nat) : madeCells (bxC bx0) (n * 9) = (bcs (List.replicate n bx0)).toArray := by
 apply Array.ext'
 have h : ∀ n, (List.range (n * 9)).map (fun i => (bxC bx0)[i % 9]!) = bcs (List.replicate n bx0) := by
   intro n
   induction n with
   | zero => rfl
   | succ n ih =>
     rw [Nat.succ_mul, List.range_add, List.map_append, ih, List.replicate_succ', bcs_app, List.map_map]
     congr 1
     have e : ((fun i => (bxC bx0)[i % 9]!) ∘ fun x => n * 9 + x) = fun j => (bxC bx0)[j % 9]! := by
       funext j
       show (bxC bx0)[(n * 9 + j) % 9]! = _
       rw [Nat.mul_comm, Nat.mul_add_mod]
     rw [e]
     rfl
 have h2 := h n
 show (madeCells (bxC bx0) (n * 9)).toList = _
 unfold madeCells
 rw [Array.toList_map, Array.toList_range]
 exact h2
theorem run_copy_recs {P : Program} (w : World) (dT sT ty elem : TypeId) (g o dLen dCap : Nat) (a : Addr) (sLen sCap sz : Nat) (cur : Array Value) (t : TypeId) (cs : List Value)
   (hu : P.underlying dT = some (.slice elem)) (hs : (P.info? elem).map (·.size) = some sz)
   (hg : w.heap[g]? = some (.cells cur t (0, 0))) (hn : cs.length = Nat.min sLen dLen * sz)
   (hsrc : ∀ j v, cs[j]? = some v → w.cell? (a.add j) = some v) (hfit : o + cs.length ≤ cur.size) (h1 : ∀ v ∈ cs, v.oneCell' = true) :
   (Builtin.copy_ #[dT, sT] ty #[.slice (some ⟨g, o, none⟩) dLen dCap, .slice (some a) sLen sCap]).run P w =
     .ok (goInt (Nat.min sLen dLen : Nat)) (w.setRow g (cur.toList.take o ++ cs ++ cur.toList.drop (o + cs.length)).toArray) := by
 have hl := run_loadCells_list (P := P) w a cs hsrc
 have hst := run_storeCells_at P g o t cs 0 cur w hg (by simpa using hfit) h1
 cases hq : P.info? elem with
 | none => simp [hq] at hs
 | some i =>
   have hi : i.size = sz := by simpa [hq] using hs
   simp [Builtin.copy_, run_underlying hu, Builtin.lenOf, Builtin.firstCells, sizeOf, typeInfo, hq, hi, ← hn, hl, hst]
end Go.Proofs.YtllmpemmknblaaaDoor
namespace Go.Proofs.YtllmpemmknblaaaDoor
open Go Go.RowKit Tw
section
variable {P : Program} {T E : TypeId} {W0 : Base}
theorem run_mkb {o : Oper} {a : Act} {n : Nat} {x y : Operand} {b : Nat} (ho : o.op = .makeSlice T x y) (hT : P.underlying T = some (.slice E)) (hi : (P.info? E).map (fun i => (i.zero, i.size, i.bytes)) = some (some (bxV bx0), 9, b)) (hb : b ≤ 10000)
   (hx : a.eval x = .int .i64 ((n : Nat) : Int)) (hy : a.eval y = .int .i64 ((n : Nat) : Int)) (hn : n ≤ 4000000000) (w : World) : (execOp a.eval o).run P w = .ok (.value (.slice (some ⟨w.heap.size, 0, none⟩) n n)) (w.alloc (.cells (bcs (List.replicate n bx0)).toArray E (0, 0))) := by
 unfold execOp
 rw [ho]
 have h1 : b * n ≤ 281474976710656 := Nat.le_trans (Nat.mul_le_mul hb hn) (by decide)
 obtain ⟨i, hi2, hzz⟩ := Option.map_eq_some_iff.1 hi
 simp only [Prod.mk.injEq] at hzz
 obtain ⟨hz, hs, hb2⟩ := hzz
 have hbb : (i.bytes : Int) * (n : Int) ≤ 281474976710656 := by
   rw [hb2]
   have h : ((b * n : Nat) : Int) ≤ 281474976710656 := by omega
   rwa [Int.natCast_mul] at h
 have h2 := run_make (P := P) w T E i (bxV bx0) hT hi2 hz .i64 .i64 n n Tw.om (Int.le_refl _) hbb Tw.om
 have h3 : madeCells (bxV bx0).cells (n * 9) = (bcs (List.replicate n bx0)).toArray := made_boxes n
 simp only [Int.toNat_natCast, hs, h3] at h2
 simp [hx, hy, h2]
def CopyB (E : TypeId) (g : Nat) (Kr : List (Nat × Obj)) (l : List Bx) (n : Nat) (v : Value) (K' : List (Nat × Obj)) : Prop := v = .int .i64 ((n : Nat) : Int) ∧ ∃ cur', RowX cur' l ∧ K' = (g, .cells cur' E (0, 0)) :: Kr
theorem copy_bx {o : Oper} {a : Act} {K Kr : List (Nat × Obj)} {x y : Operand} {g m dc sc : Nat} {p : Option Addr} {cur : Array Value} {l r : List Bx}
   (ho : o.op = .call { callee := .builtin .copy, args := #[x, y], argTypes := #[T, T] }) (hT : P.underlying T = some (.slice E)) (hs : (P.info? E).map (·.size) = some 9)
   (hx : a.eval x = .slice (some ⟨g, 0, none⟩) m dc) (hy : a.eval y = .slice p l.length sc) (hm : (g, .cells cur E (0, 0)) ∈ K) (hB : W0.B ≤ g) (hr : RowX cur r) (hr2 : r.length = m) (hlm : l.length ≤ m) (hl0 : 0 < l.length)
   (hp : ∀ W, KS W0 K W → SLV W p (bcs l)) (hK0 : ∀ q ∈ Kr, q ∈ K ∧ q.1 ≠ g) :
   ∀ w, KS W0 K w → ∃ v K' w', (execOp a.eval o).run P w = .ok (.value v) w' ∧ KS W0 K' w' ∧ CopyB E g Kr (l ++ r.drop l.length) l.length v K' := by
 intro w hw
 have hg := hw.2 _ hm
 rcases hp w hw with h | ⟨b, off, rfl, hlt, hc⟩
 · have := bcs_len l
   rw [h] at this
   simp only [List.length_nil] at this
   omega
 · have hmin : Nat.min l.length m = l.length := Nat.min_eq_left hlm
   have hsz := hr.size
   have hcp := run_copy_recs (P := P) w T T o.type E g 0 m dc ⟨b, off, none⟩ l.length sc 9 cur E (bcs l) hT hs hg (by rw [hmin, bcs_len]) (fun j v hv => by
     have h1 := hc j v hv
     have hadd : (⟨b, off, none⟩ : Addr).add j = ⟨b, off + j, none⟩ := by unfold Addr.add; split <;> simp_all
     rw [hadd]; exact h1) (by rw [bcs_len]; omega) (bcs_onec _)
   rw [hmin] at hcp
   obtain ⟨X, hX⟩ : ∃ X, X = (cur.toList.take 0 ++ bcs l ++ cur.toList.drop (0 + (bcs l).length)).toArray := ⟨_, rfl⟩
   rw [← hX] at hcp
   have hKS : KS W0 ((g, .cells X E (0, 0)) :: Kr) (w.setRow g X) := hw.setRow hB hg (fun q hq => by
     rcases List.mem_cons.1 hq with rfl | hq
     · exact .inl rfl
     · exact .inr (hK0 q hq))
   refine ⟨.int .i64 ((l.length : Nat) : Int), _, w.setRow g X, ?_, hKS, rfl, X, ?_, rfl⟩
   · unfold execOp
     simp only [ho, resolve, invoke, builtin, Sem.run_bind, Sem.run_pure, Result.andThen_ok, List.map_toArray, List.map_cons, List.map_nil, hx, hy, hcp]
     rfl
   · obtain ⟨rest, hrr⟩ := hr
     refine ⟨rest, ?_⟩
     rw [hX, hrr]
     show List.take 0 _ ++ bcs l ++ List.drop _ _ = _
     rw [List.take_zero, List.nil_append, Nat.zero_add, bcs_app, List.append_assoc]
     congr 1
     rw [bcs_len, List.drop_append_of_le_length (by rw [bcs_len]; exact Nat.mul_le_mul_right _ Tw.om), bcs_drop]
theorem run_copy_zero (w : World) (dT sT ty elem : TypeId) (d a : Option Addr) (dLen dCap sLen sCap sz : Nat) (hu : P.underlying dT = some (.slice elem)) (hs : (P.info? elem).map (·.size) = some sz) (hn : Nat.min sLen dLen = 0) :
   (Builtin.copy_ #[dT, sT] ty #[.slice d dLen dCap, .slice a sLen sCap]).run P w = .ok (goInt 0) w := by
 cases hq : P.info? elem with
 | none => simp [hq] at hs
 | some i =>
   have hl : ∀ (x : Addr), (loadCells x 0).run P w = .ok #[] w := fun x => by simpa using run_loadCells_list (P := P) w x [] (by simp)
   cases d <;> cases a <;> simp [Builtin.copy_, run_underlying hu, Builtin.lenOf, Builtin.firstCells, sizeOf, typeInfo, hq, hn, storeCells, hl]
theorem copy_all {o : Oper} {a : Act} {K Kr : List (Nat × Obj)} {x y : Operand} {g m dc sc : Nat} {p : Option Addr} {cur : Array Value} {l r : List Bx}
   (ho : o.op = .call { callee := .builtin .copy, args := #[x, y], argTypes := #[T, T] }) (hT : P.underlying T = some (.slice E)) (hs : (P.info? E).map (·.size) = some 9)
   (hx : a.eval x = .slice (some ⟨g, 0, none⟩) m dc) (hy : a.eval y = .slice p l.length sc) (hm : (g, .cells cur E (0, 0)) ∈ K) (hB : W0.B ≤ g) (hr : RowX cur r) (hr2 : r.length = m) (hlm : l.length ≤ m)
   (hp : ∀ W, KS W0 K W → SLV W p (bcs l)) (hK0 : ∀ q ∈ Kr, q ∈ K ∧ q.1 ≠ g) :
   ∀ w, KS W0 K w → ∃ v K' w', (execOp a.eval o).run P w = .ok (.value v) w' ∧ KS W0 K' w' ∧ CopyB E g Kr (l ++ r.drop l.length) l.length v K' := by
 rcases Nat.eq_zero_or_pos l.length with h0 | h0
 · intro w hw
   have hl : l = [] := List.eq_nil_of_length_eq_zero h0
   subst hl
   have hcp := run_copy_zero (P := P) w T T o.type E (some ⟨g, 0, none⟩) p m dc 0 sc 9 hT hs (Nat.zero_min m)
   refine ⟨.int .i64 ((0 : Nat) : Int), _, w, ?_, hw.sub (K' := (g, .cells cur E (0, 0)) :: Kr) (fun q hq => ?_), rfl, cur, hr, rfl⟩
   · unfold execOp
     simp only [ho, resolve, invoke, builtin, Sem.run_bind, Sem.run_pure, Result.andThen_ok, List.map_toArray, List.map_cons, List.map_nil, hx, hy, List.length_nil, hcp]
     rfl
   · rcases List.mem_cons.1 hq with rfl | hq
     · exact hm
     · exact (hK0 q hq).1
 · exact copy_bx ho hT hs hx hy hm hB hr hr2 hlm h0 hp hK0
end
end Go.Proofs.YtllmpemmknblaaaDoor
namespace Go.Proofs.YtllmpemmknblaaaDoor
open Go Go.RowKit Tw
-- replacing a part of a list by the same boxes in order
theorem eqv_not {x y z : Bx} (hb : before y x = true) (hx : eqv z x = true) : eqv z y = false := by
 unfold eqv at *
 simp only [Bool.and_eq_true, Bool.not_eq_true', Bool.and_eq_false_iff, Bool.not_eq_false'] at *
 rw [nbefore_iff, nbefore_iff] at hx
 rw [before_iff] at hb
 rw [before_iff, before_iff]
 omega
theorem filt_swap {A B : List Bx} (h : ∀ x ∈ A, ∀ y ∈ B, before y x = true) (z : Bx) : (B ++ A).filter (eqv z) = (A ++ B).filter (eqv z) := by
 rw [List.filter_append, List.filter_append]
 cases hA : A.filter (eqv z) with
 | nil => simp
 | cons x r =>
   have hx : x ∈ A.filter (eqv z) := by rw [hA]; exact .head _
   have hB : B.filter (eqv z) = [] := by
     rw [List.filter_eq_nil_iff]
     intro y hy
     rw [Bool.not_eq_true]
     exact eqv_not (h x (List.mem_filter.1 hx).1 y hy) (List.mem_filter.1 hx).2
   rw [hB]; simp
theorem sorted_app {A B : List Bx} (hA : SortedX A) (hB : SortedX B) (h : ∀ x ∈ A, ∀ y ∈ B, before y x = false) : SortedX (A ++ B) := by
 unfold SortedX at *
 rw [List.pairwise_append]
 exact ⟨hA, hB, h⟩
theorem merge_is {A1 A2 B1 B2 : List Bx} (hA : SortedX (A1 ++ A2)) (hB : SortedX (B1 ++ B2)) (h1 : ∀ x ∈ A2, ∀ y ∈ B1, before y x = true) (h2 : ∀ x ∈ A1, ∀ y ∈ B2, before y x = false) :
   orderX (A1 ++ B1) ++ orderX (A2 ++ B2) = orderX ((A1 ++ A2) ++ (B1 ++ B2)) := by
 unfold SortedX at hA hB
 rw [List.pairwise_append] at hA hB
 refine order_is (sorted_app (order_sorted _) (order_sorted _) fun x hx y hy => ?_) fun z => ?_
 · rw [order_mem] at hx hy
   rcases List.mem_append.1 hx with hx | hx <;> rcases List.mem_append.1 hy with hy | hy
   · exact hA.2.2 x hx y hy
   · exact h2 x hx y hy
   · exact before_as (h1 y hy x hx)
   · exact hB.2.2 x hx y hy
 · rw [List.filter_append, order_filter, order_filter]
   have hs := filt_swap h1 z
   simp only [List.filter_append] at hs ⊢
   rw [List.append_assoc, ← List.append_assoc (B1.filter _), hs]
   simp only [List.append_assoc]
theorem one_ahead {x : Bx} {B1 B2 : List Bx} (hB : SortedX (B1 ++ B2)) (h1 : ∀ y ∈ B1, before y x = true) (h2 : ∀ y ∈ B2, before y x = false) : B1 ++ x :: B2 = orderX (x :: (B1 ++ B2)) := by
 have h := merge_is (A1 := []) (A2 := [x]) (B1 := B1) (B2 := B2) (by unfold SortedX; simp) hB (by intro y hy; cases List.mem_singleton.1 hy; exact h1) (by intro y hy; cases hy)
 have hs : SortedX B1 ∧ SortedX B2 := by unfold SortedX at *; rw [List.pairwise_append] at hB; exact ⟨hB.1, hB.2.1⟩
 have e2 : orderX ([x] ++ B2) = x :: B2 := order_idem (by unfold SortedX at *; rw [List.singleton_append, List.pairwise_cons]; exact ⟨h2, hs.2⟩)
 rw [List.nil_append, order_idem hs.1, e2] at h
 exact h
theorem one_behind {x : Bx} {A1 A2 : List Bx} (hA : SortedX (A1 ++ A2)) (h1 : ∀ y ∈ A1, before x y = false) (h2 : ∀ y ∈ A2, before x y = true) : A1 ++ x :: A2 = orderX ((A1 ++ A2) ++ [x]) := by
 rw [order_snoc, order_idem hA, insB_split h1 h2]
-- exchanging ranges
def SwI (Z1 U Z2 V Z3 : List Bx) (i : Nat) : List Bx := Z1 ++ (V.take i ++ U.drop i) ++ Z2 ++ (U.take i ++ V.drop i) ++ Z3
theorem swI_zero (Z1 U Z2 V Z3 : List Bx) : SwI Z1 U Z2 V Z3 0 = Z1 ++ U ++ Z2 ++ V ++ Z3 := by unfold SwI; simp
theorem swI_end {Z1 U Z2 V Z3 : List Bx} {i : Nat} (hU : U.length ≤ i) (hV : V.length ≤ i) : SwI Z1 U Z2 V Z3 i = Z1 ++ V ++ Z2 ++ U ++ Z3 := by
 unfold SwI
 rw [List.take_of_length_le hV, List.take_of_length_le hU, List.drop_eq_nil_of_le hU, List.drop_eq_nil_of_le hV]
 simp
theorem swI_len {Z1 U Z2 V Z3 : List Bx} {i : Nat} (h : U.length = V.length) : (SwI Z1 U Z2 V Z3 i).length = (Z1 ++ U ++ Z2 ++ V ++ Z3).length := by
 unfold SwI
 simp only [List.length_append, List.length_take, List.length_drop]
 omega
theorem swI_step {Z1 U Z2 V Z3 : List Bx} {i a b : Nat} {x y : Bx} (hU : U.length = V.length) (hi : i < U.length) (ha : a = Z1.length) (hb : b = Z1.length + U.length + Z2.length) (hx : (SwI Z1 U Z2 V Z3 i)[a + i]? = some x) (hy : (SwI Z1 U Z2 V Z3 i)[b + i]? = some y) :
   ((SwI Z1 U Z2 V Z3 i).set (a + i) y).set (b + i) x = SwI Z1 U Z2 V Z3 (i + 1) := by
 have hV : i < V.length := by omega
 have e : SwI Z1 U Z2 V Z3 i = (Z1 ++ V.take i) ++ U[i] :: ((U.drop (i + 1) ++ Z2 ++ U.take i) ++ V[i] :: (V.drop (i + 1) ++ Z3)) := by
   unfold SwI
   rw [List.drop_eq_getElem_cons hi, List.drop_eq_getElem_cons hV]
   simp only [List.append_assoc, List.cons_append]
 have l1 : (Z1 ++ V.take i).length = a + i := by rw [List.length_append, List.length_take]; omega
 have l2 : (U.drop (i + 1) ++ Z2 ++ U.take i).length = b - a - 1 := by simp only [List.length_append, List.length_take, List.length_drop]; omega
 rw [e] at hx hy ⊢
 rw [List.getElem?_append_right Tw.om, l1, Nat.sub_self] at hx
 rw [List.getElem?_append_right Tw.om, l1, show b + i - (a + i) = (b - a - 1) + 1 from by omega, List.getElem?_cons_succ, List.getElem?_append_right Tw.om, l2, Nat.sub_self] at hy
 cases hx; cases hy
 rw [List.set_append_right _ _ Tw.om, l1, Nat.sub_self, List.set_cons_zero, List.set_append_right _ _ Tw.om, l1, show b + i - (a + i) = (b - a - 1) + 1 from by omega, List.set_cons_succ, List.set_append_right _ _ Tw.om, l2, Nat.sub_self, List.set_cons_zero]
 unfold SwI
 rw [List.take_succ_eq_append_getElem hV, List.take_succ_eq_append_getElem hi]
 simp only [List.append_assoc, List.cons_append, List.nil_append]
theorem sorted_get {A : List Bx} (h : SortedX A) {i j : Nat} {x y : Bx} (hij : i ≤ j) (hx : A[i]? = some x) (hy : A[j]? = some y) : before y x = false := by
 unfold SortedX at h
 rcases Nat.lt_or_eq_of_le hij with hlt | rfl
 · obtain ⟨h1, rfl⟩ := List.getElem?_eq_some_iff.1 hx
   obtain ⟨h2, rfl⟩ := List.getElem?_eq_some_iff.1 hy
   exact List.pairwise_iff_getElem.1 h i j h1 h2 hlt
 · rw [hx] at hy; cases hy; exact before_ir x
theorem mem_take_at {A : List Bx} {i : Nat} {x : Bx} (h : x ∈ A.take i) : ∃ k, k < i ∧ A[k]? = some x := by
 obtain ⟨k, hk, hx⟩ := List.mem_iff_getElem.1 h
 rw [List.length_take] at hk
 rw [List.getElem_take] at hx
 exact ⟨k, by omega, by rw [← hx]; exact List.getElem?_eq_getElem _⟩
theorem mem_drop_at {A : List Bx} {i : Nat} {x : Bx} (h : x ∈ A.drop i) : ∃ k, i ≤ k ∧ A[k]? = some x := by
 obtain ⟨k, hk, hx⟩ := List.mem_iff_getElem.1 h
 rw [List.length_drop] at hk
 rw [List.getElem_drop] at hx
 exact ⟨i + k, by omega, by rw [← hx]; exact List.getElem?_eq_getElem _⟩
theorem before_mono {x x' y y' : Bx} (h : before y x = true) (h1 : before x' x = false) (h2 : before y y' = false) : before y' x' = true := by
 rw [nbefore_iff] at h1 h2
 rw [before_iff] at *
 omega
theorem all_low {A B : List Bx} {i j : Nat} (hA : SortedX A) (hB : SortedX B) (h : i = 0 ∨ B.length ≤ j ∨ ∃ x y, A[i - 1]? = some x ∧ B[j]? = some y ∧ before y x = false) : ∀ x ∈ A.take i, ∀ y ∈ B.drop j, before y x = false := by
 intro x hx y hy
 obtain ⟨k, hk, hkx⟩ := mem_take_at hx
 obtain ⟨t, ht, hty⟩ := mem_drop_at hy
 rcases h with rfl | h | ⟨x0, y0, h1, h2, h3⟩
 · omega
 · have := (List.getElem?_eq_some_iff.1 hty).1; omega
 · exact before_le (before_le (sorted_get hA Tw.om hkx h1) h3) (sorted_get hB ht h2 hty)
theorem all_high {A B : List Bx} {i j : Nat} (hA : SortedX A) (hB : SortedX B) (h : A.length ≤ i ∨ j = 0 ∨ ∃ x y, A[i]? = some x ∧ B[j - 1]? = some y ∧ before y x = true) : ∀ x ∈ A.drop i, ∀ y ∈ B.take j, before y x = true := by
 intro x hx y hy
 obtain ⟨k, hk, hkx⟩ := mem_drop_at hx
 obtain ⟨t, ht, hty⟩ := mem_take_at hy
 rcases h with h | rfl | ⟨x0, y0, h1, h2, h3⟩
 · have := (List.getElem?_eq_some_iff.1 hkx).1; omega
 · omega
 · exact before_mono h3 (sorted_get hA hk h1 hkx) (sorted_get hB Tw.om hty h2)
theorem zA {Z1 A B Z3 : List Bx} {c : Nat} {x : Bx} (h : (Z1 ++ A ++ B ++ Z3)[c]? = some x) (h1 : Z1.length ≤ c) (h2 : c < Z1.length + A.length) : A[c - Z1.length]? = some x := by
 rw [List.append_assoc, List.append_assoc, List.getElem?_append_right h1, List.getElem?_append_left Tw.om] at h
 exact h
theorem zB {Z1 A B Z3 : List Bx} {c : Nat} {x : Bx} (h : (Z1 ++ A ++ B ++ Z3)[c]? = some x) (h1 : Z1.length + A.length ≤ c) (h2 : c < Z1.length + A.length + B.length) : B[c - (Z1.length + A.length)]? = some x := by
 rw [List.append_assoc, List.getElem?_append_right (by rw [List.length_append]; exact h1), List.length_append, List.getElem?_append_left Tw.om] at h
 exact h
-- a box that moves through a list, to the right and to the left
def ShR (Z1 B Z3 : List Bx) (x : Bx) (k : Nat) : List Bx := Z1 ++ B.take k ++ x :: (B.drop k ++ Z3)
theorem shR_zero (Z1 B Z3 : List Bx) (x : Bx) : ShR Z1 B Z3 x 0 = Z1 ++ [x] ++ B ++ Z3 := by unfold ShR; simp
theorem shR_len (Z1 B Z3 : List Bx) (x : Bx) (k : Nat) : (ShR Z1 B Z3 x k).length = (Z1 ++ [x] ++ B ++ Z3).length := by
 unfold ShR
 simp only [List.length_append, List.length_take, List.length_cons, List.length_drop, List.length_nil]
 omega
theorem shR_step {Z1 B Z3 : List Bx} {x u v : Bx} {k c : Nat} (hk : k < B.length) (hc : c = Z1.length + k) (hu : (ShR Z1 B Z3 x k)[c]? = some u) (hv : (ShR Z1 B Z3 x k)[c + 1]? = some v) : ((ShR Z1 B Z3 x k).set c v).set (c + 1) u = ShR Z1 B Z3 x (k + 1) := by
 have l1 : (Z1 ++ B.take k).length = c := by rw [List.length_append, List.length_take]; omega
 have e : ShR Z1 B Z3 x k = (Z1 ++ B.take k) ++ x :: B[k] :: (B.drop (k + 1) ++ Z3) := by
   unfold ShR
   rw [List.drop_eq_getElem_cons hk]
   rfl
 rw [e] at hu hv ⊢
 rw [List.getElem?_append_right Tw.om, l1, Nat.sub_self] at hu
 rw [List.getElem?_append_right Tw.om, l1, show c + 1 - c = 1 from by omega] at hv
 cases hu; cases hv
 rw [List.set_append_right _ _ Tw.om, l1, Nat.sub_self, List.set_cons_zero, List.set_append_right _ _ Tw.om, l1, show c + 1 - c = 1 from by omega, List.set_cons_succ, List.set_cons_zero]
 unfold ShR
 rw [List.take_succ_eq_append_getElem hk]
 simp only [List.append_assoc, List.cons_append, List.nil_append]
def ShL (Z1 A Z3 : List Bx) (x : Bx) (k : Nat) : List Bx := Z1 ++ A.take k ++ x :: (A.drop k ++ Z3)
theorem shL_len (Z1 A Z3 : List Bx) (x : Bx) (k : Nat) : (ShL Z1 A Z3 x k).length = (Z1 ++ A ++ [x] ++ Z3).length := by
 unfold ShL
 simp only [List.length_append, List.length_take, List.length_cons, List.length_drop, List.length_nil]
 omega
theorem shL_full (Z1 A Z3 : List Bx) (x : Bx) : ShL Z1 A Z3 x A.length = Z1 ++ A ++ [x] ++ Z3 := by unfold ShL; simp
theorem shL_step {Z1 A Z3 : List Bx} {x u v : Bx} {k c : Nat} (hk : 0 < k) (hk2 : k ≤ A.length) (hc : c = Z1.length + k) (hu : (ShL Z1 A Z3 x k)[c]? = some u) (hv : (ShL Z1 A Z3 x k)[c - 1]? = some v) : ((ShL Z1 A Z3 x k).set c v).set (c - 1) u = ShL Z1 A Z3 x (k - 1) := by
 obtain ⟨q, rfl⟩ : ∃ q, k = q + 1 := ⟨k - 1, by omega⟩
 have l1 : (Z1 ++ A.take q).length = c - 1 := by rw [List.length_append, List.length_take]; omega
 have e : ShL Z1 A Z3 x (q + 1) = (Z1 ++ A.take q) ++ A[q] :: x :: (A.drop (q + 1) ++ Z3) := by
   unfold ShL
   rw [List.take_succ_eq_append_getElem Tw.om]
   simp only [List.append_assoc, List.cons_append, List.nil_append]
 rw [e] at hu hv ⊢
 rw [List.getElem?_append_right Tw.om, l1, show c - (c - 1) = 1 from by omega] at hu
 rw [List.getElem?_append_right Tw.om, l1, Nat.sub_self] at hv
 cases hu; cases hv
 rw [List.set_append_right _ _ Tw.om, l1, show c - (c - 1) = 1 from by omega, List.set_cons_succ, List.set_cons_zero, List.set_append_right _ _ Tw.om, l1, Nat.sub_self, List.set_cons_zero]
 unfold ShL
 rw [Nat.add_sub_cancel, show A.drop q = A[q] :: A.drop (q + 1) from List.drop_eq_getElem_cons Tw.om]
 rfl
theorem sym_one {Z1 B Z3 : List Bx} {x : Bx} {j : Nat} (hB : SortedX B) (hlo : ∀ y ∈ B.take j, before y x = true) (hhi : ∀ y ∈ B.drop j, before y x = false) : ShR Z1 B Z3 x j = Z1 ++ orderX ([x] ++ B) ++ Z3 := by
 have h := one_ahead (x := x) (B1 := B.take j) (B2 := B.drop j) (by rw [List.take_append_drop]; exact hB) hlo hhi
 rw [List.take_append_drop] at h
 rw [List.singleton_append, ← h]
 unfold ShR; simp
theorem sym_last {Z1 A Z3 : List Bx} {x : Bx} {j : Nat} (hA : SortedX A) (hlo : ∀ y ∈ A.take j, before x y = false) (hhi : ∀ y ∈ A.drop j, before x y = true) : ShL Z1 A Z3 x j = Z1 ++ orderX (A ++ [x]) ++ Z3 := by
 have h := one_behind (x := x) (A1 := A.take j) (A2 := A.drop j) (by rw [List.take_append_drop]; exact hA) hlo hhi
 rw [List.take_append_drop] at h
 rw [← h]
 unfold ShL; simp
theorem sym_rest {A B : List Bx} {i j : Nat} (hA : SortedX A) (hB : SortedX B) (h1 : ∀ x ∈ A.drop i, ∀ y ∈ B.take j, before y x = true) (h2 : ∀ x ∈ A.take i, ∀ y ∈ B.drop j, before y x = false) : orderX (A.take i ++ B.take j) ++ orderX (A.drop i ++ B.drop j) = orderX (A ++ B) := by
 have h := merge_is (A1 := A.take i) (A2 := A.drop i) (B1 := B.take j) (B2 := B.drop j) (by rw [List.take_append_drop]; exact hA) (by rw [List.take_append_drop]; exact hB) h1 h2
 rwa [List.take_append_drop, List.take_append_drop] at h
theorem one_of {A : List Bx} (h : A.length = 1) : ∃ x, A = [x] := by
 rcases A with _ | ⟨x, _ | ⟨y, A⟩⟩
 · simp at h
 · exact ⟨x, rfl⟩
 · simp at h
-- how a list is cut
end Go.Proofs.YtllmpemmknblaaaDoor
namespace Go.Proofs.YtllmpemmknblaaaDoor
open Go Go.RowKit Tw
set_option maxRecDepth 100000 in
set_option maxHeartbeats 4000000 in
theorem swap_any {W0 : Base} {K : List (Nat × Obj)} {g n cap : Nat} {cur : Array Value} (Z1 U Z2 V Z3 : List Bx) (hn : (Z1 ++ U ++ Z2 ++ V ++ Z3).length = n) (hn2 : n ≤ 4000000000) (a b m : Nat) (ha : a = Z1.length) (hU : U.length = m) (hV : V.length = m) (hb : b = Z1.length + U.length + Z2.length) (hr : RowX cur (Z1 ++ U ++ Z2 ++ V ++ Z3)) (hB : W0.B ≤ g) (hg : ∀ q ∈ K, q.1 ≠ g) (w : World) (hw : KS W0 ((g, .cells cur 26 (0, 0)) :: K) w) :
   Calls Tryd.prog 79 #[.slice (some ⟨g, 0, none⟩) n cap, .int .i64 ((a : Nat) : Int), .int .i64 ((b : Nat) : Int), .int .i64 ((m : Nat) : Int), .func (.func 48) #[] #[]] w fun e w' => ∃ v K', e = .returned v ∧ KS W0 K' w' ∧ (v = .tuple #[] ∧ ∃ cur', RowX cur' (Z1 ++ V ++ Z2 ++ U ++ Z3) ∧ cur'.size = cur.size ∧ K' = (g, .cells cur' 26 (0, 0)) :: K) := by
 have hlens : Z1.length + U.length + Z2.length + V.length + Z3.length = n := by rw [← hn]; simp only [List.length_append]
 have hr0 : RowX cur (SwI Z1 U Z2 V Z3 0) := by rw [swI_zero]; exact hr
 clear hr
 go_enter Tryd.func79, Tryd.ntmps79
 refine wp_seq ?_
 refine wp_region_L (W0 := W0) ((g, .cells cur 26 (0, 0)) :: K) (hw) ?_
 refine lm (v := .int .i64 0) rfl rfl ?_
 refine wpL_done (fun W1 hW1 => ?_)
 change Code.wp ..
 refine wp_block ?_
 go_loopw [10] (fun u10 wr => ∃ (i : Nat) (cur1 : Array Value), (i ≤ m) ∧ (RowX cur1 (SwI Z1 U Z2 V Z3 i)) ∧ (cur1.size = cur.size) ∧ u10 = .int .i64 ((i : Nat) : Int) ∧ KS W0 ((g, .cells cur1 26 (0, 0)) :: K) wr) (fun u10 _ => m - (intOf u10).toNat)
 case atStart => exact ⟨0, cur, (Nat.zero_le _), hr0, rfl, rfl, hW1⟩
 case round =>
   obtain ⟨i, cur1, hi, hr1, hz, rfl, hL2⟩ := hrel
   have hl2 : (SwI Z1 U Z2 V Z3 i).length = n := (swI_len Tw.om).trans hn
   refine wp_seq ?_
   refine wp_seq ?_
   refine wp_region_L (W0 := W0) ((g, .cells cur1 26 (0, 0)) :: K) (hL2) ?_
   refine lm (v := .int .i64 ((i : Nat) : Int)) rfl rfl ?_
   refine lm (v := .int .i64 ((m : Nat) : Int)) rfl rfl ?_
   refine lp (v := .bool (decide (i < m))) rfl rfl (run_bin rfl (vx := (.int .i64 ((i : Nat) : Int))) (vy := (.int .i64 ((m : Nat) : Int))) Tw.kr Tw.kr fun w => bn_lss rfl w) ?_
   refine wpL_done (fun W3 hW3 => ?_)
   change Code.wp ..
   cases hd1 : (decide (i < m)) with
   | false =>
     have h1 : ¬ (i < m) := of_decide_eq_false hd1
     clear hd1
     refine wp_cond_false rfl ?_
     refine wp_exit ?_
     simp only [exit_then, exit_in, exit_out]
     refine bodyPost_end (v := .tuple #[]) (results_none rfl _ _ _) rfl ?_
     exact ⟨_, _, rfl, hW3.sub (List.forall_mem_cons.2 ⟨Tw.m0, fun p hp => (.tail _ hp)⟩), rfl, _, (by rw [← swI_end (i := i) Tw.om Tw.om]; exact hr1), hz, rfl⟩
   | true =>
     have h1 : i < m := of_decide_eq_true hd1
     clear hd1
     refine wp_cond_true rfl ?_
     refine wp_skip ?_
     change Code.wp ..
     refine wp_seq ?_
     refine wp_block ?_
     refine wp_region_V (W0 := W0) ((g, .cells cur1 26 (0, 0)) :: K) Tw.kr (hW3) ?_
     refine vm (i := 0) (v := .slice (some ⟨g, 0, none⟩) n cap) rfl rfl rfl ?_
     refine vm (i := 1) (v := .int .i64 ((a : Nat) : Int)) rfl rfl rfl ?_
     refine vm (i := 2) (v := .int .i64 ((i : Nat) : Int)) rfl rfl rfl ?_
     refine vp (i := 3) (v := .int .i64 (((a + i) : Nat) : Int)) rfl rfl rfl (run_bin rfl (vx := (.int .i64 ((a : Nat) : Int))) (vy := (.int .i64 ((i : Nat) : Int))) Tw.kr Tw.kr fun w => bn_add (z := (a + i)) rfl (wr_i64 Tw.om) w) ?_
     refine vm (i := 4) (v := .slice (some ⟨g, 0, none⟩) n cap) rfl rfl rfl ?_
     refine vm (i := 5) (v := .int .i64 ((b : Nat) : Int)) rfl rfl rfl ?_
     refine vm (i := 6) (v := .int .i64 ((i : Nat) : Int)) rfl rfl rfl ?_
     refine vp (i := 7) (v := .int .i64 (((b + i) : Nat) : Int)) rfl rfl rfl (run_bin rfl (vx := (.int .i64 ((b : Nat) : Int))) (vy := (.int .i64 ((i : Nat) : Int))) Tw.kr Tw.kr fun w => bn_add (z := (b + i)) rfl (wr_i64 Tw.om) w) ?_
     refine vm (i := 8) (v := .slice (some ⟨g, 0, none⟩) n cap) rfl rfl rfl ?_
     refine vm (i := 9) (v := .int .i64 ((b : Nat) : Int)) rfl rfl rfl ?_
     refine vm (i := 10) (v := .int .i64 ((i : Nat) : Int)) rfl rfl rfl ?_
     refine vp (i := 11) (v := .int .i64 (((b + i) : Nat) : Int)) rfl rfl rfl (run_bin rfl (vx := (.int .i64 ((b : Nat) : Int))) (vy := (.int .i64 ((i : Nat) : Int))) Tw.kr Tw.kr fun w => bn_add (z := (b + i)) rfl (wr_i64 Tw.om) w) ?_
     refine vp (i := 12) (v := .pointer (some ⟨g, 0 + (b + i) * 9, none⟩)) rfl rfl rfl (run_idxL (j := .i64) (n := n) (cap := cap) (b := g) (off := 0) (k := (b + i)) (sz := 9) rfl Tryd.underlying22 Tw.kr Tw.kr Tw.kr Tw.om) ?_
     obtain ⟨b1, hy1⟩ : ∃ bz, ((SwI Z1 U Z2 V Z3 i) : List Bx)[(b + i)]? = some bz := ⟨_, List.getElem?_eq_getElem (by first | omega | (simp only [List.length_set]; omega))⟩
     refine vv (i := 13) (v := bxV b1) rfl rfl rfl (yb_cells (off := 0 + (b + i) * 9) (cur := cur1) (cs := (bxC b1).toList) rfl Tw.kr Tw.m0 (RowX.get hr1 hy1) Tryd.underlying26 rfl Tw.kr) ?_
     refine vm (i := 14) (v := .slice (some ⟨g, 0, none⟩) n cap) rfl rfl rfl ?_
     refine vm (i := 15) (v := .int .i64 ((a : Nat) : Int)) rfl rfl rfl ?_
     refine vm (i := 16) (v := .int .i64 ((i : Nat) : Int)) rfl rfl rfl ?_
     refine vp (i := 17) (v := .int .i64 (((a + i) : Nat) : Int)) rfl rfl rfl (run_bin rfl (vx := (.int .i64 ((a : Nat) : Int))) (vy := (.int .i64 ((i : Nat) : Int))) Tw.kr Tw.kr fun w => bn_add (z := (a + i)) rfl (wr_i64 Tw.om) w) ?_
     refine vp (i := 18) (v := .pointer (some ⟨g, 0 + (a + i) * 9, none⟩)) rfl rfl rfl (run_idxL (j := .i64) (n := n) (cap := cap) (b := g) (off := 0) (k := (a + i)) (sz := 9) rfl Tryd.underlying22 Tw.kr Tw.kr Tw.kr Tw.om) ?_
     obtain ⟨b2, hy2⟩ : ∃ bz, ((SwI Z1 U Z2 V Z3 i) : List Bx)[(a + i)]? = some bz := ⟨_, List.getElem?_eq_getElem (by first | omega | (simp only [List.length_set]; omega))⟩
     refine vv (i := 19) (v := bxV b2) rfl rfl rfl (yb_cells (off := 0 + (a + i) * 9) (cur := cur1) (cs := (bxC b2).toList) rfl Tw.kr Tw.m0 (RowX.get hr1 hy2) Tryd.underlying26 rfl Tw.kr) ?_
     refine vp (i := 20) (v := .pointer (some ⟨g, 0 + (a + i) * 9, none⟩)) rfl rfl rfl (run_idxL (j := .i64) (n := n) (cap := cap) (b := g) (off := 0) (k := (a + i)) (sz := 9) rfl Tryd.underlying22 Tw.kr Tw.kr Tw.kr Tw.om) ?_
     have R3 := RowX.put (b := b1) hr1 (show (a + i) < (SwI Z1 U Z2 V Z3 i).length by first | omega | (simp only [List.length_set]; omega))
     have Q3 := put_size (b := b1) hr1 (show (a + i) < (SwI Z1 U Z2 V Z3 i).length by first | omega | (simp only [List.length_set]; omega))
     refine wpV_s ((g, .cells (putR cur1 (a + i) b1) 26 (0, 0)) :: K) (i := 21) rfl Tw.kr rfl rfl rfl (st_rec (k := (a + i)) (b := b1) rfl Tw.kr Tw.kr Tw.m0 hB Tw.kr hr1 (by first | omega | (simp only [List.length_set]; omega)) (List.forall_mem_cons.2 ⟨.inl rfl, (fun p hp => .inr ⟨(.tail _ hp), (hg _ hp)⟩)⟩)) ?_
     refine vp (i := 22) (v := .pointer (some ⟨g, 0 + (b + i) * 9, none⟩)) rfl rfl rfl (run_idxL (j := .i64) (n := n) (cap := cap) (b := g) (off := 0) (k := (b + i)) (sz := 9) rfl Tryd.underlying22 Tw.kr Tw.kr Tw.kr Tw.om) ?_
     have R4 := RowX.put (b := b2) R3 (show (b + i) < ((SwI Z1 U Z2 V Z3 i).set (a + i) b1).length by first | omega | (simp only [List.length_set]; omega))
     have Q4 := put_size (b := b2) R3 (show (b + i) < ((SwI Z1 U Z2 V Z3 i).set (a + i) b1).length by first | omega | (simp only [List.length_set]; omega))
     refine wpV_s ((g, .cells (putR (putR cur1 (a + i) b1) (b + i) b2) 26 (0, 0)) :: K) (i := 23) rfl Tw.kr rfl rfl rfl (st_rec (k := (b + i)) (b := b2) rfl Tw.kr Tw.kr Tw.m0 hB Tw.kr R3 (by first | omega | (simp only [List.length_set]; omega)) (List.forall_mem_cons.2 ⟨.inl rfl, (fun p hp => .inr ⟨(.tail _ hp), (hg _ hp)⟩)⟩)) ?_
     refine wpV_done Tw.kr (fun W4 hW4 => ?_) _
     change Code.wp ..
     refine wp_region_L (W0 := W0) ((g, .cells (putR (putR cur1 (a + i) b1) (b + i) b2) 26 (0, 0)) :: K) (hW4) ?_
     refine lm (v := .int .i64 ((i : Nat) : Int)) rfl rfl ?_
     refine lp (v := .int .i64 (((i + 1) : Nat) : Int)) rfl rfl (run_bin rfl (vx := (.int .i64 ((i : Nat) : Int))) (vy := (.int .i64 ((1 : Nat) : Int))) Tw.kr Tw.kr fun w => bn_add (z := (i + 1)) rfl (wr_i64 Tw.om) w) ?_
     refine lm (v := .int .i64 (((i + 1) : Nat) : Int)) rfl rfl ?_
     refine wpL_done (fun W5 hW5 => ?_)
     have hstep := swI_step (i := i) Tw.om Tw.om ha hb hy2 hy1
     go_roundw
     case rel =>
       repeat apply Exists.intro
       exact ⟨⟨i + 1, (putR (putR cur1 (a + i) b1) (b + i) b2), Tw.om, (by have h := R4; rw [hstep] at h; exact h), Tw.om, rfl, hW5⟩, rfl⟩
     case measure => (show m - (intOf (.int .i64 (((i + 1) : Nat) : Int))).toNat < m - (intOf (.int .i64 ((i : Nat) : Int))).toNat); simp only [intOf]; omega
theorem at_x (Z1 P X Y S Z3 : List Bx) (j : Nat) : Z1 ++ P ++ X ++ Y ++ S ++ Z3 = (Z1 ++ P) ++ X.take j ++ X.drop j ++ Y ++ (S ++ Z3) := by
 conv => lhs; rw [← List.take_append_drop j X]
 simp only [List.append_assoc]
theorem at_y (Z1 P X Y S Z3 : List Bx) (j : Nat) : Z1 ++ P ++ X ++ Y ++ S ++ Z3 = (Z1 ++ P) ++ X ++ Y.take j ++ Y.drop j ++ (S ++ Z3) := by
 conv => lhs; rw [← List.take_append_drop j Y]
 simp only [List.append_assoc]
set_option maxRecDepth 100000 in
set_option maxHeartbeats 4000000 in
theorem rot_any {W0 : Base} {K : List (Nat × Obj)} {g n cap : Nat} {cur : Array Value} (Z1 X0 Y0 Z3 : List Bx) (hn : (Z1 ++ X0 ++ Y0 ++ Z3).length = n) (hn2 : n ≤ 4000000000) (a m b : Nat) (ha : a = Z1.length) (hm : m = Z1.length + X0.length) (hb : b = Z1.length + X0.length + Y0.length) (hX : 0 < X0.length) (hY : 0 < Y0.length) (hr : RowX cur (Z1 ++ X0 ++ Y0 ++ Z3)) (hB : W0.B ≤ g) (hg : ∀ q ∈ K, q.1 ≠ g) (w : World) (hw : KS W0 ((g, .cells cur 26 (0, 0)) :: K) w) :
   Calls Tryd.prog 78 #[.slice (some ⟨g, 0, none⟩) n cap, .int .i64 ((a : Nat) : Int), .int .i64 ((m : Nat) : Int), .int .i64 ((b : Nat) : Int), .func (.func 48) #[] #[]] w fun e w' => ∃ v K', e = .returned v ∧ KS W0 K' w' ∧ (v = .tuple #[] ∧ ∃ cur', RowX cur' (Z1 ++ Y0 ++ X0 ++ Z3) ∧ cur'.size = cur.size ∧ K' = (g, .cells cur' 26 (0, 0)) :: K) := by
 have hlens : Z1.length + X0.length + Y0.length + Z3.length = n := by rw [← hn]; simp only [List.length_append]
 have hr0 : RowX cur (Z1 ++ [] ++ X0 ++ Y0 ++ [] ++ Z3) := by simpa using hr
 clear hr
 go_enter Tryd.func78, Tryd.ntmps78
 refine wp_seq ?_
 refine wp_region_L (W0 := W0) ((g, .cells cur 26 (0, 0)) :: K) (hw) ?_
 refine lm (v := .int .i64 ((m : Nat) : Int)) rfl rfl ?_
 refine lm (v := .int .i64 ((a : Nat) : Int)) rfl rfl ?_
 refine lp (v := .int .i64 ((X0.length : Nat) : Int)) rfl rfl (run_bin rfl (vx := (.int .i64 ((m : Nat) : Int))) (vy := (.int .i64 ((a : Nat) : Int))) Tw.kr Tw.kr fun w => bn_sub (z := X0.length) (show m - a = X0.length by omega) Tw.om (wr_i64 Tw.om) w) ?_
 refine lm (v := .int .i64 ((X0.length : Nat) : Int)) rfl rfl ?_
 refine wpL_done (fun W1 hW1 => ?_)
 change Code.wp ..
 refine wp_seq ?_
 refine wp_region_L (W0 := W0) ((g, .cells cur 26 (0, 0)) :: K) (hW1) ?_
 refine lm (v := .int .i64 ((b : Nat) : Int)) rfl rfl ?_
 refine lm (v := .int .i64 ((m : Nat) : Int)) rfl rfl ?_
 refine lp (v := .int .i64 ((Y0.length : Nat) : Int)) rfl rfl (run_bin rfl (vx := (.int .i64 ((b : Nat) : Int))) (vy := (.int .i64 ((m : Nat) : Int))) Tw.kr Tw.kr fun w => bn_sub (z := Y0.length) (show b - m = Y0.length by omega) Tw.om (wr_i64 Tw.om) w) ?_
 refine lm (v := .int .i64 ((Y0.length : Nat) : Int)) rfl rfl ?_
 refine wpL_done (fun W2 hW2 => ?_)
 change Code.wp ..
 refine wp_seq ?_
 refine wp_block ?_
 go_loopw [10, 11] (fun u10 u11 wr => ∃ (i j : Nat) (P X Y S : List Bx) (cur1 : Array Value), (0 < i ∧ 0 < j ∧ i + j ≤ n) ∧ (X.length = i) ∧ (Y.length = j) ∧ (Z1.length + P.length + i = m) ∧ (P ++ (Y ++ X) ++ S = Y0 ++ X0) ∧ (RowX cur1 (Z1 ++ P ++ X ++ Y ++ S ++ Z3)) ∧ (cur1.size = cur.size) ∧ u10 = .int .i64 ((i : Nat) : Int) ∧ u11 = .int .i64 ((j : Nat) : Int) ∧ KS W0 ((g, .cells cur1 26 (0, 0)) :: K) wr) (fun u10 u11 _ => ((intOf u10).toNat + (intOf u11).toNat))
 case atStart => exact ⟨X0.length, Y0.length, [], X0, Y0, [], cur, Tw.om, rfl, rfl, (by simp only [List.length_nil]; omega), (by simp), hr0, rfl, rfl, rfl, hW2⟩
 case round =>
   obtain ⟨i, j, P, X, Y, S, cur1, hij, hXl, hYl, hPl, htgt, hr1, hz, rfl, rfl, hL3⟩ := hrel
   have hlt := congrArg List.length htgt
   simp only [List.length_append] at hlt
   have hl2 : (Z1 ++ P ++ X ++ Y ++ S ++ Z3).length = n := by simp only [List.length_append]; omega
   refine wp_seq ?_
   refine wp_seq ?_
   refine wp_region_L (W0 := W0) ((g, .cells cur1 26 (0, 0)) :: K) (hL3) ?_
   refine lm (v := .int .i64 ((i : Nat) : Int)) rfl rfl ?_
   refine lm (v := .int .i64 ((j : Nat) : Int)) rfl rfl ?_
   refine lp (v := .bool (!(decide (i = j)))) rfl rfl (run_bin rfl (vx := (.int .i64 ((i : Nat) : Int))) (vy := (.int .i64 ((j : Nat) : Int))) Tw.kr Tw.kr fun w => bn_neq rfl w) ?_
   refine wpL_done (fun W4 hW4 => ?_)
   change Code.wp ..
   cases hd1 : (decide (i = j)) with
   | false =>
     have h1 : ¬ (i = j) := of_decide_eq_false hd1
     clear hd1
     refine wp_cond_true rfl ?_
     refine wp_skip ?_
     change Code.wp ..
     refine wp_block ?_
     refine wp_seq ?_
     refine wp_region_L (W0 := W0) ((g, .cells cur1 26 (0, 0)) :: K) (hW4) ?_
     refine lm (v := .int .i64 ((i : Nat) : Int)) rfl rfl ?_
     refine lm (v := .int .i64 ((j : Nat) : Int)) rfl rfl ?_
     refine lp (v := .bool (decide (j < i))) rfl rfl (run_bin rfl (vx := (.int .i64 ((i : Nat) : Int))) (vy := (.int .i64 ((j : Nat) : Int))) Tw.kr Tw.kr fun w => bn_gtr rfl w) ?_
     refine wpL_done (fun W5 hW5 => ?_)
     change Code.wp ..
     cases hd2 : (decide (j < i)) with
     | false =>
       have h2 : ¬ (j < i) := of_decide_eq_false hd2
       clear hd2
       refine wp_cond_false rfl ?_
       refine wp_seq ?_
       refine wp_region_L (W0 := W0) ((g, .cells cur1 26 (0, 0)) :: K) (hW5) ?_
       refine lm (v := .slice (some ⟨g, 0, none⟩) n cap) rfl rfl ?_
       refine lm (v := .int .i64 ((m : Nat) : Int)) rfl rfl ?_
       refine lm (v := .int .i64 ((i : Nat) : Int)) rfl rfl ?_
       refine lp (v := .int .i64 (((m - i) : Nat) : Int)) rfl rfl (run_bin rfl (vx := (.int .i64 ((m : Nat) : Int))) (vy := (.int .i64 ((i : Nat) : Int))) Tw.kr Tw.kr fun w => bn_sub (z := (m - i)) rfl Tw.om (wr_i64 Tw.om) w) ?_
       refine lm (v := .int .i64 ((m : Nat) : Int)) rfl rfl ?_
       refine lm (v := .int .i64 ((j : Nat) : Int)) rfl rfl ?_
       refine lp (v := .int .i64 (((m + j) : Nat) : Int)) rfl rfl (run_bin rfl (vx := (.int .i64 ((m : Nat) : Int))) (vy := (.int .i64 ((j : Nat) : Int))) Tw.kr Tw.kr fun w => bn_add (z := (m + j)) rfl (wr_i64 Tw.om) w) ?_
       refine lm (v := .int .i64 ((i : Nat) : Int)) rfl rfl ?_
       refine lp (v := .int .i64 ((((m + j) - i) : Nat) : Int)) rfl rfl (run_bin rfl (vx := (.int .i64 (((m + j) : Nat) : Int))) (vy := (.int .i64 ((i : Nat) : Int))) Tw.kr Tw.kr fun w => bn_sub (z := ((m + j) - i)) rfl Tw.om (wr_i64 Tw.om) w) ?_
       refine lm (v := .int .i64 ((i : Nat) : Int)) rfl rfl ?_
       refine lm (v := .func (.func 48) #[] #[]) rfl rfl ?_
       have hsw1 : (Z1 ++ P ++ X ++ Y ++ S ++ Z3) = Z1 ++ P ++ X ++ (Y.take (j - i)) ++ (Y.drop (j - i)) ++ (S ++ Z3) := (at_y ..)
       refine wpL_c (f := 79) (args := #[.slice (some ⟨g, 0, none⟩) n cap, .int .i64 (((m - i) : Nat) : Int), .int .i64 ((((m + j) - i) : Nat) : Int), .int .i64 ((i : Nat) : Int), .func (.func 48) #[] #[]]) (fun v K9 => v = .tuple #[] ∧ ∃ cur', RowX cur' (Z1 ++ P ++ (Y.drop (j - i)) ++ (Y.take (j - i)) ++ X ++ (S ++ Z3)) ∧ cur'.size = cur1.size ∧ K9 = ((g, .cells cur' 26 (0, 0)) :: K)) rfl Tw.kr Tw.kf (fun W hW => swap_any (K := K) (cap := cap) (Z1 ++ P) X (Y.take (j - i)) (Y.drop (j - i)) (S ++ Z3) (by rw [← hsw1]; omega) Tw.om (m - i) ((m + j) - i) i (by rw [List.length_append]; omega) Tw.om (by rw [List.length_drop]; omega) (by simp only [List.length_append, List.length_take, List.length_drop]; omega) (by rw [← hsw1]; exact hr1) hB (fun q hq => (hg _ hq)) W (hW.sub (List.forall_mem_cons.2 ⟨Tw.m0, (fun p hp => (.tail _ hp))⟩))) Tw.pf ?_
       rintro v K9 ⟨rfl, cu2, R2, Q2, rfl⟩
       refine wpL_done (fun W6 hW6 => ?_)
       change Code.wp ..
       refine wp_region_L (W0 := W0) ((g, .cells cu2 26 (0, 0)) :: K) (hW6) ?_
       refine lm (v := .int .i64 ((j : Nat) : Int)) rfl rfl ?_
       refine lm (v := .int .i64 ((i : Nat) : Int)) rfl rfl ?_
       refine lp (v := .int .i64 (((j - i) : Nat) : Int)) rfl rfl (run_bin rfl (vx := (.int .i64 ((j : Nat) : Int))) (vy := (.int .i64 ((i : Nat) : Int))) Tw.kr Tw.kr fun w => bn_sub (z := (j - i)) rfl Tw.om (wr_i64 Tw.om) w) ?_
       refine lm (v := .int .i64 (((j - i) : Nat) : Int)) rfl rfl ?_
       refine wpL_done (fun W7 hW7 => ?_)
       go_roundw
       case rel =>
         repeat apply Exists.intro
         exact ⟨⟨i, j - i, P, (Y.drop (j - i)), (Y.take (j - i)), X ++ S, cu2, Tw.om, (by rw [List.length_drop]; omega), (by rw [List.length_take]; omega), Tw.om, (by rw [List.take_append_drop, ← htgt]; simp only [List.append_assoc, List.append_nil, List.nil_append]), (by have h := R2; simp only [List.append_assoc, List.append_nil, List.nil_append] at h ⊢; exact h), Tw.om, rfl, rfl, hW7⟩, rfl⟩
       case measure => (show ((intOf (.int .i64 ((i : Nat) : Int))).toNat + (intOf (.int .i64 (((j - i) : Nat) : Int))).toNat) < ((intOf (.int .i64 ((i : Nat) : Int))).toNat + (intOf (.int .i64 ((j : Nat) : Int))).toNat)); simp only [intOf]; omega
     | true =>
       have h2 : j < i := of_decide_eq_true hd2
       clear hd2
       refine wp_cond_true rfl ?_
       refine wp_seq ?_
       refine wp_region_L (W0 := W0) ((g, .cells cur1 26 (0, 0)) :: K) (hW5) ?_
       refine lm (v := .slice (some ⟨g, 0, none⟩) n cap) rfl rfl ?_
       refine lm (v := .int .i64 ((m : Nat) : Int)) rfl rfl ?_
       refine lm (v := .int .i64 ((i : Nat) : Int)) rfl rfl ?_
       refine lp (v := .int .i64 (((m - i) : Nat) : Int)) rfl rfl (run_bin rfl (vx := (.int .i64 ((m : Nat) : Int))) (vy := (.int .i64 ((i : Nat) : Int))) Tw.kr Tw.kr fun w => bn_sub (z := (m - i)) rfl Tw.om (wr_i64 Tw.om) w) ?_
       refine lm (v := .int .i64 ((m : Nat) : Int)) rfl rfl ?_
       refine lm (v := .int .i64 ((j : Nat) : Int)) rfl rfl ?_
       refine lm (v := .func (.func 48) #[] #[]) rfl rfl ?_
       have hsw3 : (Z1 ++ P ++ X ++ Y ++ S ++ Z3) = Z1 ++ P ++ (X.take j) ++ (X.drop j) ++ Y ++ (S ++ Z3) := (at_x ..)
       refine wpL_c (f := 79) (args := #[.slice (some ⟨g, 0, none⟩) n cap, .int .i64 (((m - i) : Nat) : Int), .int .i64 ((m : Nat) : Int), .int .i64 ((j : Nat) : Int), .func (.func 48) #[] #[]]) (fun v K9 => v = .tuple #[] ∧ ∃ cur', RowX cur' (Z1 ++ P ++ Y ++ (X.drop j) ++ (X.take j) ++ (S ++ Z3)) ∧ cur'.size = cur1.size ∧ K9 = ((g, .cells cur' 26 (0, 0)) :: K)) rfl Tw.kr Tw.kf (fun W hW => swap_any (K := K) (cap := cap) (Z1 ++ P) (X.take j) (X.drop j) Y (S ++ Z3) (by rw [← hsw3]; omega) Tw.om (m - i) m j (by rw [List.length_append]; omega) (by rw [List.length_take]; omega) Tw.om (by simp only [List.length_append, List.length_take, List.length_drop]; omega) (by rw [← hsw3]; exact hr1) hB (fun q hq => (hg _ hq)) W (hW.sub (List.forall_mem_cons.2 ⟨Tw.m0, (fun p hp => (.tail _ hp))⟩))) Tw.pf ?_
       rintro v K9 ⟨rfl, cu4, R4, Q4, rfl⟩
       refine wpL_done (fun W8 hW8 => ?_)
       change Code.wp ..
       refine wp_region_L (W0 := W0) ((g, .cells cu4 26 (0, 0)) :: K) (hW8) ?_
       refine lm (v := .int .i64 ((i : Nat) : Int)) rfl rfl ?_
       refine lm (v := .int .i64 ((j : Nat) : Int)) rfl rfl ?_
       refine lp (v := .int .i64 (((i - j) : Nat) : Int)) rfl rfl (run_bin rfl (vx := (.int .i64 ((i : Nat) : Int))) (vy := (.int .i64 ((j : Nat) : Int))) Tw.kr Tw.kr fun w => bn_sub (z := (i - j)) rfl Tw.om (wr_i64 Tw.om) w) ?_
       refine lm (v := .int .i64 (((i - j) : Nat) : Int)) rfl rfl ?_
       refine wpL_done (fun W9 hW9 => ?_)
       go_roundw
       case rel =>
         repeat apply Exists.intro
         exact ⟨⟨i - j, j, P ++ Y, (X.drop j), (X.take j), S, cu4, Tw.om, (by rw [List.length_drop]; omega), (by rw [List.length_take]; omega), (by rw [List.length_append]; omega), (by rw [List.take_append_drop, ← htgt]; simp only [List.append_assoc, List.append_nil, List.nil_append]), (by have h := R4; simp only [List.append_assoc, List.append_nil, List.nil_append] at h ⊢; exact h), Tw.om, rfl, rfl, hW9⟩, rfl⟩
       case measure => (show ((intOf (.int .i64 (((i - j) : Nat) : Int))).toNat + (intOf (.int .i64 ((j : Nat) : Int))).toNat) < ((intOf (.int .i64 ((i : Nat) : Int))).toNat + (intOf (.int .i64 ((j : Nat) : Int))).toNat)); simp only [intOf]; omega
   | true =>
     have h1 : i = j := of_decide_eq_true hd1
     clear hd1
     refine wp_cond_false rfl ?_
     refine wp_exit ?_
     change Code.wp ..
     refine wp_region_L (W0 := W0) ((g, .cells cur1 26 (0, 0)) :: K) (hW4) ?_
     refine lm (v := .slice (some ⟨g, 0, none⟩) n cap) rfl rfl ?_
     refine lm (v := .int .i64 ((m : Nat) : Int)) rfl rfl ?_
     refine lm (v := .int .i64 ((i : Nat) : Int)) rfl rfl ?_
     refine lp (v := .int .i64 (((m - i) : Nat) : Int)) rfl rfl (run_bin rfl (vx := (.int .i64 ((m : Nat) : Int))) (vy := (.int .i64 ((i : Nat) : Int))) Tw.kr Tw.kr fun w => bn_sub (z := (m - i)) rfl Tw.om (wr_i64 Tw.om) w) ?_
     refine lm (v := .int .i64 ((m : Nat) : Int)) rfl rfl ?_
     refine lm (v := .int .i64 ((i : Nat) : Int)) rfl rfl ?_
     refine lm (v := .func (.func 48) #[] #[]) rfl rfl ?_
     have hsw5 : (Z1 ++ P ++ X ++ Y ++ S ++ Z3) = Z1 ++ P ++ X ++ [] ++ Y ++ (S ++ Z3) := (by simp only [List.append_assoc, List.append_nil, List.nil_append])
     refine wpL_c (f := 79) (args := #[.slice (some ⟨g, 0, none⟩) n cap, .int .i64 (((m - i) : Nat) : Int), .int .i64 ((m : Nat) : Int), .int .i64 ((i : Nat) : Int), .func (.func 48) #[] #[]]) (fun v K9 => v = .tuple #[] ∧ ∃ cur', RowX cur' (Z1 ++ P ++ Y ++ [] ++ X ++ (S ++ Z3)) ∧ cur'.size = cur1.size ∧ K9 = ((g, .cells cur' 26 (0, 0)) :: K)) rfl Tw.kr Tw.kf (fun W hW => swap_any (K := K) (cap := cap) (Z1 ++ P) X [] Y (S ++ Z3) (by rw [← hsw5]; omega) Tw.om (m - i) m i (by rw [List.length_append]; omega) Tw.om Tw.om (by simp only [List.length_append, List.length_nil]; omega) (by rw [← hsw5]; exact hr1) hB (fun q hq => (hg _ hq)) W (hW.sub (List.forall_mem_cons.2 ⟨Tw.m0, (fun p hp => (.tail _ hp))⟩))) Tw.pf ?_
     rintro v K9 ⟨rfl, cu6, R6, Q6, rfl⟩
     refine wpL_done (fun W10 hW10 => ?_)
     refine bodyPost_end (v := .tuple #[]) (results_none rfl _ _ _) rfl ?_
     exact ⟨_, _, rfl, hW10.sub (List.forall_mem_cons.2 ⟨Tw.m0, fun p hp => (.tail _ hp)⟩), rfl, _, (by have h := R6; have e : Z1 ++ Y0 ++ X0 ++ Z3 = Z1 ++ P ++ Y ++ [] ++ X ++ (S ++ Z3) := (by rw [List.append_assoc Z1 Y0 X0, ← htgt]; simp only [List.append_assoc, List.append_nil, List.nil_append]); rw [e]; exact h), Tw.om, rfl⟩
end Go.Proofs.YtllmpemmknblaaaDoor
namespace Go.Proofs.YtllmpemmknblaaaDoor
open Go Go.RowKit Tw
theorem sorted_l {A B : List Bx} (h : SortedX (A ++ B)) : SortedX A := by
 unfold SortedX at *; exact (List.pairwise_append.1 h).1
theorem sorted_r {A B : List Bx} (h : SortedX (A ++ B)) : SortedX B := by
 unfold SortedX at *; exact (List.pairwise_append.1 h).2.1
theorem len0 {A : List Bx} (h : A.length = 0) : A = [] := List.eq_nil_of_length_eq_zero h
theorem rot_skip (Z T : List Bx) {A B : List Bx} (h : A.length = 0 ∨ B.length = 0) : Z ++ A ++ B ++ T = Z ++ B ++ A ++ T := by
 rcases h with h | h <;> rw [len0 h] <;> simp
theorem order_id {A : List Bx} (h : SortedX A) : orderX A = A := (order_is h fun _ => rfl).symm
theorem sym_skip {A B : List Bx} (hA : SortedX A) (hB : SortedX B) (h : A.length = 0 ∨ B.length = 0) : orderX (A ++ B) = A ++ B := by
 rcases h with h | h <;> rw [len0 h]
 · rw [List.nil_append]; exact order_id hB
 · rw [List.append_nil]; exact order_id hA
theorem sym_cut {Z1 A B Z3 : List Bx} {a m b mid s s0 r0 : Nat} (ha : a = Z1.length) (hm : m = Z1.length + A.length) (hb : b = Z1.length + A.length + B.length) (sA : SortedX A) (sB : SortedX B)
   (hs : (a ≤ s0 ∧ r0 ≤ m ∧ (s0 = a ∨ s0 + b = mid + m) ∧ (r0 = m ∨ r0 = mid) ∧ mid + m ≤ b + s0 ∧ r0 ≤ mid)) (hs1 : s0 ≤ s) (hs2 : s ≤ r0)
   (hlo : s = s0 ∨ (s0 < s ∧ ∃ x y, (Z1 ++ A ++ B ++ Z3)[s - 1]? = some x ∧ (Z1 ++ A ++ B ++ Z3)[mid + m - 1 - (s - 1)]? = some y ∧ before y x = false))
   (hhi : s = r0 ∨ (s < r0 ∧ ∃ x y, (Z1 ++ A ++ B ++ Z3)[s]? = some x ∧ (Z1 ++ A ++ B ++ Z3)[mid + m - 1 - s]? = some y ∧ before y x = true)) :
   ∃ A1 A2 B1 B2, A = A1 ++ A2 ∧ B = B1 ++ B2 ∧ A1.length = s - a ∧ B1.length = mid - s ∧ orderX (A1 ++ B1) ++ orderX (A2 ++ B2) = orderX (A ++ B) := by
 refine ⟨A.take (s - a), A.drop (s - a), B.take (mid - s), B.drop (mid - s), (List.take_append_drop ..).symm, (List.take_append_drop ..).symm, by rw [List.length_take]; omega, by rw [List.length_take]; omega, sym_rest sA sB (all_high sA sB ?_) (all_low sA sB ?_)⟩
 · rcases hhi with h | ⟨h, x, y, hx, hy, hbb⟩
   · rcases hs.2.2.2.1 with h2 | h2
     · exact .inl Tw.om
     · exact .inr (.inl Tw.om)
   · have h1 := zA hx Tw.om Tw.om
     have h2 := zB hy Tw.om Tw.om
     rw [show s - Z1.length = s - a by omega] at h1
     rw [show mid + m - 1 - s - (Z1.length + A.length) = mid - s - 1 by omega] at h2
     exact .inr (.inr ⟨x, y, h1, h2, hbb⟩)
 · rcases hlo with h | ⟨h, x, y, hx, hy, hbb⟩
   · rcases hs.2.2.1 with h2 | h2
     · exact .inl Tw.om
     · exact .inr (.inl Tw.om)
   · have h1 := zA hx Tw.om Tw.om
     have h2 := zB hy Tw.om Tw.om
     rw [show s - 1 - Z1.length = s - a - 1 by omega] at h1
     rw [show mid + m - 1 - (s - 1) - (Z1.length + A.length) = mid - s by omega] at h2
     exact .inr (.inr ⟨x, y, h1, h2, hbb⟩)
theorem one_sorted (x : Bx) : SortedX [x] := by unfold SortedX; simp
theorem one_cut {Z1 B Z3 : List Bx} {x : Bx} {a m b i : Nat} (ha : a = Z1.length) (hm : m = Z1.length + 1) (hb : b = Z1.length + 1 + B.length) (sB : SortedX B) (h1 : m ≤ i) (h2 : i ≤ b)
   (hlo : i = m ∨ (m < i ∧ ∃ z y, (Z1 ++ [x] ++ B ++ Z3)[a]? = some z ∧ (Z1 ++ [x] ++ B ++ Z3)[i - 1]? = some y ∧ before y z = true))
   (hhi : i = b ∨ (i < b ∧ ∃ z y, (Z1 ++ [x] ++ B ++ Z3)[a]? = some z ∧ (Z1 ++ [x] ++ B ++ Z3)[i]? = some y ∧ before y z = false)) :
   ShR Z1 B Z3 x (i - m) = Z1 ++ orderX ([x] ++ B) ++ Z3 := by
 refine sym_one sB (fun y hy => all_high (A := [x]) (B := B) (i := 0) (j := i - m) (one_sorted x) sB ?_ x (by simp) y hy) (fun y hy => all_low (A := [x]) (B := B) (i := 1) (j := i - m) (one_sorted x) sB ?_ x (by simp) y hy)
 · rcases hlo with h | ⟨h, z, y, hz, hy, hbb⟩
   · exact .inr (.inl Tw.om)
   · have k1 := zA hz Tw.om (by simp; omega)
     have k2 := zB hy (by simp; omega) (by simp; omega)
     rw [show a - Z1.length = 0 by omega] at k1
     rw [show i - 1 - (Z1.length + [x].length) = i - m - 1 by simp; omega] at k2
     exact .inr (.inr ⟨z, y, k1, k2, hbb⟩)
 · rcases hhi with h | ⟨h, z, y, hz, hy, hbb⟩
   · exact .inr (.inl Tw.om)
   · have k1 := zA hz Tw.om (by simp; omega)
     have k2 := zB hy (by simp; omega) (by simp; omega)
     rw [show a - Z1.length = 0 by omega] at k1
     rw [show i - (Z1.length + [x].length) = i - m by simp; omega] at k2
     exact .inr (.inr ⟨z, y, k1, k2, hbb⟩)
theorem last_cut {Z1 A Z3 : List Bx} {x : Bx} {a m i : Nat} (ha : a = Z1.length) (hm : m = Z1.length + A.length) (sA : SortedX A) (h1 : a ≤ i) (h2 : i ≤ m)
   (hlo : i = a ∨ (a < i ∧ ∃ z y, (Z1 ++ A ++ [x] ++ Z3)[i - 1]? = some z ∧ (Z1 ++ A ++ [x] ++ Z3)[m]? = some y ∧ before y z = false))
   (hhi : i = m ∨ (i < m ∧ ∃ z y, (Z1 ++ A ++ [x] ++ Z3)[i]? = some z ∧ (Z1 ++ A ++ [x] ++ Z3)[m]? = some y ∧ before y z = true)) :
   ShL Z1 A Z3 x (i - a) = Z1 ++ orderX (A ++ [x]) ++ Z3 := by
 refine sym_last sA (fun y hy => all_low (A := A) (B := [x]) (i := i - a) (j := 0) sA (one_sorted x) ?_ y hy x (by simp)) (fun y hy => all_high (A := A) (B := [x]) (i := i - a) (j := 1) sA (one_sorted x) ?_ y hy x (by simp))
 · rcases hlo with h | ⟨h, z, y, hz, hy, hbb⟩
   · exact .inl Tw.om
   · have k1 := zA hz Tw.om Tw.om
     have k2 := zB hy Tw.om (by simp; omega)
     rw [show i - 1 - Z1.length = i - a - 1 by omega] at k1
     rw [show m - (Z1.length + A.length) = 0 by omega] at k2
     exact .inr (.inr ⟨z, y, k1, k2, hbb⟩)
 · rcases hhi with h | ⟨h, z, y, hz, hy, hbb⟩
   · exact .inl Tw.om
   · have k1 := zA hz Tw.om Tw.om
     have k2 := zB hy Tw.om (by simp; omega)
     rw [show i - Z1.length = i - a by omega] at k1
     rw [show m - (Z1.length + A.length) = 0 by omega] at k2
     exact .inr (.inr ⟨z, y, k1, k2, hbb⟩)
end Go.Proofs.YtllmpemmknblaaaDoor
namespace Go.Proofs.YtllmpemmknblaaaDoor
open Go Go.RowKit Tw
def SymAt (W0 : Base) (K : List (Nat × Obj)) (g n cap d : Nat) : Prop := ∀ (cur : Array Value) (Z1 A B Z3 : List Bx) (_ : (Z1 ++ A ++ B ++ Z3).length = n) (_ : A.length + B.length ≤ d) (_ : 0 < A.length) (_ : 0 < B.length) (_ : SortedX A) (_ : SortedX B) (a m b : Nat) (_ : a = Z1.length) (_ : m = Z1.length + A.length) (_ : b = Z1.length + A.length + B.length) (_ : RowX cur (Z1 ++ A ++ B ++ Z3)) (w : World) (_ : KS W0 ((g, .cells cur 26 (0, 0)) :: K) w),
   Calls Tryd.prog 72 #[.slice (some ⟨g, 0, none⟩) n cap, .int .i64 ((a : Nat) : Int), .int .i64 ((m : Nat) : Int), .int .i64 ((b : Nat) : Int), .func (.func 48) #[] #[]] w fun e w' => ∃ v K', e = .returned v ∧ KS W0 K' w' ∧ (v = .tuple #[] ∧ ∃ cur', RowX cur' (Z1 ++ orderX (A ++ B) ++ Z3) ∧ cur'.size = cur.size ∧ K' = (g, .cells cur' 26 (0, 0)) :: K)
set_option maxRecDepth 100000 in
set_option maxHeartbeats 4000000 in
theorem sym_step {W0 : Base} {K : List (Nat × Obj)} {g n cap d : Nat} (hn2 : n ≤ 4000000000) (hB : W0.B ≤ g) (hg : ∀ q ∈ K, q.1 ≠ g) (IH : SymAt W0 K g n cap d) : SymAt W0 K g n cap (d + 1) := by
 intro cur Z1 A B Z3 hn hd hA0 hB0 sA sB a m b ha hm hb hr0 w hw
 have hlens : Z1.length + A.length + B.length + Z3.length = n := by rw [← hn]; simp only [List.length_append]
 obtain ⟨mid, hmid⟩ : ∃ mid, (a + b) / 2 = mid := ⟨_, rfl⟩
 go_enter Tryd.func72, Tryd.ntmps72
 refine wp_seq ?_
 refine wp_seq ?_
 refine wp_region_L (W0 := W0) ((g, .cells cur 26 (0, 0)) :: K) (hw) ?_
 refine lm (v := .int .i64 ((m : Nat) : Int)) rfl rfl ?_
 refine lm (v := .int .i64 ((a : Nat) : Int)) rfl rfl ?_
 refine lp (v := .int .i64 (((m - a) : Nat) : Int)) rfl rfl (run_bin rfl (vx := (.int .i64 ((m : Nat) : Int))) (vy := (.int .i64 ((a : Nat) : Int))) Tw.kr Tw.kr fun w => bn_sub (z := (m - a)) rfl Tw.om (wr_i64 Tw.om) w) ?_
 refine lp (v := .bool (decide ((m - a) = 1))) rfl rfl (run_bin rfl (vx := (.int .i64 (((m - a) : Nat) : Int))) (vy := (.int .i64 ((1 : Nat) : Int))) Tw.kr Tw.kr fun w => bn_eql rfl w) ?_
 refine wpL_done (fun W1 hW1 => ?_)
 change Code.wp ..
 cases hd1 : (decide ((m - a) = 1)) with
 | false =>
   have h1 : ¬ ((m - a) = 1) := of_decide_eq_false hd1
   clear hd1
   refine wp_cond_false rfl ?_
   refine wp_skip ?_
   change Code.wp ..
   refine wp_seq ?_
   refine wp_seq ?_
   refine wp_region_L (W0 := W0) ((g, .cells cur 26 (0, 0)) :: K) (hW1) ?_
   refine lm (v := .int .i64 ((b : Nat) : Int)) rfl rfl ?_
   refine lm (v := .int .i64 ((m : Nat) : Int)) rfl rfl ?_
   refine lp (v := .int .i64 (((b - m) : Nat) : Int)) rfl rfl (run_bin rfl (vx := (.int .i64 ((b : Nat) : Int))) (vy := (.int .i64 ((m : Nat) : Int))) Tw.kr Tw.kr fun w => bn_sub (z := (b - m)) rfl Tw.om (wr_i64 Tw.om) w) ?_
   refine lp (v := .bool (decide ((b - m) = 1))) rfl rfl (run_bin rfl (vx := (.int .i64 (((b - m) : Nat) : Int))) (vy := (.int .i64 ((1 : Nat) : Int))) Tw.kr Tw.kr fun w => bn_eql rfl w) ?_
   refine wpL_done (fun W2 hW2 => ?_)
   change Code.wp ..
   cases hd2 : (decide ((b - m) = 1)) with
   | false =>
     have h2 : ¬ ((b - m) = 1) := of_decide_eq_false hd2
     clear hd2
     refine wp_cond_false rfl ?_
     refine wp_skip ?_
     change Code.wp ..
     refine wp_seq ?_
     refine wp_region_L (W0 := W0) ((g, .cells cur 26 (0, 0)) :: K) (hW2) ?_
     refine lm (v := .int .i64 ((a : Nat) : Int)) rfl rfl ?_
     refine lm (v := .int .i64 ((b : Nat) : Int)) rfl rfl ?_
     refine lp (v := .int .i64 (((a + b) : Nat) : Int)) rfl rfl (run_bin rfl (vx := (.int .i64 ((a : Nat) : Int))) (vy := (.int .i64 ((b : Nat) : Int))) Tw.kr Tw.kr fun w => bn_add (z := (a + b)) rfl (wr_i64 Tw.om) w) ?_
     refine lp (v := .int .u64 (((a + b) : Nat) : Int)) rfl rfl (run_conv rfl (vx := (.int .i64 (((a + b) : Nat) : Int))) Tw.kr fun w => cv_int Tryd.underlying3 Tryd.underlying106 (wr_u64 Tw.om) w) ?_
     refine lp (v := .int .u64 ((mid : Nat) : Int)) rfl rfl (run_bin rfl (vx := (.int .u64 (((a + b) : Nat) : Int))) (vy := (.int .u64 ((1 : Nat) : Int))) Tw.kr Tw.kr fun w => bn_shr (z := mid) (show (a + b) / 2 ^ 1 = mid by omega) (by first | omega | decide | (simp only [IntKind.bits]; omega)) w) ?_
     refine lp (v := .int .i64 ((mid : Nat) : Int)) rfl rfl (run_conv rfl (vx := (.int .u64 ((mid : Nat) : Int))) Tw.kr fun w => cv_int Tryd.underlying106 Tryd.underlying3 (wr_i64 Tw.om) w) ?_
     refine lm (v := .int .i64 ((mid : Nat) : Int)) rfl rfl ?_
     refine wpL_done (fun W3 hW3 => ?_)
     change Code.wp ..
     refine wp_seq ?_
     refine wp_region_L (W0 := W0) ((g, .cells cur 26 (0, 0)) :: K) (hW3) ?_
     refine lm (v := .int .i64 ((mid : Nat) : Int)) rfl rfl ?_
     refine lm (v := .int .i64 ((m : Nat) : Int)) rfl rfl ?_
     refine lp (v := .int .i64 (((mid + m) : Nat) : Int)) rfl rfl (run_bin rfl (vx := (.int .i64 ((mid : Nat) : Int))) (vy := (.int .i64 ((m : Nat) : Int))) Tw.kr Tw.kr fun w => bn_add (z := (mid + m)) rfl (wr_i64 Tw.om) w) ?_
     refine lm (v := .int .i64 (((mid + m) : Nat) : Int)) rfl rfl ?_
     refine wpL_done (fun W4 hW4 => ?_)
     change Code.wp ..
     refine wp_seq ?_
     refine wp_region_L (W0 := W0) ((g, .cells cur 26 (0, 0)) :: K) (hW4) ?_
     refine lm (v := .int .i64 0) rfl rfl ?_
     refine lm (v := .int .i64 0) rfl rfl ?_
     refine wpL_done (fun W5 hW5 => ?_)
     change Code.wp ..
     refine wp_joins (fun az wz => ∃ (s0 r0 : Nat), (a ≤ s0 ∧ r0 ≤ m ∧ (s0 = a ∨ s0 + b = mid + m) ∧ (r0 = m ∨ r0 = mid) ∧ mid + m ≤ b + s0 ∧ r0 ≤ mid) ∧ (s0 ≤ r0) ∧ JoinR (fun zq => List.toArray ((.slice (some ⟨g, 0, none⟩) n cap) :: (.int .i64 ((a : Nat) : Int)) :: (.int .i64 ((m : Nat) : Int)) :: (.int .i64 ((b : Nat) : Int)) :: (.func (.func 48) #[] #[]) :: undef :: undef :: undef :: undef :: undef :: undef :: undef :: undef :: undef :: undef :: undef :: undef :: undef :: (.int .i64 ((mid : Nat) : Int)) :: (.int .i64 (((mid + m) : Nat) : Int)) :: (.int .i64 ((s0 : Nat) : Int)) :: (.int .i64 ((r0 : Nat) : Int)) :: undef :: undef :: undef :: (.int .i64 ((m : Nat) : Int)) :: (.int .i64 ((a : Nat) : Int)) :: (.int .i64 (((m - a) : Nat) : Int)) :: (.bool false) :: undef :: undef :: undef :: undef :: undef :: undef :: undef :: undef :: undef :: undef :: undef :: undef :: undef :: undef :: undef :: undef :: undef :: undef :: undef :: undef :: undef :: undef :: undef :: undef :: undef :: undef :: undef :: undef :: undef :: undef :: undef :: undef :: undef :: undef :: undef :: undef :: undef :: undef :: undef :: undef :: undef :: undef :: undef :: undef :: undef :: undef :: undef :: undef :: (.int .i64 ((b : Nat) : Int)) :: (.int .i64 ((m : Nat) : Int)) :: (.int .i64 (((b - m) : Nat) : Int)) :: (.bool false) :: undef :: undef :: undef :: undef :: undef :: undef :: undef :: undef :: undef :: undef :: undef :: undef :: undef :: undef :: undef :: undef :: undef :: undef :: undef :: undef :: undef :: undef :: undef :: undef :: undef :: undef :: undef :: undef :: undef :: undef :: undef :: undef :: undef :: undef :: undef :: undef :: undef :: undef :: undef :: undef :: undef :: undef :: undef :: undef :: undef :: undef :: undef :: undef :: (.int .i64 ((a : Nat) : Int)) :: (.int .i64 ((b : Nat) : Int)) :: (.int .i64 (((a + b) : Nat) : Int)) :: (.int .u64 (((a + b) : Nat) : Int)) :: (.int .u64 ((mid : Nat) : Int)) :: (.int .i64 ((mid : Nat) : Int)) :: (.int .i64 ((mid : Nat) : Int)) :: (.int .i64 ((m : Nat) : Int)) :: (.int .i64 (((mid + m) : Nat) : Int)) :: zq 138 :: zq 139 :: zq 140 :: zq 141 :: zq 142 :: zq 143 :: zq 144 :: zq 145 :: zq 146 :: undef :: undef :: undef :: undef :: undef :: undef :: undef :: undef :: undef :: undef :: undef :: undef :: undef :: undef :: undef :: undef :: undef :: undef :: undef :: undef :: undef :: undef :: undef :: undef :: undef :: undef :: undef :: undef :: undef :: undef :: undef :: undef :: undef :: undef :: undef :: undef :: undef :: undef :: undef :: undef :: undef :: undef :: undef :: undef :: undef :: undef :: undef :: undef :: undef :: undef :: undef :: undef :: undef :: undef :: undef :: undef :: undef :: undef :: undef :: undef :: undef :: undef :: undef :: undef :: undef :: undef :: undef :: undef :: undef :: undef :: undef :: undef :: undef :: [])) W0 ((g, .cells cur 26 (0, 0)) :: K) az wz) 1 ?_ ?_
     · change Code.wp ..
       refine wp_seq ?_
       refine wp_region_L (W0 := W0) ((g, .cells cur 26 (0, 0)) :: K) (hW5) ?_
       refine lm (v := .int .i64 ((m : Nat) : Int)) rfl rfl ?_
       refine lm (v := .int .i64 ((mid : Nat) : Int)) rfl rfl ?_
       refine lp (v := .bool (decide (mid < m))) rfl rfl (run_bin rfl (vx := (.int .i64 ((m : Nat) : Int))) (vy := (.int .i64 ((mid : Nat) : Int))) Tw.kr Tw.kr fun w => bn_gtr rfl w) ?_
       refine wpL_done (fun W6 hW6 => ?_)
       change Code.wp ..
       cases hd3 : (decide (mid < m)) with
       | false =>
         have h3 : ¬ (mid < m) := of_decide_eq_false hd3
         clear hd3
         refine wp_cond_false rfl ?_
         refine wp_seq ?_
         refine wp_region_L (W0 := W0) ((g, .cells cur 26 (0, 0)) :: K) (hW6) ?_
         refine lm (v := .int .i64 ((a : Nat) : Int)) rfl rfl ?_
         refine lm (v := .int .i64 ((a : Nat) : Int)) rfl rfl ?_
         refine wpL_done (fun W7 hW7 => ?_)
         change Code.wp ..
         refine wp_region_L (W0 := W0) ((g, .cells cur 26 (0, 0)) :: K) (hW7) ?_
         refine lm (v := .int .i64 ((m : Nat) : Int)) rfl rfl ?_
         refine lm (v := .int .i64 ((m : Nat) : Int)) rfl rfl ?_
         refine wpL_done (fun W8 hW8 => ?_)
         exact ⟨a, m, Tw.om, Tw.om, join_mk Tw.kr hW8⟩
       | true =>
         have h3 : mid < m := of_decide_eq_true hd3
         clear hd3
         refine wp_cond_true rfl ?_
         refine wp_seq ?_
         refine wp_region_L (W0 := W0) ((g, .cells cur 26 (0, 0)) :: K) (hW6) ?_
         refine lm (v := .int .i64 (((mid + m) : Nat) : Int)) rfl rfl ?_
         refine lm (v := .int .i64 ((b : Nat) : Int)) rfl rfl ?_
         refine lp (v := .int .i64 ((((mid + m) - b) : Nat) : Int)) rfl rfl (run_bin rfl (vx := (.int .i64 (((mid + m) : Nat) : Int))) (vy := (.int .i64 ((b : Nat) : Int))) Tw.kr Tw.kr fun w => bn_sub (z := ((mid + m) - b)) rfl Tw.om (wr_i64 Tw.om) w) ?_
         refine lm (v := .int .i64 ((((mid + m) - b) : Nat) : Int)) rfl rfl ?_
         refine wpL_done (fun W9 hW9 => ?_)
         change Code.wp ..
         refine wp_region_L (W0 := W0) ((g, .cells cur 26 (0, 0)) :: K) (hW9) ?_
         refine lm (v := .int .i64 ((mid : Nat) : Int)) rfl rfl ?_
         refine lm (v := .int .i64 ((mid : Nat) : Int)) rfl rfl ?_
         refine wpL_done (fun W10 hW10 => ?_)
         exact ⟨((mid + m) - b), mid, Tw.om, Tw.om, join_mk Tw.kr hW10⟩
     · rintro a1 W1j ⟨s0, r0, hs, hs0, ⟨zx1, rfl⟩, hW1j⟩
       dsimp only [cutT]
       refine wp_seq ?_
       refine wp_region_L (W0 := W0) ((g, .cells cur 26 (0, 0)) :: K) (hW1j) ?_
       refine lm (v := .int .i64 (((mid + m) : Nat) : Int)) rfl rfl ?_
       refine lp (v := .int .i64 ((((mid + m) - 1) : Nat) : Int)) rfl rfl (run_bin rfl (vx := (.int .i64 (((mid + m) : Nat) : Int))) (vy := (.int .i64 ((1 : Nat) : Int))) Tw.kr Tw.kr fun w => bn_sub (z := ((mid + m) - 1)) rfl Tw.om (wr_i64 Tw.om) w) ?_
       refine lm (v := .int .i64 ((((mid + m) - 1) : Nat) : Int)) rfl rfl ?_
       refine wpL_done (fun W11 hW11 => ?_)
       change Code.wp ..
       refine wp_seq ?_
       refine wp_block ?_
       go_loopw [20, 21] (fun u20 u21 wr => ∃ (s r : Nat), (s0 ≤ s ∧ s ≤ r ∧ r ≤ r0) ∧ (s = s0 ∨ (s0 < s ∧ ∃ z y, (Z1 ++ A ++ B ++ Z3)[s - 1]? = some z ∧ (Z1 ++ A ++ B ++ Z3)[mid + m - 1 - (s - 1)]? = some y ∧ before y z = false)) ∧ (r = r0 ∨ (r < r0 ∧ ∃ z y, (Z1 ++ A ++ B ++ Z3)[r]? = some z ∧ (Z1 ++ A ++ B ++ Z3)[mid + m - 1 - r]? = some y ∧ before y z = true)) ∧ u20 = .int .i64 ((s : Nat) : Int) ∧ u21 = .int .i64 ((r : Nat) : Int) ∧ KS W0 ((g, .cells cur 26 (0, 0)) :: K) wr) (fun u20 u21 _ => ((intOf u21).toNat - (intOf u20).toNat))
       case atStart => exact ⟨s0, r0, Tw.om, (.inl rfl), (.inl rfl), rfl, rfl, hW11⟩
       case round =>
         obtain ⟨s, r, hsr, hlo, hhi, rfl, rfl, hL12⟩ := hrel
         obtain ⟨c, hc⟩ : ∃ c, (s + r) / 2 = c := ⟨_, rfl⟩
         refine wp_seq ?_
         refine wp_seq ?_
         refine wp_region_L (W0 := W0) ((g, .cells cur 26 (0, 0)) :: K) (hL12) ?_
         refine lm (v := .int .i64 ((s : Nat) : Int)) rfl rfl ?_
         refine lm (v := .int .i64 ((r : Nat) : Int)) rfl rfl ?_
         refine lp (v := .bool (decide (s < r))) rfl rfl (run_bin rfl (vx := (.int .i64 ((s : Nat) : Int))) (vy := (.int .i64 ((r : Nat) : Int))) Tw.kr Tw.kr fun w => bn_lss rfl w) ?_
         refine wpL_done (fun W13 hW13 => ?_)
         change Code.wp ..
         cases hd4 : (decide (s < r)) with
         | false =>
           have h4 : ¬ (s < r) := of_decide_eq_false hd4
           clear hd4
           refine wp_cond_false rfl ?_
           refine wp_exit ?_
           change Code.wp ..
           refine wp_seq ?_
           refine wp_region_L (W0 := W0) ((g, .cells cur 26 (0, 0)) :: K) (hW13) ?_
           refine lm (v := .int .i64 (((mid + m) : Nat) : Int)) rfl rfl ?_
           refine lm (v := .int .i64 ((s : Nat) : Int)) rfl rfl ?_
           refine lp (v := .int .i64 ((((mid + m) - s) : Nat) : Int)) rfl rfl (run_bin rfl (vx := (.int .i64 (((mid + m) : Nat) : Int))) (vy := (.int .i64 ((s : Nat) : Int))) Tw.kr Tw.kr fun w => bn_sub (z := ((mid + m) - s)) rfl Tw.om (wr_i64 Tw.om) w) ?_
           refine lm (v := .int .i64 ((((mid + m) - s) : Nat) : Int)) rfl rfl ?_
           refine wpL_done (fun W14 hW14 => ?_)
           change Code.wp ..
           obtain ⟨A1, A2, B1, B2, hA12, hB12, hA1, hB1, hR⟩ := sym_cut (s := s) ha hm hb sA sB hs hsr.1 Tw.om hlo (have e : r = s := Tw.om; by rw [e] at hhi; exact hhi)
           have hlA := congrArg List.length hA12
           have hlB := congrArg List.length hB12
           simp only [List.length_append] at hlA hlB
           have sAA := sA
           rw [hA12] at sAA
           have sBB := sB
           rw [hB12] at sBB
           have hr4 : RowX cur ((Z1 ++ A1) ++ A2 ++ B1 ++ (B2 ++ Z3)) := by have h := hr0; rw [hA12, hB12] at h; simpa only [List.append_assoc] using h
           refine wp_joins (fun az wz => ∃ (cu4 : Array Value), (RowX cu4 ((Z1 ++ A1) ++ B1 ++ A2 ++ (B2 ++ Z3))) ∧ (cu4.size = cur.size) ∧ JoinR (fun zq => List.toArray ((.slice (some ⟨g, 0, none⟩) n cap) :: (.int .i64 ((a : Nat) : Int)) :: (.int .i64 ((m : Nat) : Int)) :: (.int .i64 ((b : Nat) : Int)) :: (.func (.func 48) #[] #[]) :: undef :: undef :: undef :: undef :: undef :: undef :: undef :: undef :: undef :: undef :: undef :: undef :: undef :: (.int .i64 ((mid : Nat) : Int)) :: (.int .i64 (((mid + m) : Nat) : Int)) :: (.int .i64 ((s : Nat) : Int)) :: (.int .i64 ((r : Nat) : Int)) :: (.int .i64 ((((mid + m) - 1) : Nat) : Int)) :: zq 23 :: (.int .i64 ((((mid + m) - s) : Nat) : Int)) :: (.int .i64 ((m : Nat) : Int)) :: (.int .i64 ((a : Nat) : Int)) :: (.int .i64 (((m - a) : Nat) : Int)) :: (.bool false) :: undef :: undef :: undef :: undef :: undef :: undef :: undef :: undef :: undef :: undef :: undef :: undef :: undef :: undef :: undef :: undef :: undef :: undef :: undef :: undef :: undef :: undef :: undef :: undef :: undef :: undef :: undef :: undef :: undef :: undef :: undef :: undef :: undef :: undef :: undef :: undef :: undef :: undef :: undef :: undef :: undef :: undef :: undef :: undef :: undef :: undef :: undef :: undef :: (.int .i64 ((b : Nat) : Int)) :: (.int .i64 ((m : Nat) : Int)) :: (.int .i64 (((b - m) : Nat) : Int)) :: (.bool false) :: undef :: undef :: undef :: undef :: undef :: undef :: undef :: undef :: undef :: undef :: undef :: undef :: undef :: undef :: undef :: undef :: undef :: undef :: undef :: undef :: undef :: undef :: undef :: undef :: undef :: undef :: undef :: undef :: undef :: undef :: undef :: undef :: undef :: undef :: undef :: undef :: undef :: undef :: undef :: undef :: undef :: undef :: undef :: undef :: undef :: undef :: undef :: undef :: (.int .i64 ((a : Nat) : Int)) :: (.int .i64 ((b : Nat) : Int)) :: (.int .i64 (((a + b) : Nat) : Int)) :: (.int .u64 (((a + b) : Nat) : Int)) :: (.int .u64 ((mid : Nat) : Int)) :: (.int .i64 ((mid : Nat) : Int)) :: (.int .i64 ((mid : Nat) : Int)) :: (.int .i64 ((m : Nat) : Int)) :: (.int .i64 (((mid + m) : Nat) : Int)) :: (zx1 138) :: (zx1 139) :: (zx1 140) :: (zx1 141) :: (zx1 142) :: (zx1 143) :: (zx1 144) :: (zx1 145) :: (zx1 146) :: (.int .i64 (((mid + m) : Nat) : Int)) :: (.int .i64 ((((mid + m) - 1) : Nat) : Int)) :: (.int .i64 ((s : Nat) : Int)) :: (.int .i64 ((r : Nat) : Int)) :: (.bool false) :: zq 152 :: zq 153 :: zq 154 :: zq 155 :: zq 156 :: zq 157 :: zq 158 :: zq 159 :: zq 160 :: zq 161 :: zq 162 :: zq 163 :: zq 164 :: zq 165 :: zq 166 :: zq 167 :: zq 168 :: zq 169 :: zq 170 :: zq 171 :: zq 172 :: zq 173 :: zq 174 :: (.int .i64 (((mid + m) : Nat) : Int)) :: (.int .i64 ((s : Nat) : Int)) :: (.int .i64 ((((mid + m) - s) : Nat) : Int)) :: zq 178 :: zq 179 :: zq 180 :: zq 181 :: zq 182 :: zq 183 :: zq 184 :: zq 185 :: zq 186 :: zq 187 :: zq 188 :: zq 189 :: zq 190 :: zq 191 :: undef :: undef :: undef :: undef :: undef :: undef :: undef :: undef :: undef :: undef :: undef :: undef :: undef :: undef :: undef :: undef :: undef :: undef :: undef :: undef :: undef :: undef :: undef :: undef :: undef :: undef :: undef :: undef :: [])) W0 ((g, .cells cu4 26 (0, 0)) :: K) az wz) 1 ?_ ?_
           · change Code.wp ..
             refine wp_seq ?_
             refine wp_region_L (W0 := W0) ((g, .cells cur 26 (0, 0)) :: K) (hW14) ?_
             refine lm (v := .int .i64 ((s : Nat) : Int)) rfl rfl ?_
             refine lm (v := .int .i64 ((m : Nat) : Int)) rfl rfl ?_
             refine lp (v := .bool (decide (s < m))) rfl rfl (run_bin rfl (vx := (.int .i64 ((s : Nat) : Int))) (vy := (.int .i64 ((m : Nat) : Int))) Tw.kr Tw.kr fun w => bn_lss rfl w) ?_
             refine lm (v := .bool (decide (s < m))) rfl rfl ?_
             cases hd5 : (decide (s < m)) with
             | false =>
               have h5 : ¬ (s < m) := of_decide_eq_false hd5
               clear hd5
               refine ln rfl ?_
               refine ln rfl ?_
               refine ln rfl ?_
               refine lm (v := .bool false) rfl rfl ?_
               refine wpL_done (fun W15 hW15 => ?_)
               change Code.wp ..
               refine wp_cond_false rfl ?_
               refine wp_skip ?_
               exact ⟨cur, (by rw [← rot_skip (Z1 ++ A1) (B2 ++ Z3) (A := A2) (B := B1) Tw.om]; exact hr4), rfl, join_mk Tw.kr hW15⟩
             | true =>
               have h5 : s < m := of_decide_eq_true hd5
               clear hd5
               refine lm (v := .int .i64 ((m : Nat) : Int)) rfl rfl ?_
               refine lm (v := .int .i64 ((((mid + m) - s) : Nat) : Int)) rfl rfl ?_
               refine lp (v := .bool (decide (m < ((mid + m) - s)))) rfl rfl (run_bin rfl (vx := (.int .i64 ((m : Nat) : Int))) (vy := (.int .i64 ((((mid + m) - s) : Nat) : Int))) Tw.kr Tw.kr fun w => bn_lss rfl w) ?_
               refine lm (v := .bool (decide (m < ((mid + m) - s)))) rfl rfl ?_
               refine wpL_done (fun W16 hW16 => ?_)
               change Code.wp ..
               cases hd6 : (decide (m < ((mid + m) - s))) with
               | false =>
                 have h6 : ¬ (m < ((mid + m) - s)) := of_decide_eq_false hd6
                 clear hd6
                 refine wp_cond_false rfl ?_
                 refine wp_skip ?_
                 exact ⟨cur, (by rw [← rot_skip (Z1 ++ A1) (B2 ++ Z3) (A := A2) (B := B1) Tw.om]; exact hr4), rfl, join_mk Tw.kr hW16⟩
               | true =>
                 have h6 : m < ((mid + m) - s) := of_decide_eq_true hd6
                 clear hd6
                 refine wp_cond_true rfl ?_
                 refine wp_region_L (W0 := W0) ((g, .cells cur 26 (0, 0)) :: K) (hW16) ?_
                 refine lm (v := .slice (some ⟨g, 0, none⟩) n cap) rfl rfl ?_
                 refine lm (v := .int .i64 ((s : Nat) : Int)) rfl rfl ?_
                 refine lm (v := .int .i64 ((m : Nat) : Int)) rfl rfl ?_
                 refine lm (v := .int .i64 ((((mid + m) - s) : Nat) : Int)) rfl rfl ?_
                 refine lm (v := .func (.func 48) #[] #[]) rfl rfl ?_
                 refine wpL_c (f := 78) (args := #[.slice (some ⟨g, 0, none⟩) n cap, .int .i64 ((s : Nat) : Int), .int .i64 ((m : Nat) : Int), .int .i64 ((((mid + m) - s) : Nat) : Int), .func (.func 48) #[] #[]]) (fun v K9 => v = .tuple #[] ∧ ∃ cur', RowX cur' ((Z1 ++ A1) ++ B1 ++ A2 ++ (B2 ++ Z3)) ∧ cur'.size = cur.size ∧ K9 = ((g, .cells cur' 26 (0, 0)) :: K)) rfl Tw.kr Tw.kf (fun W hW => rot_any (K := K) (cap := cap) (Z1 ++ A1) A2 B1 (B2 ++ Z3) (by first | omega | (simp only [List.length_append, order_len]; omega)) Tw.om s m ((mid + m) - s) (by first | omega | (simp only [List.length_append, order_len]; omega)) (by first | omega | (simp only [List.length_append, order_len]; omega)) (by first | omega | (simp only [List.length_append, order_len]; omega)) Tw.om Tw.om hr4 hB (fun q hq => (hg _ hq)) W (hW.sub (List.forall_mem_cons.2 ⟨Tw.m0, (fun p hp => (.tail _ hp))⟩))) Tw.pf ?_
                 rintro v K9 ⟨rfl, cu1, R1, Q1, rfl⟩
                 refine wpL_done (fun W17 hW17 => ?_)
                 exact ⟨cu1, R1, Tw.om, join_mk Tw.kr hW17⟩
           · rintro a2 W2j ⟨cu4, hr5, hz5, ⟨zx2, rfl⟩, hW2j⟩
             dsimp only [cutT]
             refine wp_joins (fun az wz => ∃ (cu5 : Array Value), (RowX cu5 ((Z1 ++ orderX (A1 ++ B1)) ++ A2 ++ B2 ++ Z3)) ∧ (cu5.size = cur.size) ∧ JoinR (fun zq => List.toArray ((.slice (some ⟨g, 0, none⟩) n cap) :: (.int .i64 ((a : Nat) : Int)) :: (.int .i64 ((m : Nat) : Int)) :: (.int .i64 ((b : Nat) : Int)) :: (.func (.func 48) #[] #[]) :: undef :: undef :: undef :: undef :: undef :: undef :: undef :: undef :: undef :: undef :: undef :: undef :: undef :: (.int .i64 ((mid : Nat) : Int)) :: (.int .i64 (((mid + m) : Nat) : Int)) :: (.int .i64 ((s : Nat) : Int)) :: (.int .i64 ((r : Nat) : Int)) :: (.int .i64 ((((mid + m) - 1) : Nat) : Int)) :: (zx2 23) :: (.int .i64 ((((mid + m) - s) : Nat) : Int)) :: (.int .i64 ((m : Nat) : Int)) :: (.int .i64 ((a : Nat) : Int)) :: (.int .i64 (((m - a) : Nat) : Int)) :: (.bool false) :: undef :: undef :: undef :: undef :: undef :: undef :: undef :: undef :: undef :: undef :: undef :: undef :: undef :: undef :: undef :: undef :: undef :: undef :: undef :: undef :: undef :: undef :: undef :: undef :: undef :: undef :: undef :: undef :: undef :: undef :: undef :: undef :: undef :: undef :: undef :: undef :: undef :: undef :: undef :: undef :: undef :: undef :: undef :: undef :: undef :: undef :: undef :: undef :: (.int .i64 ((b : Nat) : Int)) :: (.int .i64 ((m : Nat) : Int)) :: (.int .i64 (((b - m) : Nat) : Int)) :: (.bool false) :: undef :: undef :: undef :: undef :: undef :: undef :: undef :: undef :: undef :: undef :: undef :: undef :: undef :: undef :: undef :: undef :: undef :: undef :: undef :: undef :: undef :: undef :: undef :: undef :: undef :: undef :: undef :: undef :: undef :: undef :: undef :: undef :: undef :: undef :: undef :: undef :: undef :: undef :: undef :: undef :: undef :: undef :: undef :: undef :: undef :: undef :: undef :: undef :: (.int .i64 ((a : Nat) : Int)) :: (.int .i64 ((b : Nat) : Int)) :: (.int .i64 (((a + b) : Nat) : Int)) :: (.int .u64 (((a + b) : Nat) : Int)) :: (.int .u64 ((mid : Nat) : Int)) :: (.int .i64 ((mid : Nat) : Int)) :: (.int .i64 ((mid : Nat) : Int)) :: (.int .i64 ((m : Nat) : Int)) :: (.int .i64 (((mid + m) : Nat) : Int)) :: (zx1 138) :: (zx1 139) :: (zx1 140) :: (zx1 141) :: (zx1 142) :: (zx1 143) :: (zx1 144) :: (zx1 145) :: (zx1 146) :: (.int .i64 (((mid + m) : Nat) : Int)) :: (.int .i64 ((((mid + m) - 1) : Nat) : Int)) :: (.int .i64 ((s : Nat) : Int)) :: (.int .i64 ((r : Nat) : Int)) :: (.bool false) :: (zx2 152) :: (zx2 153) :: (zx2 154) :: (zx2 155) :: (zx2 156) :: (zx2 157) :: (zx2 158) :: (zx2 159) :: (zx2 160) :: (zx2 161) :: (zx2 162) :: (zx2 163) :: (zx2 164) :: (zx2 165) :: (zx2 166) :: (zx2 167) :: (zx2 168) :: (zx2 169) :: (zx2 170) :: (zx2 171) :: (zx2 172) :: (zx2 173) :: (zx2 174) :: (.int .i64 (((mid + m) : Nat) : Int)) :: (.int .i64 ((s : Nat) : Int)) :: (.int .i64 ((((mid + m) - s) : Nat) : Int)) :: (zx2 178) :: (zx2 179) :: (zx2 180) :: (zx2 181) :: (zx2 182) :: (zx2 183) :: (zx2 184) :: (zx2 185) :: (zx2 186) :: (zx2 187) :: (zx2 188) :: (zx2 189) :: (zx2 190) :: (zx2 191) :: zq 192 :: zq 193 :: zq 194 :: zq 195 :: zq 196 :: zq 197 :: zq 198 :: zq 199 :: zq 200 :: zq 201 :: zq 202 :: zq 203 :: zq 204 :: zq 205 :: undef :: undef :: undef :: undef :: undef :: undef :: undef :: undef :: undef :: undef :: undef :: undef :: undef :: undef :: [])) W0 ((g, .cells cu5 26 (0, 0)) :: K) az wz) 1 ?_ ?_
             · change Code.wp ..
               refine wp_seq ?_
               refine wp_region_L (W0 := W0) ((g, .cells cu4 26 (0, 0)) :: K) (hW2j) ?_
               refine lm (v := .int .i64 ((a : Nat) : Int)) rfl rfl ?_
               refine lm (v := .int .i64 ((s : Nat) : Int)) rfl rfl ?_
               refine lp (v := .bool (decide (a < s))) rfl rfl (run_bin rfl (vx := (.int .i64 ((a : Nat) : Int))) (vy := (.int .i64 ((s : Nat) : Int))) Tw.kr Tw.kr fun w => bn_lss rfl w) ?_
               refine lm (v := .bool (decide (a < s))) rfl rfl ?_
               cases hd7 : (decide (a < s)) with
               | false =>
                 have h7 : ¬ (a < s) := of_decide_eq_false hd7
                 clear hd7
                 refine ln rfl ?_
                 refine ln rfl ?_
                 refine ln rfl ?_
                 refine lm (v := .bool false) rfl rfl ?_
                 refine wpL_done (fun W18 hW18 => ?_)
                 change Code.wp ..
                 refine wp_cond_false rfl ?_
                 refine wp_skip ?_
                 exact ⟨cu4, (by rw [sym_skip (sorted_l sAA) (sorted_l sBB) Tw.om]; have h := hr5; simpa only [List.append_assoc] using h), hz5, join_mk Tw.kr hW18⟩
               | true =>
                 have h7 : a < s := of_decide_eq_true hd7
                 clear hd7
                 refine lm (v := .int .i64 ((s : Nat) : Int)) rfl rfl ?_
                 refine lm (v := .int .i64 ((mid : Nat) : Int)) rfl rfl ?_
                 refine lp (v := .bool (decide (s < mid))) rfl rfl (run_bin rfl (vx := (.int .i64 ((s : Nat) : Int))) (vy := (.int .i64 ((mid : Nat) : Int))) Tw.kr Tw.kr fun w => bn_lss rfl w) ?_
                 refine lm (v := .bool (decide (s < mid))) rfl rfl ?_
                 refine wpL_done (fun W19 hW19 => ?_)
                 change Code.wp ..
                 cases hd8 : (decide (s < mid)) with
                 | false =>
                   have h8 : ¬ (s < mid) := of_decide_eq_false hd8
                   clear hd8
                   refine wp_cond_false rfl ?_
                   refine wp_skip ?_
                   exact ⟨cu4, (by rw [sym_skip (sorted_l sAA) (sorted_l sBB) Tw.om]; have h := hr5; simpa only [List.append_assoc] using h), hz5, join_mk Tw.kr hW19⟩
                 | true =>
                   have h8 : s < mid := of_decide_eq_true hd8
                   clear hd8
                   refine wp_cond_true rfl ?_
                   refine wp_region_L (W0 := W0) ((g, .cells cu4 26 (0, 0)) :: K) (hW19) ?_
                   refine lm (v := .slice (some ⟨g, 0, none⟩) n cap) rfl rfl ?_
                   refine lm (v := .int .i64 ((a : Nat) : Int)) rfl rfl ?_
                   refine lm (v := .int .i64 ((s : Nat) : Int)) rfl rfl ?_
                   refine lm (v := .int .i64 ((mid : Nat) : Int)) rfl rfl ?_
                   refine lm (v := .func (.func 48) #[] #[]) rfl rfl ?_
                   refine wpL_c (f := 72) (args := #[.slice (some ⟨g, 0, none⟩) n cap, .int .i64 ((a : Nat) : Int), .int .i64 ((s : Nat) : Int), .int .i64 ((mid : Nat) : Int), .func (.func 48) #[] #[]]) (fun v K9 => v = .tuple #[] ∧ ∃ cur', RowX cur' (Z1 ++ orderX (A1 ++ B1) ++ (A2 ++ (B2 ++ Z3))) ∧ cur'.size = cu4.size ∧ K9 = ((g, .cells cur' 26 (0, 0)) :: K)) rfl Tw.kr Tw.kf (fun W hW => IH cu4 Z1 A1 B1 (A2 ++ (B2 ++ Z3)) (by first | omega | (simp only [List.length_append, order_len]; omega)) Tw.om Tw.om Tw.om (sorted_l sAA) (sorted_l sBB) a s mid (by first | omega | (simp only [List.length_append, order_len]; omega)) (by first | omega | (simp only [List.length_append, order_len]; omega)) (by first | omega | (simp only [List.length_append, order_len]; omega)) (by have h := hr5; simpa only [List.append_assoc] using h) W (hW.sub (List.forall_mem_cons.2 ⟨Tw.m0, (fun p hp => (.tail _ hp))⟩))) Tw.pf ?_
                   rintro v K9 ⟨rfl, cu2, R2, Q2, rfl⟩
                   refine wpL_done (fun W20 hW20 => ?_)
                   exact ⟨cu2, (by have h := R2; simpa only [List.append_assoc] using h), Tw.om, join_mk Tw.kr hW20⟩
             · rintro a3 W3j ⟨cu5, hr6, hz6, ⟨zx3, rfl⟩, hW3j⟩
               dsimp only [cutT]
               refine wp_seq ?_
               refine wp_region_L (W0 := W0) ((g, .cells cu5 26 (0, 0)) :: K) (hW3j) ?_
               refine lm (v := .int .i64 ((mid : Nat) : Int)) rfl rfl ?_
               refine lm (v := .int .i64 ((((mid + m) - s) : Nat) : Int)) rfl rfl ?_
               refine lp (v := .bool (decide (mid < ((mid + m) - s)))) rfl rfl (run_bin rfl (vx := (.int .i64 ((mid : Nat) : Int))) (vy := (.int .i64 ((((mid + m) - s) : Nat) : Int))) Tw.kr Tw.kr fun w => bn_lss rfl w) ?_
               refine lm (v := .bool (decide (mid < ((mid + m) - s)))) rfl rfl ?_
               cases hd9 : (decide (mid < ((mid + m) - s))) with
               | false =>
                 have h9 : ¬ (mid < ((mid + m) - s)) := of_decide_eq_false hd9
                 clear hd9
                 refine ln rfl ?_
                 refine ln rfl ?_
                 refine ln rfl ?_
                 refine lm (v := .bool false) rfl rfl ?_
                 refine wpL_done (fun W21 hW21 => ?_)
                 change Code.wp ..
                 refine wp_cond_false rfl ?_
                 refine wp_skip ?_
                 refine bodyPost_end (v := .tuple #[]) (results_none rfl _ _ _) rfl ?_
                 exact ⟨_, _, rfl, hW21.sub (List.forall_mem_cons.2 ⟨Tw.m0, fun p hp => (.tail _ hp)⟩), rfl, _, (by rw [← hR, sym_skip (sorted_r sAA) (sorted_r sBB) Tw.om]; have h := hr6; simpa only [List.append_assoc] using h), hz6, rfl⟩
               | true =>
                 have h9 : mid < ((mid + m) - s) := of_decide_eq_true hd9
                 clear hd9
                 refine lm (v := .int .i64 ((((mid + m) - s) : Nat) : Int)) rfl rfl ?_
                 refine lm (v := .int .i64 ((b : Nat) : Int)) rfl rfl ?_
                 refine lp (v := .bool (decide (((mid + m) - s) < b))) rfl rfl (run_bin rfl (vx := (.int .i64 ((((mid + m) - s) : Nat) : Int))) (vy := (.int .i64 ((b : Nat) : Int))) Tw.kr Tw.kr fun w => bn_lss rfl w) ?_
                 refine lm (v := .bool (decide (((mid + m) - s) < b))) rfl rfl ?_
                 refine wpL_done (fun W22 hW22 => ?_)
                 change Code.wp ..
                 cases hd10 : (decide (((mid + m) - s) < b)) with
                 | false =>
                   have h10 : ¬ (((mid + m) - s) < b) := of_decide_eq_false hd10
                   clear hd10
                   refine wp_cond_false rfl ?_
                   refine wp_skip ?_
                   refine bodyPost_end (v := .tuple #[]) (results_none rfl _ _ _) rfl ?_
                   exact ⟨_, _, rfl, hW22.sub (List.forall_mem_cons.2 ⟨Tw.m0, fun p hp => (.tail _ hp)⟩), rfl, _, (by rw [← hR, sym_skip (sorted_r sAA) (sorted_r sBB) Tw.om]; have h := hr6; simpa only [List.append_assoc] using h), hz6, rfl⟩
                 | true =>
                   have h10 : ((mid + m) - s) < b := of_decide_eq_true hd10
                   clear hd10
                   refine wp_cond_true rfl ?_
                   refine wp_region_L (W0 := W0) ((g, .cells cu5 26 (0, 0)) :: K) (hW22) ?_
                   refine lm (v := .slice (some ⟨g, 0, none⟩) n cap) rfl rfl ?_
                   refine lm (v := .int .i64 ((mid : Nat) : Int)) rfl rfl ?_
                   refine lm (v := .int .i64 ((((mid + m) - s) : Nat) : Int)) rfl rfl ?_
                   refine lm (v := .int .i64 ((b : Nat) : Int)) rfl rfl ?_
                   refine lm (v := .func (.func 48) #[] #[]) rfl rfl ?_
                   refine wpL_c (f := 72) (args := #[.slice (some ⟨g, 0, none⟩) n cap, .int .i64 ((mid : Nat) : Int), .int .i64 ((((mid + m) - s) : Nat) : Int), .int .i64 ((b : Nat) : Int), .func (.func 48) #[] #[]]) (fun v K9 => v = .tuple #[] ∧ ∃ cur', RowX cur' ((Z1 ++ orderX (A1 ++ B1)) ++ orderX (A2 ++ B2) ++ Z3) ∧ cur'.size = cu5.size ∧ K9 = ((g, .cells cur' 26 (0, 0)) :: K)) rfl Tw.kr Tw.kf (fun W hW => IH cu5 (Z1 ++ orderX (A1 ++ B1)) A2 B2 Z3 (by first | omega | (simp only [List.length_append, order_len]; omega)) Tw.om Tw.om Tw.om (sorted_r sAA) (sorted_r sBB) mid ((mid + m) - s) b (by first | omega | (simp only [List.length_append, order_len]; omega)) (by first | omega | (simp only [List.length_append, order_len]; omega)) (by first | omega | (simp only [List.length_append, order_len]; omega)) (by have h := hr6; simpa only [List.append_assoc] using h) W (hW.sub (List.forall_mem_cons.2 ⟨Tw.m0, (fun p hp => (.tail _ hp))⟩))) Tw.pf ?_
                   rintro v K9 ⟨rfl, cu3, R3, Q3, rfl⟩
                   refine wpL_done (fun W23 hW23 => ?_)
                   refine bodyPost_end (v := .tuple #[]) (results_none rfl _ _ _) rfl ?_
                   exact ⟨_, _, rfl, hW23.sub (List.forall_mem_cons.2 ⟨Tw.m0, fun p hp => (.tail _ hp)⟩), rfl, _, (by rw [← hR]; have h := R3; simpa only [List.append_assoc] using h), Tw.om, rfl⟩
         | true =>
           have h4 : s < r := of_decide_eq_true hd4
           clear hd4
           refine wp_cond_true rfl ?_
           refine wp_skip ?_
           change Code.wp ..
           refine wp_block ?_
           refine wp_seq ?_
           refine wp_region_L (W0 := W0) ((g, .cells cur 26 (0, 0)) :: K) (hW13) ?_
           refine lm (v := .int .i64 ((s : Nat) : Int)) rfl rfl ?_
           refine lm (v := .int .i64 ((r : Nat) : Int)) rfl rfl ?_
           refine lp (v := .int .i64 (((s + r) : Nat) : Int)) rfl rfl (run_bin rfl (vx := (.int .i64 ((s : Nat) : Int))) (vy := (.int .i64 ((r : Nat) : Int))) Tw.kr Tw.kr fun w => bn_add (z := (s + r)) rfl (wr_i64 Tw.om) w) ?_
           refine lp (v := .int .u64 (((s + r) : Nat) : Int)) rfl rfl (run_conv rfl (vx := (.int .i64 (((s + r) : Nat) : Int))) Tw.kr fun w => cv_int Tryd.underlying3 Tryd.underlying106 (wr_u64 Tw.om) w) ?_
           refine lp (v := .int .u64 ((c : Nat) : Int)) rfl rfl (run_bin rfl (vx := (.int .u64 (((s + r) : Nat) : Int))) (vy := (.int .u64 ((1 : Nat) : Int))) Tw.kr Tw.kr fun w => bn_shr (z := c) (show (s + r) / 2 ^ 1 = c by omega) (by first | omega | decide | (simp only [IntKind.bits]; omega)) w) ?_
           refine lp (v := .int .i64 ((c : Nat) : Int)) rfl rfl (run_conv rfl (vx := (.int .u64 ((c : Nat) : Int))) Tw.kr fun w => cv_int Tryd.underlying106 Tryd.underlying3 (wr_i64 Tw.om) w) ?_
           refine lm (v := .int .i64 ((c : Nat) : Int)) rfl rfl ?_
           refine wpL_done (fun W24 hW24 => ?_)
           change Code.wp ..
           refine wp_seq ?_
           refine wp_region_V (W0 := W0) ((g, .cells cur 26 (0, 0)) :: K) Tw.kr (hW24) ?_
           refine vm (i := 0) (v := .func (.func 48) #[] #[]) rfl rfl rfl ?_
           refine vm (i := 1) (v := .slice (some ⟨g, 0, none⟩) n cap) rfl rfl rfl ?_
           refine vm (i := 2) (v := .int .i64 ((((mid + m) - 1) : Nat) : Int)) rfl rfl rfl ?_
           refine vm (i := 3) (v := .int .i64 ((c : Nat) : Int)) rfl rfl rfl ?_
           refine vp (i := 4) (v := .int .i64 (((((mid + m) - 1) - c) : Nat) : Int)) rfl rfl rfl (run_bin rfl (vx := (.int .i64 ((((mid + m) - 1) : Nat) : Int))) (vy := (.int .i64 ((c : Nat) : Int))) Tw.kr Tw.kr fun w => bn_sub (z := (((mid + m) - 1) - c)) rfl Tw.om (wr_i64 Tw.om) w) ?_
           refine vp (i := 5) (v := .pointer (some ⟨g, 0 + (((mid + m) - 1) - c) * 9, none⟩)) rfl rfl rfl (run_idxL (j := .i64) (n := n) (cap := cap) (b := g) (off := 0) (k := (((mid + m) - 1) - c)) (sz := 9) rfl Tryd.underlying22 Tw.kr Tw.kr Tw.kr Tw.om) ?_
           obtain ⟨b4, hy4⟩ : ∃ bz, ((Z1 ++ A ++ B ++ Z3) : List Bx)[(((mid + m) - 1) - c)]? = some bz := ⟨_, List.getElem?_eq_getElem (by first | omega | (simp only [List.length_set]; omega))⟩
           refine vv (i := 6) (v := bxV b4) rfl rfl rfl (yb_cells (off := 0 + (((mid + m) - 1) - c) * 9) (cur := cur) (cs := (bxC b4).toList) rfl Tw.kr Tw.m0 (RowX.get hr0 hy4) Tryd.underlying26 rfl Tw.kr) ?_
           refine vm (i := 7) (v := .slice (some ⟨g, 0, none⟩) n cap) rfl rfl rfl ?_
           refine vm (i := 8) (v := .int .i64 ((c : Nat) : Int)) rfl rfl rfl ?_
           refine vp (i := 9) (v := .pointer (some ⟨g, 0 + c * 9, none⟩)) rfl rfl rfl (run_idxL (j := .i64) (n := n) (cap := cap) (b := g) (off := 0) (k := c) (sz := 9) rfl Tryd.underlying22 Tw.kr Tw.kr Tw.kr Tw.om) ?_
           obtain ⟨b5, hy5⟩ : ∃ bz, ((Z1 ++ A ++ B ++ Z3) : List Bx)[c]? = some bz := ⟨_, List.getElem?_eq_getElem (by first | omega | (simp only [List.length_set]; omega))⟩
           refine vv (i := 10) (v := bxV b5) rfl rfl rfl (yb_cells (off := 0 + c * 9) (cur := cur) (cs := (bxC b5).toList) rfl Tw.kr Tw.m0 (RowX.get hr0 hy5) Tryd.underlying26 rfl Tw.kr) ?_
           refine vv (i := 11) (v := .int .i64 (cmpX b4 b5)) rfl rfl rfl (yb_call (f := 48) (args := #[bxV b4, bxV b5]) Tw.kf fun W hW => compare_any b4 b5 W) ?_
           refine vp (i := 12) (v := .bool (decide ((cmpX b4 b5) < 0))) rfl rfl rfl (run_bin rfl (vx := (.int .i64 (cmpX b4 b5))) (vy := (.int .i64 0)) Tw.kr Tw.kr fun w => bi_lss rfl w) ?_
           refine vp (i := 13) (v := .bool (!(decide ((cmpX b4 b5) < 0)))) rfl rfl rfl (run_un rfl Tw.kr fun w => un_not w) ?_
           refine wpV_done Tw.kr (fun W25 hW25 => ?_) _
           change Code.wp ..
           cases hd11 : (decide ((cmpX b4 b5) < 0)) with
           | false =>
             have h11 : ¬ ((cmpX b4 b5) < 0) := of_decide_eq_false hd11
             clear hd11
             refine wp_cond_true rfl ?_
             refine wp_region_L (W0 := W0) ((g, .cells cur 26 (0, 0)) :: K) (hW25) ?_
             refine lm (v := .int .i64 ((c : Nat) : Int)) rfl rfl ?_
             refine lp (v := .int .i64 (((c + 1) : Nat) : Int)) rfl rfl (run_bin rfl (vx := (.int .i64 ((c : Nat) : Int))) (vy := (.int .i64 ((1 : Nat) : Int))) Tw.kr Tw.kr fun w => bn_add (z := (c + 1)) rfl (wr_i64 Tw.om) w) ?_
             refine lm (v := .int .i64 (((c + 1) : Nat) : Int)) rfl rfl ?_
             refine wpL_done (fun W26 hW26 => ?_)
             go_roundw
             case rel =>
               repeat apply Exists.intro
               exact ⟨⟨c + 1, r, Tw.om, (.inr ⟨by omega, _, _, by rw [Nat.add_sub_cancel]; exact hy5, by rw [Nat.add_sub_cancel]; exact hy4, cmpX_no h11⟩), hhi, rfl, rfl, hW26⟩, rfl⟩
             case measure => (show ((intOf (.int .i64 ((r : Nat) : Int))).toNat - (intOf (.int .i64 (((c + 1) : Nat) : Int))).toNat) < ((intOf (.int .i64 ((r : Nat) : Int))).toNat - (intOf (.int .i64 ((s : Nat) : Int))).toNat)); simp only [intOf]; omega
           | true =>
             have h11 : (cmpX b4 b5) < 0 := of_decide_eq_true hd11
             clear hd11
             refine wp_cond_false rfl ?_
             refine wp_region_L (W0 := W0) ((g, .cells cur 26 (0, 0)) :: K) (hW25) ?_
             refine lm (v := .int .i64 ((c : Nat) : Int)) rfl rfl ?_
             refine lm (v := .int .i64 ((c : Nat) : Int)) rfl rfl ?_
             refine wpL_done (fun W27 hW27 => ?_)
             go_roundw
             case rel =>
               repeat apply Exists.intro
               exact ⟨⟨s, c, Tw.om, hlo, (.inr ⟨by omega, _, _, hy5, hy4, cmpX_yes h11⟩), rfl, rfl, hW27⟩, rfl⟩
             case measure => (show ((intOf (.int .i64 ((c : Nat) : Int))).toNat - (intOf (.int .i64 ((s : Nat) : Int))).toNat) < ((intOf (.int .i64 ((r : Nat) : Int))).toNat - (intOf (.int .i64 ((s : Nat) : Int))).toNat)); simp only [intOf]; omega
   | true =>
     have h2 : (b - m) = 1 := of_decide_eq_true hd2
     clear hd2
     obtain ⟨x, rfl⟩ := one_of (show B.length = 1 by omega)
     simp only [List.length_cons, List.length_nil, Nat.zero_add] at hm hb hlens hd
     refine wp_cond_true rfl ?_
     refine wp_seq ?_
     refine wp_region_L (W0 := W0) ((g, .cells cur 26 (0, 0)) :: K) (hW2) ?_
     refine lm (v := .int .i64 ((a : Nat) : Int)) rfl rfl ?_
     refine lm (v := .int .i64 ((a : Nat) : Int)) rfl rfl ?_
     refine wpL_done (fun W28 hW28 => ?_)
     change Code.wp ..
     refine wp_seq ?_
     refine wp_region_L (W0 := W0) ((g, .cells cur 26 (0, 0)) :: K) (hW28) ?_
     refine lm (v := .int .i64 ((m : Nat) : Int)) rfl rfl ?_
     refine lm (v := .int .i64 ((m : Nat) : Int)) rfl rfl ?_
     refine wpL_done (fun W29 hW29 => ?_)
     change Code.wp ..
     refine wp_seq ?_
     refine wp_block ?_
     go_loopw [14, 15] (fun u14 u15 wr => ∃ (i j : Nat), (a ≤ i ∧ i ≤ j ∧ j ≤ m) ∧ (i = a ∨ (a < i ∧ ∃ z y, (Z1 ++ A ++ [x] ++ Z3)[i - 1]? = some z ∧ (Z1 ++ A ++ [x] ++ Z3)[m]? = some y ∧ before y z = false)) ∧ (j = m ∨ (j < m ∧ ∃ z y, (Z1 ++ A ++ [x] ++ Z3)[j]? = some z ∧ (Z1 ++ A ++ [x] ++ Z3)[m]? = some y ∧ before y z = true)) ∧ u14 = .int .i64 ((i : Nat) : Int) ∧ u15 = .int .i64 ((j : Nat) : Int) ∧ KS W0 ((g, .cells cur 26 (0, 0)) :: K) wr) (fun u14 u15 _ => ((intOf u15).toNat - (intOf u14).toNat))
     case atStart => exact ⟨a, m, Tw.om, (.inl rfl), (.inl rfl), rfl, rfl, hW29⟩
     case round =>
       obtain ⟨i, j, hij, hlo, hhi, rfl, rfl, hL30⟩ := hrel
       obtain ⟨c, hc⟩ : ∃ c, (i + j) / 2 = c := ⟨_, rfl⟩
       refine wp_seq ?_
       refine wp_seq ?_
       refine wp_region_L (W0 := W0) ((g, .cells cur 26 (0, 0)) :: K) (hL30) ?_
       refine lm (v := .int .i64 ((i : Nat) : Int)) rfl rfl ?_
       refine lm (v := .int .i64 ((j : Nat) : Int)) rfl rfl ?_
       refine lp (v := .bool (decide (i < j))) rfl rfl (run_bin rfl (vx := (.int .i64 ((i : Nat) : Int))) (vy := (.int .i64 ((j : Nat) : Int))) Tw.kr Tw.kr fun w => bn_lss rfl w) ?_
       refine wpL_done (fun W31 hW31 => ?_)
       change Code.wp ..
       cases hd12 : (decide (i < j)) with
       | false =>
         have h12 : ¬ (i < j) := of_decide_eq_false hd12
         clear hd12
         refine wp_cond_false rfl ?_
         refine wp_exit ?_
         change Code.wp ..
         refine wp_seq ?_
         refine wp_seq ?_
         refine wp_region_L (W0 := W0) ((g, .cells cur 26 (0, 0)) :: K) (hW31) ?_
         refine lm (v := .int .i64 ((m : Nat) : Int)) rfl rfl ?_
         refine lm (v := .int .i64 ((m : Nat) : Int)) rfl rfl ?_
         refine wpL_done (fun W32 hW32 => ?_)
         change Code.wp ..
         refine wp_block ?_
         have hcut := last_cut (x := x) (i := i) ha hm sA Tw.om Tw.om hlo (have e : j = i := Tw.om; by rw [e] at hhi; exact hhi)
         go_loopw [17] (fun u17 wr => ∃ (c1 : Nat) (cur1 : Array Value), (i ≤ c1 ∧ c1 ≤ m) ∧ (RowX cur1 (ShL Z1 A Z3 x (c1 - a))) ∧ (cur1.size = cur.size) ∧ u17 = .int .i64 ((c1 : Nat) : Int) ∧ KS W0 ((g, .cells cur1 26 (0, 0)) :: K) wr) (fun u17 _ => (intOf u17).toNat)
         case atStart => exact ⟨m, cur, Tw.om, (by rw [show m - a = A.length by omega, shL_full]; exact hr0), rfl, rfl, hW32⟩
         case round =>
           obtain ⟨c1, cur1, hc1, hr1, hz, rfl, hL33⟩ := hrel
           have hl2 : (ShL Z1 A Z3 x (c1 - a)).length = n := (shL_len ..).trans hn
           refine wp_seq ?_
           refine wp_seq ?_
           refine wp_region_L (W0 := W0) ((g, .cells cur1 26 (0, 0)) :: K) (hL33) ?_
           refine lm (v := .int .i64 ((c1 : Nat) : Int)) rfl rfl ?_
           refine lm (v := .int .i64 ((i : Nat) : Int)) rfl rfl ?_
           refine lp (v := .bool (decide (i < c1))) rfl rfl (run_bin rfl (vx := (.int .i64 ((c1 : Nat) : Int))) (vy := (.int .i64 ((i : Nat) : Int))) Tw.kr Tw.kr fun w => bn_gtr rfl w) ?_
           refine wpL_done (fun W34 hW34 => ?_)
           change Code.wp ..
           cases hd13 : (decide (i < c1)) with
           | false =>
             have h13 : ¬ (i < c1) := of_decide_eq_false hd13
             clear hd13
             refine wp_cond_false rfl ?_
             refine wp_exit ?_
             change Code.wp ..
             refine wp_ret ?_
             try simp only [inBlock_ret, then_ret]
             refine bodyPost_ret (v := .tuple #[]) ?_ rfl ?_
             · kernel_rfl
             exact ⟨_, _, rfl, hW34.sub (List.forall_mem_cons.2 ⟨Tw.m0, fun p hp => (.tail _ hp)⟩), rfl, _, (by rw [← hcut, show i - a = c1 - a by omega]; exact hr1), hz, rfl⟩
           | true =>
             have h13 : i < c1 := of_decide_eq_true hd13
             clear hd13
             refine wp_cond_true rfl ?_
             refine wp_skip ?_
             change Code.wp ..
             refine wp_seq ?_
             refine wp_block ?_
             refine wp_region_V (W0 := W0) ((g, .cells cur1 26 (0, 0)) :: K) Tw.kr (hW34) ?_
             refine vm (i := 0) (v := .slice (some ⟨g, 0, none⟩) n cap) rfl rfl rfl ?_
             refine vm (i := 1) (v := .int .i64 ((c1 : Nat) : Int)) rfl rfl rfl ?_
             refine vm (i := 2) (v := .slice (some ⟨g, 0, none⟩) n cap) rfl rfl rfl ?_
             refine vm (i := 3) (v := .int .i64 ((c1 : Nat) : Int)) rfl rfl rfl ?_
             refine vp (i := 4) (v := .int .i64 (((c1 - 1) : Nat) : Int)) rfl rfl rfl (run_bin rfl (vx := (.int .i64 ((c1 : Nat) : Int))) (vy := (.int .i64 ((1 : Nat) : Int))) Tw.kr Tw.kr fun w => bn_sub (z := (c1 - 1)) rfl Tw.om (wr_i64 Tw.om) w) ?_
             refine vm (i := 5) (v := .slice (some ⟨g, 0, none⟩) n cap) rfl rfl rfl ?_
             refine vm (i := 6) (v := .int .i64 ((c1 : Nat) : Int)) rfl rfl rfl ?_
             refine vp (i := 7) (v := .int .i64 (((c1 - 1) : Nat) : Int)) rfl rfl rfl (run_bin rfl (vx := (.int .i64 ((c1 : Nat) : Int))) (vy := (.int .i64 ((1 : Nat) : Int))) Tw.kr Tw.kr fun w => bn_sub (z := (c1 - 1)) rfl Tw.om (wr_i64 Tw.om) w) ?_
             refine vp (i := 8) (v := .pointer (some ⟨g, 0 + (c1 - 1) * 9, none⟩)) rfl rfl rfl (run_idxL (j := .i64) (n := n) (cap := cap) (b := g) (off := 0) (k := (c1 - 1)) (sz := 9) rfl Tryd.underlying22 Tw.kr Tw.kr Tw.kr Tw.om) ?_
             obtain ⟨b6, hy6⟩ : ∃ bz, ((ShL Z1 A Z3 x (c1 - a)) : List Bx)[(c1 - 1)]? = some bz := ⟨_, List.getElem?_eq_getElem (by first | omega | (simp only [List.length_set]; omega))⟩
             refine vv (i := 9) (v := bxV b6) rfl rfl rfl (yb_cells (off := 0 + (c1 - 1) * 9) (cur := cur1) (cs := (bxC b6).toList) rfl Tw.kr Tw.m0 (RowX.get hr1 hy6) Tryd.underlying26 rfl Tw.kr) ?_
             refine vm (i := 10) (v := .slice (some ⟨g, 0, none⟩) n cap) rfl rfl rfl ?_
             refine vm (i := 11) (v := .int .i64 ((c1 : Nat) : Int)) rfl rfl rfl ?_
             refine vp (i := 12) (v := .pointer (some ⟨g, 0 + c1 * 9, none⟩)) rfl rfl rfl (run_idxL (j := .i64) (n := n) (cap := cap) (b := g) (off := 0) (k := c1) (sz := 9) rfl Tryd.underlying22 Tw.kr Tw.kr Tw.kr Tw.om) ?_
             obtain ⟨b7, hy7⟩ : ∃ bz, ((ShL Z1 A Z3 x (c1 - a)) : List Bx)[c1]? = some bz := ⟨_, List.getElem?_eq_getElem (by first | omega | (simp only [List.length_set]; omega))⟩
             refine vv (i := 13) (v := bxV b7) rfl rfl rfl (yb_cells (off := 0 + c1 * 9) (cur := cur1) (cs := (bxC b7).toList) rfl Tw.kr Tw.m0 (RowX.get hr1 hy7) Tryd.underlying26 rfl Tw.kr) ?_
             refine vp (i := 14) (v := .pointer (some ⟨g, 0 + c1 * 9, none⟩)) rfl rfl rfl (run_idxL (j := .i64) (n := n) (cap := cap) (b := g) (off := 0) (k := c1) (sz := 9) rfl Tryd.underlying22 Tw.kr Tw.kr Tw.kr Tw.om) ?_
             have R8 := RowX.put (b := b6) hr1 (show c1 < (ShL Z1 A Z3 x (c1 - a)).length by first | omega | (simp only [List.length_set]; omega))
             have Q8 := put_size (b := b6) hr1 (show c1 < (ShL Z1 A Z3 x (c1 - a)).length by first | omega | (simp only [List.length_set]; omega))
             refine wpV_s ((g, .cells (putR cur1 c1 b6) 26 (0, 0)) :: K) (i := 15) rfl Tw.kr rfl rfl rfl (st_rec (k := c1) (b := b6) rfl Tw.kr Tw.kr Tw.m0 hB Tw.kr hr1 (by first | omega | (simp only [List.length_set]; omega)) (List.forall_mem_cons.2 ⟨.inl rfl, (fun p hp => .inr ⟨(.tail _ hp), (hg _ hp)⟩)⟩)) ?_
             refine vp (i := 16) (v := .pointer (some ⟨g, 0 + (c1 - 1) * 9, none⟩)) rfl rfl rfl (run_idxL (j := .i64) (n := n) (cap := cap) (b := g) (off := 0) (k := (c1 - 1)) (sz := 9) rfl Tryd.underlying22 Tw.kr Tw.kr Tw.kr Tw.om) ?_
             have R9 := RowX.put (b := b7) R8 (show (c1 - 1) < ((ShL Z1 A Z3 x (c1 - a)).set c1 b6).length by first | omega | (simp only [List.length_set]; omega))
             have Q9 := put_size (b := b7) R8 (show (c1 - 1) < ((ShL Z1 A Z3 x (c1 - a)).set c1 b6).length by first | omega | (simp only [List.length_set]; omega))
             refine wpV_s ((g, .cells (putR (putR cur1 c1 b6) (c1 - 1) b7) 26 (0, 0)) :: K) (i := 17) rfl Tw.kr rfl rfl rfl (st_rec (k := (c1 - 1)) (b := b7) rfl Tw.kr Tw.kr Tw.m0 hB Tw.kr R8 (by first | omega | (simp only [List.length_set]; omega)) (List.forall_mem_cons.2 ⟨.inl rfl, (fun p hp => .inr ⟨(.tail _ hp), (hg _ hp)⟩)⟩)) ?_
             refine wpV_done Tw.kr (fun W35 hW35 => ?_) _
             change Code.wp ..
             refine wp_region_L (W0 := W0) ((g, .cells (putR (putR cur1 c1 b6) (c1 - 1) b7) 26 (0, 0)) :: K) (hW35) ?_
             refine lm (v := .int .i64 ((c1 : Nat) : Int)) rfl rfl ?_
             refine lp (v := .int .i64 (((c1 - 1) : Nat) : Int)) rfl rfl (run_bin rfl (vx := (.int .i64 ((c1 : Nat) : Int))) (vy := (.int .i64 ((1 : Nat) : Int))) Tw.kr Tw.kr fun w => bn_sub (z := (c1 - 1)) rfl Tw.om (wr_i64 Tw.om) w) ?_
             refine lm (v := .int .i64 (((c1 - 1) : Nat) : Int)) rfl rfl ?_
             refine wpL_done (fun W36 hW36 => ?_)
             have hstep := shL_step (k := c1 - a) (c := c1) Tw.om Tw.om Tw.om hy7 hy6
             go_roundw
             case rel =>
               repeat apply Exists.intro
               exact ⟨⟨c1 - 1, (putR (putR cur1 c1 b6) (c1 - 1) b7), Tw.om, (by have h := R9; rw [hstep, show c1 - a - 1 = c1 - 1 - a by omega] at h; exact h), Tw.om, rfl, hW36⟩, rfl⟩
             case measure => (show (intOf (.int .i64 (((c1 - 1) : Nat) : Int))).toNat < (intOf (.int .i64 ((c1 : Nat) : Int))).toNat); simp only [intOf]; omega
       | true =>
         have h12 : i < j := of_decide_eq_true hd12
         clear hd12
         refine wp_cond_true rfl ?_
         refine wp_skip ?_
         change Code.wp ..
         refine wp_block ?_
         refine wp_seq ?_
         refine wp_region_L (W0 := W0) ((g, .cells cur 26 (0, 0)) :: K) (hW31) ?_
         refine lm (v := .int .i64 ((i : Nat) : Int)) rfl rfl ?_
         refine lm (v := .int .i64 ((j : Nat) : Int)) rfl rfl ?_
         refine lp (v := .int .i64 (((i + j) : Nat) : Int)) rfl rfl (run_bin rfl (vx := (.int .i64 ((i : Nat) : Int))) (vy := (.int .i64 ((j : Nat) : Int))) Tw.kr Tw.kr fun w => bn_add (z := (i + j)) rfl (wr_i64 Tw.om) w) ?_
         refine lp (v := .int .u64 (((i + j) : Nat) : Int)) rfl rfl (run_conv rfl (vx := (.int .i64 (((i + j) : Nat) : Int))) Tw.kr fun w => cv_int Tryd.underlying3 Tryd.underlying106 (wr_u64 Tw.om) w) ?_
         refine lp (v := .int .u64 ((c : Nat) : Int)) rfl rfl (run_bin rfl (vx := (.int .u64 (((i + j) : Nat) : Int))) (vy := (.int .u64 ((1 : Nat) : Int))) Tw.kr Tw.kr fun w => bn_shr (z := c) (show (i + j) / 2 ^ 1 = c by omega) (by first | omega | decide | (simp only [IntKind.bits]; omega)) w) ?_
         refine lp (v := .int .i64 ((c : Nat) : Int)) rfl rfl (run_conv rfl (vx := (.int .u64 ((c : Nat) : Int))) Tw.kr fun w => cv_int Tryd.underlying106 Tryd.underlying3 (wr_i64 Tw.om) w) ?_
         refine lm (v := .int .i64 ((c : Nat) : Int)) rfl rfl ?_
         refine wpL_done (fun W37 hW37 => ?_)
         change Code.wp ..
         refine wp_seq ?_
         refine wp_region_V (W0 := W0) ((g, .cells cur 26 (0, 0)) :: K) Tw.kr (hW37) ?_
         refine vm (i := 0) (v := .func (.func 48) #[] #[]) rfl rfl rfl ?_
         refine vm (i := 1) (v := .slice (some ⟨g, 0, none⟩) n cap) rfl rfl rfl ?_
         refine vm (i := 2) (v := .int .i64 ((m : Nat) : Int)) rfl rfl rfl ?_
         refine vp (i := 3) (v := .pointer (some ⟨g, 0 + m * 9, none⟩)) rfl rfl rfl (run_idxL (j := .i64) (n := n) (cap := cap) (b := g) (off := 0) (k := m) (sz := 9) rfl Tryd.underlying22 Tw.kr Tw.kr Tw.kr Tw.om) ?_
         obtain ⟨b10, hy10⟩ : ∃ bz, ((Z1 ++ A ++ [x] ++ Z3) : List Bx)[m]? = some bz := ⟨_, List.getElem?_eq_getElem (by first | omega | (simp only [List.length_set]; omega))⟩
         refine vv (i := 4) (v := bxV b10) rfl rfl rfl (yb_cells (off := 0 + m * 9) (cur := cur) (cs := (bxC b10).toList) rfl Tw.kr Tw.m0 (RowX.get hr0 hy10) Tryd.underlying26 rfl Tw.kr) ?_
         refine vm (i := 5) (v := .slice (some ⟨g, 0, none⟩) n cap) rfl rfl rfl ?_
         refine vm (i := 6) (v := .int .i64 ((c : Nat) : Int)) rfl rfl rfl ?_
         refine vp (i := 7) (v := .pointer (some ⟨g, 0 + c * 9, none⟩)) rfl rfl rfl (run_idxL (j := .i64) (n := n) (cap := cap) (b := g) (off := 0) (k := c) (sz := 9) rfl Tryd.underlying22 Tw.kr Tw.kr Tw.kr Tw.om) ?_
         obtain ⟨b11, hy11⟩ : ∃ bz, ((Z1 ++ A ++ [x] ++ Z3) : List Bx)[c]? = some bz := ⟨_, List.getElem?_eq_getElem (by first | omega | (simp only [List.length_set]; omega))⟩
         refine vv (i := 8) (v := bxV b11) rfl rfl rfl (yb_cells (off := 0 + c * 9) (cur := cur) (cs := (bxC b11).toList) rfl Tw.kr Tw.m0 (RowX.get hr0 hy11) Tryd.underlying26 rfl Tw.kr) ?_
         refine vv (i := 9) (v := .int .i64 (cmpX b10 b11)) rfl rfl rfl (yb_call (f := 48) (args := #[bxV b10, bxV b11]) Tw.kf fun W hW => compare_any b10 b11 W) ?_
         refine vp (i := 10) (v := .bool (decide ((cmpX b10 b11) < 0))) rfl rfl rfl (run_bin rfl (vx := (.int .i64 (cmpX b10 b11))) (vy := (.int .i64 0)) Tw.kr Tw.kr fun w => bi_lss rfl w) ?_
         refine vp (i := 11) (v := .bool (!(decide ((cmpX b10 b11) < 0)))) rfl rfl rfl (run_un rfl Tw.kr fun w => un_not w) ?_
         refine wpV_done Tw.kr (fun W38 hW38 => ?_) _
         change Code.wp ..
         cases hd14 : (decide ((cmpX b10 b11) < 0)) with
         | false =>
           have h14 : ¬ ((cmpX b10 b11) < 0) := of_decide_eq_false hd14
           clear hd14
           refine wp_cond_true rfl ?_
           refine wp_region_L (W0 := W0) ((g, .cells cur 26 (0, 0)) :: K) (hW38) ?_
           refine lm (v := .int .i64 ((c : Nat) : Int)) rfl rfl ?_
           refine lp (v := .int .i64 (((c + 1) : Nat) : Int)) rfl rfl (run_bin rfl (vx := (.int .i64 ((c : Nat) : Int))) (vy := (.int .i64 ((1 : Nat) : Int))) Tw.kr Tw.kr fun w => bn_add (z := (c + 1)) rfl (wr_i64 Tw.om) w) ?_
           refine lm (v := .int .i64 (((c + 1) : Nat) : Int)) rfl rfl ?_
           refine wpL_done (fun W39 hW39 => ?_)
           go_roundw
           case rel =>
             repeat apply Exists.intro
             exact ⟨⟨c + 1, j, Tw.om, (.inr ⟨by omega, _, _, by rw [Nat.add_sub_cancel]; exact hy11, hy10, cmpX_no h14⟩), hhi, rfl, rfl, hW39⟩, rfl⟩
           case measure => (show ((intOf (.int .i64 ((j : Nat) : Int))).toNat - (intOf (.int .i64 (((c + 1) : Nat) : Int))).toNat) < ((intOf (.int .i64 ((j : Nat) : Int))).toNat - (intOf (.int .i64 ((i : Nat) : Int))).toNat)); simp only [intOf]; omega
         | true =>
           have h14 : (cmpX b10 b11) < 0 := of_decide_eq_true hd14
           clear hd14
           refine wp_cond_false rfl ?_
           refine wp_region_L (W0 := W0) ((g, .cells cur 26 (0, 0)) :: K) (hW38) ?_
           refine lm (v := .int .i64 ((c : Nat) : Int)) rfl rfl ?_
           refine lm (v := .int .i64 ((c : Nat) : Int)) rfl rfl ?_
           refine wpL_done (fun W40 hW40 => ?_)
           go_roundw
           case rel =>
             repeat apply Exists.intro
             exact ⟨⟨i, c, Tw.om, hlo, (.inr ⟨by omega, _, _, hy11, hy10, cmpX_yes h14⟩), rfl, rfl, hW40⟩, rfl⟩
           case measure => (show ((intOf (.int .i64 ((c : Nat) : Int))).toNat - (intOf (.int .i64 ((i : Nat) : Int))).toNat) < ((intOf (.int .i64 ((j : Nat) : Int))).toNat - (intOf (.int .i64 ((i : Nat) : Int))).toNat)); simp only [intOf]; omega
 | true =>
   have h1 : (m - a) = 1 := of_decide_eq_true hd1
   clear hd1
   obtain ⟨x, rfl⟩ := one_of (show A.length = 1 by omega)
   simp only [List.length_cons, List.length_nil, Nat.zero_add] at hm hb hlens hd
   refine wp_cond_true rfl ?_
   refine wp_seq ?_
   refine wp_region_L (W0 := W0) ((g, .cells cur 26 (0, 0)) :: K) (hW1) ?_
   refine lm (v := .int .i64 ((m : Nat) : Int)) rfl rfl ?_
   refine lm (v := .int .i64 ((m : Nat) : Int)) rfl rfl ?_
   refine wpL_done (fun W41 hW41 => ?_)
   change Code.wp ..
   refine wp_seq ?_
   refine wp_region_L (W0 := W0) ((g, .cells cur 26 (0, 0)) :: K) (hW41) ?_
   refine lm (v := .int .i64 ((b : Nat) : Int)) rfl rfl ?_
   refine lm (v := .int .i64 ((b : Nat) : Int)) rfl rfl ?_
   refine wpL_done (fun W42 hW42 => ?_)
   change Code.wp ..
   refine wp_seq ?_
   refine wp_block ?_
   go_loopw [10, 11] (fun u10 u11 wr => ∃ (i j : Nat), (m ≤ i ∧ i ≤ j ∧ j ≤ b) ∧ (i = m ∨ (m < i ∧ ∃ z y, (Z1 ++ [x] ++ B ++ Z3)[a]? = some z ∧ (Z1 ++ [x] ++ B ++ Z3)[i - 1]? = some y ∧ before y z = true)) ∧ (j = b ∨ (j < b ∧ ∃ z y, (Z1 ++ [x] ++ B ++ Z3)[a]? = some z ∧ (Z1 ++ [x] ++ B ++ Z3)[j]? = some y ∧ before y z = false)) ∧ u10 = .int .i64 ((i : Nat) : Int) ∧ u11 = .int .i64 ((j : Nat) : Int) ∧ KS W0 ((g, .cells cur 26 (0, 0)) :: K) wr) (fun u10 u11 _ => ((intOf u11).toNat - (intOf u10).toNat))
   case atStart => exact ⟨m, b, Tw.om, (.inl rfl), (.inl rfl), rfl, rfl, hW42⟩
   case round =>
     obtain ⟨i, j, hij, hlo, hhi, rfl, rfl, hL43⟩ := hrel
     obtain ⟨c, hc⟩ : ∃ c, (i + j) / 2 = c := ⟨_, rfl⟩
     refine wp_seq ?_
     refine wp_seq ?_
     refine wp_region_L (W0 := W0) ((g, .cells cur 26 (0, 0)) :: K) (hL43) ?_
     refine lm (v := .int .i64 ((i : Nat) : Int)) rfl rfl ?_
     refine lm (v := .int .i64 ((j : Nat) : Int)) rfl rfl ?_
     refine lp (v := .bool (decide (i < j))) rfl rfl (run_bin rfl (vx := (.int .i64 ((i : Nat) : Int))) (vy := (.int .i64 ((j : Nat) : Int))) Tw.kr Tw.kr fun w => bn_lss rfl w) ?_
     refine wpL_done (fun W44 hW44 => ?_)
     change Code.wp ..
     cases hd15 : (decide (i < j)) with
     | false =>
       have h15 : ¬ (i < j) := of_decide_eq_false hd15
       clear hd15
       refine wp_cond_false rfl ?_
       refine wp_exit ?_
       change Code.wp ..
       refine wp_seq ?_
       refine wp_seq ?_
       refine wp_region_L (W0 := W0) ((g, .cells cur 26 (0, 0)) :: K) (hW44) ?_
       refine lm (v := .int .i64 ((a : Nat) : Int)) rfl rfl ?_
       refine lm (v := .int .i64 ((a : Nat) : Int)) rfl rfl ?_
       refine wpL_done (fun W45 hW45 => ?_)
       change Code.wp ..
       refine wp_block ?_
       have hcut := one_cut (x := x) (i := i) ha hm hb sB Tw.om Tw.om hlo (have e : j = i := Tw.om; by rw [e] at hhi; exact hhi)
       go_loopw [13] (fun u13 wr => ∃ (c1 : Nat) (cur1 : Array Value), (a ≤ c1 ∧ c1 + 1 ≤ i) ∧ (RowX cur1 (ShR Z1 B Z3 x (c1 - a))) ∧ (cur1.size = cur.size) ∧ u13 = .int .i64 ((c1 : Nat) : Int) ∧ KS W0 ((g, .cells cur1 26 (0, 0)) :: K) wr) (fun u13 _ => i - (intOf u13).toNat)
       case atStart => exact ⟨a, cur, Tw.om, (by rw [Nat.sub_self, shR_zero]; exact hr0), rfl, rfl, hW45⟩
       case round =>
         obtain ⟨c1, cur1, hc1, hr1, hz, rfl, hL46⟩ := hrel
         have hl2 : (ShR Z1 B Z3 x (c1 - a)).length = n := (shR_len ..).trans hn
         refine wp_seq ?_
         refine wp_seq ?_
         refine wp_region_L (W0 := W0) ((g, .cells cur1 26 (0, 0)) :: K) (hL46) ?_
         refine lm (v := .int .i64 ((c1 : Nat) : Int)) rfl rfl ?_
         refine lm (v := .int .i64 ((i : Nat) : Int)) rfl rfl ?_
         refine lp (v := .int .i64 (((i - 1) : Nat) : Int)) rfl rfl (run_bin rfl (vx := (.int .i64 ((i : Nat) : Int))) (vy := (.int .i64 ((1 : Nat) : Int))) Tw.kr Tw.kr fun w => bn_sub (z := (i - 1)) rfl Tw.om (wr_i64 Tw.om) w) ?_
         refine lp (v := .bool (decide (c1 < (i - 1)))) rfl rfl (run_bin rfl (vx := (.int .i64 ((c1 : Nat) : Int))) (vy := (.int .i64 (((i - 1) : Nat) : Int))) Tw.kr Tw.kr fun w => bn_lss rfl w) ?_
         refine wpL_done (fun W47 hW47 => ?_)
         change Code.wp ..
         cases hd16 : (decide (c1 < (i - 1))) with
         | false =>
           have h16 : ¬ (c1 < (i - 1)) := of_decide_eq_false hd16
           clear hd16
           refine wp_cond_false rfl ?_
           refine wp_exit ?_
           change Code.wp ..
           refine wp_ret ?_
           try simp only [inBlock_ret, then_ret]
           refine bodyPost_ret (v := .tuple #[]) ?_ rfl ?_
           · kernel_rfl
           exact ⟨_, _, rfl, hW47.sub (List.forall_mem_cons.2 ⟨Tw.m0, fun p hp => (.tail _ hp)⟩), rfl, _, (by rw [← hcut, show i - m = c1 - a by omega]; exact hr1), hz, rfl⟩
         | true =>
           have h16 : c1 < (i - 1) := of_decide_eq_true hd16
           clear hd16
           refine wp_cond_true rfl ?_
           refine wp_skip ?_
           change Code.wp ..
           refine wp_seq ?_
           refine wp_block ?_
           refine wp_region_V (W0 := W0) ((g, .cells cur1 26 (0, 0)) :: K) Tw.kr (hW47) ?_
           refine vm (i := 0) (v := .slice (some ⟨g, 0, none⟩) n cap) rfl rfl rfl ?_
           refine vm (i := 1) (v := .int .i64 ((c1 : Nat) : Int)) rfl rfl rfl ?_
           refine vm (i := 2) (v := .slice (some ⟨g, 0, none⟩) n cap) rfl rfl rfl ?_
           refine vm (i := 3) (v := .int .i64 ((c1 : Nat) : Int)) rfl rfl rfl ?_
           refine vp (i := 4) (v := .int .i64 (((c1 + 1) : Nat) : Int)) rfl rfl rfl (run_bin rfl (vx := (.int .i64 ((c1 : Nat) : Int))) (vy := (.int .i64 ((1 : Nat) : Int))) Tw.kr Tw.kr fun w => bn_add (z := (c1 + 1)) rfl (wr_i64 Tw.om) w) ?_
           refine vm (i := 5) (v := .slice (some ⟨g, 0, none⟩) n cap) rfl rfl rfl ?_
           refine vm (i := 6) (v := .int .i64 ((c1 : Nat) : Int)) rfl rfl rfl ?_
           refine vp (i := 7) (v := .int .i64 (((c1 + 1) : Nat) : Int)) rfl rfl rfl (run_bin rfl (vx := (.int .i64 ((c1 : Nat) : Int))) (vy := (.int .i64 ((1 : Nat) : Int))) Tw.kr Tw.kr fun w => bn_add (z := (c1 + 1)) rfl (wr_i64 Tw.om) w) ?_
           refine vp (i := 8) (v := .pointer (some ⟨g, 0 + (c1 + 1) * 9, none⟩)) rfl rfl rfl (run_idxL (j := .i64) (n := n) (cap := cap) (b := g) (off := 0) (k := (c1 + 1)) (sz := 9) rfl Tryd.underlying22 Tw.kr Tw.kr Tw.kr Tw.om) ?_
           obtain ⟨b12, hy12⟩ : ∃ bz, ((ShR Z1 B Z3 x (c1 - a)) : List Bx)[(c1 + 1)]? = some bz := ⟨_, List.getElem?_eq_getElem (by first | omega | (simp only [List.length_set]; omega))⟩
           refine vv (i := 9) (v := bxV b12) rfl rfl rfl (yb_cells (off := 0 + (c1 + 1) * 9) (cur := cur1) (cs := (bxC b12).toList) rfl Tw.kr Tw.m0 (RowX.get hr1 hy12) Tryd.underlying26 rfl Tw.kr) ?_
           refine vm (i := 10) (v := .slice (some ⟨g, 0, none⟩) n cap) rfl rfl rfl ?_
           refine vm (i := 11) (v := .int .i64 ((c1 : Nat) : Int)) rfl rfl rfl ?_
           refine vp (i := 12) (v := .pointer (some ⟨g, 0 + c1 * 9, none⟩)) rfl rfl rfl (run_idxL (j := .i64) (n := n) (cap := cap) (b := g) (off := 0) (k := c1) (sz := 9) rfl Tryd.underlying22 Tw.kr Tw.kr Tw.kr Tw.om) ?_
           obtain ⟨b13, hy13⟩ : ∃ bz, ((ShR Z1 B Z3 x (c1 - a)) : List Bx)[c1]? = some bz := ⟨_, List.getElem?_eq_getElem (by first | omega | (simp only [List.length_set]; omega))⟩
           refine vv (i := 13) (v := bxV b13) rfl rfl rfl (yb_cells (off := 0 + c1 * 9) (cur := cur1) (cs := (bxC b13).toList) rfl Tw.kr Tw.m0 (RowX.get hr1 hy13) Tryd.underlying26 rfl Tw.kr) ?_
           refine vp (i := 14) (v := .pointer (some ⟨g, 0 + c1 * 9, none⟩)) rfl rfl rfl (run_idxL (j := .i64) (n := n) (cap := cap) (b := g) (off := 0) (k := c1) (sz := 9) rfl Tryd.underlying22 Tw.kr Tw.kr Tw.kr Tw.om) ?_
           have R14 := RowX.put (b := b12) hr1 (show c1 < (ShR Z1 B Z3 x (c1 - a)).length by first | omega | (simp only [List.length_set]; omega))
           have Q14 := put_size (b := b12) hr1 (show c1 < (ShR Z1 B Z3 x (c1 - a)).length by first | omega | (simp only [List.length_set]; omega))
           refine wpV_s ((g, .cells (putR cur1 c1 b12) 26 (0, 0)) :: K) (i := 15) rfl Tw.kr rfl rfl rfl (st_rec (k := c1) (b := b12) rfl Tw.kr Tw.kr Tw.m0 hB Tw.kr hr1 (by first | omega | (simp only [List.length_set]; omega)) (List.forall_mem_cons.2 ⟨.inl rfl, (fun p hp => .inr ⟨(.tail _ hp), (hg _ hp)⟩)⟩)) ?_
           refine vp (i := 16) (v := .pointer (some ⟨g, 0 + (c1 + 1) * 9, none⟩)) rfl rfl rfl (run_idxL (j := .i64) (n := n) (cap := cap) (b := g) (off := 0) (k := (c1 + 1)) (sz := 9) rfl Tryd.underlying22 Tw.kr Tw.kr Tw.kr Tw.om) ?_
           have R15 := RowX.put (b := b13) R14 (show (c1 + 1) < ((ShR Z1 B Z3 x (c1 - a)).set c1 b12).length by first | omega | (simp only [List.length_set]; omega))
           have Q15 := put_size (b := b13) R14 (show (c1 + 1) < ((ShR Z1 B Z3 x (c1 - a)).set c1 b12).length by first | omega | (simp only [List.length_set]; omega))
           refine wpV_s ((g, .cells (putR (putR cur1 c1 b12) (c1 + 1) b13) 26 (0, 0)) :: K) (i := 17) rfl Tw.kr rfl rfl rfl (st_rec (k := (c1 + 1)) (b := b13) rfl Tw.kr Tw.kr Tw.m0 hB Tw.kr R14 (by first | omega | (simp only [List.length_set]; omega)) (List.forall_mem_cons.2 ⟨.inl rfl, (fun p hp => .inr ⟨(.tail _ hp), (hg _ hp)⟩)⟩)) ?_
           refine wpV_done Tw.kr (fun W48 hW48 => ?_) _
           change Code.wp ..
           refine wp_region_L (W0 := W0) ((g, .cells (putR (putR cur1 c1 b12) (c1 + 1) b13) 26 (0, 0)) :: K) (hW48) ?_
           refine lm (v := .int .i64 ((c1 : Nat) : Int)) rfl rfl ?_
           refine lp (v := .int .i64 (((c1 + 1) : Nat) : Int)) rfl rfl (run_bin rfl (vx := (.int .i64 ((c1 : Nat) : Int))) (vy := (.int .i64 ((1 : Nat) : Int))) Tw.kr Tw.kr fun w => bn_add (z := (c1 + 1)) rfl (wr_i64 Tw.om) w) ?_
           refine lm (v := .int .i64 (((c1 + 1) : Nat) : Int)) rfl rfl ?_
           refine wpL_done (fun W49 hW49 => ?_)
           have hstep := shR_step (k := c1 - a) (c := c1) Tw.om Tw.om hy13 hy12
           go_roundw
           case rel =>
             repeat apply Exists.intro
             exact ⟨⟨c1 + 1, (putR (putR cur1 c1 b12) (c1 + 1) b13), Tw.om, (by have h := R15; rw [hstep, show c1 - a + 1 = c1 + 1 - a by omega] at h; exact h), Tw.om, rfl, hW49⟩, rfl⟩
           case measure => (show i - (intOf (.int .i64 (((c1 + 1) : Nat) : Int))).toNat < i - (intOf (.int .i64 ((c1 : Nat) : Int))).toNat); simp only [intOf]; omega
     | true =>
       have h15 : i < j := of_decide_eq_true hd15
       clear hd15
       refine wp_cond_true rfl ?_
       refine wp_skip ?_
       change Code.wp ..
       refine wp_block ?_
       refine wp_seq ?_
       refine wp_region_L (W0 := W0) ((g, .cells cur 26 (0, 0)) :: K) (hW44) ?_
       refine lm (v := .int .i64 ((i : Nat) : Int)) rfl rfl ?_
       refine lm (v := .int .i64 ((j : Nat) : Int)) rfl rfl ?_
       refine lp (v := .int .i64 (((i + j) : Nat) : Int)) rfl rfl (run_bin rfl (vx := (.int .i64 ((i : Nat) : Int))) (vy := (.int .i64 ((j : Nat) : Int))) Tw.kr Tw.kr fun w => bn_add (z := (i + j)) rfl (wr_i64 Tw.om) w) ?_
       refine lp (v := .int .u64 (((i + j) : Nat) : Int)) rfl rfl (run_conv rfl (vx := (.int .i64 (((i + j) : Nat) : Int))) Tw.kr fun w => cv_int Tryd.underlying3 Tryd.underlying106 (wr_u64 Tw.om) w) ?_
       refine lp (v := .int .u64 ((c : Nat) : Int)) rfl rfl (run_bin rfl (vx := (.int .u64 (((i + j) : Nat) : Int))) (vy := (.int .u64 ((1 : Nat) : Int))) Tw.kr Tw.kr fun w => bn_shr (z := c) (show (i + j) / 2 ^ 1 = c by omega) (by first | omega | decide | (simp only [IntKind.bits]; omega)) w) ?_
       refine lp (v := .int .i64 ((c : Nat) : Int)) rfl rfl (run_conv rfl (vx := (.int .u64 ((c : Nat) : Int))) Tw.kr fun w => cv_int Tryd.underlying106 Tryd.underlying3 (wr_i64 Tw.om) w) ?_
       refine lm (v := .int .i64 ((c : Nat) : Int)) rfl rfl ?_
       refine wpL_done (fun W50 hW50 => ?_)
       change Code.wp ..
       refine wp_seq ?_
       refine wp_region_V (W0 := W0) ((g, .cells cur 26 (0, 0)) :: K) Tw.kr (hW50) ?_
       refine vm (i := 0) (v := .func (.func 48) #[] #[]) rfl rfl rfl ?_
       refine vm (i := 1) (v := .slice (some ⟨g, 0, none⟩) n cap) rfl rfl rfl ?_
       refine vm (i := 2) (v := .int .i64 ((c : Nat) : Int)) rfl rfl rfl ?_
       refine vp (i := 3) (v := .pointer (some ⟨g, 0 + c * 9, none⟩)) rfl rfl rfl (run_idxL (j := .i64) (n := n) (cap := cap) (b := g) (off := 0) (k := c) (sz := 9) rfl Tryd.underlying22 Tw.kr Tw.kr Tw.kr Tw.om) ?_
       obtain ⟨b16, hy16⟩ : ∃ bz, ((Z1 ++ [x] ++ B ++ Z3) : List Bx)[c]? = some bz := ⟨_, List.getElem?_eq_getElem (by first | omega | (simp only [List.length_set]; omega))⟩
       refine vv (i := 4) (v := bxV b16) rfl rfl rfl (yb_cells (off := 0 + c * 9) (cur := cur) (cs := (bxC b16).toList) rfl Tw.kr Tw.m0 (RowX.get hr0 hy16) Tryd.underlying26 rfl Tw.kr) ?_
       refine vm (i := 5) (v := .slice (some ⟨g, 0, none⟩) n cap) rfl rfl rfl ?_
       refine vm (i := 6) (v := .int .i64 ((a : Nat) : Int)) rfl rfl rfl ?_
       refine vp (i := 7) (v := .pointer (some ⟨g, 0 + a * 9, none⟩)) rfl rfl rfl (run_idxL (j := .i64) (n := n) (cap := cap) (b := g) (off := 0) (k := a) (sz := 9) rfl Tryd.underlying22 Tw.kr Tw.kr Tw.kr Tw.om) ?_
       obtain ⟨b17, hy17⟩ : ∃ bz, ((Z1 ++ [x] ++ B ++ Z3) : List Bx)[a]? = some bz := ⟨_, List.getElem?_eq_getElem (by first | omega | (simp only [List.length_set]; omega))⟩
       refine vv (i := 8) (v := bxV b17) rfl rfl rfl (yb_cells (off := 0 + a * 9) (cur := cur) (cs := (bxC b17).toList) rfl Tw.kr Tw.m0 (RowX.get hr0 hy17) Tryd.underlying26 rfl Tw.kr) ?_
       refine vv (i := 9) (v := .int .i64 (cmpX b16 b17)) rfl rfl rfl (yb_call (f := 48) (args := #[bxV b16, bxV b17]) Tw.kf fun W hW => compare_any b16 b17 W) ?_
       refine vp (i := 10) (v := .bool (decide ((cmpX b16 b17) < 0))) rfl rfl rfl (run_bin rfl (vx := (.int .i64 (cmpX b16 b17))) (vy := (.int .i64 0)) Tw.kr Tw.kr fun w => bi_lss rfl w) ?_
       refine wpV_done Tw.kr (fun W51 hW51 => ?_) _
       change Code.wp ..
       cases hd17 : (decide ((cmpX b16 b17) < 0)) with
       | false =>
         have h17 : ¬ ((cmpX b16 b17) < 0) := of_decide_eq_false hd17
         clear hd17
         refine wp_cond_false rfl ?_
         refine wp_region_L (W0 := W0) ((g, .cells cur 26 (0, 0)) :: K) (hW51) ?_
         refine lm (v := .int .i64 ((c : Nat) : Int)) rfl rfl ?_
         refine lm (v := .int .i64 ((c : Nat) : Int)) rfl rfl ?_
         refine wpL_done (fun W52 hW52 => ?_)
         go_roundw
         case rel =>
           repeat apply Exists.intro
           exact ⟨⟨i, c, Tw.om, hlo, (.inr ⟨by omega, _, _, hy17, hy16, cmpX_no h17⟩), rfl, rfl, hW52⟩, rfl⟩
         case measure => (show ((intOf (.int .i64 ((c : Nat) : Int))).toNat - (intOf (.int .i64 ((i : Nat) : Int))).toNat) < ((intOf (.int .i64 ((j : Nat) : Int))).toNat - (intOf (.int .i64 ((i : Nat) : Int))).toNat)); simp only [intOf]; omega
       | true =>
         have h17 : (cmpX b16 b17) < 0 := of_decide_eq_true hd17
         clear hd17
         refine wp_cond_true rfl ?_
         refine wp_region_L (W0 := W0) ((g, .cells cur 26 (0, 0)) :: K) (hW51) ?_
         refine lm (v := .int .i64 ((c : Nat) : Int)) rfl rfl ?_
         refine lp (v := .int .i64 (((c + 1) : Nat) : Int)) rfl rfl (run_bin rfl (vx := (.int .i64 ((c : Nat) : Int))) (vy := (.int .i64 ((1 : Nat) : Int))) Tw.kr Tw.kr fun w => bn_add (z := (c + 1)) rfl (wr_i64 Tw.om) w) ?_
         refine lm (v := .int .i64 (((c + 1) : Nat) : Int)) rfl rfl ?_
         refine wpL_done (fun W53 hW53 => ?_)
         go_roundw
         case rel =>
           repeat apply Exists.intro
           exact ⟨⟨c + 1, j, Tw.om, (.inr ⟨by omega, _, _, hy17, by rw [Nat.add_sub_cancel]; exact hy16, cmpX_yes h17⟩), hhi, rfl, rfl, hW53⟩, rfl⟩
         case measure => (show ((intOf (.int .i64 ((j : Nat) : Int))).toNat - (intOf (.int .i64 (((c + 1) : Nat) : Int))).toNat) < ((intOf (.int .i64 ((j : Nat) : Int))).toNat - (intOf (.int .i64 ((i : Nat) : Int))).toNat)); simp only [intOf]; omega
theorem sym_all {W0 : Base} {K : List (Nat × Obj)} {g n cap : Nat} (hn2 : n ≤ 4000000000) (hB : W0.B ≤ g) (hg : ∀ q ∈ K, q.1 ≠ g) (d : Nat) : SymAt W0 K g n cap d := by
 induction d with
 | zero => intro cur Z1 A B Z3 hn hd hA0 hB0; omega
 | succ d IH => exact sym_step hn2 hB hg IH
end Go.Proofs.YtllmpemmknblaaaDoor
namespace Go.Proofs.YtllmpemmknblaaaDoor
open Go Go.RowKit Tw
inductive Bl (s : Nat) : List Bx → Prop
 | last (X : List Bx) : X.length ≤ s → SortedX X → Bl s X
 | more (X Y : List Bx) : X.length = s → SortedX X → Bl s Y → Bl s (X ++ Y)
inductive Fu (s : Nat) : List Bx → Prop
 | nil : Fu s []
 | snoc (P X : List Bx) : Fu s P → X.length = s → SortedX X → Fu s (P ++ X)
theorem Fu.bl {s : Nat} {P Q : List Bx} (h : Fu s P) (hQ : Bl s Q) : Bl s (P ++ Q) := by
 induction h generalizing Q with
 | nil => exact hQ
 | snoc P X _ hX sX ih => rw [List.append_assoc]; exact ih (.more _ _ hX sX hQ)
theorem Bl.small {s : Nat} {Q : List Bx} (h : Bl s Q) (hs : Q.length ≤ s) : SortedX Q := by
 cases h with
 | last _ _ h => exact h
 | more X Y hX sX hY =>
   rw [List.length_append] at hs
   rw [len0 (show Y.length = 0 by omega), List.append_nil]; exact sX
theorem Bl.two {s : Nat} {Q : List Bx} (h : Bl s Q) (h0 : 0 < s) (hs : 2 * s ≤ Q.length) : ∃ X1 X2 Q2, Q = X1 ++ X2 ++ Q2 ∧ X1.length = s ∧ X2.length = s ∧ SortedX X1 ∧ SortedX X2 ∧ Bl s Q2 := by
 cases h with
 | last _ h _ => omega
 | more X Y hX sX hY =>
   rw [List.length_append] at hs
   cases hY with
   | last _ h sY => exact ⟨X, Y, [], (List.append_nil _).symm, hX, by omega, sX, sY, .last _ (Nat.zero_le _) (by unfold SortedX; exact List.Pairwise.nil)⟩
   | more X2 Y2 h2 s2 hY2 => exact ⟨X, X2, Y2, (List.append_assoc ..).symm, hX, h2, sX, s2, hY2⟩
theorem Bl.rest {s : Nat} {Q : List Bx} (h : Bl s Q) (h1 : s < Q.length) (h2 : Q.length < 2 * s) : ∃ X1 X2, Q = X1 ++ X2 ∧ X1.length = s ∧ SortedX X1 ∧ SortedX X2 := by
 cases h with
 | last _ h _ => omega
 | more X Y hX sX hY =>
   rw [List.length_append] at h1 h2
   exact ⟨X, Y, rfl, hX, sX, hY.small Tw.om⟩
theorem ins_pq {P Q : List Bx} {a b : Nat} (k : Nat) (ha : P.length = a) (hb : b = a + k) : (P ++ Q).take a ++ orderX (((P ++ Q).take b).drop a) ++ (P ++ Q).drop b = P ++ orderX (Q.take k) ++ Q.drop k := by
 subst ha; subst hb
 simp [List.take_append, List.drop_append]
theorem ins_all {P Q : List Bx} {a n : Nat} (ha : P.length = a) (hn : P.length + Q.length = n) : (P ++ Q).take a ++ orderX (((P ++ Q).take n).drop a) ++ (P ++ Q).drop n = P ++ orderX Q := by
 rw [ins_pq Q.length ha Tw.om, List.take_length, List.drop_length, List.append_nil]
theorem filt_pq (P Q : List Bx) (k : Nat) (z : Bx) : (P ++ orderX (Q.take k) ++ Q.drop k).filter (eqv z) = (P ++ Q).filter (eqv z) := by
 simp only [List.filter_append, order_filter, List.append_assoc]
 rw [← List.filter_append, List.take_append_drop]
theorem filt_two (P X Y Z : List Bx) (z : Bx) : (P ++ orderX (X ++ Y) ++ Z).filter (eqv z) = (P ++ (X ++ Y ++ Z)).filter (eqv z) := by
 simp only [List.filter_append, order_filter, List.append_assoc]
end Go.Proofs.YtllmpemmknblaaaDoor
namespace Go.Proofs.YtllmpemmknblaaaDoor
open Go Go.RowKit Tw
set_option maxRecDepth 100000 in
set_option maxHeartbeats 4000000 in
theorem stable_any {W0 : Base} {K : List (Nat × Obj)} {g n cap : Nat} {cur : Array Value} (l : List Bx) (hn : l.length = n) (hn2 : n ≤ 4000000000) (hr : RowX cur l) (hB : W0.B ≤ g) (hg : ∀ q ∈ K, q.1 ≠ g) (w : World) (hw : KS W0 ((g, .cells cur 26 (0, 0)) :: K) w) :
   Calls Tryd.prog 64 #[.slice (some ⟨g, 0, none⟩) n cap, .int .i64 ((n : Nat) : Int), .func (.func 48) #[] #[]] w fun e w' => ∃ v K', e = .returned v ∧ KS W0 K' w' ∧ (v = .tuple #[] ∧ ∃ cur', RowX cur' (orderX l) ∧ cur'.size = cur.size ∧ K' = (g, .cells cur' 26 (0, 0)) :: K) := by
 go_enter Tryd.func64, Tryd.ntmps64
 refine wp_seq ?_
 refine wp_region_L (W0 := W0) ((g, .cells cur 26 (0, 0)) :: K) (hw) ?_
 refine lm (v := .int .i64 20) rfl rfl ?_
 refine wpL_done (fun W1 hW1 => ?_)
 change Code.wp ..
 refine wp_seq ?_
 refine wp_region_L (W0 := W0) ((g, .cells cur 26 (0, 0)) :: K) (hW1) ?_
 refine lm (v := .int .i64 20) rfl rfl ?_
 refine lm (v := .int .i64 0) rfl rfl ?_
 refine lm (v := .int .i64 20) rfl rfl ?_
 refine wpL_done (fun W2 hW2 => ?_)
 change Code.wp ..
 refine wp_seq ?_
 refine wp_block ?_
 go_loopw [7, 8] (fun u7 u8 wr => ∃ (a0 b0 : Nat) (P0 Q0 : List Bx) (cur0 : Array Value), (b0 = a0 + 20 ∧ a0 ≤ n) ∧ (P0.length = a0) ∧ (Fu 20 P0) ∧ (∀ z, (P0 ++ Q0).filter (eqv z) = l.filter (eqv z)) ∧ (RowX cur0 (P0 ++ Q0)) ∧ (cur0.size = cur.size) ∧ (P0.length + Q0.length = n) ∧ u7 = .int .i64 ((a0 : Nat) : Int) ∧ u8 = .int .i64 ((b0 : Nat) : Int) ∧ KS W0 ((g, .cells cur0 26 (0, 0)) :: K) wr) (fun u7 _ _ => n + 1 - (intOf u7).toNat)
 case atStart => exact ⟨0, 20, [], l, cur, Tw.om, rfl, Fu.nil, (fun _ => rfl), hr, rfl, (by simpa using hn), rfl, rfl, hW2⟩
 case round =>
   obtain ⟨a0, b0, P0, Q0, cur0, hab0, hPl0, hFu0, hf0, hr0, hz0, hl0, rfl, rfl, hL3⟩ := hrel
   refine wp_seq ?_
   refine wp_seq ?_
   refine wp_region_L (W0 := W0) ((g, .cells cur0 26 (0, 0)) :: K) (hL3) ?_
   refine lm (v := .int .i64 ((b0 : Nat) : Int)) rfl rfl ?_
   refine lm (v := .int .i64 ((n : Nat) : Int)) rfl rfl ?_
   refine lp (v := .bool (!(decide (n < b0)))) rfl rfl (run_bin rfl (vx := (.int .i64 ((b0 : Nat) : Int))) (vy := (.int .i64 ((n : Nat) : Int))) Tw.kr Tw.kr fun w => bn_leq rfl w) ?_
   refine wpL_done (fun W4 hW4 => ?_)
   change Code.wp ..
   cases hd1 : (decide (n < b0)) with
   | false =>
     have h1 : ¬ (n < b0) := of_decide_eq_false hd1
     clear hd1
     refine wp_cond_true rfl ?_
     refine wp_skip ?_
     change Code.wp ..
     refine wp_block ?_
     refine wp_seq ?_
     refine wp_region_L (W0 := W0) ((g, .cells cur0 26 (0, 0)) :: K) (hW4) ?_
     refine lm (v := .slice (some ⟨g, 0, none⟩) n cap) rfl rfl ?_
     refine lm (v := .int .i64 ((a0 : Nat) : Int)) rfl rfl ?_
     refine lm (v := .int .i64 ((b0 : Nat) : Int)) rfl rfl ?_
     refine lm (v := .func (.func 48) #[] #[]) rfl rfl ?_
     refine wpL_c (f := 71) (args := #[.slice (some ⟨g, 0, none⟩) n cap, .int .i64 ((a0 : Nat) : Int), .int .i64 ((b0 : Nat) : Int), .func (.func 48) #[] #[]]) (fun v K9 => v = .tuple #[] ∧ ∃ cur', RowX cur' ((P0 ++ Q0).take a0 ++ orderX (((P0 ++ Q0).take b0).drop a0) ++ (P0 ++ Q0).drop b0) ∧ cur'.size = cur0.size ∧ K9 = ((g, .cells cur' 26 (0, 0)) :: K)) rfl Tw.kr Tw.kf (fun W hW => ins_any (K := K) (cap := cap) (P0 ++ Q0) (by rw [List.length_append]; exact hl0) Tw.om a0 b0 Tw.om Tw.om hr0 hB (fun q hq => (hg _ hq)) W (hW.sub (List.forall_mem_cons.2 ⟨Tw.m0, (fun p hp => (.tail _ hp))⟩))) Tw.pf ?_
     rintro v K9 ⟨rfl, cu1, R1, Q1, rfl⟩
     refine wpL_done (fun W5 hW5 => ?_)
     change Code.wp ..
     refine wp_seq ?_
     refine wp_region_L (W0 := W0) ((g, .cells cu1 26 (0, 0)) :: K) (hW5) ?_
     refine lm (v := .int .i64 ((b0 : Nat) : Int)) rfl rfl ?_
     refine lm (v := .int .i64 ((b0 : Nat) : Int)) rfl rfl ?_
     refine wpL_done (fun W6 hW6 => ?_)
     change Code.wp ..
     refine wp_region_L (W0 := W0) ((g, .cells cu1 26 (0, 0)) :: K) (hW6) ?_
     refine lm (v := .int .i64 ((b0 : Nat) : Int)) rfl rfl ?_
     refine lm (v := .int .i64 20) rfl rfl ?_
     refine lp (v := .int .i64 (((b0 + 20) : Nat) : Int)) rfl rfl (run_bin rfl (vx := (.int .i64 ((b0 : Nat) : Int))) (vy := (.int .i64 ((20 : Nat) : Int))) Tw.kr Tw.kr fun w => bn_add (z := (b0 + 20)) rfl (wr_i64 Tw.om) w) ?_
     refine lm (v := .int .i64 (((b0 + 20) : Nat) : Int)) rfl rfl ?_
     refine wpL_done (fun W7 hW7 => ?_)
     go_roundw
     case rel =>
       repeat apply Exists.intro
       exact ⟨⟨b0, b0 + 20, P0 ++ orderX (Q0.take 20), Q0.drop 20, cu1, Tw.om, (by first | omega | (simp only [List.length_append, order_len, List.length_take, List.length_drop, List.length_nil]; omega)), (Fu.snoc _ _ hFu0 (by rw [order_len, List.length_take]; omega) (order_sorted _)), (by intro z; rw [filt_pq]; exact hf0 z), (by have h := R1; rw [ins_pq 20 hPl0 hab0.1] at h; exact h), Tw.om, (by first | omega | (simp only [List.length_append, order_len, List.length_take, List.length_drop, List.length_nil]; omega)), rfl, rfl, hW7⟩, rfl⟩
     case measure => (show n + 1 - (intOf (.int .i64 ((b0 : Nat) : Int))).toNat < n + 1 - (intOf (.int .i64 ((a0 : Nat) : Int))).toNat); simp only [intOf]; omega
   | true =>
     have h1 : n < b0 := of_decide_eq_true hd1
     clear hd1
     refine wp_cond_false rfl ?_
     refine wp_exit ?_
     change Code.wp ..
     refine wp_seq ?_
     refine wp_region_L (W0 := W0) ((g, .cells cur0 26 (0, 0)) :: K) (hW4) ?_
     refine lm (v := .slice (some ⟨g, 0, none⟩) n cap) rfl rfl ?_
     refine lm (v := .int .i64 ((a0 : Nat) : Int)) rfl rfl ?_
     refine lm (v := .int .i64 ((n : Nat) : Int)) rfl rfl ?_
     refine lm (v := .func (.func 48) #[] #[]) rfl rfl ?_
     refine wpL_c (f := 71) (args := #[.slice (some ⟨g, 0, none⟩) n cap, .int .i64 ((a0 : Nat) : Int), .int .i64 ((n : Nat) : Int), .func (.func 48) #[] #[]]) (fun v K9 => v = .tuple #[] ∧ ∃ cur', RowX cur' ((P0 ++ Q0).take a0 ++ orderX (((P0 ++ Q0).take n).drop a0) ++ (P0 ++ Q0).drop n) ∧ cur'.size = cur0.size ∧ K9 = ((g, .cells cur' 26 (0, 0)) :: K)) rfl Tw.kr Tw.kf (fun W hW => ins_any (K := K) (cap := cap) (P0 ++ Q0) (by rw [List.length_append]; exact hl0) Tw.om a0 n Tw.om Tw.om hr0 hB (fun q hq => (hg _ hq)) W (hW.sub (List.forall_mem_cons.2 ⟨Tw.m0, (fun p hp => (.tail _ hp))⟩))) Tw.pf ?_
     rintro v K9 ⟨rfl, cu2, R2, Q2, rfl⟩
     refine wpL_done (fun W8 hW8 => ?_)
     change Code.wp ..
     refine wp_block ?_
     go_loopw [6] (fun u6 wr => ∃ (s : Nat) (M : List Bx) (cur1 : Array Value), (0 < s ∧ s ≤ 8000000020) ∧ (Bl s M) ∧ (∀ z, M.filter (eqv z) = l.filter (eqv z)) ∧ (RowX cur1 M) ∧ (cur1.size = cur.size) ∧ (M.length = n) ∧ u6 = .int .i64 ((s : Nat) : Int) ∧ KS W0 ((g, .cells cur1 26 (0, 0)) :: K) wr) (fun u6 _ => n + 1 - (intOf u6).toNat)
     case atStart => exact ⟨20, P0 ++ orderX Q0, cu2, Tw.om, (hFu0.bl (.last _ (by rw [order_len]; omega) (order_sorted _))), (by intro z; rw [List.filter_append, order_filter, ← List.filter_append]; exact hf0 z), (by have h := R2; rw [ins_all hPl0 hl0] at h; exact h), Tw.om, (by first | omega | (simp only [List.length_append, order_len, List.length_take, List.length_drop, List.length_nil]; omega)), rfl, hW8⟩
     case round =>
       obtain ⟨s, M, cur1, hs, hM, hf, hr1, hz, hl1, rfl, hL9⟩ := hrel
       refine wp_seq ?_
       refine wp_seq ?_
       refine wp_region_L (W0 := W0) ((g, .cells cur1 26 (0, 0)) :: K) (hL9) ?_
       refine lm (v := .int .i64 ((s : Nat) : Int)) rfl rfl ?_
       refine lm (v := .int .i64 ((n : Nat) : Int)) rfl rfl ?_
       refine lp (v := .bool (decide (s < n))) rfl rfl (run_bin rfl (vx := (.int .i64 ((s : Nat) : Int))) (vy := (.int .i64 ((n : Nat) : Int))) Tw.kr Tw.kr fun w => bn_lss rfl w) ?_
       refine wpL_done (fun W10 hW10 => ?_)
       change Code.wp ..
       cases hd2 : (decide (s < n)) with
       | false =>
         have h2 : ¬ (s < n) := of_decide_eq_false hd2
         clear hd2
         refine wp_cond_false rfl ?_
         refine wp_exit ?_
         simp only [exit_then, exit_in, exit_out]
         refine bodyPost_end (v := .tuple #[]) (results_none rfl _ _ _) rfl ?_
         exact ⟨_, _, rfl, hW10.sub (List.forall_mem_cons.2 ⟨Tw.m0, fun p hp => (.tail _ hp)⟩), rfl, _, (by rw [← order_is (hM.small Tw.om) hf]; exact hr1), hz, rfl⟩
       | true =>
         have h2 : s < n := of_decide_eq_true hd2
         clear hd2
         refine wp_cond_true rfl ?_
         refine wp_skip ?_
         change Code.wp ..
         refine wp_block ?_
         refine wp_seq ?_
         refine wp_region_L (W0 := W0) ((g, .cells cur1 26 (0, 0)) :: K) (hW10) ?_
         refine lm (v := .int .i64 ((s : Nat) : Int)) rfl rfl ?_
         refine lp (v := .int .i64 (((2 * s) : Nat) : Int)) rfl rfl (run_bin rfl (vx := (.int .i64 ((2 : Nat) : Int))) (vy := (.int .i64 ((s : Nat) : Int))) Tw.kr Tw.kr fun w => bn_mul (z := (2 * s)) rfl (wr_i64 Tw.om) w) ?_
         refine lm (v := .int .i64 0) rfl rfl ?_
         refine lm (v := .int .i64 (((2 * s) : Nat) : Int)) rfl rfl ?_
         refine wpL_done (fun W11 hW11 => ?_)
         change Code.wp ..
         refine wp_seq ?_
         refine wp_block ?_
         go_loopw [7, 8] (fun u7 u8 wr => ∃ (a b : Nat) (P Q : List Bx) (cur2 : Array Value), (b = a + 2 * s ∧ a ≤ n) ∧ (P.length = a) ∧ (Fu (2 * s) P) ∧ (Bl s Q) ∧ (∀ z, (P ++ Q).filter (eqv z) = l.filter (eqv z)) ∧ (RowX cur2 (P ++ Q)) ∧ (cur2.size = cur.size) ∧ (P.length + Q.length = n) ∧ u7 = .int .i64 ((a : Nat) : Int) ∧ u8 = .int .i64 ((b : Nat) : Int) ∧ KS W0 ((g, .cells cur2 26 (0, 0)) :: K) wr) (fun u7 _ _ => n + 1 - (intOf u7).toNat)
         case atStart => exact ⟨0, 2 * s, [], M, cur1, Tw.om, rfl, Fu.nil, hM, hf, hr1, hz, (by simpa using hl1), rfl, rfl, hW11⟩
         case round =>
           obtain ⟨a, b, P, Q, cur2, hab, hPl, hFu, hQ, hf2, hr2, hz2, hl2, rfl, rfl, hL12⟩ := hrel
           refine wp_seq ?_
           refine wp_seq ?_
           refine wp_region_L (W0 := W0) ((g, .cells cur2 26 (0, 0)) :: K) (hL12) ?_
           refine lm (v := .int .i64 ((b : Nat) : Int)) rfl rfl ?_
           refine lm (v := .int .i64 ((n : Nat) : Int)) rfl rfl ?_
           refine lp (v := .bool (!(decide (n < b)))) rfl rfl (run_bin rfl (vx := (.int .i64 ((b : Nat) : Int))) (vy := (.int .i64 ((n : Nat) : Int))) Tw.kr Tw.kr fun w => bn_leq rfl w) ?_
           refine wpL_done (fun W13 hW13 => ?_)
           change Code.wp ..
           cases hd3 : (decide (n < b)) with
           | false =>
             have h3 : ¬ (n < b) := of_decide_eq_false hd3
             clear hd3
             obtain ⟨X1, X2, Q2, hQ2, hX1, hX2, sX1, sX2, hB2⟩ := hQ.two hs.1 Tw.om
             have hlQ := congrArg List.length hQ2
             simp only [List.length_append] at hlQ
             have hr3 : RowX cur2 (P ++ X1 ++ X2 ++ Q2) := by have h := hr2; rw [hQ2] at h; first | simpa only [List.append_assoc] using h | simpa using h
             refine wp_cond_true rfl ?_
             refine wp_skip ?_
             change Code.wp ..
             refine wp_block ?_
             refine wp_seq ?_
             refine wp_region_L (W0 := W0) ((g, .cells cur2 26 (0, 0)) :: K) (hW13) ?_
             refine lm (v := .slice (some ⟨g, 0, none⟩) n cap) rfl rfl ?_
             refine lm (v := .int .i64 ((a : Nat) : Int)) rfl rfl ?_
             refine lm (v := .int .i64 ((a : Nat) : Int)) rfl rfl ?_
             refine lm (v := .int .i64 ((s : Nat) : Int)) rfl rfl ?_
             refine lp (v := .int .i64 (((a + s) : Nat) : Int)) rfl rfl (run_bin rfl (vx := (.int .i64 ((a : Nat) : Int))) (vy := (.int .i64 ((s : Nat) : Int))) Tw.kr Tw.kr fun w => bn_add (z := (a + s)) rfl (wr_i64 Tw.om) w) ?_
             refine lm (v := .int .i64 ((b : Nat) : Int)) rfl rfl ?_
             refine lm (v := .func (.func 48) #[] #[]) rfl rfl ?_
             refine wpL_c (f := 72) (args := #[.slice (some ⟨g, 0, none⟩) n cap, .int .i64 ((a : Nat) : Int), .int .i64 (((a + s) : Nat) : Int), .int .i64 ((b : Nat) : Int), .func (.func 48) #[] #[]]) (fun v K9 => v = .tuple #[] ∧ ∃ cur', RowX cur' (P ++ orderX (X1 ++ X2) ++ Q2) ∧ cur'.size = cur2.size ∧ K9 = ((g, .cells cur' 26 (0, 0)) :: K)) rfl Tw.kr Tw.kf (fun W hW => sym_all (K := K) (n := n) (cap := cap) Tw.om hB (fun q hq => (hg _ hq)) (X1.length + X2.length) cur2 P X1 X2 Q2 (by first | omega | (simp only [List.length_append, order_len, List.length_take, List.length_drop, List.length_nil]; omega)) (Nat.le_refl _) Tw.om Tw.om sX1 sX2 a (a + s) b (by first | omega | (simp only [List.length_append, order_len, List.length_take, List.length_drop, List.length_nil]; omega)) (by first | omega | (simp only [List.length_append, order_len, List.length_take, List.length_drop, List.length_nil]; omega)) (by first | omega | (simp only [List.length_append, order_len, List.length_take, List.length_drop, List.length_nil]; omega)) hr3 W (hW.sub (List.forall_mem_cons.2 ⟨Tw.m0, (fun p hp => (.tail _ hp))⟩))) Tw.pf ?_
             rintro v K9 ⟨rfl, cu3, R3, Q3, rfl⟩
             refine wpL_done (fun W14 hW14 => ?_)
             change Code.wp ..
             refine wp_seq ?_
             refine wp_region_L (W0 := W0) ((g, .cells cu3 26 (0, 0)) :: K) (hW14) ?_
             refine lm (v := .int .i64 ((b : Nat) : Int)) rfl rfl ?_
             refine lm (v := .int .i64 ((b : Nat) : Int)) rfl rfl ?_
             refine wpL_done (fun W15 hW15 => ?_)
             change Code.wp ..
             refine wp_region_L (W0 := W0) ((g, .cells cu3 26 (0, 0)) :: K) (hW15) ?_
             refine lm (v := .int .i64 ((b : Nat) : Int)) rfl rfl ?_
             refine lm (v := .int .i64 ((s : Nat) : Int)) rfl rfl ?_
             refine lp (v := .int .i64 (((2 * s) : Nat) : Int)) rfl rfl (run_bin rfl (vx := (.int .i64 ((2 : Nat) : Int))) (vy := (.int .i64 ((s : Nat) : Int))) Tw.kr Tw.kr fun w => bn_mul (z := (2 * s)) rfl (wr_i64 Tw.om) w) ?_
             refine lp (v := .int .i64 (((b + (2 * s)) : Nat) : Int)) rfl rfl (run_bin rfl (vx := (.int .i64 ((b : Nat) : Int))) (vy := (.int .i64 (((2 * s) : Nat) : Int))) Tw.kr Tw.kr fun w => bn_add (z := (b + (2 * s))) rfl (wr_i64 Tw.om) w) ?_
             refine lm (v := .int .i64 (((b + (2 * s)) : Nat) : Int)) rfl rfl ?_
             refine wpL_done (fun W16 hW16 => ?_)
             go_roundw
             case rel =>
               repeat apply Exists.intro
               exact ⟨⟨b, b + 2 * s, P ++ orderX (X1 ++ X2), Q2, cu3, Tw.om, (by first | omega | (simp only [List.length_append, order_len, List.length_take, List.length_drop, List.length_nil]; omega)), (Fu.snoc _ _ hFu (by first | omega | (simp only [List.length_append, order_len, List.length_take, List.length_drop, List.length_nil]; omega)) (order_sorted _)), hB2, (by intro z; rw [filt_two, ← hQ2]; exact hf2 z), R3, Tw.om, (by first | omega | (simp only [List.length_append, order_len, List.length_take, List.length_drop, List.length_nil]; omega)), rfl, rfl, hW16⟩, rfl⟩
             case measure => (show n + 1 - (intOf (.int .i64 ((b : Nat) : Int))).toNat < n + 1 - (intOf (.int .i64 ((a : Nat) : Int))).toNat); simp only [intOf]; omega
           | true =>
             have h3 : n < b := of_decide_eq_true hd3
             clear hd3
             refine wp_cond_false rfl ?_
             refine wp_exit ?_
             change Code.wp ..
             refine wp_seq ?_
             refine wp_seq ?_
             refine wp_region_L (W0 := W0) ((g, .cells cur2 26 (0, 0)) :: K) (hW13) ?_
             refine lm (v := .int .i64 ((a : Nat) : Int)) rfl rfl ?_
             refine lm (v := .int .i64 ((s : Nat) : Int)) rfl rfl ?_
             refine lp (v := .int .i64 (((a + s) : Nat) : Int)) rfl rfl (run_bin rfl (vx := (.int .i64 ((a : Nat) : Int))) (vy := (.int .i64 ((s : Nat) : Int))) Tw.kr Tw.kr fun w => bn_add (z := (a + s)) rfl (wr_i64 Tw.om) w) ?_
             refine lm (v := .int .i64 (((a + s) : Nat) : Int)) rfl rfl ?_
             refine wpL_done (fun W17 hW17 => ?_)
             change Code.wp ..
             refine wp_seq ?_
             refine wp_region_L (W0 := W0) ((g, .cells cur2 26 (0, 0)) :: K) (hW17) ?_
             refine lm (v := .int .i64 (((a + s) : Nat) : Int)) rfl rfl ?_
             refine lm (v := .int .i64 ((n : Nat) : Int)) rfl rfl ?_
             refine lp (v := .bool (decide ((a + s) < n))) rfl rfl (run_bin rfl (vx := (.int .i64 (((a + s) : Nat) : Int))) (vy := (.int .i64 ((n : Nat) : Int))) Tw.kr Tw.kr fun w => bn_lss rfl w) ?_
             refine wpL_done (fun W18 hW18 => ?_)
             change Code.wp ..
             cases hd4 : (decide ((a + s) < n)) with
             | false =>
               have h4 : ¬ ((a + s) < n) := of_decide_eq_false hd4
               clear hd4
               refine wp_cond_false rfl ?_
               refine wp_skip ?_
               change Code.wp ..
               refine wp_region_L (W0 := W0) ((g, .cells cur2 26 (0, 0)) :: K) (hW18) ?_
               refine lm (v := .int .i64 ((s : Nat) : Int)) rfl rfl ?_
               refine lp (v := .int .i64 (((s * 2) : Nat) : Int)) rfl rfl (run_bin rfl (vx := (.int .i64 ((s : Nat) : Int))) (vy := (.int .i64 ((2 : Nat) : Int))) Tw.kr Tw.kr fun w => bn_mul (z := (s * 2)) rfl (wr_i64 Tw.om) w) ?_
               refine lm (v := .int .i64 (((s * 2) : Nat) : Int)) rfl rfl ?_
               refine wpL_done (fun W19 hW19 => ?_)
               go_roundw
               case rel =>
                 repeat apply Exists.intro
                 exact ⟨⟨s * 2, P ++ Q, cur2, Tw.om, (by rw [Nat.mul_comm s 2]; exact hFu.bl (.last _ Tw.om (hQ.small Tw.om))), hf2, hr2, hz2, (by first | omega | (simp only [List.length_append, order_len, List.length_take, List.length_drop, List.length_nil]; omega)), rfl, hW19⟩, rfl⟩
               case measure => (show n + 1 - (intOf (.int .i64 (((s * 2) : Nat) : Int))).toNat < n + 1 - (intOf (.int .i64 ((s : Nat) : Int))).toNat); simp only [intOf]; omega
             | true =>
               have h4 : (a + s) < n := of_decide_eq_true hd4
               clear hd4
               obtain ⟨X1, X2, hQ2, hX1, sX1, sX2⟩ := hQ.rest Tw.om Tw.om
               have hlQ := congrArg List.length hQ2
               simp only [List.length_append] at hlQ
               have hr3 : RowX cur2 (P ++ X1 ++ X2 ++ []) := by have h := hr2; rw [hQ2] at h; first | simpa only [List.append_assoc] using h | simpa using h
               refine wp_cond_true rfl ?_
               refine wp_region_L (W0 := W0) ((g, .cells cur2 26 (0, 0)) :: K) (hW18) ?_
               refine lm (v := .slice (some ⟨g, 0, none⟩) n cap) rfl rfl ?_
               refine lm (v := .int .i64 ((a : Nat) : Int)) rfl rfl ?_
               refine lm (v := .int .i64 (((a + s) : Nat) : Int)) rfl rfl ?_
               refine lm (v := .int .i64 ((n : Nat) : Int)) rfl rfl ?_
               refine lm (v := .func (.func 48) #[] #[]) rfl rfl ?_
               refine wpL_c (f := 72) (args := #[.slice (some ⟨g, 0, none⟩) n cap, .int .i64 ((a : Nat) : Int), .int .i64 (((a + s) : Nat) : Int), .int .i64 ((n : Nat) : Int), .func (.func 48) #[] #[]]) (fun v K9 => v = .tuple #[] ∧ ∃ cur', RowX cur' (P ++ orderX (X1 ++ X2) ++ []) ∧ cur'.size = cur2.size ∧ K9 = ((g, .cells cur' 26 (0, 0)) :: K)) rfl Tw.kr Tw.kf (fun W hW => sym_all (K := K) (n := n) (cap := cap) Tw.om hB (fun q hq => (hg _ hq)) (X1.length + X2.length) cur2 P X1 X2 [] (by first | omega | (simp only [List.length_append, order_len, List.length_take, List.length_drop, List.length_nil]; omega)) (Nat.le_refl _) Tw.om Tw.om sX1 sX2 a (a + s) n (by first | omega | (simp only [List.length_append, order_len, List.length_take, List.length_drop, List.length_nil]; omega)) (by first | omega | (simp only [List.length_append, order_len, List.length_take, List.length_drop, List.length_nil]; omega)) (by first | omega | (simp only [List.length_append, order_len, List.length_take, List.length_drop, List.length_nil]; omega)) hr3 W (hW.sub (List.forall_mem_cons.2 ⟨Tw.m0, (fun p hp => (.tail _ hp))⟩))) Tw.pf ?_
               rintro v K9 ⟨rfl, cu4, R4, Q4, rfl⟩
               refine wpL_done (fun W20 hW20 => ?_)
               change Code.wp ..
               refine wp_region_L (W0 := W0) ((g, .cells cu4 26 (0, 0)) :: K) (hW20) ?_
               refine lm (v := .int .i64 ((s : Nat) : Int)) rfl rfl ?_
               refine lp (v := .int .i64 (((s * 2) : Nat) : Int)) rfl rfl (run_bin rfl (vx := (.int .i64 ((s : Nat) : Int))) (vy := (.int .i64 ((2 : Nat) : Int))) Tw.kr Tw.kr fun w => bn_mul (z := (s * 2)) rfl (wr_i64 Tw.om) w) ?_
               refine lm (v := .int .i64 (((s * 2) : Nat) : Int)) rfl rfl ?_
               refine wpL_done (fun W21 hW21 => ?_)
               go_roundw
               case rel =>
                 repeat apply Exists.intro
                 exact ⟨⟨s * 2, P ++ orderX (X1 ++ X2) ++ [], cu4, Tw.om, (by rw [Nat.mul_comm s 2, List.append_nil]; exact hFu.bl (.last _ (by first | omega | (simp only [List.length_append, order_len, List.length_take, List.length_drop, List.length_nil]; omega)) (order_sorted _))), (by intro z; rw [filt_two, List.append_nil, ← hQ2]; exact hf2 z), R4, Tw.om, (by first | omega | (simp only [List.length_append, order_len, List.length_take, List.length_drop, List.length_nil]; omega)), rfl, hW21⟩, rfl⟩
               case measure => (show n + 1 - (intOf (.int .i64 (((s * 2) : Nat) : Int))).toNat < n + 1 - (intOf (.int .i64 ((s : Nat) : Int))).toNat); simp only [intOf]; omega
set_option maxRecDepth 100000 in
set_option maxHeartbeats 4000000 in
theorem sort_any {W0 : Base} {K : List (Nat × Obj)} {g n cap : Nat} {cur : Array Value} (l : List Bx) (hn : l.length = n) (hn2 : n ≤ 4000000000) (hr : RowX cur l) (hB : W0.B ≤ g) (hg : ∀ q ∈ K, q.1 ≠ g) (w : World) (hw : KS W0 ((g, .cells cur 26 (0, 0)) :: K) w) :
   Calls Tryd.prog 47 #[.slice (some ⟨g, 0, none⟩) n cap, .func (.func 48) #[] #[]] w fun e w' => ∃ v K', e = .returned v ∧ KS W0 K' w' ∧ (v = .tuple #[] ∧ ∃ cur', RowX cur' (orderX l) ∧ cur'.size = cur.size ∧ K' = (g, .cells cur' 26 (0, 0)) :: K) := by
 go_enter Tryd.func47, Tryd.ntmps47
 refine wp_region_L (W0 := W0) ((g, .cells cur 26 (0, 0)) :: K) (hw) ?_
 refine lm (v := .slice (some ⟨g, 0, none⟩) n cap) rfl rfl ?_
 refine lm (v := .slice (some ⟨g, 0, none⟩) n cap) rfl rfl ?_
 refine lp (v := .int .i64 ((n : Nat) : Int)) rfl rfl (run_lenL (p := (some ⟨g, 0, none⟩)) (cap := cap) (n := n) rfl Tryd.underlying22 Tw.kr) ?_
 refine lm (v := .func (.func 48) #[] #[]) rfl rfl ?_
 refine wpL_c (f := 64) (args := #[.slice (some ⟨g, 0, none⟩) n cap, .int .i64 ((n : Nat) : Int), .func (.func 48) #[] #[]]) (fun v K9 => v = .tuple #[] ∧ ∃ cur', RowX cur' (orderX l) ∧ cur'.size = cur.size ∧ K9 = ((g, .cells cur' 26 (0, 0)) :: K)) rfl Tw.kr Tw.kf (fun W hW => stable_any (K := K) (cap := cap) l Tw.om Tw.om hr hB (fun q hq => (hg _ hq)) W (hW.sub (List.forall_mem_cons.2 ⟨Tw.m0, (fun p hp => (.tail _ hp))⟩))) Tw.pf ?_
 rintro v K9 ⟨rfl, cu1, R1, Q1, rfl⟩
 refine wpL_done (fun W1 hW1 => ?_)
 refine bodyPost_end (v := .tuple #[]) (results_none rfl _ _ _) rfl ?_
 exact ⟨_, _, rfl, hW1.sub (List.forall_mem_cons.2 ⟨Tw.m0, fun p hp => (.tail _ hp)⟩), rfl, _, R1, Q1, rfl⟩
end Go.Proofs.YtllmpemmknblaaaDoor
namespace Go.Proofs.YtllmpemmknblaaaDoor
open Go Go.RowKit Tw
theorem sort_owns {W0 : Base} {K Kl : List (Nat × Obj)} {v : Value} (l : List Bx) (hsm : l.length ≤ 4000000000) (hO : OwnL W0 26 9 v l.length (bcs l) Kl) (hd : ∀ p ∈ K, ∀ q ∈ Kl, q.1 ≠ p.1) (w : World) (hw : KS W0 (K ++ Kl) w) :
   Calls Tryd.prog 47 #[v, .func (.func 48) #[] #[]] w fun e w' => ∃ u K', e = .returned u ∧ KS W0 K' w' ∧ (u = .tuple #[] ∧ ∃ Kl', OwnL W0 26 9 v l.length (bcs (orderX l)) Kl' ∧ (∀ p ∈ K, ∀ q ∈ Kl', q.1 ≠ p.1) ∧ K' = K ++ Kl') := by
 rcases hO with ⟨h1, h2, rfl, rfl⟩ | ⟨g, cap, cur, rfl, hB, hR, rfl⟩
 · have hl : l = [] := List.eq_nil_of_length_eq_zero h1
   subst hl
   exact (sort_nil w).mono fun e w' ⟨he, hb⟩ => ⟨_, _, he, hw.below hb, rfl, [], OwnL.nil _ _ _, (fun _ _ _ h => by cases h), rfl⟩
 · have hg : ∀ q ∈ K, q.1 ≠ g := fun q hq e => hd q hq (g, .cells cur 26 (0, 0)) (List.mem_singleton.2 rfl) e.symm
   refine (sort_any (cap := cap) l rfl hsm (rowx_own hR) hB hg w (hw.sub (fun p hp => by
     rcases List.mem_cons.1 hp with rfl | hp
     · exact List.mem_append_right _ (List.mem_singleton.2 rfl)
     · exact List.mem_append_left _ hp))).mono fun e w' ⟨u, K', he, hk, hu, cur', hr, hs, hK⟩ => ?_
   subst hK
   refine ⟨u, _, he, hk.sub (K' := K ++ [(g, .cells cur' 26 (0, 0))]) (fun p hp => ?_), hu, [(g, .cells cur' 26 (0, 0))], .inr ⟨g, cap, cur', rfl, hB, own_rowx hR hs hr (order_len l), rfl⟩, fun p hp q hq => ?_, rfl⟩
   · rcases List.mem_append.1 hp with hp | hp
     · exact .tail _ hp
     · cases List.mem_singleton.1 hp; exact .head _
   · cases List.mem_singleton.1 hq; exact fun e => hg p hp e.symm
set_option maxRecDepth 100000 in
set_option maxHeartbeats 4000000 in
theorem Order_any (l : List Bx) (p : Option Addr) (c : Nat) (hl : l.length ≤ 4000000000) (w : World) (hp : SLV w p (bcs l)) : Calls Tryd.prog 27 #[.slice p l.length c] w fun e w' => ∃ v, e = .returned v ∧ OutV w w' 26 9 v l.length (bcs (orderX l)) ∧ Below w.heap.size w w' := by
 have HP := Lib.hid hp
 clear hp
 go_enter Tryd.func27, Tryd.ntmps27
 refine wp_seq ?_
 refine wp_region_L [] (KS.start w) ?_
 refine lm (v := .slice none 0 0) rfl rfl ?_
 refine wpL_done (fun W1 hW1 => ?_)
 change Code.wp ..
 refine wp_seq ?_
 refine wp_region_L _ hW1 ?_
 refine lm (v := .slice p l.length c) rfl rfl ?_
 refine wpL_c (f := 46) (args := #[.slice p l.length c]) (fun v K9 => ∃ Kl, OwnL w 26 9 v l.length (bcs l) Kl ∧ (∀ p ∈ ([] : List (Nat × Obj)), ∀ q ∈ Kl, q.1 ≠ p.1) ∧ K9 = [] ++ Kl) rfl Tw.kr Tw.kf (fun W hW => calls_out hW (Clone_any l p c (by first | omega | (simp; done) | (simp; omega) | decide) W (HP.out.keep hW.1))) Tw.pf ?_
 rintro v1 Kl1 ⟨_, O1, N1, rfl⟩
 refine lm (v := v1) rfl rfl ?_
 refine wpL_done (fun W2 hW2 => ?_)
 change Code.wp ..
 refine wp_seq ?_
 refine wp_region_L _ hW2 ?_
 refine lm (v := v1) rfl rfl ?_
 refine wpL_c (f := 47) (args := #[v1, .func (.func 48) #[] #[]]) (fun u K9 => u = .tuple #[] ∧ ∃ Kl', OwnL w 26 9 v1 l.length (bcs (orderX l)) Kl' ∧ (∀ p ∈ ([] : List (Nat × Obj)), ∀ q ∈ Kl', q.1 ≠ p.1) ∧ K9 = [] ++ Kl') rfl Tw.kr Tw.kf (fun W hW => sort_owns (K := []) (Kl := Kl1) l Tw.om O1 (show Dj [] Kl1 from Tw.djt) W (hW.sub (fun p hp => by simp only [List.mem_cons, List.mem_append, List.nil_append, List.not_mem_nil, or_assoc, or_false, false_or, List.cons_append, List.append_assoc] at hp ⊢ <;> grind))) Tw.pf ?_
 rintro _ Kl2 ⟨rfl, _, O2, N2, rfl⟩
 refine wpL_done (fun W3 hW3 => ?_)
 change Code.wp ..
 refine wp_seq ?_
 refine wp_region_L _ hW3 ?_
 refine lm (v := v1) rfl rfl ?_
 refine lm (v := v1) rfl rfl ?_
 refine wpL_done (fun W4 hW4 => ?_)
 change Code.wp ..
 refine wp_ret ?_
 try simp only [inBlock_ret, then_ret]
 refine bodyPost_ret (v := v1) ?_ rfl ?_
 · kernel_rfl
 · exact ⟨_, rfl, O2.out (fun p hp => by simp only [List.mem_cons, List.mem_append, List.nil_append, List.not_mem_nil, or_assoc, or_false, false_or, hp, true_or, or_true]) hW4, hW4.1⟩
end Go.Proofs.YtllmpemmknblaaaDoor
namespace Go.Proofs.YtllmpemmknblaaaDoor
open Go Go.RowKit Tw
end Go.Proofs.YtllmpemmknblaaaDoor
namespace Go.Proofs.YtllmpemmknblaaaDoor
open Go Go.RowKit Tw
end Go.Proofs.YtllmpemmknblaaaDoor
/- Lists of numbers that are read, cut and handed on: over any program. -/
namespace Tw
open Go Go.RowKit Go.Proofs.YtllmpemmknblaaaDoor
def nums (l : List Nat) : List Value := l.map fun n => .int .i64 ((n : Nat) : Int)
theorem nums_len (l : List Nat) : (nums l).length = l.length := by simp [nums]
theorem nums_get {l : List Nat} {k x : Nat} (h : l[k]? = some x) : (nums l)[k]? = some (.int .i64 ((x : Nat) : Int)) := by simp [nums, h]
theorem nums_take (l : List Nat) (k : Nat) : nums (l.take k) = (nums l).take k := by simp [nums, List.map_take]
theorem nums_drop (l : List Nat) (k : Nat) : nums (l.drop k) = (nums l).drop k := by simp [nums, List.map_drop]
theorem slv_take {W : World} {p : Option Addr} {xs : List Value} (h : SLV W p xs) (k : Nat) : SLV W p (xs.take k) := by
 rcases h with rfl | ⟨b, off, rfl, hlt, hc⟩
 · exact .inl (by simp)
 · refine .inr ⟨b, off, rfl, hlt, fun i u hu => hc i u ?_⟩
   rw [List.getElem?_take] at hu
   split at hu
   · exact hu
   · cases hu
def NS (W0 : Base) (p : Option Addr) (l : List Nat) (T : List (Nat × Obj)) : Prop := ∀ W, KS W0 T W → SLV W p (nums l)
section
variable {W0 : Base} {p : Option Addr} {l : List Nat} {K T : List (Nat × Obj)}
theorem NS.mono (h : NS W0 p l T) (hs : ∀ q ∈ T, q ∈ K) : NS W0 p l K := fun W hW => h W (hW.sub hs)
theorem NS.take (h : NS W0 p l T) (k : Nat) : NS W0 p (l.take k) T := fun W hW => by rw [nums_take]; exact slv_take (h W hW) k
theorem NS.nil : NS W0 p [] T := fun _ _ => .inl rfl
theorem NS.base {W : World} (h : SLV W p (nums l)) : NS (W : Base) p l [] := fun _ hW => h.keep hW.1
theorem NS.at {W : World} {k : Nat} (h : NS W0 p l T) (hW : KS W0 T W) (hk : k < l.length) : ∃ b off, p = some ⟨b, off, none⟩ ∧ ∀ W, KS W0 T W → ∀ (i x : Nat), l[i]? = some x → W.cell? ⟨b, off + i * 1, none⟩ = some (.int .i64 ((x : Nat) : Int)) := by
 have hne : nums l ≠ [] := fun e => by have := nums_len l; rw [e] at this; simp at this; omega
 rcases h W hW with h0 | ⟨b, off, rfl, _, _⟩
 · exact absurd h0 hne
 · refine ⟨b, off, rfl, fun W2 hW2 i x hx => ?_⟩
   rcases h W2 hW2 with h0 | ⟨b', off', he, _, hc⟩
   · exact absurd h0 hne
   · cases he
     rw [Nat.mul_one]
     exact hc i _ (nums_get hx)
theorem NS.drop {W : World} {c k : Nat} (h : NS W0 p l T) (hW : KS W0 T W) (hc : l.length ≤ c) : NS W0 (if c = k then p else p.map (·.add (k * 1))) (l.drop k) T := by
 rcases Nat.lt_or_ge k l.length with h1 | h1
 · obtain ⟨b, off, rfl, h2⟩ := h.at hW h1
   rw [if_neg Tw.om]
   intro W2 hW2
   rcases h W2 hW2 with h0 | ⟨b', off', he, hlt, hc⟩
   · have := nums_len l; rw [h0] at this; simp at this; omega
   · cases he
     refine .inr ⟨b, off + k * 1, by simp [addr_add], hlt, fun i u hu => ?_⟩
     rw [nums_drop, List.getElem?_drop] at hu
     rw [Nat.mul_one, Nat.add_assoc]
     exact hc _ u hu
 · rw [List.drop_of_length_le h1]; exact NS.nil
theorem cell_same {w w2 : World} {b off : Nat} (h : w.heap[b]? = w2.heap[b]?) : w.cell? ⟨b, off, none⟩ = w2.cell? ⟨b, off, none⟩ := by
 unfold World.cell?; simp only [h]
def SLF (W w2 : World) (p : Option Addr) (xs : List Value) : Prop := xs = [] ∨ ∃ b off, p = some ⟨b, off, none⟩ ∧ W.heap.size ≤ b ∧ b < w2.heap.size ∧ Cel w2 b off xs
theorem SLF.slv {W w2 : World} {xs : List Value} (h : SLF W w2 p xs) : SLV w2 p xs := h.imp id fun ⟨b, off, h1, _, h2, h3⟩ => ⟨b, off, h1, h2, h3⟩
theorem SLF.take {W w2 : World} {xs : List Value} (h : SLF W w2 p xs) (k : Nat) : SLF W w2 p (xs.take k) := by
 rcases h with rfl | ⟨b, off, rfl, h1, h2, hc⟩
 · exact .inl (by simp)
 · refine .inr ⟨b, off, rfl, h1, h2, fun i u hu => hc i u ?_⟩
   rw [List.getElem?_take] at hu
   split at hu
   · exact hu
   · cases hu
theorem ns_new {W w2 : World} (hW : KS W0 K W) (hB : Below W.heap.size W w2) (hs : SLF W w2 p (nums l)) : ∃ T, KS W0 (K ++ T) w2 ∧ Dj K T ∧ NS W0 p l T ∧ ∀ W3, KS W0 T W3 → W0.B = W0.w.heap.size → SLF W0.w W3 p (nums l) := by
 have hK := hW.below hB
 rcases hs with h0 | ⟨b, off, rfl, hge, hlt, hc⟩
 · exact ⟨[], by rw [List.append_nil]; exact hK, fun _ _ _ h => (by cases h), fun _ _ => .inl h0, fun _ _ _ => .inl h0⟩
 · have hb : w2.heap[b]? = some (w2.heap[b]) := Array.getElem?_eq_getElem hlt
   refine ⟨[(b, w2.heap[b])], ⟨hK.1, fun q hq => ?_⟩, fun q hq r hr e => ?_, fun W3 hW3 => .inr ⟨b, off, rfl, ?_, fun i u hu => ?_⟩, fun W3 hW3 e => .inr ⟨b, off, rfl, ?_, ?_, fun i u hu => ?_⟩⟩
   · rcases List.mem_append.1 hq with h | h
     · exact hK.2 q h
     · cases List.mem_singleton.1 h; exact hb
   · cases List.mem_singleton.1 hr
     have := lt_of_block (hW.2 q hq)
     have e' : b = q.1 := e
     omega
   · have := hW3.2 _ Tw.m0; exact lt_of_block this
   · rw [cell_same (w2 := w2) (by rw [hW3.2 _ Tw.m0]; exact hb.symm)]; exact hc i u hu
   · have := hW.size; omega
   · have := hW3.2 _ Tw.m0; exact lt_of_block this
   · rw [cell_same (w2 := w2) (by rw [hW3.2 _ Tw.m0]; exact hb.symm)]; exact hc i u hu
end
section
variable {P : Program} {T E : TypeId} {W0 : Base}
end
def Ans (w : World) (l : List Nat) (e : Ending) (w' : World) : Prop := ∃ q d, e = .returned (.slice q l.length d) ∧ l.length ≤ d ∧ SLF w w' q (nums l) ∧ Below w.heap.size w w'
def AnsV (w : World) (l : List Nat) (e : Ending) (w' : World) : Prop := ∃ q d, e = .returned (.slice q l.length d) ∧ l.length ≤ d ∧ SLV w' q (nums l) ∧ Below w.heap.size w w'
def AnsG (W0 : Base) (K : List (Nat × Obj)) (l : List Nat) (v : Value) (K2 : List (Nat × Obj)) : Prop := ∃ q d T, v = .slice q l.length d ∧ l.length ≤ d ∧ NS W0 q l T ∧ (∀ W3, KS W0 T W3 → W0.B = W0.w.heap.size → SLF W0.w W3 q (nums l)) ∧ Dj K T ∧ K2 = K ++ T
def AnsW (W0 : Base) (K : List (Nat × Obj)) (l : List Nat) (v : Value) (K2 : List (Nat × Obj)) : Prop := ∃ q d T, v = .slice q l.length d ∧ l.length ≤ d ∧ NS W0 q l T ∧ K2 = K ++ T
def Ans2 (w : World) (l m : List Nat) (e : Ending) (w' : World) : Prop := ∃ q d q2 d2, e = .returned (.tuple #[.slice q l.length d, .slice q2 m.length d2]) ∧ l.length ≤ d ∧ m.length ≤ d2 ∧ SLV w' q (nums l) ∧ SLV w' q2 (nums m) ∧ Below w.heap.size w w'
def AnsW2 (W0 : Base) (K : List (Nat × Obj)) (l m : List Nat) (v : Value) (K2 : List (Nat × Obj)) : Prop := ∃ q d q2 d2 T, v = .tuple #[.slice q l.length d, .slice q2 m.length d2] ∧ l.length ≤ d ∧ m.length ≤ d2 ∧ NS W0 q l T ∧ NS W0 q2 m T ∧ K2 = K ++ T
section
variable {W0 : Base} {K : List (Nat × Obj)} {W w2 : World} {l m : List Nat} {e : Ending}
theorem Ans.v (h : Ans W l e w2) : AnsV W l e w2 := by
 obtain ⟨q, d, h1, h2, h3, h4⟩ := h
 exact ⟨q, d, h1, h2, h3.slv, h4⟩
theorem Ans.g (h : Ans W l e w2) (hW : KS W0 K W) : ∃ v K2, e = .returned v ∧ KS W0 K2 w2 ∧ AnsG W0 K l v K2 := by
 obtain ⟨q, d, h1, h2, h3, h4⟩ := h
 obtain ⟨T, a1, a2, a3, a4⟩ := ns_new hW h4 h3
 exact ⟨_, _, h1, a1, q, d, T, rfl, h2, a3, a4, a2, rfl⟩
theorem ns_of' {p : Option Addr} (hW : KS W0 K W) (hB : Below W.heap.size W w2) (hs : SLV w2 p (nums l)) : ∃ T, KS W0 (K ++ T) w2 ∧ NS W0 p l T := by
 have hK := hW.below hB
 rcases hs with h0 | ⟨b, off, rfl, hlt, hc⟩
 · exact ⟨[], by rw [List.append_nil]; exact hK, fun _ _ => .inl h0⟩
 · have hb : w2.heap[b]? = some (w2.heap[b]) := Array.getElem?_eq_getElem hlt
   refine ⟨[(b, w2.heap[b])], ⟨hK.1, fun q hq => ?_⟩, fun W3 hW3 => .inr ⟨b, off, rfl, ?_, fun i u hu => ?_⟩⟩
   · rcases List.mem_append.1 hq with h | h
     · exact hK.2 q h
     · cases List.mem_singleton.1 h; exact hb
   · have := hW3.2 _ Tw.m0; exact lt_of_block this
   · rw [cell_same (w2 := w2) (by rw [hW3.2 _ Tw.m0]; exact hb.symm)]; exact hc i u hu
theorem AnsV.g (h : AnsV W l e w2) (hW : KS W0 K W) : ∃ v K2, e = .returned v ∧ KS W0 K2 w2 ∧ AnsW W0 K l v K2 := by
 obtain ⟨q, d, h1, h2, h3, h4⟩ := h
 obtain ⟨T, a1, a3⟩ := ns_of' hW h4 h3
 exact ⟨_, _, h1, a1, q, d, T, rfl, h2, a3, rfl⟩
theorem Ans2.g (h : Ans2 W l m e w2) (hW : KS W0 K W) : ∃ v K2, e = .returned v ∧ KS W0 K2 w2 ∧ AnsW2 W0 K l m v K2 := by
 obtain ⟨q, d, q2, d2, h1, h2, h3, h4, h5, h6⟩ := h
 obtain ⟨T, a1, a3⟩ := ns_of' hW h6 h4
 obtain ⟨U, b1, b3⟩ := ns_of' a1 (Below.refl _ _) h5
 refine ⟨_, _, h1, b1, q, d, q2, d2, T ++ U, rfl, h2, h3, a3.mono (fun q hq => List.mem_append_left _ hq), b3.mono (fun q hq => List.mem_append_right _ hq), by rw [List.append_assoc]⟩
end
section
variable {P : Program} {W0 : Base}
end
end Tw
namespace Go.Proofs.YtllmpemmknblaaaDoor
open Go Go.RowKit Tw
theorem same_is (A B : List Bx) (pA pB : Option Addr) (cA cB : Nat) {nA nB : Nat} (eA : A.length = nA) (eB : B.length = nB) (lA : A.length ≤ 4000000000) (w : World) (hA : SLV w pA (bcs A)) (hB : SLV w pB (bcs B)) (h : A = B) : Calls Tryd.prog 28 #[.slice pA nA cA, .slice pB nB cB] w fun e w' => e = .returned (.bool true) ∧ Below w.heap.size w w' := by
 subst eA; subst eB
 exact same_true A B pA pB cA cB lA w hA hB h
end Go.Proofs.YtllmpemmknblaaaDoor
/- Lists of boxes: what the law of lists leans on. -/
namespace Go.Proofs.YtllmpemmknblaaaDoor
open Go Go.RowKit Tw
def OutRL {α : Type} (cells : α → List Value) (W0 : Base) (K : List (Nat × Obj)) (l : List α) (v : Value) (K' : List (Nat × Obj)) : Prop :=
 ∃ p c Kl, v = .slice p l.length c ∧ l.length ≤ c ∧ RL cells W0 p l Kl ∧ (∀ p ∈ K, ∀ q ∈ Kl, q.1 ≠ p.1) ∧ K' = K ++ Kl
theorem OutRL.sub {α : Type} {cells : α → List Value} {W0 : Base} {K K' : List (Nat × Obj)} {l : List α} {v : Value} (h : OutRL cells W0 K l v K') : ∀ p ∈ K, p ∈ K' := by
 obtain ⟨_, _, _, _, _, _, _, rfl⟩ := h
 exact fun p hp => List.mem_append_left _ hp
def OutOL (W0 : Base) (K : List (Nat × Obj)) (E : TypeId) (sz n : Nat) (xs : List Value) (v : Value) (K' : List (Nat × Obj)) : Prop :=
 ∃ Kl, OwnL W0 E sz v n xs Kl ∧ (∀ p ∈ K, ∀ q ∈ Kl, q.1 ≠ p.1) ∧ K' = K ++ Kl
section
variable {P : Program} {W0 : Base} {K : List (Nat × Obj)} {W : World} {E : TypeId} {sz n : Nat} {f : FuncId} {args : Array Value}
theorem calls_r {α : Type} {cells : α → List Value} {l : List α} (hW : KS W0 K W) (h : Calls P f args W fun e w' => ∃ v, e = .returned v ∧ OutV W w' E sz v l.length (l.flatMap cells) ∧ Below W.heap.size W w') :
   Calls P f args W fun e w' => ∃ v K', e = .returned v ∧ KS W0 K' w' ∧ OutRL cells W0 K l v K' :=
 (calls_rl hW h).mono fun _ _ ⟨v, K', he, hk, p, c, Kl, hv, hn, hR, hd, hK⟩ => ⟨v, K', he, hk, p, c, Kl, hv, hn, hR, hd, hK⟩
theorem calls_o {xs : List Value} (hW : KS W0 K W) (h : Calls P f args W fun e w' => ∃ v, e = .returned v ∧ OutV W w' E sz v n xs ∧ Below W.heap.size W w') :
   Calls P f args W fun e w' => ∃ v K', e = .returned v ∧ KS W0 K' w' ∧ OutOL W0 K E sz n xs v K' :=
 h.mono fun e w' ⟨v, he, hO, hb⟩ => by
   obtain ⟨Kl, h1, h2, h3⟩ := hO.own hW hb
   exact ⟨v, _, he, h3, Kl, h1, h2, rfl⟩
end
theorem er_splitB {α : Type} {l : List α} {k : Nat} {x : α} (h : l[k]? = some x) : l = l.take k ++ x :: l.drop (k + 1) := by
 obtain ⟨hk, rfl⟩ := List.getElem?_eq_some_iff.1 h
 conv => lhs; rw [← List.take_append_drop k l, List.drop_eq_getElem_cons hk]
def RowR {α : Type} (cells : α → List Value) (cur : Array Value) (l : List α) : Prop := ∃ rest, cur.toList = l.flatMap cells ++ rest
section
variable {α : Type} {cells : α → List Value} {sz : Nat} {cur : Array Value} {l : List α} {k j : Nat} {c c' : α} {v : Value}
theorem RowR.get (h : RowR cells cur l) (hc : ∀ y, (cells y).length = sz) (hk : l[k]? = some c) : ∀ (j : Nat) (v : Value), (cells c)[j]? = some v → cur[0 + k * sz + j]? = some v := fun j v hv => by
 obtain ⟨rest, h⟩ := h
 have h1 := flat_get hc hk hv
 rw [← Array.getElem?_toList, h, Nat.zero_add, List.getElem?_append_left (List.getElem?_eq_some_iff.1 h1).1, h1]
theorem flat_set (hc : ∀ y, (cells y).length = sz) (hk : l[k]? = some c) (hj : j < sz) (he : cells c' = (cells c).set j v) : (l.flatMap cells).set (k * sz + j) v = (l.set k c').flatMap cells := by
 obtain ⟨hkl, hkc⟩ := List.getElem?_eq_some_iff.1 hk
 have e1 := er_splitB hk
 have hl : ((l.take k).flatMap cells).length = k * sz := by rw [flat_len hc, List.length_take, Nat.min_eq_left Tw.om]
 rw [show l.set k c' = l.take k ++ c' :: l.drop (k + 1) from by rw [List.set_eq_take_append_cons_drop, if_pos hkl], List.flatMap_append, List.flatMap_cons, he]
 conv => lhs; rw [e1, List.flatMap_append, List.flatMap_cons]
 rw [List.set_append_right _ _ (by rw [hl]; omega), hl, Nat.add_sub_cancel_left, List.set_append_left _ _ (by rw [hc]; exact hj)]
theorem RowR.set (h : RowR cells cur l) (hc : ∀ y, (cells y).length = sz) (hk : l[k]? = some c) (hj : j < sz) (he : cells c' = (cells c).set j v) : RowR cells (cur.setIfInBounds (0 + k * sz + j) v) (l.set k c') := by
 obtain ⟨rest, h⟩ := h
 refine ⟨rest, ?_⟩
 have hkl := (List.getElem?_eq_some_iff.1 hk).1
 have hlt : k * sz + j < (l.flatMap cells).length := by
   rw [flat_len hc]
   have : (k + 1) * sz ≤ l.length * sz := Nat.mul_le_mul_right _ hkl
   rw [Nat.succ_mul] at this; omega
 rw [Array.toList_setIfInBounds, h, Nat.zero_add, List.set_append_left _ _ hlt, flat_set hc hk hj he]
theorem rowr_slv {W0 : Base} {K : List (Nat × Obj)} {W : World} {g : Nat} {t : TypeId} {fr : Nat × Nat} (hW : KS W0 K W) (hm : (g, .cells cur t fr) ∈ K) (h : RowR cells cur l) : SLV W (some ⟨g, 0, none⟩) (l.flatMap cells) := by
 obtain ⟨rest, h⟩ := h
 refine .inr ⟨g, 0, rfl, lt_of_block (hW.2 _ hm), fun i u hu => ?_⟩
 rw [Nat.zero_add, cell_of_row W g i cur t fr (hW.2 _ hm), ← Array.getElem?_toList, h, List.getElem?_append_left (List.getElem?_eq_some_iff.1 hu).1, hu]
end
def bxL (b : Bx) : List Value := (bxC b).toList
theorem bxL_len (b : Bx) : (bxL b).length = 9 := rfl
theorem bxL_one (b : Bx) : ∀ v ∈ bxL b, v.oneCell' = true := by
 show ∀ v ∈ (bxC b).toList, v.oneCell' = true
 rw [← bcs_one]
 exact bcs_onec _
def smL (s : Sm) : List Value := (smC s).toList
theorem smL_one (s : Sm) : ∀ v ∈ smL s, v.oneCell' = true := fun v hv => by
 simp only [smL, smC, List.mem_cons, List.not_mem_nil, or_false] at hv
 rcases hv with rfl | rfl | rfl | rfl | rfl <;> rfl
theorem neq_smL {s : Sm} {px py : Operand} (w : World) : (do eqGuard .neq 47 px py (.agg (smL s).toArray) (.agg (smL s).toArray); binOp .neq 47 (.agg (smL s).toArray) (.agg (smL s).toArray) : Sem Value).run Tryd.prog w = .ok (.bool false) w := by
 unfold smL smC
 go_simp
theorem valid_two (l : List Bx) : ∃ va ve : Int, validV l = .tuple #[.int .i64 va, .int .i64 ve] ∧ 0 ≤ ve ∧ ve ≤ 60 := by
 unfold validV
 split
 · exact ⟨_, _, rfl, by decide, by decide⟩
 · split
   · exact ⟨_, _, rfl, by decide, by decide⟩
   · exact ⟨_, _, rfl, by decide, by decide⟩
theorem find_two (p : Bx → Bool) (l : List Bx) : (l.find? p = none ∧ idxFrom p 0 l = -1) ∨ ∃ b j, l.find? p = some b ∧ idxFrom p 0 l = ((j : Nat) : Int) ∧ l[j]? = some b := by
 rcases idx_find (p := p) (l := l) (k := 0) with h | ⟨b, j, h1, h2, h3⟩
 · exact .inl h
 · exact .inr ⟨b, j, h1, by rw [h2, Nat.zero_add], h3⟩
theorem numbered_p (l : List Bx) (n : List UInt8) : numberedX l n = l.find? (numP n) := by
 unfold numberedX
 by_cases h : n = []
 · rw [if_pos h]
   symm
   rw [List.find?_eq_none]
   intro b _
   unfold numP
   rw [decide_eq_true h]
   simp
 · rw [if_neg h]
   congr 1
   funext b
   unfold numP
   rw [decide_eq_false h]
   simp
theorem rep_last (l : List Bx) : l ++ (List.replicate (l.length + 1) bx0).drop l.length = l ++ [bx0] := by
 rw [List.drop_replicate, Nat.add_sub_cancel_left]; rfl
theorem set_last (l : List Bx) (a b : Bx) : (l ++ [a]).set l.length b = l ++ [b] := by
 rw [List.set_append_right _ _ (Nat.le_refl _), Nat.sub_self]; rfl
theorem row_put {cur : Array Value} {l : List Bx} (b : Bx) (h : RowX cur (l ++ [bx0])) : RowX (putR cur l.length b) (l ++ [b]) := by
 rw [← set_last l bx0 b]
 exact RowX.put h (by simp)
theorem row_rl {W0 : Base} {g : Nat} {cur : Array Value} {E : TypeId} {l r : List Bx} (h : RowX cur (l ++ r)) : RL bxL W0 (some ⟨g, 0, none⟩) l [(g, .cells cur E (0, 0))] := fun W hW => by
 have h1 := slv_take l.length (rowx_slv (hW.2 _ Tw.m0) h)
 rw [List.take_left] at h1
 exact h1
theorem row_last {cur : Array Value} {l : List Bx} {b : Bx} (h : RowX cur (l ++ [b])) : ∀ (j : Nat) (v : Value), (bxC b).toList[j]? = some v → cur[0 + l.length * 9 + j]? = some v :=
 RowX.get h (by rw [List.getElem?_append_right (Nat.le_refl _), Nat.sub_self]; rfl)
theorem own_blk {W0 : Base} {v : Value} {n : Nat} {m : List Bx} {Kl : List (Nat × Obj)} (h : OwnL W0 26 9 v n (bcs m) Kl) (hn : 0 < n) : ∃ g cap cur, v = .slice (some ⟨g, 0, none⟩) n cap ∧ W0.B ≤ g ∧ RowN 9 cur cap n (bcs m) ∧ RowR bxL cur m ∧ Kl = [(g, .cells cur 26 (0, 0))] := by
 rcases h with ⟨rfl, _⟩ | ⟨g, cap, cur, hv, hB, hR, hK⟩
 · omega
 · exact ⟨g, cap, cur, hv, hB, hR, rowx_own hR, hK⟩
theorem blk_own {W0 : Base} {g cap n k : Nat} {m : List Bx} {b b' : Bx} {cur : Array Value} {v : Value} (hB : W0.B ≤ g) (hR : RowN 9 cur cap n (bcs m)) (hb : m[k]? = some b) (he : bxL b' = (bxL b).set 4 v) : OwnL W0 26 9 (.slice (some ⟨g, 0, none⟩) n cap) n (bcs (m.set k b')) [(g, .cells (cur.setIfInBounds (0 + k * 9 + 4) v) 26 (0, 0))] := by
 have hr : RowR bxL cur m := rowx_own hR
 have h2 : RowX (cur.setIfInBounds (0 + k * 9 + 4) v) (m.set k b') := RowR.set hr bxL_len hb (by decide) he
 have hl := hR.2.2.2.1
 rw [bcs_len] at hl
 exact .inr ⟨g, cap, _, rfl, hB, own_rowx hR (by simp) h2 (by rw [List.length_set]; omega), rfl⟩
end Go.Proofs.YtllmpemmknblaaaDoor
