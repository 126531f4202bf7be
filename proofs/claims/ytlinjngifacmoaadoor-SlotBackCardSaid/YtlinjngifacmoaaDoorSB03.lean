import Derived.Test.YtlinjngifacmoaaDoorSB00
import Derived.Test.YtlinjngifacmoaaDoorSB02
/- Part of the proof: L8k, L8l, L8m, L8n. -/
set_option linter.unusedVariables false
set_option linter.unusedSimpArgs false
set_option linter.unusedSectionVars false
namespace Go.Proofs.YtlinjngifacmoaaDoor
open Go Go.RowKit Tw
theorem tier_is {a b : Int} {c d e f : Bool} (h : a = b) (h2 : c = d) (h3 : e = f) : Ending.returned (.tuple #[.int .i64 a, .bool c, .bool e]) = .returned (.tuple #[.int .i64 b, .bool d, .bool f]) := by rw [h, h2, h3]
set_option maxRecDepth 100000 in
set_option maxHeartbeats 4000000 in
theorem digitsOf_any (l : List UInt8) (hl : l.length ≤ 281474976710656) (w : World) : Calls Tryd.prog 103 #[strV l] w fun e w' => ((∃ b0 b1 b2 b3 b4 b5 b6, l = [b0, b1, b2, b3, b4, b5, b6] ∧ digsOk l = true ∧ e = .returned (.tuple #[.agg #[.int .i64 (((b0.toNat - 48 : Nat)) : Int), .int .i64 (((b1.toNat - 48 : Nat)) : Int), .int .i64 (((b2.toNat - 48 : Nat)) : Int), .int .i64 (((b3.toNat - 48 : Nat)) : Int), .int .i64 (((b4.toNat - 48 : Nat)) : Int), .int .i64 (((b5.toNat - 48 : Nat)) : Int), .int .i64 (((b6.toNat - 48 : Nat)) : Int)], .bool true])) ∨ (digsOk l = false ∧ ∃ d0 d1 d2 d3 d4 d5 d6 : Int, e = .returned (.tuple #[.agg #[.int .i64 d0, .int .i64 d1, .int .i64 d2, .int .i64 d3, .int .i64 d4, .int .i64 d5, .int .i64 d6], .bool false]))) ∧ Below w.heap.size w w' := by
 go_enter Tryd.func103, Tryd.ntmps103
 refine wp_seq ?_
 refine wp_region_L [] (KS.start w) ?_
 refine wpL_new (fun g => .pointer (some ⟨g, 0, none⟩)) (obi := .cells #[.int .i64 0, .int .i64 0, .int .i64 0, .int .i64 0, .int .i64 0, .int .i64 0, .int .i64 0] 150 (0, 0)) rfl rfl Tw.kf Tw.pf fun g1 Bg1 Fg1 => ?_
 refine lm (v := .bool false) rfl rfl ?_
 refine wpL_done (fun W1 hW1 => ?_)
 change Code.wp ..
 refine wp_seq ?_
 refine wp_region_L _ hW1 ?_
 refine wpL_new (fun g => .pointer (some ⟨g, 0, none⟩)) (obi := .cells #[.int .i64 0, .int .i64 0, .int .i64 0, .int .i64 0, .int .i64 0, .int .i64 0, .int .i64 0] 150 (0, 0)) rfl rfl Tw.kf Tw.pf fun g2 Bg2 Fg2 => ?_
 obtain dj3_0 : g1 ≠ g2 := Tw.dkf Fg2
 refine wpL_done (fun W2 hW2 => ?_)
 change Code.wp ..
 refine wp_seq ?_
 refine wp_seq ?_
 refine wp_region_L _ hW2 ?_
 refine lm (v := strV l) rfl rfl ?_
 refine lp (v := .int .i64 ((l.length : Nat) : Int)) rfl rfl (run_lenS (l := l) rfl Tryd.underlying9 Tw.kr) ?_
 refine lp (v := .bool (!(decide (l.length = 7)))) rfl rfl (run_bin rfl (vx := (.int .i64 ((l.length : Nat) : Int))) (vy := (.int .i64 ((7 : Nat) : Int))) Tw.kr Tw.kr fun w => bn_neq rfl w) ?_
 refine wpL_done (fun W3 hW3 => ?_)
 change Code.wp ..
 cases hd1 : (decide (l.length = 7)) with
 | false =>
   have h1 : ¬ (l.length = 7) := of_decide_eq_false hd1
   clear hd1
   refine wp_cond_true rfl ?_
   refine wp_seq ?_
   refine wp_region_L _ hW3 ?_
   refine lv (v := .agg #[.int .i64 0, .int .i64 0, .int .i64 0, .int .i64 0, .int .i64 0, .int .i64 0, .int .i64 0]) rfl rfl (yb_load (n := 7) (off := 0) rfl Tw.kr Tw.m0 Tryd.underlying150 rfl Tw.kr (by first | (simp [Value.cells]; done) | exact Nat.le_of_ble_eq_true rfl) Tw.kr) ?_
   refine wpL_s [(g2, .cells #[.int .i64 0, .int .i64 0, .int .i64 0, .int .i64 0, .int .i64 0, .int .i64 0, .int .i64 0] 150 (0, 0)), (g1, .cells #[.int .i64 0, .int .i64 0, .int .i64 0, .int .i64 0, .int .i64 0, .int .i64 0, .int .i64 0] 150 (0, 0))] rfl rfl (st_row (off := 0) (v := .agg #[.int .i64 0, .int .i64 0, .int .i64 0, .int .i64 0, .int .i64 0, .int .i64 0, .int .i64 0]) rfl Tw.kr Tw.kr Tw.m1 Bg1 Tw.kr (by first | (simp [Value.cells]; done) | exact Nat.le_of_ble_eq_true rfl) (by intro v hv; simp [Value.cells] at hv; first | (subst hv; rfl) | (rcases hv with rfl | rfl | rfl | rfl | rfl | rfl | rfl <;> rfl)) Tw.kr (List.forall_mem_cons.2 ⟨.inr ⟨Tw.m0, Tw.nee⟩, (List.forall_mem_cons.2 ⟨.inl rfl, (List.forall_mem_nil _)⟩)⟩)) ?_
   refine lm (v := .bool false) rfl rfl ?_
   refine wpL_done (fun W4 hW4 => ?_)
   change Code.wp ..
   refine wp_ret ?_
   try simp only [inBlock_ret, then_ret]
   refine bodyPost_ret (v := .tuple #[.agg #[.int .i64 0, .int .i64 0, .int .i64 0, .int .i64 0, .int .i64 0, .int .i64 0, .int .i64 0], .bool false]) ?_ rfl ?_
   · exact (res_cell_tmp (p := 2) (q := 3) rfl rfl (hW4.2 _ Tw.m1) Tryd.underlying150 rfl Tw.kr)
   · exact ⟨.inr ⟨digs_nl h1, _, _, _, _, _, _, _, rfl⟩, hW4.1⟩
 | true =>
   have h1 : l.length = 7 := of_decide_eq_true hd1
   clear hd1
   have hl7 : l.length = 7 := h1
   refine wp_cond_false rfl ?_
   refine wp_skip ?_
   change Code.wp ..
   refine wp_seq ?_
   refine wp_seq ?_
   refine wp_region_L _ hW3 ?_
   refine lm (v := .int .i64 0) rfl rfl ?_
   refine wpL_done (fun W5 hW5 => ?_)
   change Code.wp ..
   refine wp_block ?_
   refine wp_loop_rounds 8 ?_
   change Code.wp ..
   refine wp_seq ?_
   refine wp_region_L _ hW5 ?_
   refine lm (v := .bool true) rfl rfl ?_
   refine wpL_done (fun W6 hW6 => ?_)
   change Code.wp ..
   refine wp_seq ?_
   refine wp_cond_true rfl ?_
   refine wp_skip ?_
   change Code.wp ..
   refine wp_seq ?_
   refine wp_block ?_
   refine wp_seq ?_
   refine wp_region_L _ hW6 ?_
   refine lm (v := .int .i64 0) rfl rfl ?_
   refine lm (v := .int .i64 0) rfl rfl ?_
   refine wpL_done (fun W7 hW7 => ?_)
   change Code.wp ..
   refine wp_seq ?_
   refine wp_seq ?_
   refine wp_region_L _ hW7 ?_
   refine lm (v := strV l) rfl rfl ?_
   refine lm (v := .int .i64 0) rfl rfl ?_
   obtain ⟨b4, hb4⟩ : ∃ b, (l : List UInt8)[0]? = some b := ⟨_, List.getElem?_eq_getElem Tw.om⟩
   have lb4 := b4.toNat_lt
   refine lp (v := .int .u8 ((b4.toNat : Nat) : Int)) rfl rfl (run_idxS (j := .i64) (l := l) (k := 0) (b := b4) rfl Tryd.underlying9 Tw.kr Tw.kr hb4) ?_
   refine lp (v := .bool (decide (b4.toNat < 48))) rfl rfl (run_bin rfl (vx := (.int .u8 ((b4.toNat : Nat) : Int))) (vy := (.int .u8 ((48 : Nat) : Int))) Tw.kr Tw.kr fun w => bn_lss rfl w) ?_
   refine lm (v := .bool (decide (b4.toNat < 48))) rfl rfl ?_
   cases hd2 : (decide (b4.toNat < 48)) with
   | false =>
     have h2 : ¬ (b4.toNat < 48) := of_decide_eq_false hd2
     clear hd2
     refine lm (v := strV l) rfl rfl ?_
     refine lm (v := .int .i64 0) rfl rfl ?_
     refine lp (v := .int .u8 ((b4.toNat : Nat) : Int)) rfl rfl (run_idxS (j := .i64) (l := l) (k := 0) (b := b4) rfl Tryd.underlying9 Tw.kr Tw.kr hb4) ?_
     refine lp (v := .bool (decide (57 < b4.toNat))) rfl rfl (run_bin rfl (vx := (.int .u8 ((b4.toNat : Nat) : Int))) (vy := (.int .u8 ((57 : Nat) : Int))) Tw.kr Tw.kr fun w => bn_gtr rfl w) ?_
     refine lm (v := .bool (decide (57 < b4.toNat))) rfl rfl ?_
     refine wpL_done (fun W8 hW8 => ?_)
     change Code.wp ..
     cases hd3 : (decide (57 < b4.toNat)) with
     | false =>
       have h3 : ¬ (57 < b4.toNat) := of_decide_eq_false hd3
       clear hd3
       refine wp_cond_false rfl ?_
       refine wp_skip ?_
       change Code.wp ..
       refine wp_region_L _ hW8 ?_
       refine lm (v := .int .i64 0) rfl rfl ?_
       refine lm (v := strV l) rfl rfl ?_
       refine lm (v := .int .i64 0) rfl rfl ?_
       refine lp (v := .int .u8 ((b4.toNat : Nat) : Int)) rfl rfl (run_idxS (j := .i64) (l := l) (k := 0) (b := b4) rfl Tryd.underlying9 Tw.kr Tw.kr hb4) ?_
       refine lp (v := .int .u8 (((b4.toNat - 48) : Nat) : Int)) rfl rfl (run_bin rfl (vx := (.int .u8 ((b4.toNat : Nat) : Int))) (vy := (.int .u8 ((48 : Nat) : Int))) Tw.kr Tw.kr fun w => bn_sub (z := (b4.toNat - 48)) rfl Tw.om (wr_u8 Tw.om) w) ?_
       refine lp (v := .int .i64 (((b4.toNat - 48) : Nat) : Int)) rfl rfl (run_conv rfl (vx := (.int .u8 (((b4.toNat - 48) : Nat) : Int))) Tw.kr fun w => cv_int Tryd.underlying5 Tryd.underlying3 (wr_i64 Tw.om) w) ?_
       refine lm (v := .pointer (some ⟨g2, 0, none⟩)) rfl rfl ?_
       refine wpL_s [(g2, .cells #[.int .i64 (((b4.toNat - 48) : Nat) : Int), .int .i64 0, .int .i64 0, .int .i64 0, .int .i64 0, .int .i64 0, .int .i64 0] 150 (0, 0)), (g1, .cells #[.int .i64 0, .int .i64 0, .int .i64 0, .int .i64 0, .int .i64 0, .int .i64 0, .int .i64 0] 150 (0, 0))] rfl rfl (st_row (off := 0) (v := .int .i64 (((b4.toNat - 48) : Nat) : Int)) rfl Tw.kr Tw.kr Tw.m0 Bg2 Tw.kr (by first | (simp [Value.cells]; done) | exact Nat.le_of_ble_eq_true rfl) (by intro v hv; simp [Value.cells] at hv; first | (subst hv; rfl) | (rcases hv with rfl <;> rfl)) Tw.kr (List.forall_mem_cons.2 ⟨.inl rfl, (List.forall_mem_cons.2 ⟨.inr ⟨Tw.m1, Tw.nee⟩, (List.forall_mem_nil _)⟩)⟩)) ?_
       refine wpL_done (fun W9 hW9 => ?_)
       change Code.wp ..
       refine wp_region_L _ hW9 ?_
       refine lm (v := .int .i64 1) rfl rfl ?_
       refine lm (v := .int .i64 1) rfl rfl ?_
       refine wpL_done (fun W10 hW10 => ?_)
       change Code.wp ..
       refine wp_seq ?_
       refine wp_region_L _ hW10 ?_
       refine lm (v := .bool true) rfl rfl ?_
       refine wpL_done (fun W11 hW11 => ?_)
       change Code.wp ..
       refine wp_seq ?_
       refine wp_cond_true rfl ?_
       refine wp_skip ?_
       change Code.wp ..
       refine wp_seq ?_
       refine wp_block ?_
       refine wp_seq ?_
       refine wp_region_L _ hW11 ?_
       refine lm (v := .int .i64 1) rfl rfl ?_
       refine lm (v := .int .i64 1) rfl rfl ?_
       refine wpL_done (fun W12 hW12 => ?_)
       change Code.wp ..
       refine wp_seq ?_
       refine wp_seq ?_
       refine wp_region_L _ hW12 ?_
       refine lm (v := strV l) rfl rfl ?_
       refine lm (v := .int .i64 1) rfl rfl ?_
       obtain ⟨b5, hb5⟩ : ∃ b, (l : List UInt8)[1]? = some b := ⟨_, List.getElem?_eq_getElem Tw.om⟩
       have lb5 := b5.toNat_lt
       refine lp (v := .int .u8 ((b5.toNat : Nat) : Int)) rfl rfl (run_idxS (j := .i64) (l := l) (k := 1) (b := b5) rfl Tryd.underlying9 Tw.kr Tw.kr hb5) ?_
       refine lp (v := .bool (decide (b5.toNat < 48))) rfl rfl (run_bin rfl (vx := (.int .u8 ((b5.toNat : Nat) : Int))) (vy := (.int .u8 ((48 : Nat) : Int))) Tw.kr Tw.kr fun w => bn_lss rfl w) ?_
       refine lm (v := .bool (decide (b5.toNat < 48))) rfl rfl ?_
       cases hd4 : (decide (b5.toNat < 48)) with
       | false =>
         have h4 : ¬ (b5.toNat < 48) := of_decide_eq_false hd4
         clear hd4
         refine lm (v := strV l) rfl rfl ?_
         refine lm (v := .int .i64 1) rfl rfl ?_
         refine lp (v := .int .u8 ((b5.toNat : Nat) : Int)) rfl rfl (run_idxS (j := .i64) (l := l) (k := 1) (b := b5) rfl Tryd.underlying9 Tw.kr Tw.kr hb5) ?_
         refine lp (v := .bool (decide (57 < b5.toNat))) rfl rfl (run_bin rfl (vx := (.int .u8 ((b5.toNat : Nat) : Int))) (vy := (.int .u8 ((57 : Nat) : Int))) Tw.kr Tw.kr fun w => bn_gtr rfl w) ?_
         refine lm (v := .bool (decide (57 < b5.toNat))) rfl rfl ?_
         refine wpL_done (fun W13 hW13 => ?_)
         change Code.wp ..
         cases hd5 : (decide (57 < b5.toNat)) with
         | false =>
           have h5 : ¬ (57 < b5.toNat) := of_decide_eq_false hd5
           clear hd5
           refine wp_cond_false rfl ?_
           refine wp_skip ?_
           change Code.wp ..
           refine wp_region_L _ hW13 ?_
           refine lm (v := .int .i64 1) rfl rfl ?_
           refine lm (v := strV l) rfl rfl ?_
           refine lm (v := .int .i64 1) rfl rfl ?_
           refine lp (v := .int .u8 ((b5.toNat : Nat) : Int)) rfl rfl (run_idxS (j := .i64) (l := l) (k := 1) (b := b5) rfl Tryd.underlying9 Tw.kr Tw.kr hb5) ?_
           refine lp (v := .int .u8 (((b5.toNat - 48) : Nat) : Int)) rfl rfl (run_bin rfl (vx := (.int .u8 ((b5.toNat : Nat) : Int))) (vy := (.int .u8 ((48 : Nat) : Int))) Tw.kr Tw.kr fun w => bn_sub (z := (b5.toNat - 48)) rfl Tw.om (wr_u8 Tw.om) w) ?_
           refine lp (v := .int .i64 (((b5.toNat - 48) : Nat) : Int)) rfl rfl (run_conv rfl (vx := (.int .u8 (((b5.toNat - 48) : Nat) : Int))) Tw.kr fun w => cv_int Tryd.underlying5 Tryd.underlying3 (wr_i64 Tw.om) w) ?_
           refine lm (v := .pointer (some ⟨g2, 1, none⟩)) rfl rfl ?_
           refine wpL_s [(g2, .cells #[.int .i64 (((b4.toNat - 48) : Nat) : Int), .int .i64 (((b5.toNat - 48) : Nat) : Int), .int .i64 0, .int .i64 0, .int .i64 0, .int .i64 0, .int .i64 0] 150 (0, 0)), (g1, .cells #[.int .i64 0, .int .i64 0, .int .i64 0, .int .i64 0, .int .i64 0, .int .i64 0, .int .i64 0] 150 (0, 0))] rfl rfl (st_row (off := 1) (v := .int .i64 (((b5.toNat - 48) : Nat) : Int)) rfl Tw.kr Tw.kr Tw.m0 Bg2 Tw.kr (by first | (simp [Value.cells]; done) | exact Nat.le_of_ble_eq_true rfl) (by intro v hv; simp [Value.cells] at hv; first | (subst hv; rfl) | (rcases hv with rfl <;> rfl)) Tw.kr (List.forall_mem_cons.2 ⟨.inl rfl, (List.forall_mem_cons.2 ⟨.inr ⟨Tw.m1, Tw.nee⟩, (List.forall_mem_nil _)⟩)⟩)) ?_
           refine wpL_done (fun W14 hW14 => ?_)
           change Code.wp ..
           refine wp_region_L _ hW14 ?_
           refine lm (v := .int .i64 2) rfl rfl ?_
           refine lm (v := .int .i64 2) rfl rfl ?_
           refine wpL_done (fun W15 hW15 => ?_)
           change Code.wp ..
           refine wp_seq ?_
           refine wp_region_L _ hW15 ?_
           refine lm (v := .bool true) rfl rfl ?_
           refine wpL_done (fun W16 hW16 => ?_)
           change Code.wp ..
           refine wp_seq ?_
           refine wp_cond_true rfl ?_
           refine wp_skip ?_
           change Code.wp ..
           refine wp_seq ?_
           refine wp_block ?_
           refine wp_seq ?_
           refine wp_region_L _ hW16 ?_
           refine lm (v := .int .i64 2) rfl rfl ?_
           refine lm (v := .int .i64 2) rfl rfl ?_
           refine wpL_done (fun W17 hW17 => ?_)
           change Code.wp ..
           refine wp_seq ?_
           refine wp_seq ?_
           refine wp_region_L _ hW17 ?_
           refine lm (v := strV l) rfl rfl ?_
           refine lm (v := .int .i64 2) rfl rfl ?_
           obtain ⟨b6, hb6⟩ : ∃ b, (l : List UInt8)[2]? = some b := ⟨_, List.getElem?_eq_getElem Tw.om⟩
           have lb6 := b6.toNat_lt
           refine lp (v := .int .u8 ((b6.toNat : Nat) : Int)) rfl rfl (run_idxS (j := .i64) (l := l) (k := 2) (b := b6) rfl Tryd.underlying9 Tw.kr Tw.kr hb6) ?_
           refine lp (v := .bool (decide (b6.toNat < 48))) rfl rfl (run_bin rfl (vx := (.int .u8 ((b6.toNat : Nat) : Int))) (vy := (.int .u8 ((48 : Nat) : Int))) Tw.kr Tw.kr fun w => bn_lss rfl w) ?_
           refine lm (v := .bool (decide (b6.toNat < 48))) rfl rfl ?_
           cases hd6 : (decide (b6.toNat < 48)) with
           | false =>
             have h6 : ¬ (b6.toNat < 48) := of_decide_eq_false hd6
             clear hd6
             refine lm (v := strV l) rfl rfl ?_
             refine lm (v := .int .i64 2) rfl rfl ?_
             refine lp (v := .int .u8 ((b6.toNat : Nat) : Int)) rfl rfl (run_idxS (j := .i64) (l := l) (k := 2) (b := b6) rfl Tryd.underlying9 Tw.kr Tw.kr hb6) ?_
             refine lp (v := .bool (decide (57 < b6.toNat))) rfl rfl (run_bin rfl (vx := (.int .u8 ((b6.toNat : Nat) : Int))) (vy := (.int .u8 ((57 : Nat) : Int))) Tw.kr Tw.kr fun w => bn_gtr rfl w) ?_
             refine lm (v := .bool (decide (57 < b6.toNat))) rfl rfl ?_
             refine wpL_done (fun W18 hW18 => ?_)
             change Code.wp ..
             cases hd7 : (decide (57 < b6.toNat)) with
             | false =>
               have h7 : ¬ (57 < b6.toNat) := of_decide_eq_false hd7
               clear hd7
               refine wp_cond_false rfl ?_
               refine wp_skip ?_
               change Code.wp ..
               refine wp_region_L _ hW18 ?_
               refine lm (v := .int .i64 2) rfl rfl ?_
               refine lm (v := strV l) rfl rfl ?_
               refine lm (v := .int .i64 2) rfl rfl ?_
               refine lp (v := .int .u8 ((b6.toNat : Nat) : Int)) rfl rfl (run_idxS (j := .i64) (l := l) (k := 2) (b := b6) rfl Tryd.underlying9 Tw.kr Tw.kr hb6) ?_
               refine lp (v := .int .u8 (((b6.toNat - 48) : Nat) : Int)) rfl rfl (run_bin rfl (vx := (.int .u8 ((b6.toNat : Nat) : Int))) (vy := (.int .u8 ((48 : Nat) : Int))) Tw.kr Tw.kr fun w => bn_sub (z := (b6.toNat - 48)) rfl Tw.om (wr_u8 Tw.om) w) ?_
               refine lp (v := .int .i64 (((b6.toNat - 48) : Nat) : Int)) rfl rfl (run_conv rfl (vx := (.int .u8 (((b6.toNat - 48) : Nat) : Int))) Tw.kr fun w => cv_int Tryd.underlying5 Tryd.underlying3 (wr_i64 Tw.om) w) ?_
               refine lm (v := .pointer (some ⟨g2, 2, none⟩)) rfl rfl ?_
               refine wpL_s [(g2, .cells #[.int .i64 (((b4.toNat - 48) : Nat) : Int), .int .i64 (((b5.toNat - 48) : Nat) : Int), .int .i64 (((b6.toNat - 48) : Nat) : Int), .int .i64 0, .int .i64 0, .int .i64 0, .int .i64 0] 150 (0, 0)), (g1, .cells #[.int .i64 0, .int .i64 0, .int .i64 0, .int .i64 0, .int .i64 0, .int .i64 0, .int .i64 0] 150 (0, 0))] rfl rfl (st_row (off := 2) (v := .int .i64 (((b6.toNat - 48) : Nat) : Int)) rfl Tw.kr Tw.kr Tw.m0 Bg2 Tw.kr (by first | (simp [Value.cells]; done) | exact Nat.le_of_ble_eq_true rfl) (by intro v hv; simp [Value.cells] at hv; first | (subst hv; rfl) | (rcases hv with rfl <;> rfl)) Tw.kr (List.forall_mem_cons.2 ⟨.inl rfl, (List.forall_mem_cons.2 ⟨.inr ⟨Tw.m1, Tw.nee⟩, (List.forall_mem_nil _)⟩)⟩)) ?_
               refine wpL_done (fun W19 hW19 => ?_)
               change Code.wp ..
               refine wp_region_L _ hW19 ?_
               refine lm (v := .int .i64 3) rfl rfl ?_
               refine lm (v := .int .i64 3) rfl rfl ?_
               refine wpL_done (fun W20 hW20 => ?_)
               change Code.wp ..
               refine wp_seq ?_
               refine wp_region_L _ hW20 ?_
               refine lm (v := .bool true) rfl rfl ?_
               refine wpL_done (fun W21 hW21 => ?_)
               change Code.wp ..
               refine wp_seq ?_
               refine wp_cond_true rfl ?_
               refine wp_skip ?_
               change Code.wp ..
               refine wp_seq ?_
               refine wp_block ?_
               refine wp_seq ?_
               refine wp_region_L _ hW21 ?_
               refine lm (v := .int .i64 3) rfl rfl ?_
               refine lm (v := .int .i64 3) rfl rfl ?_
               refine wpL_done (fun W22 hW22 => ?_)
               change Code.wp ..
               refine wp_seq ?_
               refine wp_seq ?_
               refine wp_region_L _ hW22 ?_
               refine lm (v := strV l) rfl rfl ?_
               refine lm (v := .int .i64 3) rfl rfl ?_
               obtain ⟨b7, hb7⟩ : ∃ b, (l : List UInt8)[3]? = some b := ⟨_, List.getElem?_eq_getElem Tw.om⟩
               have lb7 := b7.toNat_lt
               refine lp (v := .int .u8 ((b7.toNat : Nat) : Int)) rfl rfl (run_idxS (j := .i64) (l := l) (k := 3) (b := b7) rfl Tryd.underlying9 Tw.kr Tw.kr hb7) ?_
               refine lp (v := .bool (decide (b7.toNat < 48))) rfl rfl (run_bin rfl (vx := (.int .u8 ((b7.toNat : Nat) : Int))) (vy := (.int .u8 ((48 : Nat) : Int))) Tw.kr Tw.kr fun w => bn_lss rfl w) ?_
               refine lm (v := .bool (decide (b7.toNat < 48))) rfl rfl ?_
               cases hd8 : (decide (b7.toNat < 48)) with
               | false =>
                 have h8 : ¬ (b7.toNat < 48) := of_decide_eq_false hd8
                 clear hd8
                 refine lm (v := strV l) rfl rfl ?_
                 refine lm (v := .int .i64 3) rfl rfl ?_
                 refine lp (v := .int .u8 ((b7.toNat : Nat) : Int)) rfl rfl (run_idxS (j := .i64) (l := l) (k := 3) (b := b7) rfl Tryd.underlying9 Tw.kr Tw.kr hb7) ?_
                 refine lp (v := .bool (decide (57 < b7.toNat))) rfl rfl (run_bin rfl (vx := (.int .u8 ((b7.toNat : Nat) : Int))) (vy := (.int .u8 ((57 : Nat) : Int))) Tw.kr Tw.kr fun w => bn_gtr rfl w) ?_
                 refine lm (v := .bool (decide (57 < b7.toNat))) rfl rfl ?_
                 refine wpL_done (fun W23 hW23 => ?_)
                 change Code.wp ..
                 cases hd9 : (decide (57 < b7.toNat)) with
                 | false =>
                   have h9 : ¬ (57 < b7.toNat) := of_decide_eq_false hd9
                   clear hd9
                   refine wp_cond_false rfl ?_
                   refine wp_skip ?_
                   change Code.wp ..
                   refine wp_region_L _ hW23 ?_
                   refine lm (v := .int .i64 3) rfl rfl ?_
                   refine lm (v := strV l) rfl rfl ?_
                   refine lm (v := .int .i64 3) rfl rfl ?_
                   refine lp (v := .int .u8 ((b7.toNat : Nat) : Int)) rfl rfl (run_idxS (j := .i64) (l := l) (k := 3) (b := b7) rfl Tryd.underlying9 Tw.kr Tw.kr hb7) ?_
                   refine lp (v := .int .u8 (((b7.toNat - 48) : Nat) : Int)) rfl rfl (run_bin rfl (vx := (.int .u8 ((b7.toNat : Nat) : Int))) (vy := (.int .u8 ((48 : Nat) : Int))) Tw.kr Tw.kr fun w => bn_sub (z := (b7.toNat - 48)) rfl Tw.om (wr_u8 Tw.om) w) ?_
                   refine lp (v := .int .i64 (((b7.toNat - 48) : Nat) : Int)) rfl rfl (run_conv rfl (vx := (.int .u8 (((b7.toNat - 48) : Nat) : Int))) Tw.kr fun w => cv_int Tryd.underlying5 Tryd.underlying3 (wr_i64 Tw.om) w) ?_
                   refine lm (v := .pointer (some ⟨g2, 3, none⟩)) rfl rfl ?_
                   refine wpL_s [(g2, .cells #[.int .i64 (((b4.toNat - 48) : Nat) : Int), .int .i64 (((b5.toNat - 48) : Nat) : Int), .int .i64 (((b6.toNat - 48) : Nat) : Int), .int .i64 (((b7.toNat - 48) : Nat) : Int), .int .i64 0, .int .i64 0, .int .i64 0] 150 (0, 0)), (g1, .cells #[.int .i64 0, .int .i64 0, .int .i64 0, .int .i64 0, .int .i64 0, .int .i64 0, .int .i64 0] 150 (0, 0))] rfl rfl (st_row (off := 3) (v := .int .i64 (((b7.toNat - 48) : Nat) : Int)) rfl Tw.kr Tw.kr Tw.m0 Bg2 Tw.kr (by first | (simp [Value.cells]; done) | exact Nat.le_of_ble_eq_true rfl) (by intro v hv; simp [Value.cells] at hv; first | (subst hv; rfl) | (rcases hv with rfl <;> rfl)) Tw.kr (List.forall_mem_cons.2 ⟨.inl rfl, (List.forall_mem_cons.2 ⟨.inr ⟨Tw.m1, Tw.nee⟩, (List.forall_mem_nil _)⟩)⟩)) ?_
                   refine wpL_done (fun W24 hW24 => ?_)
                   change Code.wp ..
                   refine wp_region_L _ hW24 ?_
                   refine lm (v := .int .i64 4) rfl rfl ?_
                   refine lm (v := .int .i64 4) rfl rfl ?_
                   refine wpL_done (fun W25 hW25 => ?_)
                   change Code.wp ..
                   refine wp_seq ?_
                   refine wp_region_L _ hW25 ?_
                   refine lm (v := .bool true) rfl rfl ?_
                   refine wpL_done (fun W26 hW26 => ?_)
                   change Code.wp ..
                   refine wp_seq ?_
                   refine wp_cond_true rfl ?_
                   refine wp_skip ?_
                   change Code.wp ..
                   refine wp_seq ?_
                   refine wp_block ?_
                   refine wp_seq ?_
                   refine wp_region_L _ hW26 ?_
                   refine lm (v := .int .i64 4) rfl rfl ?_
                   refine lm (v := .int .i64 4) rfl rfl ?_
                   refine wpL_done (fun W27 hW27 => ?_)
                   change Code.wp ..
                   refine wp_seq ?_
                   refine wp_seq ?_
                   refine wp_region_L _ hW27 ?_
                   refine lm (v := strV l) rfl rfl ?_
                   refine lm (v := .int .i64 4) rfl rfl ?_
                   obtain ⟨b8, hb8⟩ : ∃ b, (l : List UInt8)[4]? = some b := ⟨_, List.getElem?_eq_getElem Tw.om⟩
                   have lb8 := b8.toNat_lt
                   refine lp (v := .int .u8 ((b8.toNat : Nat) : Int)) rfl rfl (run_idxS (j := .i64) (l := l) (k := 4) (b := b8) rfl Tryd.underlying9 Tw.kr Tw.kr hb8) ?_
                   refine lp (v := .bool (decide (b8.toNat < 48))) rfl rfl (run_bin rfl (vx := (.int .u8 ((b8.toNat : Nat) : Int))) (vy := (.int .u8 ((48 : Nat) : Int))) Tw.kr Tw.kr fun w => bn_lss rfl w) ?_
                   refine lm (v := .bool (decide (b8.toNat < 48))) rfl rfl ?_
                   cases hd10 : (decide (b8.toNat < 48)) with
                   | false =>
                     have h10 : ¬ (b8.toNat < 48) := of_decide_eq_false hd10
                     clear hd10
                     refine lm (v := strV l) rfl rfl ?_
                     refine lm (v := .int .i64 4) rfl rfl ?_
                     refine lp (v := .int .u8 ((b8.toNat : Nat) : Int)) rfl rfl (run_idxS (j := .i64) (l := l) (k := 4) (b := b8) rfl Tryd.underlying9 Tw.kr Tw.kr hb8) ?_
                     refine lp (v := .bool (decide (57 < b8.toNat))) rfl rfl (run_bin rfl (vx := (.int .u8 ((b8.toNat : Nat) : Int))) (vy := (.int .u8 ((57 : Nat) : Int))) Tw.kr Tw.kr fun w => bn_gtr rfl w) ?_
                     refine lm (v := .bool (decide (57 < b8.toNat))) rfl rfl ?_
                     refine wpL_done (fun W28 hW28 => ?_)
                     change Code.wp ..
                     cases hd11 : (decide (57 < b8.toNat)) with
                     | false =>
                       have h11 : ¬ (57 < b8.toNat) := of_decide_eq_false hd11
                       clear hd11
                       refine wp_cond_false rfl ?_
                       refine wp_skip ?_
                       change Code.wp ..
                       refine wp_region_L _ hW28 ?_
                       refine lm (v := .int .i64 4) rfl rfl ?_
                       refine lm (v := strV l) rfl rfl ?_
                       refine lm (v := .int .i64 4) rfl rfl ?_
                       refine lp (v := .int .u8 ((b8.toNat : Nat) : Int)) rfl rfl (run_idxS (j := .i64) (l := l) (k := 4) (b := b8) rfl Tryd.underlying9 Tw.kr Tw.kr hb8) ?_
                       refine lp (v := .int .u8 (((b8.toNat - 48) : Nat) : Int)) rfl rfl (run_bin rfl (vx := (.int .u8 ((b8.toNat : Nat) : Int))) (vy := (.int .u8 ((48 : Nat) : Int))) Tw.kr Tw.kr fun w => bn_sub (z := (b8.toNat - 48)) rfl Tw.om (wr_u8 Tw.om) w) ?_
                       refine lp (v := .int .i64 (((b8.toNat - 48) : Nat) : Int)) rfl rfl (run_conv rfl (vx := (.int .u8 (((b8.toNat - 48) : Nat) : Int))) Tw.kr fun w => cv_int Tryd.underlying5 Tryd.underlying3 (wr_i64 Tw.om) w) ?_
                       refine lm (v := .pointer (some ⟨g2, 4, none⟩)) rfl rfl ?_
                       refine wpL_s [(g2, .cells #[.int .i64 (((b4.toNat - 48) : Nat) : Int), .int .i64 (((b5.toNat - 48) : Nat) : Int), .int .i64 (((b6.toNat - 48) : Nat) : Int), .int .i64 (((b7.toNat - 48) : Nat) : Int), .int .i64 (((b8.toNat - 48) : Nat) : Int), .int .i64 0, .int .i64 0] 150 (0, 0)), (g1, .cells #[.int .i64 0, .int .i64 0, .int .i64 0, .int .i64 0, .int .i64 0, .int .i64 0, .int .i64 0] 150 (0, 0))] rfl rfl (st_row (off := 4) (v := .int .i64 (((b8.toNat - 48) : Nat) : Int)) rfl Tw.kr Tw.kr Tw.m0 Bg2 Tw.kr (by first | (simp [Value.cells]; done) | exact Nat.le_of_ble_eq_true rfl) (by intro v hv; simp [Value.cells] at hv; first | (subst hv; rfl) | (rcases hv with rfl <;> rfl)) Tw.kr (List.forall_mem_cons.2 ⟨.inl rfl, (List.forall_mem_cons.2 ⟨.inr ⟨Tw.m1, Tw.nee⟩, (List.forall_mem_nil _)⟩)⟩)) ?_
                       refine wpL_done (fun W29 hW29 => ?_)
                       change Code.wp ..
                       refine wp_region_L _ hW29 ?_
                       refine lm (v := .int .i64 5) rfl rfl ?_
                       refine lm (v := .int .i64 5) rfl rfl ?_
                       refine wpL_done (fun W30 hW30 => ?_)
                       change Code.wp ..
                       refine wp_seq ?_
                       refine wp_region_L _ hW30 ?_
                       refine lm (v := .bool true) rfl rfl ?_
                       refine wpL_done (fun W31 hW31 => ?_)
                       change Code.wp ..
                       refine wp_seq ?_
                       refine wp_cond_true rfl ?_
                       refine wp_skip ?_
                       change Code.wp ..
                       refine wp_seq ?_
                       refine wp_block ?_
                       refine wp_seq ?_
                       refine wp_region_L _ hW31 ?_
                       refine lm (v := .int .i64 5) rfl rfl ?_
                       refine lm (v := .int .i64 5) rfl rfl ?_
                       refine wpL_done (fun W32 hW32 => ?_)
                       change Code.wp ..
                       refine wp_seq ?_
                       refine wp_seq ?_
                       refine wp_region_L _ hW32 ?_
                       refine lm (v := strV l) rfl rfl ?_
                       refine lm (v := .int .i64 5) rfl rfl ?_
                       obtain ⟨b9, hb9⟩ : ∃ b, (l : List UInt8)[5]? = some b := ⟨_, List.getElem?_eq_getElem Tw.om⟩
                       have lb9 := b9.toNat_lt
                       refine lp (v := .int .u8 ((b9.toNat : Nat) : Int)) rfl rfl (run_idxS (j := .i64) (l := l) (k := 5) (b := b9) rfl Tryd.underlying9 Tw.kr Tw.kr hb9) ?_
                       refine lp (v := .bool (decide (b9.toNat < 48))) rfl rfl (run_bin rfl (vx := (.int .u8 ((b9.toNat : Nat) : Int))) (vy := (.int .u8 ((48 : Nat) : Int))) Tw.kr Tw.kr fun w => bn_lss rfl w) ?_
                       refine lm (v := .bool (decide (b9.toNat < 48))) rfl rfl ?_
                       cases hd12 : (decide (b9.toNat < 48)) with
                       | false =>
                         have h12 : ¬ (b9.toNat < 48) := of_decide_eq_false hd12
                         clear hd12
                         refine lm (v := strV l) rfl rfl ?_
                         refine lm (v := .int .i64 5) rfl rfl ?_
                         refine lp (v := .int .u8 ((b9.toNat : Nat) : Int)) rfl rfl (run_idxS (j := .i64) (l := l) (k := 5) (b := b9) rfl Tryd.underlying9 Tw.kr Tw.kr hb9) ?_
                         refine lp (v := .bool (decide (57 < b9.toNat))) rfl rfl (run_bin rfl (vx := (.int .u8 ((b9.toNat : Nat) : Int))) (vy := (.int .u8 ((57 : Nat) : Int))) Tw.kr Tw.kr fun w => bn_gtr rfl w) ?_
                         refine lm (v := .bool (decide (57 < b9.toNat))) rfl rfl ?_
                         refine wpL_done (fun W33 hW33 => ?_)
                         change Code.wp ..
                         cases hd13 : (decide (57 < b9.toNat)) with
                         | false =>
                           have h13 : ¬ (57 < b9.toNat) := of_decide_eq_false hd13
                           clear hd13
                           refine wp_cond_false rfl ?_
                           refine wp_skip ?_
                           change Code.wp ..
                           refine wp_region_L _ hW33 ?_
                           refine lm (v := .int .i64 5) rfl rfl ?_
                           refine lm (v := strV l) rfl rfl ?_
                           refine lm (v := .int .i64 5) rfl rfl ?_
                           refine lp (v := .int .u8 ((b9.toNat : Nat) : Int)) rfl rfl (run_idxS (j := .i64) (l := l) (k := 5) (b := b9) rfl Tryd.underlying9 Tw.kr Tw.kr hb9) ?_
                           refine lp (v := .int .u8 (((b9.toNat - 48) : Nat) : Int)) rfl rfl (run_bin rfl (vx := (.int .u8 ((b9.toNat : Nat) : Int))) (vy := (.int .u8 ((48 : Nat) : Int))) Tw.kr Tw.kr fun w => bn_sub (z := (b9.toNat - 48)) rfl Tw.om (wr_u8 Tw.om) w) ?_
                           refine lp (v := .int .i64 (((b9.toNat - 48) : Nat) : Int)) rfl rfl (run_conv rfl (vx := (.int .u8 (((b9.toNat - 48) : Nat) : Int))) Tw.kr fun w => cv_int Tryd.underlying5 Tryd.underlying3 (wr_i64 Tw.om) w) ?_
                           refine lm (v := .pointer (some ⟨g2, 5, none⟩)) rfl rfl ?_
                           refine wpL_s [(g2, .cells #[.int .i64 (((b4.toNat - 48) : Nat) : Int), .int .i64 (((b5.toNat - 48) : Nat) : Int), .int .i64 (((b6.toNat - 48) : Nat) : Int), .int .i64 (((b7.toNat - 48) : Nat) : Int), .int .i64 (((b8.toNat - 48) : Nat) : Int), .int .i64 (((b9.toNat - 48) : Nat) : Int), .int .i64 0] 150 (0, 0)), (g1, .cells #[.int .i64 0, .int .i64 0, .int .i64 0, .int .i64 0, .int .i64 0, .int .i64 0, .int .i64 0] 150 (0, 0))] rfl rfl (st_row (off := 5) (v := .int .i64 (((b9.toNat - 48) : Nat) : Int)) rfl Tw.kr Tw.kr Tw.m0 Bg2 Tw.kr (by first | (simp [Value.cells]; done) | exact Nat.le_of_ble_eq_true rfl) (by intro v hv; simp [Value.cells] at hv; first | (subst hv; rfl) | (rcases hv with rfl <;> rfl)) Tw.kr (List.forall_mem_cons.2 ⟨.inl rfl, (List.forall_mem_cons.2 ⟨.inr ⟨Tw.m1, Tw.nee⟩, (List.forall_mem_nil _)⟩)⟩)) ?_
                           refine wpL_done (fun W34 hW34 => ?_)
                           change Code.wp ..
                           refine wp_region_L _ hW34 ?_
                           refine lm (v := .int .i64 6) rfl rfl ?_
                           refine lm (v := .int .i64 6) rfl rfl ?_
                           refine wpL_done (fun W35 hW35 => ?_)
                           change Code.wp ..
                           refine wp_seq ?_
                           refine wp_region_L _ hW35 ?_
                           refine lm (v := .bool true) rfl rfl ?_
                           refine wpL_done (fun W36 hW36 => ?_)
                           change Code.wp ..
                           refine wp_seq ?_
                           refine wp_cond_true rfl ?_
                           refine wp_skip ?_
                           change Code.wp ..
                           refine wp_seq ?_
                           refine wp_block ?_
                           refine wp_seq ?_
                           refine wp_region_L _ hW36 ?_
                           refine lm (v := .int .i64 6) rfl rfl ?_
                           refine lm (v := .int .i64 6) rfl rfl ?_
                           refine wpL_done (fun W37 hW37 => ?_)
                           change Code.wp ..
                           refine wp_seq ?_
                           refine wp_seq ?_
                           refine wp_region_L _ hW37 ?_
                           refine lm (v := strV l) rfl rfl ?_
                           refine lm (v := .int .i64 6) rfl rfl ?_
                           obtain ⟨b10, hb10⟩ : ∃ b, (l : List UInt8)[6]? = some b := ⟨_, List.getElem?_eq_getElem Tw.om⟩
                           have lb10 := b10.toNat_lt
                           refine lp (v := .int .u8 ((b10.toNat : Nat) : Int)) rfl rfl (run_idxS (j := .i64) (l := l) (k := 6) (b := b10) rfl Tryd.underlying9 Tw.kr Tw.kr hb10) ?_
                           refine lp (v := .bool (decide (b10.toNat < 48))) rfl rfl (run_bin rfl (vx := (.int .u8 ((b10.toNat : Nat) : Int))) (vy := (.int .u8 ((48 : Nat) : Int))) Tw.kr Tw.kr fun w => bn_lss rfl w) ?_
                           refine lm (v := .bool (decide (b10.toNat < 48))) rfl rfl ?_
                           cases hd14 : (decide (b10.toNat < 48)) with
                           | false =>
                             have h14 : ¬ (b10.toNat < 48) := of_decide_eq_false hd14
                             clear hd14
                             refine lm (v := strV l) rfl rfl ?_
                             refine lm (v := .int .i64 6) rfl rfl ?_
                             refine lp (v := .int .u8 ((b10.toNat : Nat) : Int)) rfl rfl (run_idxS (j := .i64) (l := l) (k := 6) (b := b10) rfl Tryd.underlying9 Tw.kr Tw.kr hb10) ?_
                             refine lp (v := .bool (decide (57 < b10.toNat))) rfl rfl (run_bin rfl (vx := (.int .u8 ((b10.toNat : Nat) : Int))) (vy := (.int .u8 ((57 : Nat) : Int))) Tw.kr Tw.kr fun w => bn_gtr rfl w) ?_
                             refine lm (v := .bool (decide (57 < b10.toNat))) rfl rfl ?_
                             refine wpL_done (fun W38 hW38 => ?_)
                             change Code.wp ..
                             cases hd15 : (decide (57 < b10.toNat)) with
                             | false =>
                               have h15 : ¬ (57 < b10.toNat) := of_decide_eq_false hd15
                               clear hd15
                               refine wp_cond_false rfl ?_
                               refine wp_skip ?_
                               change Code.wp ..
                               refine wp_region_L _ hW38 ?_
                               refine lm (v := .int .i64 6) rfl rfl ?_
                               refine lm (v := strV l) rfl rfl ?_
                               refine lm (v := .int .i64 6) rfl rfl ?_
                               refine lp (v := .int .u8 ((b10.toNat : Nat) : Int)) rfl rfl (run_idxS (j := .i64) (l := l) (k := 6) (b := b10) rfl Tryd.underlying9 Tw.kr Tw.kr hb10) ?_
                               refine lp (v := .int .u8 (((b10.toNat - 48) : Nat) : Int)) rfl rfl (run_bin rfl (vx := (.int .u8 ((b10.toNat : Nat) : Int))) (vy := (.int .u8 ((48 : Nat) : Int))) Tw.kr Tw.kr fun w => bn_sub (z := (b10.toNat - 48)) rfl Tw.om (wr_u8 Tw.om) w) ?_
                               refine lp (v := .int .i64 (((b10.toNat - 48) : Nat) : Int)) rfl rfl (run_conv rfl (vx := (.int .u8 (((b10.toNat - 48) : Nat) : Int))) Tw.kr fun w => cv_int Tryd.underlying5 Tryd.underlying3 (wr_i64 Tw.om) w) ?_
                               refine lm (v := .pointer (some ⟨g2, 6, none⟩)) rfl rfl ?_
                               refine wpL_s [(g2, .cells #[.int .i64 (((b4.toNat - 48) : Nat) : Int), .int .i64 (((b5.toNat - 48) : Nat) : Int), .int .i64 (((b6.toNat - 48) : Nat) : Int), .int .i64 (((b7.toNat - 48) : Nat) : Int), .int .i64 (((b8.toNat - 48) : Nat) : Int), .int .i64 (((b9.toNat - 48) : Nat) : Int), .int .i64 (((b10.toNat - 48) : Nat) : Int)] 150 (0, 0)), (g1, .cells #[.int .i64 0, .int .i64 0, .int .i64 0, .int .i64 0, .int .i64 0, .int .i64 0, .int .i64 0] 150 (0, 0))] rfl rfl (st_row (off := 6) (v := .int .i64 (((b10.toNat - 48) : Nat) : Int)) rfl Tw.kr Tw.kr Tw.m0 Bg2 Tw.kr (by first | (simp [Value.cells]; done) | exact Nat.le_of_ble_eq_true rfl) (by intro v hv; simp [Value.cells] at hv; first | (subst hv; rfl) | (rcases hv with rfl <;> rfl)) Tw.kr (List.forall_mem_cons.2 ⟨.inl rfl, (List.forall_mem_cons.2 ⟨.inr ⟨Tw.m1, Tw.nee⟩, (List.forall_mem_nil _)⟩)⟩)) ?_
                               refine wpL_done (fun W39 hW39 => ?_)
                               change Code.wp ..
                               refine wp_region_L _ hW39 ?_
                               refine lm (v := .int .i64 7) rfl rfl ?_
                               refine lm (v := .int .i64 7) rfl rfl ?_
                               refine wpL_done (fun W40 hW40 => ?_)
                               change Code.wp ..
                               refine wp_seq ?_
                               refine wp_region_L _ hW40 ?_
                               refine lm (v := .bool false) rfl rfl ?_
                               refine wpL_done (fun W41 hW41 => ?_)
                               change Code.wp ..
                               refine wp_seq ?_
                               refine wp_cond_false rfl ?_
                               refine wp_exit ?_
                               change Code.wp ..
                               refine wp_seq ?_
                               refine wp_region_L _ hW41 ?_
                               refine lv (v := .agg #[.int .i64 (((b4.toNat - 48) : Nat) : Int), .int .i64 (((b5.toNat - 48) : Nat) : Int), .int .i64 (((b6.toNat - 48) : Nat) : Int), .int .i64 (((b7.toNat - 48) : Nat) : Int), .int .i64 (((b8.toNat - 48) : Nat) : Int), .int .i64 (((b9.toNat - 48) : Nat) : Int), .int .i64 (((b10.toNat - 48) : Nat) : Int)]) rfl rfl (yb_load (n := 7) (off := 0) rfl Tw.kr Tw.m0 Tryd.underlying150 rfl Tw.kr (by first | (simp [Value.cells]; done) | exact Nat.le_of_ble_eq_true rfl) Tw.kr) ?_
                               refine wpL_s [(g2, .cells #[.int .i64 (((b4.toNat - 48) : Nat) : Int), .int .i64 (((b5.toNat - 48) : Nat) : Int), .int .i64 (((b6.toNat - 48) : Nat) : Int), .int .i64 (((b7.toNat - 48) : Nat) : Int), .int .i64 (((b8.toNat - 48) : Nat) : Int), .int .i64 (((b9.toNat - 48) : Nat) : Int), .int .i64 (((b10.toNat - 48) : Nat) : Int)] 150 (0, 0)), (g1, .cells #[.int .i64 (((b4.toNat - 48) : Nat) : Int), .int .i64 (((b5.toNat - 48) : Nat) : Int), .int .i64 (((b6.toNat - 48) : Nat) : Int), .int .i64 (((b7.toNat - 48) : Nat) : Int), .int .i64 (((b8.toNat - 48) : Nat) : Int), .int .i64 (((b9.toNat - 48) : Nat) : Int), .int .i64 (((b10.toNat - 48) : Nat) : Int)] 150 (0, 0))] rfl rfl (st_row (off := 0) (v := .agg #[.int .i64 (((b4.toNat - 48) : Nat) : Int), .int .i64 (((b5.toNat - 48) : Nat) : Int), .int .i64 (((b6.toNat - 48) : Nat) : Int), .int .i64 (((b7.toNat - 48) : Nat) : Int), .int .i64 (((b8.toNat - 48) : Nat) : Int), .int .i64 (((b9.toNat - 48) : Nat) : Int), .int .i64 (((b10.toNat - 48) : Nat) : Int)]) rfl Tw.kr Tw.kr Tw.m1 Bg1 Tw.kr (by first | (simp [Value.cells]; done) | exact Nat.le_of_ble_eq_true rfl) (by intro v hv; simp [Value.cells] at hv; first | (subst hv; rfl) | (rcases hv with rfl | rfl | rfl | rfl | rfl | rfl | rfl <;> rfl)) Tw.kr (List.forall_mem_cons.2 ⟨.inr ⟨Tw.m0, Tw.nee⟩, (List.forall_mem_cons.2 ⟨.inl rfl, (List.forall_mem_nil _)⟩)⟩)) ?_
                               refine lm (v := .bool true) rfl rfl ?_
                               refine wpL_done (fun W42 hW42 => ?_)
                               change Code.wp ..
                               refine wp_ret ?_
                               try simp only [inBlock_ret, then_ret]
                               refine bodyPost_ret (v := .tuple #[.agg #[.int .i64 (((b4.toNat - 48) : Nat) : Int), .int .i64 (((b5.toNat - 48) : Nat) : Int), .int .i64 (((b6.toNat - 48) : Nat) : Int), .int .i64 (((b7.toNat - 48) : Nat) : Int), .int .i64 (((b8.toNat - 48) : Nat) : Int), .int .i64 (((b9.toNat - 48) : Nat) : Int), .int .i64 (((b10.toNat - 48) : Nat) : Int)], .bool true]) ?_ rfl ?_
                               · exact (res_cell_tmp (p := 2) (q := 3) rfl rfl (hW42.2 _ Tw.m1) Tryd.underlying150 rfl Tw.kr)
                               obtain ⟨q1, q2⟩ := digs_yes hl7 hb4 hb5 hb6 hb7 hb8 hb9 hb10 ⟨dg_of h2 h3, dg_of h4 h5, dg_of h6 h7, dg_of h8 h9, dg_of h10 h11, dg_of h12 h13, dg_of h14 h15⟩
                               · exact ⟨.inl ⟨b4, b5, b6, b7, b8, b9, b10, q1, q2, rfl⟩, hW42.1⟩
                             | true =>
                               have h15 : 57 < b10.toNat := of_decide_eq_true hd15
                               clear hd15
                               refine wp_cond_true rfl ?_
                               refine wp_seq ?_
                               refine wp_region_L _ hW38 ?_
                               refine lv (v := .agg #[.int .i64 (((b4.toNat - 48) : Nat) : Int), .int .i64 (((b5.toNat - 48) : Nat) : Int), .int .i64 (((b6.toNat - 48) : Nat) : Int), .int .i64 (((b7.toNat - 48) : Nat) : Int), .int .i64 (((b8.toNat - 48) : Nat) : Int), .int .i64 (((b9.toNat - 48) : Nat) : Int), .int .i64 0]) rfl rfl (yb_load (n := 7) (off := 0) rfl Tw.kr Tw.m0 Tryd.underlying150 rfl Tw.kr (by first | (simp [Value.cells]; done) | exact Nat.le_of_ble_eq_true rfl) Tw.kr) ?_
                               refine wpL_s [(g2, .cells #[.int .i64 (((b4.toNat - 48) : Nat) : Int), .int .i64 (((b5.toNat - 48) : Nat) : Int), .int .i64 (((b6.toNat - 48) : Nat) : Int), .int .i64 (((b7.toNat - 48) : Nat) : Int), .int .i64 (((b8.toNat - 48) : Nat) : Int), .int .i64 (((b9.toNat - 48) : Nat) : Int), .int .i64 0] 150 (0, 0)), (g1, .cells #[.int .i64 (((b4.toNat - 48) : Nat) : Int), .int .i64 (((b5.toNat - 48) : Nat) : Int), .int .i64 (((b6.toNat - 48) : Nat) : Int), .int .i64 (((b7.toNat - 48) : Nat) : Int), .int .i64 (((b8.toNat - 48) : Nat) : Int), .int .i64 (((b9.toNat - 48) : Nat) : Int), .int .i64 0] 150 (0, 0))] rfl rfl (st_row (off := 0) (v := .agg #[.int .i64 (((b4.toNat - 48) : Nat) : Int), .int .i64 (((b5.toNat - 48) : Nat) : Int), .int .i64 (((b6.toNat - 48) : Nat) : Int), .int .i64 (((b7.toNat - 48) : Nat) : Int), .int .i64 (((b8.toNat - 48) : Nat) : Int), .int .i64 (((b9.toNat - 48) : Nat) : Int), .int .i64 0]) rfl Tw.kr Tw.kr Tw.m1 Bg1 Tw.kr (by first | (simp [Value.cells]; done) | exact Nat.le_of_ble_eq_true rfl) (by intro v hv; simp [Value.cells] at hv; first | (subst hv; rfl) | (rcases hv with rfl | rfl | rfl | rfl | rfl | rfl | rfl <;> rfl)) Tw.kr (List.forall_mem_cons.2 ⟨.inr ⟨Tw.m0, Tw.nee⟩, (List.forall_mem_cons.2 ⟨.inl rfl, (List.forall_mem_nil _)⟩)⟩)) ?_
                               refine lm (v := .bool false) rfl rfl ?_
                               refine wpL_done (fun W43 hW43 => ?_)
                               change Code.wp ..
                               refine wp_ret ?_
                               try simp only [inBlock_ret, then_ret]
                               refine bodyPost_ret (v := .tuple #[.agg #[.int .i64 (((b4.toNat - 48) : Nat) : Int), .int .i64 (((b5.toNat - 48) : Nat) : Int), .int .i64 (((b6.toNat - 48) : Nat) : Int), .int .i64 (((b7.toNat - 48) : Nat) : Int), .int .i64 (((b8.toNat - 48) : Nat) : Int), .int .i64 (((b9.toNat - 48) : Nat) : Int), .int .i64 0], .bool false]) ?_ rfl ?_
                               · exact (res_cell_tmp (p := 2) (q := 3) rfl rfl (hW43.2 _ Tw.m1) Tryd.underlying150 rfl Tw.kr)
                               · exact ⟨.inr ⟨digs_no hb10 (dg_hi h15), _, _, _, _, _, _, _, rfl⟩, hW43.1⟩
                           | true =>
                             have h14 : b10.toNat < 48 := of_decide_eq_true hd14
                             clear hd14
                             refine ln rfl ?_
                             refine ln rfl ?_
                             refine ln rfl ?_
                             refine ln rfl ?_
                             refine lm (v := .bool true) rfl rfl ?_
                             refine wpL_done (fun W44 hW44 => ?_)
                             change Code.wp ..
                             refine wp_cond_true rfl ?_
                             refine wp_seq ?_
                             refine wp_region_L _ hW44 ?_
                             refine lv (v := .agg #[.int .i64 (((b4.toNat - 48) : Nat) : Int), .int .i64 (((b5.toNat - 48) : Nat) : Int), .int .i64 (((b6.toNat - 48) : Nat) : Int), .int .i64 (((b7.toNat - 48) : Nat) : Int), .int .i64 (((b8.toNat - 48) : Nat) : Int), .int .i64 (((b9.toNat - 48) : Nat) : Int), .int .i64 0]) rfl rfl (yb_load (n := 7) (off := 0) rfl Tw.kr Tw.m0 Tryd.underlying150 rfl Tw.kr (by first | (simp [Value.cells]; done) | exact Nat.le_of_ble_eq_true rfl) Tw.kr) ?_
                             refine wpL_s [(g2, .cells #[.int .i64 (((b4.toNat - 48) : Nat) : Int), .int .i64 (((b5.toNat - 48) : Nat) : Int), .int .i64 (((b6.toNat - 48) : Nat) : Int), .int .i64 (((b7.toNat - 48) : Nat) : Int), .int .i64 (((b8.toNat - 48) : Nat) : Int), .int .i64 (((b9.toNat - 48) : Nat) : Int), .int .i64 0] 150 (0, 0)), (g1, .cells #[.int .i64 (((b4.toNat - 48) : Nat) : Int), .int .i64 (((b5.toNat - 48) : Nat) : Int), .int .i64 (((b6.toNat - 48) : Nat) : Int), .int .i64 (((b7.toNat - 48) : Nat) : Int), .int .i64 (((b8.toNat - 48) : Nat) : Int), .int .i64 (((b9.toNat - 48) : Nat) : Int), .int .i64 0] 150 (0, 0))] rfl rfl (st_row (off := 0) (v := .agg #[.int .i64 (((b4.toNat - 48) : Nat) : Int), .int .i64 (((b5.toNat - 48) : Nat) : Int), .int .i64 (((b6.toNat - 48) : Nat) : Int), .int .i64 (((b7.toNat - 48) : Nat) : Int), .int .i64 (((b8.toNat - 48) : Nat) : Int), .int .i64 (((b9.toNat - 48) : Nat) : Int), .int .i64 0]) rfl Tw.kr Tw.kr Tw.m1 Bg1 Tw.kr (by first | (simp [Value.cells]; done) | exact Nat.le_of_ble_eq_true rfl) (by intro v hv; simp [Value.cells] at hv; first | (subst hv; rfl) | (rcases hv with rfl | rfl | rfl | rfl | rfl | rfl | rfl <;> rfl)) Tw.kr (List.forall_mem_cons.2 ⟨.inr ⟨Tw.m0, Tw.nee⟩, (List.forall_mem_cons.2 ⟨.inl rfl, (List.forall_mem_nil _)⟩)⟩)) ?_
                             refine lm (v := .bool false) rfl rfl ?_
                             refine wpL_done (fun W45 hW45 => ?_)
                             change Code.wp ..
                             refine wp_ret ?_
                             try simp only [inBlock_ret, then_ret]
                             refine bodyPost_ret (v := .tuple #[.agg #[.int .i64 (((b4.toNat - 48) : Nat) : Int), .int .i64 (((b5.toNat - 48) : Nat) : Int), .int .i64 (((b6.toNat - 48) : Nat) : Int), .int .i64 (((b7.toNat - 48) : Nat) : Int), .int .i64 (((b8.toNat - 48) : Nat) : Int), .int .i64 (((b9.toNat - 48) : Nat) : Int), .int .i64 0], .bool false]) ?_ rfl ?_
                             · exact (res_cell_tmp (p := 2) (q := 3) rfl rfl (hW45.2 _ Tw.m1) Tryd.underlying150 rfl Tw.kr)
                             · exact ⟨.inr ⟨digs_no hb10 (dg_lo h14), _, _, _, _, _, _, _, rfl⟩, hW45.1⟩
                         | true =>
                           have h13 : 57 < b9.toNat := of_decide_eq_true hd13
                           clear hd13
                           refine wp_cond_true rfl ?_
                           refine wp_seq ?_
                           refine wp_region_L _ hW33 ?_
                           refine lv (v := .agg #[.int .i64 (((b4.toNat - 48) : Nat) : Int), .int .i64 (((b5.toNat - 48) : Nat) : Int), .int .i64 (((b6.toNat - 48) : Nat) : Int), .int .i64 (((b7.toNat - 48) : Nat) : Int), .int .i64 (((b8.toNat - 48) : Nat) : Int), .int .i64 0, .int .i64 0]) rfl rfl (yb_load (n := 7) (off := 0) rfl Tw.kr Tw.m0 Tryd.underlying150 rfl Tw.kr (by first | (simp [Value.cells]; done) | exact Nat.le_of_ble_eq_true rfl) Tw.kr) ?_
                           refine wpL_s [(g2, .cells #[.int .i64 (((b4.toNat - 48) : Nat) : Int), .int .i64 (((b5.toNat - 48) : Nat) : Int), .int .i64 (((b6.toNat - 48) : Nat) : Int), .int .i64 (((b7.toNat - 48) : Nat) : Int), .int .i64 (((b8.toNat - 48) : Nat) : Int), .int .i64 0, .int .i64 0] 150 (0, 0)), (g1, .cells #[.int .i64 (((b4.toNat - 48) : Nat) : Int), .int .i64 (((b5.toNat - 48) : Nat) : Int), .int .i64 (((b6.toNat - 48) : Nat) : Int), .int .i64 (((b7.toNat - 48) : Nat) : Int), .int .i64 (((b8.toNat - 48) : Nat) : Int), .int .i64 0, .int .i64 0] 150 (0, 0))] rfl rfl (st_row (off := 0) (v := .agg #[.int .i64 (((b4.toNat - 48) : Nat) : Int), .int .i64 (((b5.toNat - 48) : Nat) : Int), .int .i64 (((b6.toNat - 48) : Nat) : Int), .int .i64 (((b7.toNat - 48) : Nat) : Int), .int .i64 (((b8.toNat - 48) : Nat) : Int), .int .i64 0, .int .i64 0]) rfl Tw.kr Tw.kr Tw.m1 Bg1 Tw.kr (by first | (simp [Value.cells]; done) | exact Nat.le_of_ble_eq_true rfl) (by intro v hv; simp [Value.cells] at hv; first | (subst hv; rfl) | (rcases hv with rfl | rfl | rfl | rfl | rfl | rfl | rfl <;> rfl)) Tw.kr (List.forall_mem_cons.2 ⟨.inr ⟨Tw.m0, Tw.nee⟩, (List.forall_mem_cons.2 ⟨.inl rfl, (List.forall_mem_nil _)⟩)⟩)) ?_
                           refine lm (v := .bool false) rfl rfl ?_
                           refine wpL_done (fun W46 hW46 => ?_)
                           change Code.wp ..
                           refine wp_ret ?_
                           try simp only [inBlock_ret, then_ret]
                           refine bodyPost_ret (v := .tuple #[.agg #[.int .i64 (((b4.toNat - 48) : Nat) : Int), .int .i64 (((b5.toNat - 48) : Nat) : Int), .int .i64 (((b6.toNat - 48) : Nat) : Int), .int .i64 (((b7.toNat - 48) : Nat) : Int), .int .i64 (((b8.toNat - 48) : Nat) : Int), .int .i64 0, .int .i64 0], .bool false]) ?_ rfl ?_
                           · exact (res_cell_tmp (p := 2) (q := 3) rfl rfl (hW46.2 _ Tw.m1) Tryd.underlying150 rfl Tw.kr)
                           · exact ⟨.inr ⟨digs_no hb9 (dg_hi h13), _, _, _, _, _, _, _, rfl⟩, hW46.1⟩
                       | true =>
                         have h12 : b9.toNat < 48 := of_decide_eq_true hd12
                         clear hd12
                         refine ln rfl ?_
                         refine ln rfl ?_
                         refine ln rfl ?_
                         refine ln rfl ?_
                         refine lm (v := .bool true) rfl rfl ?_
                         refine wpL_done (fun W47 hW47 => ?_)
                         change Code.wp ..
                         refine wp_cond_true rfl ?_
                         refine wp_seq ?_
                         refine wp_region_L _ hW47 ?_
                         refine lv (v := .agg #[.int .i64 (((b4.toNat - 48) : Nat) : Int), .int .i64 (((b5.toNat - 48) : Nat) : Int), .int .i64 (((b6.toNat - 48) : Nat) : Int), .int .i64 (((b7.toNat - 48) : Nat) : Int), .int .i64 (((b8.toNat - 48) : Nat) : Int), .int .i64 0, .int .i64 0]) rfl rfl (yb_load (n := 7) (off := 0) rfl Tw.kr Tw.m0 Tryd.underlying150 rfl Tw.kr (by first | (simp [Value.cells]; done) | exact Nat.le_of_ble_eq_true rfl) Tw.kr) ?_
                         refine wpL_s [(g2, .cells #[.int .i64 (((b4.toNat - 48) : Nat) : Int), .int .i64 (((b5.toNat - 48) : Nat) : Int), .int .i64 (((b6.toNat - 48) : Nat) : Int), .int .i64 (((b7.toNat - 48) : Nat) : Int), .int .i64 (((b8.toNat - 48) : Nat) : Int), .int .i64 0, .int .i64 0] 150 (0, 0)), (g1, .cells #[.int .i64 (((b4.toNat - 48) : Nat) : Int), .int .i64 (((b5.toNat - 48) : Nat) : Int), .int .i64 (((b6.toNat - 48) : Nat) : Int), .int .i64 (((b7.toNat - 48) : Nat) : Int), .int .i64 (((b8.toNat - 48) : Nat) : Int), .int .i64 0, .int .i64 0] 150 (0, 0))] rfl rfl (st_row (off := 0) (v := .agg #[.int .i64 (((b4.toNat - 48) : Nat) : Int), .int .i64 (((b5.toNat - 48) : Nat) : Int), .int .i64 (((b6.toNat - 48) : Nat) : Int), .int .i64 (((b7.toNat - 48) : Nat) : Int), .int .i64 (((b8.toNat - 48) : Nat) : Int), .int .i64 0, .int .i64 0]) rfl Tw.kr Tw.kr Tw.m1 Bg1 Tw.kr (by first | (simp [Value.cells]; done) | exact Nat.le_of_ble_eq_true rfl) (by intro v hv; simp [Value.cells] at hv; first | (subst hv; rfl) | (rcases hv with rfl | rfl | rfl | rfl | rfl | rfl | rfl <;> rfl)) Tw.kr (List.forall_mem_cons.2 ⟨.inr ⟨Tw.m0, Tw.nee⟩, (List.forall_mem_cons.2 ⟨.inl rfl, (List.forall_mem_nil _)⟩)⟩)) ?_
                         refine lm (v := .bool false) rfl rfl ?_
                         refine wpL_done (fun W48 hW48 => ?_)
                         change Code.wp ..
                         refine wp_ret ?_
                         try simp only [inBlock_ret, then_ret]
                         refine bodyPost_ret (v := .tuple #[.agg #[.int .i64 (((b4.toNat - 48) : Nat) : Int), .int .i64 (((b5.toNat - 48) : Nat) : Int), .int .i64 (((b6.toNat - 48) : Nat) : Int), .int .i64 (((b7.toNat - 48) : Nat) : Int), .int .i64 (((b8.toNat - 48) : Nat) : Int), .int .i64 0, .int .i64 0], .bool false]) ?_ rfl ?_
                         · exact (res_cell_tmp (p := 2) (q := 3) rfl rfl (hW48.2 _ Tw.m1) Tryd.underlying150 rfl Tw.kr)
                         · exact ⟨.inr ⟨digs_no hb9 (dg_lo h12), _, _, _, _, _, _, _, rfl⟩, hW48.1⟩
                     | true =>
                       have h11 : 57 < b8.toNat := of_decide_eq_true hd11
                       clear hd11
                       refine wp_cond_true rfl ?_
                       refine wp_seq ?_
                       refine wp_region_L _ hW28 ?_
                       refine lv (v := .agg #[.int .i64 (((b4.toNat - 48) : Nat) : Int), .int .i64 (((b5.toNat - 48) : Nat) : Int), .int .i64 (((b6.toNat - 48) : Nat) : Int), .int .i64 (((b7.toNat - 48) : Nat) : Int), .int .i64 0, .int .i64 0, .int .i64 0]) rfl rfl (yb_load (n := 7) (off := 0) rfl Tw.kr Tw.m0 Tryd.underlying150 rfl Tw.kr (by first | (simp [Value.cells]; done) | exact Nat.le_of_ble_eq_true rfl) Tw.kr) ?_
                       refine wpL_s [(g2, .cells #[.int .i64 (((b4.toNat - 48) : Nat) : Int), .int .i64 (((b5.toNat - 48) : Nat) : Int), .int .i64 (((b6.toNat - 48) : Nat) : Int), .int .i64 (((b7.toNat - 48) : Nat) : Int), .int .i64 0, .int .i64 0, .int .i64 0] 150 (0, 0)), (g1, .cells #[.int .i64 (((b4.toNat - 48) : Nat) : Int), .int .i64 (((b5.toNat - 48) : Nat) : Int), .int .i64 (((b6.toNat - 48) : Nat) : Int), .int .i64 (((b7.toNat - 48) : Nat) : Int), .int .i64 0, .int .i64 0, .int .i64 0] 150 (0, 0))] rfl rfl (st_row (off := 0) (v := .agg #[.int .i64 (((b4.toNat - 48) : Nat) : Int), .int .i64 (((b5.toNat - 48) : Nat) : Int), .int .i64 (((b6.toNat - 48) : Nat) : Int), .int .i64 (((b7.toNat - 48) : Nat) : Int), .int .i64 0, .int .i64 0, .int .i64 0]) rfl Tw.kr Tw.kr Tw.m1 Bg1 Tw.kr (by first | (simp [Value.cells]; done) | exact Nat.le_of_ble_eq_true rfl) (by intro v hv; simp [Value.cells] at hv; first | (subst hv; rfl) | (rcases hv with rfl | rfl | rfl | rfl | rfl | rfl | rfl <;> rfl)) Tw.kr (List.forall_mem_cons.2 ⟨.inr ⟨Tw.m0, Tw.nee⟩, (List.forall_mem_cons.2 ⟨.inl rfl, (List.forall_mem_nil _)⟩)⟩)) ?_
                       refine lm (v := .bool false) rfl rfl ?_
                       refine wpL_done (fun W49 hW49 => ?_)
                       change Code.wp ..
                       refine wp_ret ?_
                       try simp only [inBlock_ret, then_ret]
                       refine bodyPost_ret (v := .tuple #[.agg #[.int .i64 (((b4.toNat - 48) : Nat) : Int), .int .i64 (((b5.toNat - 48) : Nat) : Int), .int .i64 (((b6.toNat - 48) : Nat) : Int), .int .i64 (((b7.toNat - 48) : Nat) : Int), .int .i64 0, .int .i64 0, .int .i64 0], .bool false]) ?_ rfl ?_
                       · exact (res_cell_tmp (p := 2) (q := 3) rfl rfl (hW49.2 _ Tw.m1) Tryd.underlying150 rfl Tw.kr)
                       · exact ⟨.inr ⟨digs_no hb8 (dg_hi h11), _, _, _, _, _, _, _, rfl⟩, hW49.1⟩
                   | true =>
                     have h10 : b8.toNat < 48 := of_decide_eq_true hd10
                     clear hd10
                     refine ln rfl ?_
                     refine ln rfl ?_
                     refine ln rfl ?_
                     refine ln rfl ?_
                     refine lm (v := .bool true) rfl rfl ?_
                     refine wpL_done (fun W50 hW50 => ?_)
                     change Code.wp ..
                     refine wp_cond_true rfl ?_
                     refine wp_seq ?_
                     refine wp_region_L _ hW50 ?_
                     refine lv (v := .agg #[.int .i64 (((b4.toNat - 48) : Nat) : Int), .int .i64 (((b5.toNat - 48) : Nat) : Int), .int .i64 (((b6.toNat - 48) : Nat) : Int), .int .i64 (((b7.toNat - 48) : Nat) : Int), .int .i64 0, .int .i64 0, .int .i64 0]) rfl rfl (yb_load (n := 7) (off := 0) rfl Tw.kr Tw.m0 Tryd.underlying150 rfl Tw.kr (by first | (simp [Value.cells]; done) | exact Nat.le_of_ble_eq_true rfl) Tw.kr) ?_
                     refine wpL_s [(g2, .cells #[.int .i64 (((b4.toNat - 48) : Nat) : Int), .int .i64 (((b5.toNat - 48) : Nat) : Int), .int .i64 (((b6.toNat - 48) : Nat) : Int), .int .i64 (((b7.toNat - 48) : Nat) : Int), .int .i64 0, .int .i64 0, .int .i64 0] 150 (0, 0)), (g1, .cells #[.int .i64 (((b4.toNat - 48) : Nat) : Int), .int .i64 (((b5.toNat - 48) : Nat) : Int), .int .i64 (((b6.toNat - 48) : Nat) : Int), .int .i64 (((b7.toNat - 48) : Nat) : Int), .int .i64 0, .int .i64 0, .int .i64 0] 150 (0, 0))] rfl rfl (st_row (off := 0) (v := .agg #[.int .i64 (((b4.toNat - 48) : Nat) : Int), .int .i64 (((b5.toNat - 48) : Nat) : Int), .int .i64 (((b6.toNat - 48) : Nat) : Int), .int .i64 (((b7.toNat - 48) : Nat) : Int), .int .i64 0, .int .i64 0, .int .i64 0]) rfl Tw.kr Tw.kr Tw.m1 Bg1 Tw.kr (by first | (simp [Value.cells]; done) | exact Nat.le_of_ble_eq_true rfl) (by intro v hv; simp [Value.cells] at hv; first | (subst hv; rfl) | (rcases hv with rfl | rfl | rfl | rfl | rfl | rfl | rfl <;> rfl)) Tw.kr (List.forall_mem_cons.2 ⟨.inr ⟨Tw.m0, Tw.nee⟩, (List.forall_mem_cons.2 ⟨.inl rfl, (List.forall_mem_nil _)⟩)⟩)) ?_
                     refine lm (v := .bool false) rfl rfl ?_
                     refine wpL_done (fun W51 hW51 => ?_)
                     change Code.wp ..
                     refine wp_ret ?_
                     try simp only [inBlock_ret, then_ret]
                     refine bodyPost_ret (v := .tuple #[.agg #[.int .i64 (((b4.toNat - 48) : Nat) : Int), .int .i64 (((b5.toNat - 48) : Nat) : Int), .int .i64 (((b6.toNat - 48) : Nat) : Int), .int .i64 (((b7.toNat - 48) : Nat) : Int), .int .i64 0, .int .i64 0, .int .i64 0], .bool false]) ?_ rfl ?_
                     · exact (res_cell_tmp (p := 2) (q := 3) rfl rfl (hW51.2 _ Tw.m1) Tryd.underlying150 rfl Tw.kr)
                     · exact ⟨.inr ⟨digs_no hb8 (dg_lo h10), _, _, _, _, _, _, _, rfl⟩, hW51.1⟩
                 | true =>
                   have h9 : 57 < b7.toNat := of_decide_eq_true hd9
                   clear hd9
                   refine wp_cond_true rfl ?_
                   refine wp_seq ?_
                   refine wp_region_L _ hW23 ?_
                   refine lv (v := .agg #[.int .i64 (((b4.toNat - 48) : Nat) : Int), .int .i64 (((b5.toNat - 48) : Nat) : Int), .int .i64 (((b6.toNat - 48) : Nat) : Int), .int .i64 0, .int .i64 0, .int .i64 0, .int .i64 0]) rfl rfl (yb_load (n := 7) (off := 0) rfl Tw.kr Tw.m0 Tryd.underlying150 rfl Tw.kr (by first | (simp [Value.cells]; done) | exact Nat.le_of_ble_eq_true rfl) Tw.kr) ?_
                   refine wpL_s [(g2, .cells #[.int .i64 (((b4.toNat - 48) : Nat) : Int), .int .i64 (((b5.toNat - 48) : Nat) : Int), .int .i64 (((b6.toNat - 48) : Nat) : Int), .int .i64 0, .int .i64 0, .int .i64 0, .int .i64 0] 150 (0, 0)), (g1, .cells #[.int .i64 (((b4.toNat - 48) : Nat) : Int), .int .i64 (((b5.toNat - 48) : Nat) : Int), .int .i64 (((b6.toNat - 48) : Nat) : Int), .int .i64 0, .int .i64 0, .int .i64 0, .int .i64 0] 150 (0, 0))] rfl rfl (st_row (off := 0) (v := .agg #[.int .i64 (((b4.toNat - 48) : Nat) : Int), .int .i64 (((b5.toNat - 48) : Nat) : Int), .int .i64 (((b6.toNat - 48) : Nat) : Int), .int .i64 0, .int .i64 0, .int .i64 0, .int .i64 0]) rfl Tw.kr Tw.kr Tw.m1 Bg1 Tw.kr (by first | (simp [Value.cells]; done) | exact Nat.le_of_ble_eq_true rfl) (by intro v hv; simp [Value.cells] at hv; first | (subst hv; rfl) | (rcases hv with rfl | rfl | rfl | rfl | rfl | rfl | rfl <;> rfl)) Tw.kr (List.forall_mem_cons.2 ⟨.inr ⟨Tw.m0, Tw.nee⟩, (List.forall_mem_cons.2 ⟨.inl rfl, (List.forall_mem_nil _)⟩)⟩)) ?_
                   refine lm (v := .bool false) rfl rfl ?_
                   refine wpL_done (fun W52 hW52 => ?_)
                   change Code.wp ..
                   refine wp_ret ?_
                   try simp only [inBlock_ret, then_ret]
                   refine bodyPost_ret (v := .tuple #[.agg #[.int .i64 (((b4.toNat - 48) : Nat) : Int), .int .i64 (((b5.toNat - 48) : Nat) : Int), .int .i64 (((b6.toNat - 48) : Nat) : Int), .int .i64 0, .int .i64 0, .int .i64 0, .int .i64 0], .bool false]) ?_ rfl ?_
                   · exact (res_cell_tmp (p := 2) (q := 3) rfl rfl (hW52.2 _ Tw.m1) Tryd.underlying150 rfl Tw.kr)
                   · exact ⟨.inr ⟨digs_no hb7 (dg_hi h9), _, _, _, _, _, _, _, rfl⟩, hW52.1⟩
               | true =>
                 have h8 : b7.toNat < 48 := of_decide_eq_true hd8
                 clear hd8
                 refine ln rfl ?_
                 refine ln rfl ?_
                 refine ln rfl ?_
                 refine ln rfl ?_
                 refine lm (v := .bool true) rfl rfl ?_
                 refine wpL_done (fun W53 hW53 => ?_)
                 change Code.wp ..
                 refine wp_cond_true rfl ?_
                 refine wp_seq ?_
                 refine wp_region_L _ hW53 ?_
                 refine lv (v := .agg #[.int .i64 (((b4.toNat - 48) : Nat) : Int), .int .i64 (((b5.toNat - 48) : Nat) : Int), .int .i64 (((b6.toNat - 48) : Nat) : Int), .int .i64 0, .int .i64 0, .int .i64 0, .int .i64 0]) rfl rfl (yb_load (n := 7) (off := 0) rfl Tw.kr Tw.m0 Tryd.underlying150 rfl Tw.kr (by first | (simp [Value.cells]; done) | exact Nat.le_of_ble_eq_true rfl) Tw.kr) ?_
                 refine wpL_s [(g2, .cells #[.int .i64 (((b4.toNat - 48) : Nat) : Int), .int .i64 (((b5.toNat - 48) : Nat) : Int), .int .i64 (((b6.toNat - 48) : Nat) : Int), .int .i64 0, .int .i64 0, .int .i64 0, .int .i64 0] 150 (0, 0)), (g1, .cells #[.int .i64 (((b4.toNat - 48) : Nat) : Int), .int .i64 (((b5.toNat - 48) : Nat) : Int), .int .i64 (((b6.toNat - 48) : Nat) : Int), .int .i64 0, .int .i64 0, .int .i64 0, .int .i64 0] 150 (0, 0))] rfl rfl (st_row (off := 0) (v := .agg #[.int .i64 (((b4.toNat - 48) : Nat) : Int), .int .i64 (((b5.toNat - 48) : Nat) : Int), .int .i64 (((b6.toNat - 48) : Nat) : Int), .int .i64 0, .int .i64 0, .int .i64 0, .int .i64 0]) rfl Tw.kr Tw.kr Tw.m1 Bg1 Tw.kr (by first | (simp [Value.cells]; done) | exact Nat.le_of_ble_eq_true rfl) (by intro v hv; simp [Value.cells] at hv; first | (subst hv; rfl) | (rcases hv with rfl | rfl | rfl | rfl | rfl | rfl | rfl <;> rfl)) Tw.kr (List.forall_mem_cons.2 ⟨.inr ⟨Tw.m0, Tw.nee⟩, (List.forall_mem_cons.2 ⟨.inl rfl, (List.forall_mem_nil _)⟩)⟩)) ?_
                 refine lm (v := .bool false) rfl rfl ?_
                 refine wpL_done (fun W54 hW54 => ?_)
                 change Code.wp ..
                 refine wp_ret ?_
                 try simp only [inBlock_ret, then_ret]
                 refine bodyPost_ret (v := .tuple #[.agg #[.int .i64 (((b4.toNat - 48) : Nat) : Int), .int .i64 (((b5.toNat - 48) : Nat) : Int), .int .i64 (((b6.toNat - 48) : Nat) : Int), .int .i64 0, .int .i64 0, .int .i64 0, .int .i64 0], .bool false]) ?_ rfl ?_
                 · exact (res_cell_tmp (p := 2) (q := 3) rfl rfl (hW54.2 _ Tw.m1) Tryd.underlying150 rfl Tw.kr)
                 · exact ⟨.inr ⟨digs_no hb7 (dg_lo h8), _, _, _, _, _, _, _, rfl⟩, hW54.1⟩
             | true =>
               have h7 : 57 < b6.toNat := of_decide_eq_true hd7
               clear hd7
               refine wp_cond_true rfl ?_
               refine wp_seq ?_
               refine wp_region_L _ hW18 ?_
               refine lv (v := .agg #[.int .i64 (((b4.toNat - 48) : Nat) : Int), .int .i64 (((b5.toNat - 48) : Nat) : Int), .int .i64 0, .int .i64 0, .int .i64 0, .int .i64 0, .int .i64 0]) rfl rfl (yb_load (n := 7) (off := 0) rfl Tw.kr Tw.m0 Tryd.underlying150 rfl Tw.kr (by first | (simp [Value.cells]; done) | exact Nat.le_of_ble_eq_true rfl) Tw.kr) ?_
               refine wpL_s [(g2, .cells #[.int .i64 (((b4.toNat - 48) : Nat) : Int), .int .i64 (((b5.toNat - 48) : Nat) : Int), .int .i64 0, .int .i64 0, .int .i64 0, .int .i64 0, .int .i64 0] 150 (0, 0)), (g1, .cells #[.int .i64 (((b4.toNat - 48) : Nat) : Int), .int .i64 (((b5.toNat - 48) : Nat) : Int), .int .i64 0, .int .i64 0, .int .i64 0, .int .i64 0, .int .i64 0] 150 (0, 0))] rfl rfl (st_row (off := 0) (v := .agg #[.int .i64 (((b4.toNat - 48) : Nat) : Int), .int .i64 (((b5.toNat - 48) : Nat) : Int), .int .i64 0, .int .i64 0, .int .i64 0, .int .i64 0, .int .i64 0]) rfl Tw.kr Tw.kr Tw.m1 Bg1 Tw.kr (by first | (simp [Value.cells]; done) | exact Nat.le_of_ble_eq_true rfl) (by intro v hv; simp [Value.cells] at hv; first | (subst hv; rfl) | (rcases hv with rfl | rfl | rfl | rfl | rfl | rfl | rfl <;> rfl)) Tw.kr (List.forall_mem_cons.2 ⟨.inr ⟨Tw.m0, Tw.nee⟩, (List.forall_mem_cons.2 ⟨.inl rfl, (List.forall_mem_nil _)⟩)⟩)) ?_
               refine lm (v := .bool false) rfl rfl ?_
               refine wpL_done (fun W55 hW55 => ?_)
               change Code.wp ..
               refine wp_ret ?_
               try simp only [inBlock_ret, then_ret]
               refine bodyPost_ret (v := .tuple #[.agg #[.int .i64 (((b4.toNat - 48) : Nat) : Int), .int .i64 (((b5.toNat - 48) : Nat) : Int), .int .i64 0, .int .i64 0, .int .i64 0, .int .i64 0, .int .i64 0], .bool false]) ?_ rfl ?_
               · exact (res_cell_tmp (p := 2) (q := 3) rfl rfl (hW55.2 _ Tw.m1) Tryd.underlying150 rfl Tw.kr)
               · exact ⟨.inr ⟨digs_no hb6 (dg_hi h7), _, _, _, _, _, _, _, rfl⟩, hW55.1⟩
           | true =>
             have h6 : b6.toNat < 48 := of_decide_eq_true hd6
             clear hd6
             refine ln rfl ?_
             refine ln rfl ?_
             refine ln rfl ?_
             refine ln rfl ?_
             refine lm (v := .bool true) rfl rfl ?_
             refine wpL_done (fun W56 hW56 => ?_)
             change Code.wp ..
             refine wp_cond_true rfl ?_
             refine wp_seq ?_
             refine wp_region_L _ hW56 ?_
             refine lv (v := .agg #[.int .i64 (((b4.toNat - 48) : Nat) : Int), .int .i64 (((b5.toNat - 48) : Nat) : Int), .int .i64 0, .int .i64 0, .int .i64 0, .int .i64 0, .int .i64 0]) rfl rfl (yb_load (n := 7) (off := 0) rfl Tw.kr Tw.m0 Tryd.underlying150 rfl Tw.kr (by first | (simp [Value.cells]; done) | exact Nat.le_of_ble_eq_true rfl) Tw.kr) ?_
             refine wpL_s [(g2, .cells #[.int .i64 (((b4.toNat - 48) : Nat) : Int), .int .i64 (((b5.toNat - 48) : Nat) : Int), .int .i64 0, .int .i64 0, .int .i64 0, .int .i64 0, .int .i64 0] 150 (0, 0)), (g1, .cells #[.int .i64 (((b4.toNat - 48) : Nat) : Int), .int .i64 (((b5.toNat - 48) : Nat) : Int), .int .i64 0, .int .i64 0, .int .i64 0, .int .i64 0, .int .i64 0] 150 (0, 0))] rfl rfl (st_row (off := 0) (v := .agg #[.int .i64 (((b4.toNat - 48) : Nat) : Int), .int .i64 (((b5.toNat - 48) : Nat) : Int), .int .i64 0, .int .i64 0, .int .i64 0, .int .i64 0, .int .i64 0]) rfl Tw.kr Tw.kr Tw.m1 Bg1 Tw.kr (by first | (simp [Value.cells]; done) | exact Nat.le_of_ble_eq_true rfl) (by intro v hv; simp [Value.cells] at hv; first | (subst hv; rfl) | (rcases hv with rfl | rfl | rfl | rfl | rfl | rfl | rfl <;> rfl)) Tw.kr (List.forall_mem_cons.2 ⟨.inr ⟨Tw.m0, Tw.nee⟩, (List.forall_mem_cons.2 ⟨.inl rfl, (List.forall_mem_nil _)⟩)⟩)) ?_
             refine lm (v := .bool false) rfl rfl ?_
             refine wpL_done (fun W57 hW57 => ?_)
             change Code.wp ..
             refine wp_ret ?_
             try simp only [inBlock_ret, then_ret]
             refine bodyPost_ret (v := .tuple #[.agg #[.int .i64 (((b4.toNat - 48) : Nat) : Int), .int .i64 (((b5.toNat - 48) : Nat) : Int), .int .i64 0, .int .i64 0, .int .i64 0, .int .i64 0, .int .i64 0], .bool false]) ?_ rfl ?_
             · exact (res_cell_tmp (p := 2) (q := 3) rfl rfl (hW57.2 _ Tw.m1) Tryd.underlying150 rfl Tw.kr)
             · exact ⟨.inr ⟨digs_no hb6 (dg_lo h6), _, _, _, _, _, _, _, rfl⟩, hW57.1⟩
         | true =>
           have h5 : 57 < b5.toNat := of_decide_eq_true hd5
           clear hd5
           refine wp_cond_true rfl ?_
           refine wp_seq ?_
           refine wp_region_L _ hW13 ?_
           refine lv (v := .agg #[.int .i64 (((b4.toNat - 48) : Nat) : Int), .int .i64 0, .int .i64 0, .int .i64 0, .int .i64 0, .int .i64 0, .int .i64 0]) rfl rfl (yb_load (n := 7) (off := 0) rfl Tw.kr Tw.m0 Tryd.underlying150 rfl Tw.kr (by first | (simp [Value.cells]; done) | exact Nat.le_of_ble_eq_true rfl) Tw.kr) ?_
           refine wpL_s [(g2, .cells #[.int .i64 (((b4.toNat - 48) : Nat) : Int), .int .i64 0, .int .i64 0, .int .i64 0, .int .i64 0, .int .i64 0, .int .i64 0] 150 (0, 0)), (g1, .cells #[.int .i64 (((b4.toNat - 48) : Nat) : Int), .int .i64 0, .int .i64 0, .int .i64 0, .int .i64 0, .int .i64 0, .int .i64 0] 150 (0, 0))] rfl rfl (st_row (off := 0) (v := .agg #[.int .i64 (((b4.toNat - 48) : Nat) : Int), .int .i64 0, .int .i64 0, .int .i64 0, .int .i64 0, .int .i64 0, .int .i64 0]) rfl Tw.kr Tw.kr Tw.m1 Bg1 Tw.kr (by first | (simp [Value.cells]; done) | exact Nat.le_of_ble_eq_true rfl) (by intro v hv; simp [Value.cells] at hv; first | (subst hv; rfl) | (rcases hv with rfl | rfl | rfl | rfl | rfl | rfl | rfl <;> rfl)) Tw.kr (List.forall_mem_cons.2 ⟨.inr ⟨Tw.m0, Tw.nee⟩, (List.forall_mem_cons.2 ⟨.inl rfl, (List.forall_mem_nil _)⟩)⟩)) ?_
           refine lm (v := .bool false) rfl rfl ?_
           refine wpL_done (fun W58 hW58 => ?_)
           change Code.wp ..
           refine wp_ret ?_
           try simp only [inBlock_ret, then_ret]
           refine bodyPost_ret (v := .tuple #[.agg #[.int .i64 (((b4.toNat - 48) : Nat) : Int), .int .i64 0, .int .i64 0, .int .i64 0, .int .i64 0, .int .i64 0, .int .i64 0], .bool false]) ?_ rfl ?_
           · exact (res_cell_tmp (p := 2) (q := 3) rfl rfl (hW58.2 _ Tw.m1) Tryd.underlying150 rfl Tw.kr)
           · exact ⟨.inr ⟨digs_no hb5 (dg_hi h5), _, _, _, _, _, _, _, rfl⟩, hW58.1⟩
       | true =>
         have h4 : b5.toNat < 48 := of_decide_eq_true hd4
         clear hd4
         refine ln rfl ?_
         refine ln rfl ?_
         refine ln rfl ?_
         refine ln rfl ?_
         refine lm (v := .bool true) rfl rfl ?_
         refine wpL_done (fun W59 hW59 => ?_)
         change Code.wp ..
         refine wp_cond_true rfl ?_
         refine wp_seq ?_
         refine wp_region_L _ hW59 ?_
         refine lv (v := .agg #[.int .i64 (((b4.toNat - 48) : Nat) : Int), .int .i64 0, .int .i64 0, .int .i64 0, .int .i64 0, .int .i64 0, .int .i64 0]) rfl rfl (yb_load (n := 7) (off := 0) rfl Tw.kr Tw.m0 Tryd.underlying150 rfl Tw.kr (by first | (simp [Value.cells]; done) | exact Nat.le_of_ble_eq_true rfl) Tw.kr) ?_
         refine wpL_s [(g2, .cells #[.int .i64 (((b4.toNat - 48) : Nat) : Int), .int .i64 0, .int .i64 0, .int .i64 0, .int .i64 0, .int .i64 0, .int .i64 0] 150 (0, 0)), (g1, .cells #[.int .i64 (((b4.toNat - 48) : Nat) : Int), .int .i64 0, .int .i64 0, .int .i64 0, .int .i64 0, .int .i64 0, .int .i64 0] 150 (0, 0))] rfl rfl (st_row (off := 0) (v := .agg #[.int .i64 (((b4.toNat - 48) : Nat) : Int), .int .i64 0, .int .i64 0, .int .i64 0, .int .i64 0, .int .i64 0, .int .i64 0]) rfl Tw.kr Tw.kr Tw.m1 Bg1 Tw.kr (by first | (simp [Value.cells]; done) | exact Nat.le_of_ble_eq_true rfl) (by intro v hv; simp [Value.cells] at hv; first | (subst hv; rfl) | (rcases hv with rfl | rfl | rfl | rfl | rfl | rfl | rfl <;> rfl)) Tw.kr (List.forall_mem_cons.2 ⟨.inr ⟨Tw.m0, Tw.nee⟩, (List.forall_mem_cons.2 ⟨.inl rfl, (List.forall_mem_nil _)⟩)⟩)) ?_
         refine lm (v := .bool false) rfl rfl ?_
         refine wpL_done (fun W60 hW60 => ?_)
         change Code.wp ..
         refine wp_ret ?_
         try simp only [inBlock_ret, then_ret]
         refine bodyPost_ret (v := .tuple #[.agg #[.int .i64 (((b4.toNat - 48) : Nat) : Int), .int .i64 0, .int .i64 0, .int .i64 0, .int .i64 0, .int .i64 0, .int .i64 0], .bool false]) ?_ rfl ?_
         · exact (res_cell_tmp (p := 2) (q := 3) rfl rfl (hW60.2 _ Tw.m1) Tryd.underlying150 rfl Tw.kr)
         · exact ⟨.inr ⟨digs_no hb5 (dg_lo h4), _, _, _, _, _, _, _, rfl⟩, hW60.1⟩
     | true =>
       have h3 : 57 < b4.toNat := of_decide_eq_true hd3
       clear hd3
       refine wp_cond_true rfl ?_
       refine wp_seq ?_
       refine wp_region_L _ hW8 ?_
       refine lv (v := .agg #[.int .i64 0, .int .i64 0, .int .i64 0, .int .i64 0, .int .i64 0, .int .i64 0, .int .i64 0]) rfl rfl (yb_load (n := 7) (off := 0) rfl Tw.kr Tw.m0 Tryd.underlying150 rfl Tw.kr (by first | (simp [Value.cells]; done) | exact Nat.le_of_ble_eq_true rfl) Tw.kr) ?_
       refine wpL_s [(g2, .cells #[.int .i64 0, .int .i64 0, .int .i64 0, .int .i64 0, .int .i64 0, .int .i64 0, .int .i64 0] 150 (0, 0)), (g1, .cells #[.int .i64 0, .int .i64 0, .int .i64 0, .int .i64 0, .int .i64 0, .int .i64 0, .int .i64 0] 150 (0, 0))] rfl rfl (st_row (off := 0) (v := .agg #[.int .i64 0, .int .i64 0, .int .i64 0, .int .i64 0, .int .i64 0, .int .i64 0, .int .i64 0]) rfl Tw.kr Tw.kr Tw.m1 Bg1 Tw.kr (by first | (simp [Value.cells]; done) | exact Nat.le_of_ble_eq_true rfl) (by intro v hv; simp [Value.cells] at hv; first | (subst hv; rfl) | (rcases hv with rfl | rfl | rfl | rfl | rfl | rfl | rfl <;> rfl)) Tw.kr (List.forall_mem_cons.2 ⟨.inr ⟨Tw.m0, Tw.nee⟩, (List.forall_mem_cons.2 ⟨.inl rfl, (List.forall_mem_nil _)⟩)⟩)) ?_
       refine lm (v := .bool false) rfl rfl ?_
       refine wpL_done (fun W61 hW61 => ?_)
       change Code.wp ..
       refine wp_ret ?_
       try simp only [inBlock_ret, then_ret]
       refine bodyPost_ret (v := .tuple #[.agg #[.int .i64 0, .int .i64 0, .int .i64 0, .int .i64 0, .int .i64 0, .int .i64 0, .int .i64 0], .bool false]) ?_ rfl ?_
       · exact (res_cell_tmp (p := 2) (q := 3) rfl rfl (hW61.2 _ Tw.m1) Tryd.underlying150 rfl Tw.kr)
       · exact ⟨.inr ⟨digs_no hb4 (dg_hi h3), _, _, _, _, _, _, _, rfl⟩, hW61.1⟩
   | true =>
     have h2 : b4.toNat < 48 := of_decide_eq_true hd2
     clear hd2
     refine ln rfl ?_
     refine ln rfl ?_
     refine ln rfl ?_
     refine ln rfl ?_
     refine lm (v := .bool true) rfl rfl ?_
     refine wpL_done (fun W62 hW62 => ?_)
     change Code.wp ..
     refine wp_cond_true rfl ?_
     refine wp_seq ?_
     refine wp_region_L _ hW62 ?_
     refine lv (v := .agg #[.int .i64 0, .int .i64 0, .int .i64 0, .int .i64 0, .int .i64 0, .int .i64 0, .int .i64 0]) rfl rfl (yb_load (n := 7) (off := 0) rfl Tw.kr Tw.m0 Tryd.underlying150 rfl Tw.kr (by first | (simp [Value.cells]; done) | exact Nat.le_of_ble_eq_true rfl) Tw.kr) ?_
     refine wpL_s [(g2, .cells #[.int .i64 0, .int .i64 0, .int .i64 0, .int .i64 0, .int .i64 0, .int .i64 0, .int .i64 0] 150 (0, 0)), (g1, .cells #[.int .i64 0, .int .i64 0, .int .i64 0, .int .i64 0, .int .i64 0, .int .i64 0, .int .i64 0] 150 (0, 0))] rfl rfl (st_row (off := 0) (v := .agg #[.int .i64 0, .int .i64 0, .int .i64 0, .int .i64 0, .int .i64 0, .int .i64 0, .int .i64 0]) rfl Tw.kr Tw.kr Tw.m1 Bg1 Tw.kr (by first | (simp [Value.cells]; done) | exact Nat.le_of_ble_eq_true rfl) (by intro v hv; simp [Value.cells] at hv; first | (subst hv; rfl) | (rcases hv with rfl | rfl | rfl | rfl | rfl | rfl | rfl <;> rfl)) Tw.kr (List.forall_mem_cons.2 ⟨.inr ⟨Tw.m0, Tw.nee⟩, (List.forall_mem_cons.2 ⟨.inl rfl, (List.forall_mem_nil _)⟩)⟩)) ?_
     refine lm (v := .bool false) rfl rfl ?_
     refine wpL_done (fun W63 hW63 => ?_)
     change Code.wp ..
     refine wp_ret ?_
     try simp only [inBlock_ret, then_ret]
     refine bodyPost_ret (v := .tuple #[.agg #[.int .i64 0, .int .i64 0, .int .i64 0, .int .i64 0, .int .i64 0, .int .i64 0, .int .i64 0], .bool false]) ?_ rfl ?_
     · exact (res_cell_tmp (p := 2) (q := 3) rfl rfl (hW63.2 _ Tw.m1) Tryd.underlying150 rfl Tw.kr)
     · exact ⟨.inr ⟨digs_no hb4 (dg_lo h2), _, _, _, _, _, _, _, rfl⟩, hW63.1⟩
set_option maxRecDepth 100000 in
set_option maxHeartbeats 4000000 in
theorem halfOf_any (c : Nat) (hc : c ≤ 100) (w : World) (hE : Env w) : Calls Tryd.prog 104 #[.int .i64 ((c : Nat) : Int)] w fun e w' => e = .returned (.tuple #[.int .u8 ((halfN c : Nat) : Int), .bool (halfB c)]) ∧ Below w.heap.size w w' := by
 have HE := Lib.hid hE
 clear hE
 go_enter Tryd.func104, Tryd.ntmps104
 refine wp_seq ?_
 refine wp_region_L [] (KS.start w) ?_
 refine lm (v := .int .u8 0) rfl rfl ?_
 refine lm (v := .bool false) rfl rfl ?_
 refine wpL_done (fun W1 hW1 => ?_)
 change Code.wp ..
 refine wp_seq ?_
 refine wp_seq ?_
 refine wp_region_L _ hW1 ?_
 refine lv (v := .agg #[.int .i64 2, .int .i64 1, .int .i64 3]) rfl rfl (yb_rs (off := 0) (cs := codesL) rfl Tw.kr (fun W hW => (HE.out.cap.keep hW.1).2) Tryd.underlying141 rfl Tw.kr) ?_
 refine lm (v := .int .i64 0) rfl rfl ?_
 refine wpL_done (fun W2 hW2 => ?_)
 change Code.wp ..
 refine wp_block ?_
 refine wp_loop_rounds 4 ?_
 change Code.wp ..
 refine wp_seq ?_
 refine wp_region_L _ hW2 ?_
 refine lm (v := .bool true) rfl rfl ?_
 refine wpL_done (fun W3 hW3 => ?_)
 change Code.wp ..
 refine wp_seq ?_
 refine wp_cond_true rfl ?_
 refine wp_skip ?_
 change Code.wp ..
 refine wp_seq ?_
 refine wp_block ?_
 refine wp_seq ?_
 refine wp_region_L _ hW3 ?_
 refine lm (v := .int .i64 0) rfl rfl ?_
 refine lm (v := .int .i64 2) rfl rfl ?_
 refine lm (v := .int .i64 0) rfl rfl ?_
 refine lm (v := .int .i64 2) rfl rfl ?_
 refine wpL_done (fun W4 hW4 => ?_)
 change Code.wp ..
 refine wp_seq ?_
 refine wp_region_L _ hW4 ?_
 refine lm (v := .int .i64 2) rfl rfl ?_
 refine lm (v := .int .i64 ((c : Nat) : Int)) rfl rfl ?_
 refine lp (v := .bool (decide (2 = c))) rfl rfl (run_bin rfl (vx := (.int .i64 ((2 : Nat) : Int))) (vy := (.int .i64 ((c : Nat) : Int))) Tw.kr Tw.kr fun w => bn_eql rfl w) ?_
 refine wpL_done (fun W5 hW5 => ?_)
 change Code.wp ..
 cases hd1 : (decide (2 = c)) with
 | false =>
   have h1 : ¬ (2 = c) := of_decide_eq_false hd1
   clear hd1
   refine wp_cond_false rfl ?_
   refine wp_skip ?_
   change Code.wp ..
   refine wp_region_L _ hW5 ?_
   refine lm (v := .int .i64 1) rfl rfl ?_
   refine lm (v := .int .i64 1) rfl rfl ?_
   refine wpL_done (fun W6 hW6 => ?_)
   change Code.wp ..
   refine wp_seq ?_
   refine wp_region_L _ hW6 ?_
   refine lm (v := .bool true) rfl rfl ?_
   refine wpL_done (fun W7 hW7 => ?_)
   change Code.wp ..
   refine wp_seq ?_
   refine wp_cond_true rfl ?_
   refine wp_skip ?_
   change Code.wp ..
   refine wp_seq ?_
   refine wp_block ?_
   refine wp_seq ?_
   refine wp_region_L _ hW7 ?_
   refine lm (v := .int .i64 1) rfl rfl ?_
   refine lm (v := .int .i64 1) rfl rfl ?_
   refine lm (v := .int .i64 1) rfl rfl ?_
   refine lm (v := .int .i64 1) rfl rfl ?_
   refine wpL_done (fun W8 hW8 => ?_)
   change Code.wp ..
   refine wp_seq ?_
   refine wp_region_L _ hW8 ?_
   refine lm (v := .int .i64 1) rfl rfl ?_
   refine lm (v := .int .i64 ((c : Nat) : Int)) rfl rfl ?_
   refine lp (v := .bool (decide (1 = c))) rfl rfl (run_bin rfl (vx := (.int .i64 ((1 : Nat) : Int))) (vy := (.int .i64 ((c : Nat) : Int))) Tw.kr Tw.kr fun w => bn_eql rfl w) ?_
   refine wpL_done (fun W9 hW9 => ?_)
   change Code.wp ..
   cases hd2 : (decide (1 = c)) with
   | false =>
     have h2 : ¬ (1 = c) := of_decide_eq_false hd2
     clear hd2
     refine wp_cond_false rfl ?_
     refine wp_skip ?_
     change Code.wp ..
     refine wp_region_L _ hW9 ?_
     refine lm (v := .int .i64 2) rfl rfl ?_
     refine lm (v := .int .i64 2) rfl rfl ?_
     refine wpL_done (fun W10 hW10 => ?_)
     change Code.wp ..
     refine wp_seq ?_
     refine wp_region_L _ hW10 ?_
     refine lm (v := .bool true) rfl rfl ?_
     refine wpL_done (fun W11 hW11 => ?_)
     change Code.wp ..
     refine wp_seq ?_
     refine wp_cond_true rfl ?_
     refine wp_skip ?_
     change Code.wp ..
     refine wp_seq ?_
     refine wp_block ?_
     refine wp_seq ?_
     refine wp_region_L _ hW11 ?_
     refine lm (v := .int .i64 2) rfl rfl ?_
     refine lm (v := .int .i64 3) rfl rfl ?_
     refine lm (v := .int .i64 2) rfl rfl ?_
     refine lm (v := .int .i64 3) rfl rfl ?_
     refine wpL_done (fun W12 hW12 => ?_)
     change Code.wp ..
     refine wp_seq ?_
     refine wp_region_L _ hW12 ?_
     refine lm (v := .int .i64 3) rfl rfl ?_
     refine lm (v := .int .i64 ((c : Nat) : Int)) rfl rfl ?_
     refine lp (v := .bool (decide (3 = c))) rfl rfl (run_bin rfl (vx := (.int .i64 ((3 : Nat) : Int))) (vy := (.int .i64 ((c : Nat) : Int))) Tw.kr Tw.kr fun w => bn_eql rfl w) ?_
     refine wpL_done (fun W13 hW13 => ?_)
     change Code.wp ..
     cases hd3 : (decide (3 = c)) with
     | false =>
       have h3 : ¬ (3 = c) := of_decide_eq_false hd3
       clear hd3
       refine wp_cond_false rfl ?_
       refine wp_skip ?_
       change Code.wp ..
       refine wp_region_L _ hW13 ?_
       refine lm (v := .int .i64 3) rfl rfl ?_
       refine lm (v := .int .i64 3) rfl rfl ?_
       refine wpL_done (fun W14 hW14 => ?_)
       change Code.wp ..
       refine wp_seq ?_
       refine wp_region_L _ hW14 ?_
       refine lm (v := .bool false) rfl rfl ?_
       refine wpL_done (fun W15 hW15 => ?_)
       change Code.wp ..
       refine wp_seq ?_
       refine wp_cond_false rfl ?_
       refine wp_exit ?_
       change Code.wp ..
       refine wp_seq ?_
       refine wp_region_L _ hW15 ?_
       refine lm (v := .int .u8 0) rfl rfl ?_
       refine lm (v := .bool false) rfl rfl ?_
       refine wpL_done (fun W16 hW16 => ?_)
       change Code.wp ..
       refine wp_ret ?_
       try simp only [inBlock_ret, then_ret]
       refine bodyPost_ret (v := .tuple #[.int .u8 0, .bool false]) ?_ rfl ?_
       · kernel_rfl
       · exact ⟨(by have e1 : ¬ c = 2 := fun e => h1 e.symm; have e2 : ¬ c = 1 := fun e => h2 e.symm; have e3 : ¬ c = 3 := fun e => h3 e.symm; unfold halfN halfB; rw [if_neg e2, if_neg e3, decide_eq_false e1, decide_eq_false e2, decide_eq_false e3]; rfl), hW16.1⟩
     | true =>
       have h3 : 3 = c := of_decide_eq_true hd3
       clear hd3
       refine wp_cond_true rfl ?_
       refine wp_seq ?_
       refine wp_region_L _ hW13 ?_
       refine lm (v := .int .i64 2) rfl rfl ?_
       refine lm (v := .int .u8 2) rfl rfl ?_
       refine lm (v := .int .u8 2) rfl rfl ?_
       refine lm (v := .bool true) rfl rfl ?_
       refine wpL_done (fun W17 hW17 => ?_)
       change Code.wp ..
       refine wp_ret ?_
       try simp only [inBlock_ret, then_ret]
       refine bodyPost_ret (v := .tuple #[.int .u8 2, .bool true]) ?_ rfl ?_
       · kernel_rfl
       · exact ⟨(by have e9 := h3; subst e9; rfl), hW17.1⟩
   | true =>
     have h2 : 1 = c := of_decide_eq_true hd2
     clear hd2
     refine wp_cond_true rfl ?_
     refine wp_seq ?_
     refine wp_region_L _ hW9 ?_
     refine lm (v := .int .i64 1) rfl rfl ?_
     refine lm (v := .int .u8 1) rfl rfl ?_
     refine lm (v := .int .u8 1) rfl rfl ?_
     refine lm (v := .bool true) rfl rfl ?_
     refine wpL_done (fun W18 hW18 => ?_)
     change Code.wp ..
     refine wp_ret ?_
     try simp only [inBlock_ret, then_ret]
     refine bodyPost_ret (v := .tuple #[.int .u8 1, .bool true]) ?_ rfl ?_
     · kernel_rfl
     · exact ⟨(by have e9 := h2; subst e9; rfl), hW18.1⟩
 | true =>
   have h1 : 2 = c := of_decide_eq_true hd1
   clear hd1
   refine wp_cond_true rfl ?_
   refine wp_seq ?_
   refine wp_region_L _ hW5 ?_
   refine lm (v := .int .i64 0) rfl rfl ?_
   refine lm (v := .int .u8 0) rfl rfl ?_
   refine lm (v := .int .u8 0) rfl rfl ?_
   refine lm (v := .bool true) rfl rfl ?_
   refine wpL_done (fun W19 hW19 => ?_)
   change Code.wp ..
   refine wp_ret ?_
   try simp only [inBlock_ret, then_ret]
   refine bodyPost_ret (v := .tuple #[.int .u8 0, .bool true]) ?_ rfl ?_
   · kernel_rfl
   · exact ⟨(by have e9 := h1; subst e9; rfl), hW19.1⟩
set_option maxRecDepth 100000 in
set_option maxHeartbeats 4000000 in
theorem tierOf_any (n : Nat) (hn : n ≤ 99) (w : World) : Calls Tryd.prog 105 #[.int .i64 ((n : Nat) : Int)] w fun e w' => e = .returned (.tuple #[.int .i64 (((tierR n / 2 : Nat) : Int) - 1), .bool (tierD n), .bool (tierB n)]) ∧ Below w.heap.size w w' := by
 go_enter Tryd.func105, Tryd.ntmps105
 refine wp_seq ?_
 refine wp_region_L [] (KS.start w) ?_
 refine lm (v := .int .i64 0) rfl rfl ?_
 refine lm (v := .bool false) rfl rfl ?_
 refine lm (v := .bool false) rfl rfl ?_
 refine wpL_done (fun W1 hW1 => ?_)
 change Code.wp ..
 refine wp_seq ?_
 refine wp_seq ?_
 refine wp_region_L _ hW1 ?_
 refine lm (v := .int .i64 ((n : Nat) : Int)) rfl rfl ?_
 refine lp (v := .bool (decide (n = 0))) rfl rfl (run_bin rfl (vx := (.int .i64 ((n : Nat) : Int))) (vy := (.int .i64 ((0 : Nat) : Int))) Tw.kr Tw.kr fun w => bn_eql rfl w) ?_
 refine wpL_done (fun W2 hW2 => ?_)
 change Code.wp ..
 cases hd1 : (decide (n = 0)) with
 | false =>
   have h1 : ¬ (n = 0) := of_decide_eq_false hd1
   clear hd1
   refine wp_cond_false rfl ?_
   refine wp_skip ?_
   change Code.wp ..
   refine wp_seq ?_
   refine wp_seq ?_
   refine wp_region_L _ hW2 ?_
   refine lm (v := .int .i64 ((n : Nat) : Int)) rfl rfl ?_
   refine lp (v := .bool (decide (80 < n))) rfl rfl (run_bin rfl (vx := (.int .i64 ((n : Nat) : Int))) (vy := (.int .i64 ((80 : Nat) : Int))) Tw.kr Tw.kr fun w => bn_gtr rfl w) ?_
   refine lm (v := .bool (decide (80 < n))) rfl rfl ?_
   refine wpL_done (fun W3 hW3 => ?_)
   change Code.wp ..
   refine wp_seq ?_
   refine wp_region_L _ hW3 ?_
   refine lm (v := .bool (decide (80 < n))) rfl rfl ?_
   refine wpL_done (fun W4 hW4 => ?_)
   change Code.wp ..
   cases hd2 : (decide (80 < n)) with
   | false =>
     have h2 : ¬ (80 < n) := of_decide_eq_false hd2
     clear hd2
     refine wp_cond_false rfl ?_
     refine wp_skip ?_
     change Code.wp ..
     refine wp_seq ?_
     refine wp_region_L _ hW4 ?_
     refine lm (v := .int .i64 ((n : Nat) : Int)) rfl rfl ?_
     refine lp (v := .int .i64 (((n / 2) : Nat) : Int)) rfl rfl (run_bin rfl (vx := (.int .i64 ((n : Nat) : Int))) (vy := (.int .i64 ((2 : Nat) : Int))) Tw.kr Tw.kr fun w => bn_quo (z := (n / 2)) rfl Tw.om (wr_i64 Tw.om) w) ?_
     refine lp (v := .int .i64 ((((n / 2) : Nat) : Int) - 1)) rfl rfl (run_bin rfl (vx := (.int .i64 (((n / 2) : Nat) : Int))) (vy := (.int .i64 1)) Tw.kr Tw.kr fun w => bi_sub (z := ((((n / 2) : Nat) : Int) - 1)) rfl (wi_i64 Tw.om) w) ?_
     refine lm (v := .bool false) rfl rfl ?_
     refine lm (v := .int .i64 ((n : Nat) : Int)) rfl rfl ?_
     refine lp (v := .int .i64 (((n % 2) : Nat) : Int)) rfl rfl (run_bin rfl (vx := (.int .i64 ((n : Nat) : Int))) (vy := (.int .i64 ((2 : Nat) : Int))) Tw.kr Tw.kr fun w => bn_rem (z := (n % 2)) rfl Tw.om w) ?_
     refine lp (v := .bool (decide ((n % 2) = 0))) rfl rfl (run_bin rfl (vx := (.int .i64 (((n % 2) : Nat) : Int))) (vy := (.int .i64 ((0 : Nat) : Int))) Tw.kr Tw.kr fun w => bn_eql rfl w) ?_
     refine lm (v := .bool (decide ((n % 2) = 0))) rfl rfl ?_
     cases hd3 : (decide ((n % 2) = 0)) with
     | false =>
       have h3 : ¬ ((n % 2) = 0) := of_decide_eq_false hd3
       clear hd3
       refine ln rfl ?_
       refine ln rfl ?_
       refine lm (v := .bool false) rfl rfl ?_
       refine lm (v := .bool false) rfl rfl ?_
       refine ln rfl ?_
       refine ln rfl ?_
       refine lm (v := .bool false) rfl rfl ?_
       refine lm (v := .int .i64 ((((n / 2) : Nat) : Int) - 1)) rfl rfl ?_
       refine lm (v := .bool false) rfl rfl ?_
       refine lm (v := .bool false) rfl rfl ?_
       refine wpL_done (fun W5 hW5 => ?_)
       change Code.wp ..
       refine wp_ret ?_
       try simp only [inBlock_ret, then_ret]
       refine bodyPost_ret (v := .tuple #[.int .i64 ((((n / 2) : Nat) : Int) - 1), .bool false, .bool false]) ?_ rfl ?_
       · kernel_rfl
       · exact ⟨(tier_is (by unfold tierR tierM; simp [*]; try omega) (by unfold tierD tierM; simp [*]; try omega) (by unfold tierB tierR tierM; first | (simp [*]; done) | (rw [Bool.eq_iff_iff]; simp [*] <;> omega))), hW5.1⟩
     | true =>
       have h3 : (n % 2) = 0 := of_decide_eq_true hd3
       clear hd3
       refine lm (v := .int .i64 ((n : Nat) : Int)) rfl rfl ?_
       refine lp (v := .bool (!(decide (n < 2)))) rfl rfl (run_bin rfl (vx := (.int .i64 ((n : Nat) : Int))) (vy := (.int .i64 ((2 : Nat) : Int))) Tw.kr Tw.kr fun w => bn_geq rfl w) ?_
       refine lm (v := .bool (!(decide (n < 2)))) rfl rfl ?_
       refine lm (v := .bool (!(decide (n < 2)))) rfl rfl ?_
       cases hd4 : (decide (n < 2)) with
       | false =>
         have h4 : ¬ (n < 2) := of_decide_eq_false hd4
         clear hd4
         refine lm (v := .int .i64 ((n : Nat) : Int)) rfl rfl ?_
         refine lp (v := .bool (!(decide (20 < n)))) rfl rfl (run_bin rfl (vx := (.int .i64 ((n : Nat) : Int))) (vy := (.int .i64 ((20 : Nat) : Int))) Tw.kr Tw.kr fun w => bn_leq rfl w) ?_
         refine lm (v := .bool (!(decide (20 < n)))) rfl rfl ?_
         refine lm (v := .int .i64 ((((n / 2) : Nat) : Int) - 1)) rfl rfl ?_
         refine lm (v := .bool false) rfl rfl ?_
         refine lm (v := .bool (!(decide (20 < n)))) rfl rfl ?_
         refine wpL_done (fun W6 hW6 => ?_)
         change Code.wp ..
         refine wp_ret ?_
         try simp only [inBlock_ret, then_ret]
         refine bodyPost_ret (v := .tuple #[.int .i64 ((((n / 2) : Nat) : Int) - 1), .bool false, .bool (!(decide (20 < n)))]) ?_ rfl ?_
         · kernel_rfl
         · exact ⟨(tier_is (by unfold tierR tierM; simp [*]; try omega) (by unfold tierD tierM; simp [*]; try omega) (by unfold tierB tierR tierM; first | (simp [*]; done) | (rw [Bool.eq_iff_iff]; simp [*] <;> omega))), hW6.1⟩
       | true =>
         have h4 : n < 2 := of_decide_eq_true hd4
         clear hd4
         refine ln rfl ?_
         refine ln rfl ?_
         refine lm (v := .bool false) rfl rfl ?_
         refine lm (v := .int .i64 ((((n / 2) : Nat) : Int) - 1)) rfl rfl ?_
         refine lm (v := .bool false) rfl rfl ?_
         refine lm (v := .bool false) rfl rfl ?_
         refine wpL_done (fun W7 hW7 => ?_)
         change Code.wp ..
         refine wp_ret ?_
         try simp only [inBlock_ret, then_ret]
         refine bodyPost_ret (v := .tuple #[.int .i64 ((((n / 2) : Nat) : Int) - 1), .bool false, .bool false]) ?_ rfl ?_
         · kernel_rfl
         · exact ⟨(tier_is (by unfold tierR tierM; simp [*]; try omega) (by unfold tierD tierM; simp [*]; try omega) (by unfold tierB tierR tierM; first | (simp [*]; done) | (rw [Bool.eq_iff_iff]; simp [*] <;> omega))), hW7.1⟩
   | true =>
     have h2 : 80 < n := of_decide_eq_true hd2
     clear hd2
     refine wp_cond_true rfl ?_
     refine wp_region_L _ hW4 ?_
     refine lm (v := .int .i64 ((n : Nat) : Int)) rfl rfl ?_
     refine lp (v := .int .i64 (((n - 80) : Nat) : Int)) rfl rfl (run_bin rfl (vx := (.int .i64 ((n : Nat) : Int))) (vy := (.int .i64 ((80 : Nat) : Int))) Tw.kr Tw.kr fun w => bn_sub (z := (n - 80)) rfl Tw.om (wr_i64 Tw.om) w) ?_
     refine lm (v := .int .i64 (((n - 80) : Nat) : Int)) rfl rfl ?_
     refine wpL_done (fun W8 hW8 => ?_)
     change Code.wp ..
     refine wp_seq ?_
     refine wp_region_L _ hW8 ?_
     refine lm (v := .int .i64 (((n - 80) : Nat) : Int)) rfl rfl ?_
     refine lp (v := .int .i64 ((((n - 80) / 2) : Nat) : Int)) rfl rfl (run_bin rfl (vx := (.int .i64 (((n - 80) : Nat) : Int))) (vy := (.int .i64 ((2 : Nat) : Int))) Tw.kr Tw.kr fun w => bn_quo (z := ((n - 80) / 2)) rfl Tw.om (wr_i64 Tw.om) w) ?_
     refine lp (v := .int .i64 (((((n - 80) / 2) : Nat) : Int) - 1)) rfl rfl (run_bin rfl (vx := (.int .i64 ((((n - 80) / 2) : Nat) : Int))) (vy := (.int .i64 1)) Tw.kr Tw.kr fun w => bi_sub (z := (((((n - 80) / 2) : Nat) : Int) - 1)) rfl (wi_i64 Tw.om) w) ?_
     refine lm (v := .bool true) rfl rfl ?_
     refine lm (v := .int .i64 (((n - 80) : Nat) : Int)) rfl rfl ?_
     refine lp (v := .int .i64 ((((n - 80) % 2) : Nat) : Int)) rfl rfl (run_bin rfl (vx := (.int .i64 (((n - 80) : Nat) : Int))) (vy := (.int .i64 ((2 : Nat) : Int))) Tw.kr Tw.kr fun w => bn_rem (z := ((n - 80) % 2)) rfl Tw.om w) ?_
     refine lp (v := .bool (decide (((n - 80) % 2) = 0))) rfl rfl (run_bin rfl (vx := (.int .i64 ((((n - 80) % 2) : Nat) : Int))) (vy := (.int .i64 ((0 : Nat) : Int))) Tw.kr Tw.kr fun w => bn_eql rfl w) ?_
     refine lm (v := .bool (decide (((n - 80) % 2) = 0))) rfl rfl ?_
     cases hd5 : (decide (((n - 80) % 2) = 0)) with
     | false =>
       have h5 : ¬ (((n - 80) % 2) = 0) := of_decide_eq_false hd5
       clear hd5
       refine ln rfl ?_
       refine ln rfl ?_
       refine lm (v := .bool false) rfl rfl ?_
       refine lm (v := .bool false) rfl rfl ?_
       refine ln rfl ?_
       refine ln rfl ?_
       refine lm (v := .bool false) rfl rfl ?_
       refine lm (v := .int .i64 (((((n - 80) / 2) : Nat) : Int) - 1)) rfl rfl ?_
       refine lm (v := .bool true) rfl rfl ?_
       refine lm (v := .bool false) rfl rfl ?_
       refine wpL_done (fun W9 hW9 => ?_)
       change Code.wp ..
       refine wp_ret ?_
       try simp only [inBlock_ret, then_ret]
       refine bodyPost_ret (v := .tuple #[.int .i64 (((((n - 80) / 2) : Nat) : Int) - 1), .bool true, .bool false]) ?_ rfl ?_
       · kernel_rfl
       · exact ⟨(tier_is (by unfold tierR tierM; simp [*]; try omega) (by unfold tierD tierM; simp [*]; try omega) (by unfold tierB tierR tierM; first | (simp [*]; done) | (rw [Bool.eq_iff_iff]; simp [*] <;> omega))), hW9.1⟩
     | true =>
       have h5 : ((n - 80) % 2) = 0 := of_decide_eq_true hd5
       clear hd5
       refine lm (v := .int .i64 (((n - 80) : Nat) : Int)) rfl rfl ?_
       refine lp (v := .bool (!(decide ((n - 80) < 2)))) rfl rfl (run_bin rfl (vx := (.int .i64 (((n - 80) : Nat) : Int))) (vy := (.int .i64 ((2 : Nat) : Int))) Tw.kr Tw.kr fun w => bn_geq rfl w) ?_
       refine lm (v := .bool (!(decide ((n - 80) < 2)))) rfl rfl ?_
       refine lm (v := .bool (!(decide ((n - 80) < 2)))) rfl rfl ?_
       cases hd6 : (decide ((n - 80) < 2)) with
       | false =>
         have h6 : ¬ ((n - 80) < 2) := of_decide_eq_false hd6
         clear hd6
         refine lm (v := .int .i64 (((n - 80) : Nat) : Int)) rfl rfl ?_
         refine lp (v := .bool (!(decide (20 < (n - 80))))) rfl rfl (run_bin rfl (vx := (.int .i64 (((n - 80) : Nat) : Int))) (vy := (.int .i64 ((20 : Nat) : Int))) Tw.kr Tw.kr fun w => bn_leq rfl w) ?_
         refine lm (v := .bool (!(decide (20 < (n - 80))))) rfl rfl ?_
         refine lm (v := .int .i64 (((((n - 80) / 2) : Nat) : Int) - 1)) rfl rfl ?_
         refine lm (v := .bool true) rfl rfl ?_
         refine lm (v := .bool (!(decide (20 < (n - 80))))) rfl rfl ?_
         refine wpL_done (fun W10 hW10 => ?_)
         change Code.wp ..
         refine wp_ret ?_
         try simp only [inBlock_ret, then_ret]
         refine bodyPost_ret (v := .tuple #[.int .i64 (((((n - 80) / 2) : Nat) : Int) - 1), .bool true, .bool (!(decide (20 < (n - 80))))]) ?_ rfl ?_
         · kernel_rfl
         · exact ⟨(tier_is (by unfold tierR tierM; simp [*]; try omega) (by unfold tierD tierM; simp [*]; try omega) (by unfold tierB tierR tierM; first | (simp [*]; done) | (rw [Bool.eq_iff_iff]; simp [*] <;> omega))), hW10.1⟩
       | true =>
         have h6 : (n - 80) < 2 := of_decide_eq_true hd6
         clear hd6
         refine ln rfl ?_
         refine ln rfl ?_
         refine lm (v := .bool false) rfl rfl ?_
         refine lm (v := .int .i64 (((((n - 80) / 2) : Nat) : Int) - 1)) rfl rfl ?_
         refine lm (v := .bool true) rfl rfl ?_
         refine lm (v := .bool false) rfl rfl ?_
         refine wpL_done (fun W11 hW11 => ?_)
         change Code.wp ..
         refine wp_ret ?_
         try simp only [inBlock_ret, then_ret]
         refine bodyPost_ret (v := .tuple #[.int .i64 (((((n - 80) / 2) : Nat) : Int) - 1), .bool true, .bool false]) ?_ rfl ?_
         · kernel_rfl
         · exact ⟨(tier_is (by unfold tierR tierM; simp [*]; try omega) (by unfold tierD tierM; simp [*]; try omega) (by unfold tierB tierR tierM; first | (simp [*]; done) | (rw [Bool.eq_iff_iff]; simp [*] <;> omega))), hW11.1⟩
 | true =>
   have h1 : n = 0 := of_decide_eq_true hd1
   clear hd1
   refine wp_cond_true rfl ?_
   refine wp_region_L _ hW2 ?_
   refine lm (v := .int .i64 100) rfl rfl ?_
   refine wpL_done (fun W12 hW12 => ?_)
   change Code.wp ..
   refine wp_seq ?_
   refine wp_seq ?_
   refine wp_region_L _ hW12 ?_
   refine lm (v := .int .i64 100) rfl rfl ?_
   refine lm (v := .bool true) rfl rfl ?_
   refine lm (v := .bool true) rfl rfl ?_
   refine wpL_done (fun W13 hW13 => ?_)
   change Code.wp ..
   refine wp_seq ?_
   refine wp_region_L _ hW13 ?_
   refine lm (v := .bool true) rfl rfl ?_
   refine wpL_done (fun W14 hW14 => ?_)
   change Code.wp ..
   refine wp_cond_true rfl ?_
   refine wp_region_L _ hW14 ?_
   refine lm (v := .int .i64 100) rfl rfl ?_
   refine lm (v := .int .i64 20) rfl rfl ?_
   refine lm (v := .int .i64 20) rfl rfl ?_
   refine wpL_done (fun W15 hW15 => ?_)
   change Code.wp ..
   refine wp_seq ?_
   refine wp_region_L _ hW15 ?_
   refine lm (v := .int .i64 20) rfl rfl ?_
   refine lm (v := .int .i64 10) rfl rfl ?_
   refine lm (v := .int .i64 9) rfl rfl ?_
   refine lm (v := .bool true) rfl rfl ?_
   refine lm (v := .int .i64 20) rfl rfl ?_
   refine lm (v := .int .i64 0) rfl rfl ?_
   refine lm (v := .bool true) rfl rfl ?_
   refine lm (v := .bool true) rfl rfl ?_
   refine lm (v := .int .i64 20) rfl rfl ?_
   refine lm (v := .bool true) rfl rfl ?_
   refine lm (v := .bool true) rfl rfl ?_
   refine lm (v := .bool true) rfl rfl ?_
   refine lm (v := .int .i64 20) rfl rfl ?_
   refine lm (v := .bool true) rfl rfl ?_
   refine lm (v := .bool true) rfl rfl ?_
   refine lm (v := .int .i64 9) rfl rfl ?_
   refine lm (v := .bool true) rfl rfl ?_
   refine lm (v := .bool true) rfl rfl ?_
   refine wpL_done (fun W16 hW16 => ?_)
   change Code.wp ..
   refine wp_ret ?_
   try simp only [inBlock_ret, then_ret]
   refine bodyPost_ret (v := .tuple #[.int .i64 9, .bool true, .bool true]) ?_ rfl ?_
   · kernel_rfl
   · exact ⟨(tier_is (by unfold tierR tierM; simp [*]; try omega) (by unfold tierD tierM; simp [*]; try omega) (by unfold tierB tierR tierM; first | (simp [*]; done) | (rw [Bool.eq_iff_iff]; simp [*] <;> omega))), hW16.1⟩
end Go.Proofs.YtlinjngifacmoaaDoor
namespace Go.Proofs.YtlinjngifacmoaaDoor
open Go Go.RowKit Tw
theorem digitsOf_ok {b0 b1 b2 b3 b4 b5 b6 : UInt8} (hd : digsOk [b0, b1, b2, b3, b4, b5, b6] = true) (w : World) : Calls Tryd.prog 103 #[strV [b0, b1, b2, b3, b4, b5, b6]] w fun e w' => e = .returned (.tuple #[.agg #[.int .i64 ((b0.toNat - 48 : Nat) : Int), .int .i64 ((b1.toNat - 48 : Nat) : Int), .int .i64 ((b2.toNat - 48 : Nat) : Int), .int .i64 ((b3.toNat - 48 : Nat) : Int), .int .i64 ((b4.toNat - 48 : Nat) : Int), .int .i64 ((b5.toNat - 48 : Nat) : Int), .int .i64 ((b6.toNat - 48 : Nat) : Int)], .bool true]) ∧ Below w.heap.size w w' :=
 (digitsOf_any _ (by show 7 ≤ _; omega) w).mono fun e w' ⟨h, hb⟩ => by
   rcases h with ⟨c0, c1, c2, c3, c4, c5, c6, hl, _, he⟩ | ⟨h, _⟩
   · simp only [List.cons.injEq, and_true] at hl
     obtain ⟨rfl, rfl, rfl, rfl, rfl, rfl, rfl⟩ := hl
     exact ⟨he, hb⟩
   · rw [hd] at h; cases h
theorem digitsOf_no {l : List UInt8} (hl : l.length ≤ 281474976710656) (hd : digsOk l = false) (w : World) : Calls Tryd.prog 103 #[strV l] w fun e w' => (∃ d0 d1 d2 d3 d4 d5 d6 : Int, e = .returned (.tuple #[.agg #[.int .i64 d0, .int .i64 d1, .int .i64 d2, .int .i64 d3, .int .i64 d4, .int .i64 d5, .int .i64 d6], .bool false])) ∧ Below w.heap.size w w' :=
 (digitsOf_any l hl w).mono fun e w' ⟨h, hb⟩ => by
   rcases h with ⟨c0, c1, c2, c3, c4, c5, c6, _, h, _⟩ | ⟨_, h⟩
   · rw [hd] at h; cases h
   · exact ⟨h, hb⟩
theorem plc_is {x : Value} {c d : Bool} (h : c = d) : Ending.returned (.tuple #[x, .bool c]) = .returned (.tuple #[x, .bool d]) := by rw [h]
set_option maxRecDepth 100000 in
set_option maxHeartbeats 4000000 in
theorem placeOf_ok (b0 b1 b2 b3 b4 b5 b6 : UInt8) (k0 : 48 ≤ b0.toNat ∧ b0.toNat ≤ 57) (k1 : 48 ≤ b1.toNat ∧ b1.toNat ≤ 57) (k2 : 48 ≤ b2.toNat ∧ b2.toNat ≤ 57) (k3 : 48 ≤ b3.toNat ∧ b3.toNat ≤ 57) (k4 : 48 ≤ b4.toNat ∧ b4.toNat ≤ 57) (k5 : 48 ≤ b5.toNat ∧ b5.toNat ≤ 57) (k6 : 48 ≤ b6.toNat ∧ b6.toNat ≤ 57) (n : Nat) (hn : decN [b0, b1, b2, b3, b4, b5, b6] = n) (hd : digsOk [b0, b1, b2, b3, b4, b5, b6] = true) (w : World) (hE : Env w) : Calls Tryd.prog 69 #[strV [b0, b1, b2, b3, b4, b5, b6]] w fun e w' => e = .returned (.tuple #[.agg #[.int .i64 ((n / 10000 / 4 : Nat) : Int), .int .i64 ((n / 100 % 100 : Nat) : Int), .int .i64 (((tierR (n % 100) / 2 : Nat) : Int) - 1), .bool (tierD (n % 100)), .int .u8 ((halfN (n / 10000 % 4) : Nat) : Int)], .bool (halfB (n / 10000 % 4) && tierB (n % 100))]) ∧ Below w.heap.size w w' := by
 have HE := Lib.hid hE
 clear hE
 go_enter Tryd.func69, Tryd.ntmps69
 refine wp_seq ?_
 refine wp_region_L [] (KS.start w) ?_
 refine wpL_new (fun g => .pointer (some ⟨g, 0, none⟩)) (obi := .cells #[.int .i64 0, .int .i64 0, .int .i64 0, .bool false, .int .u8 0] 111 (0, 0)) rfl rfl Tw.kf Tw.pf fun g1 Bg1 Fg1 => ?_
 refine lm (v := .bool false) rfl rfl ?_
 refine wpL_done (fun W1 hW1 => ?_)
 change Code.wp ..
 refine wp_seq ?_
 refine wp_region_L _ hW1 ?_
 refine lm (v := strV [b0, b1, b2, b3, b4, b5, b6]) rfl rfl ?_
 refine lv (v := .tuple #[.agg #[.int .i64 (((b0.toNat - 48) : Nat) : Int), .int .i64 (((b1.toNat - 48) : Nat) : Int), .int .i64 (((b2.toNat - 48) : Nat) : Int), .int .i64 (((b3.toNat - 48) : Nat) : Int), .int .i64 (((b4.toNat - 48) : Nat) : Int), .int .i64 (((b5.toNat - 48) : Nat) : Int), .int .i64 (((b6.toNat - 48) : Nat) : Int)], .bool true]) rfl rfl (yb_call (f := 103) (args := #[strV [b0, b1, b2, b3, b4, b5, b6]]) Tw.kf fun W hW => digitsOf_ok hd W) ?_
 refine lm (v := .tuple #[.agg #[.int .i64 (((b0.toNat - 48) : Nat) : Int), .int .i64 (((b1.toNat - 48) : Nat) : Int), .int .i64 (((b2.toNat - 48) : Nat) : Int), .int .i64 (((b3.toNat - 48) : Nat) : Int), .int .i64 (((b4.toNat - 48) : Nat) : Int), .int .i64 (((b5.toNat - 48) : Nat) : Int), .int .i64 (((b6.toNat - 48) : Nat) : Int)], .bool true]) rfl rfl ?_
 refine lm (v := .agg #[.int .i64 (((b0.toNat - 48) : Nat) : Int), .int .i64 (((b1.toNat - 48) : Nat) : Int), .int .i64 (((b2.toNat - 48) : Nat) : Int), .int .i64 (((b3.toNat - 48) : Nat) : Int), .int .i64 (((b4.toNat - 48) : Nat) : Int), .int .i64 (((b5.toNat - 48) : Nat) : Int), .int .i64 (((b6.toNat - 48) : Nat) : Int)]) rfl rfl ?_
 refine lm (v := .bool true) rfl rfl ?_
 refine wpL_new (fun g => .pointer (some ⟨g, 0, none⟩)) (obi := .cells #[.int .i64 0, .int .i64 0, .int .i64 0, .int .i64 0, .int .i64 0, .int .i64 0, .int .i64 0] 150 (0, 0)) rfl rfl Tw.kf Tw.pf fun g2 Bg2 Fg2 => ?_
 obtain dj3_0 : g1 ≠ g2 := Tw.dkf Fg2
 refine wpL_s [(g2, .cells #[.int .i64 (((b0.toNat - 48) : Nat) : Int), .int .i64 (((b1.toNat - 48) : Nat) : Int), .int .i64 (((b2.toNat - 48) : Nat) : Int), .int .i64 (((b3.toNat - 48) : Nat) : Int), .int .i64 (((b4.toNat - 48) : Nat) : Int), .int .i64 (((b5.toNat - 48) : Nat) : Int), .int .i64 (((b6.toNat - 48) : Nat) : Int)] 150 (0, 0)), (g1, .cells #[.int .i64 0, .int .i64 0, .int .i64 0, .bool false, .int .u8 0] 111 (0, 0))] rfl rfl (st_row (off := 0) (v := .agg #[.int .i64 (((b0.toNat - 48) : Nat) : Int), .int .i64 (((b1.toNat - 48) : Nat) : Int), .int .i64 (((b2.toNat - 48) : Nat) : Int), .int .i64 (((b3.toNat - 48) : Nat) : Int), .int .i64 (((b4.toNat - 48) : Nat) : Int), .int .i64 (((b5.toNat - 48) : Nat) : Int), .int .i64 (((b6.toNat - 48) : Nat) : Int)]) rfl Tw.kr Tw.kr Tw.m0 Bg2 Tw.kr (by first | (simp [Value.cells]; done) | exact Nat.le_of_ble_eq_true rfl) (by intro v hv; simp [Value.cells] at hv; first | (subst hv; rfl) | (rcases hv with rfl | rfl | rfl | rfl | rfl | rfl | rfl <;> rfl)) Tw.kr (List.forall_mem_cons.2 ⟨.inl rfl, (List.forall_mem_cons.2 ⟨.inr ⟨Tw.m1, Tw.nee⟩, (List.forall_mem_nil _)⟩)⟩)) ?_
 refine lm (v := .bool true) rfl rfl ?_
 refine wpL_done (fun W2 hW2 => ?_)
 change Code.wp ..
 refine wp_seq ?_
 refine wp_seq ?_
 refine wp_region_L _ hW2 ?_
 refine lm (v := .bool true) rfl rfl ?_
 refine lm (v := .bool false) rfl rfl ?_
 refine wpL_done (fun W3 hW3 => ?_)
 change Code.wp ..
 refine wp_cond_false rfl ?_
 refine wp_skip ?_
 change Code.wp ..
 refine wp_seq ?_
 refine wp_region_L _ hW3 ?_
 refine lm (v := .int .i64 0) rfl rfl ?_
 refine wpL_done (fun W4 hW4 => ?_)
 change Code.wp ..
 refine wp_seq ?_
 refine wp_seq ?_
 refine wp_region_L _ hW4 ?_
 refine lv (v := .agg #[.int .i64 (((b0.toNat - 48) : Nat) : Int), .int .i64 (((b1.toNat - 48) : Nat) : Int), .int .i64 (((b2.toNat - 48) : Nat) : Int), .int .i64 (((b3.toNat - 48) : Nat) : Int), .int .i64 (((b4.toNat - 48) : Nat) : Int), .int .i64 (((b5.toNat - 48) : Nat) : Int), .int .i64 (((b6.toNat - 48) : Nat) : Int)]) rfl rfl (yb_load (n := 7) (off := 0) rfl Tw.kr Tw.m0 Tryd.underlying150 rfl Tw.kr (by first | (simp [Value.cells]; done) | exact Nat.le_of_ble_eq_true rfl) Tw.kr) ?_
 refine lm (v := .int .i64 0) rfl rfl ?_
 refine wpL_done (fun W5 hW5 => ?_)
 change Code.wp ..
 refine wp_block ?_
 refine wp_loop_rounds 8 ?_
 change Code.wp ..
 refine wp_seq ?_
 refine wp_region_L _ hW5 ?_
 refine lm (v := .bool true) rfl rfl ?_
 refine wpL_done (fun W6 hW6 => ?_)
 change Code.wp ..
 refine wp_seq ?_
 refine wp_cond_true rfl ?_
 refine wp_skip ?_
 change Code.wp ..
 refine wp_seq ?_
 refine wp_block ?_
 refine wp_seq ?_
 refine wp_region_L _ hW6 ?_
 refine lm (v := .int .i64 (((b0.toNat - 48) : Nat) : Int)) rfl rfl ?_
 refine lm (v := .int .i64 (((b0.toNat - 48) : Nat) : Int)) rfl rfl ?_
 refine wpL_done (fun W7 hW7 => ?_)
 change Code.wp ..
 refine wp_region_L _ hW7 ?_
 refine lm (v := .int .i64 0) rfl rfl ?_
 refine lm (v := .int .i64 0) rfl rfl ?_
 refine lm (v := .int .i64 (((b0.toNat - 48) : Nat) : Int)) rfl rfl ?_
 obtain ⟨n1, hn1⟩ : ∃ m, (0 + (b0.toNat - 48)) = m := ⟨_, rfl⟩
 have hq1 : n1 ≤ 9 := by omega
 refine lp (v := .int .i64 ((n1 : Nat) : Int)) rfl rfl (run_bin rfl (vx := (.int .i64 ((0 : Nat) : Int))) (vy := (.int .i64 (((b0.toNat - 48) : Nat) : Int))) Tw.kr Tw.kr fun w => bn_add (z := n1) hn1 (wr_i64 Tw.om) w) ?_
 refine lm (v := .int .i64 ((n1 : Nat) : Int)) rfl rfl ?_
 refine wpL_done (fun W8 hW8 => ?_)
 change Code.wp ..
 refine wp_region_L _ hW8 ?_
 refine lm (v := .int .i64 1) rfl rfl ?_
 refine lm (v := .int .i64 1) rfl rfl ?_
 refine wpL_done (fun W9 hW9 => ?_)
 change Code.wp ..
 refine wp_seq ?_
 refine wp_region_L _ hW9 ?_
 refine lm (v := .bool true) rfl rfl ?_
 refine wpL_done (fun W10 hW10 => ?_)
 change Code.wp ..
 refine wp_seq ?_
 refine wp_cond_true rfl ?_
 refine wp_skip ?_
 change Code.wp ..
 refine wp_seq ?_
 refine wp_block ?_
 refine wp_seq ?_
 refine wp_region_L _ hW10 ?_
 refine lm (v := .int .i64 (((b1.toNat - 48) : Nat) : Int)) rfl rfl ?_
 refine lm (v := .int .i64 (((b1.toNat - 48) : Nat) : Int)) rfl rfl ?_
 refine wpL_done (fun W11 hW11 => ?_)
 change Code.wp ..
 refine wp_region_L _ hW11 ?_
 refine lm (v := .int .i64 ((n1 : Nat) : Int)) rfl rfl ?_
 refine lp (v := .int .i64 (((10 * n1) : Nat) : Int)) rfl rfl (run_bin rfl (vx := (.int .i64 ((10 : Nat) : Int))) (vy := (.int .i64 ((n1 : Nat) : Int))) Tw.kr Tw.kr fun w => bn_mul (z := (10 * n1)) rfl (wr_i64 Tw.om) w) ?_
 refine lm (v := .int .i64 (((b1.toNat - 48) : Nat) : Int)) rfl rfl ?_
 obtain ⟨n2, hn2⟩ : ∃ m, ((10 * n1) + (b1.toNat - 48)) = m := ⟨_, rfl⟩
 have hq2 : n2 ≤ 99 := by omega
 refine lp (v := .int .i64 ((n2 : Nat) : Int)) rfl rfl (run_bin rfl (vx := (.int .i64 (((10 * n1) : Nat) : Int))) (vy := (.int .i64 (((b1.toNat - 48) : Nat) : Int))) Tw.kr Tw.kr fun w => bn_add (z := n2) hn2 (wr_i64 Tw.om) w) ?_
 refine lm (v := .int .i64 ((n2 : Nat) : Int)) rfl rfl ?_
 refine wpL_done (fun W12 hW12 => ?_)
 change Code.wp ..
 refine wp_region_L _ hW12 ?_
 refine lm (v := .int .i64 2) rfl rfl ?_
 refine lm (v := .int .i64 2) rfl rfl ?_
 refine wpL_done (fun W13 hW13 => ?_)
 change Code.wp ..
 refine wp_seq ?_
 refine wp_region_L _ hW13 ?_
 refine lm (v := .bool true) rfl rfl ?_
 refine wpL_done (fun W14 hW14 => ?_)
 change Code.wp ..
 refine wp_seq ?_
 refine wp_cond_true rfl ?_
 refine wp_skip ?_
 change Code.wp ..
 refine wp_seq ?_
 refine wp_block ?_
 refine wp_seq ?_
 refine wp_region_L _ hW14 ?_
 refine lm (v := .int .i64 (((b2.toNat - 48) : Nat) : Int)) rfl rfl ?_
 refine lm (v := .int .i64 (((b2.toNat - 48) : Nat) : Int)) rfl rfl ?_
 refine wpL_done (fun W15 hW15 => ?_)
 change Code.wp ..
 refine wp_region_L _ hW15 ?_
 refine lm (v := .int .i64 ((n2 : Nat) : Int)) rfl rfl ?_
 refine lp (v := .int .i64 (((10 * n2) : Nat) : Int)) rfl rfl (run_bin rfl (vx := (.int .i64 ((10 : Nat) : Int))) (vy := (.int .i64 ((n2 : Nat) : Int))) Tw.kr Tw.kr fun w => bn_mul (z := (10 * n2)) rfl (wr_i64 Tw.om) w) ?_
 refine lm (v := .int .i64 (((b2.toNat - 48) : Nat) : Int)) rfl rfl ?_
 obtain ⟨n3, hn3⟩ : ∃ m, ((10 * n2) + (b2.toNat - 48)) = m := ⟨_, rfl⟩
 have hq3 : n3 ≤ 999 := by omega
 refine lp (v := .int .i64 ((n3 : Nat) : Int)) rfl rfl (run_bin rfl (vx := (.int .i64 (((10 * n2) : Nat) : Int))) (vy := (.int .i64 (((b2.toNat - 48) : Nat) : Int))) Tw.kr Tw.kr fun w => bn_add (z := n3) hn3 (wr_i64 Tw.om) w) ?_
 refine lm (v := .int .i64 ((n3 : Nat) : Int)) rfl rfl ?_
 refine wpL_done (fun W16 hW16 => ?_)
 change Code.wp ..
 refine wp_region_L _ hW16 ?_
 refine lm (v := .int .i64 3) rfl rfl ?_
 refine lm (v := .int .i64 3) rfl rfl ?_
 refine wpL_done (fun W17 hW17 => ?_)
 change Code.wp ..
 refine wp_seq ?_
 refine wp_region_L _ hW17 ?_
 refine lm (v := .bool true) rfl rfl ?_
 refine wpL_done (fun W18 hW18 => ?_)
 change Code.wp ..
 refine wp_seq ?_
 refine wp_cond_true rfl ?_
 refine wp_skip ?_
 change Code.wp ..
 refine wp_seq ?_
 refine wp_block ?_
 refine wp_seq ?_
 refine wp_region_L _ hW18 ?_
 refine lm (v := .int .i64 (((b3.toNat - 48) : Nat) : Int)) rfl rfl ?_
 refine lm (v := .int .i64 (((b3.toNat - 48) : Nat) : Int)) rfl rfl ?_
 refine wpL_done (fun W19 hW19 => ?_)
 change Code.wp ..
 refine wp_region_L _ hW19 ?_
 refine lm (v := .int .i64 ((n3 : Nat) : Int)) rfl rfl ?_
 refine lp (v := .int .i64 (((10 * n3) : Nat) : Int)) rfl rfl (run_bin rfl (vx := (.int .i64 ((10 : Nat) : Int))) (vy := (.int .i64 ((n3 : Nat) : Int))) Tw.kr Tw.kr fun w => bn_mul (z := (10 * n3)) rfl (wr_i64 Tw.om) w) ?_
 refine lm (v := .int .i64 (((b3.toNat - 48) : Nat) : Int)) rfl rfl ?_
 obtain ⟨n4, hn4⟩ : ∃ m, ((10 * n3) + (b3.toNat - 48)) = m := ⟨_, rfl⟩
 have hq4 : n4 ≤ 9999 := by omega
 refine lp (v := .int .i64 ((n4 : Nat) : Int)) rfl rfl (run_bin rfl (vx := (.int .i64 (((10 * n3) : Nat) : Int))) (vy := (.int .i64 (((b3.toNat - 48) : Nat) : Int))) Tw.kr Tw.kr fun w => bn_add (z := n4) hn4 (wr_i64 Tw.om) w) ?_
 refine lm (v := .int .i64 ((n4 : Nat) : Int)) rfl rfl ?_
 refine wpL_done (fun W20 hW20 => ?_)
 change Code.wp ..
 refine wp_region_L _ hW20 ?_
 refine lm (v := .int .i64 4) rfl rfl ?_
 refine lm (v := .int .i64 4) rfl rfl ?_
 refine wpL_done (fun W21 hW21 => ?_)
 change Code.wp ..
 refine wp_seq ?_
 refine wp_region_L _ hW21 ?_
 refine lm (v := .bool true) rfl rfl ?_
 refine wpL_done (fun W22 hW22 => ?_)
 change Code.wp ..
 refine wp_seq ?_
 refine wp_cond_true rfl ?_
 refine wp_skip ?_
 change Code.wp ..
 refine wp_seq ?_
 refine wp_block ?_
 refine wp_seq ?_
 refine wp_region_L _ hW22 ?_
 refine lm (v := .int .i64 (((b4.toNat - 48) : Nat) : Int)) rfl rfl ?_
 refine lm (v := .int .i64 (((b4.toNat - 48) : Nat) : Int)) rfl rfl ?_
 refine wpL_done (fun W23 hW23 => ?_)
 change Code.wp ..
 refine wp_region_L _ hW23 ?_
 refine lm (v := .int .i64 ((n4 : Nat) : Int)) rfl rfl ?_
 refine lp (v := .int .i64 (((10 * n4) : Nat) : Int)) rfl rfl (run_bin rfl (vx := (.int .i64 ((10 : Nat) : Int))) (vy := (.int .i64 ((n4 : Nat) : Int))) Tw.kr Tw.kr fun w => bn_mul (z := (10 * n4)) rfl (wr_i64 Tw.om) w) ?_
 refine lm (v := .int .i64 (((b4.toNat - 48) : Nat) : Int)) rfl rfl ?_
 obtain ⟨n5, hn5⟩ : ∃ m, ((10 * n4) + (b4.toNat - 48)) = m := ⟨_, rfl⟩
 have hq5 : n5 ≤ 99999 := by omega
 refine lp (v := .int .i64 ((n5 : Nat) : Int)) rfl rfl (run_bin rfl (vx := (.int .i64 (((10 * n4) : Nat) : Int))) (vy := (.int .i64 (((b4.toNat - 48) : Nat) : Int))) Tw.kr Tw.kr fun w => bn_add (z := n5) hn5 (wr_i64 Tw.om) w) ?_
 refine lm (v := .int .i64 ((n5 : Nat) : Int)) rfl rfl ?_
 refine wpL_done (fun W24 hW24 => ?_)
 change Code.wp ..
 refine wp_region_L _ hW24 ?_
 refine lm (v := .int .i64 5) rfl rfl ?_
 refine lm (v := .int .i64 5) rfl rfl ?_
 refine wpL_done (fun W25 hW25 => ?_)
 change Code.wp ..
 refine wp_seq ?_
 refine wp_region_L _ hW25 ?_
 refine lm (v := .bool true) rfl rfl ?_
 refine wpL_done (fun W26 hW26 => ?_)
 change Code.wp ..
 refine wp_seq ?_
 refine wp_cond_true rfl ?_
 refine wp_skip ?_
 change Code.wp ..
 refine wp_seq ?_
 refine wp_block ?_
 refine wp_seq ?_
 refine wp_region_L _ hW26 ?_
 refine lm (v := .int .i64 (((b5.toNat - 48) : Nat) : Int)) rfl rfl ?_
 refine lm (v := .int .i64 (((b5.toNat - 48) : Nat) : Int)) rfl rfl ?_
 refine wpL_done (fun W27 hW27 => ?_)
 change Code.wp ..
 refine wp_region_L _ hW27 ?_
 refine lm (v := .int .i64 ((n5 : Nat) : Int)) rfl rfl ?_
 refine lp (v := .int .i64 (((10 * n5) : Nat) : Int)) rfl rfl (run_bin rfl (vx := (.int .i64 ((10 : Nat) : Int))) (vy := (.int .i64 ((n5 : Nat) : Int))) Tw.kr Tw.kr fun w => bn_mul (z := (10 * n5)) rfl (wr_i64 Tw.om) w) ?_
 refine lm (v := .int .i64 (((b5.toNat - 48) : Nat) : Int)) rfl rfl ?_
 obtain ⟨n6, hn6⟩ : ∃ m, ((10 * n5) + (b5.toNat - 48)) = m := ⟨_, rfl⟩
 have hq6 : n6 ≤ 999999 := by omega
 refine lp (v := .int .i64 ((n6 : Nat) : Int)) rfl rfl (run_bin rfl (vx := (.int .i64 (((10 * n5) : Nat) : Int))) (vy := (.int .i64 (((b5.toNat - 48) : Nat) : Int))) Tw.kr Tw.kr fun w => bn_add (z := n6) hn6 (wr_i64 Tw.om) w) ?_
 refine lm (v := .int .i64 ((n6 : Nat) : Int)) rfl rfl ?_
 refine wpL_done (fun W28 hW28 => ?_)
 change Code.wp ..
 refine wp_region_L _ hW28 ?_
 refine lm (v := .int .i64 6) rfl rfl ?_
 refine lm (v := .int .i64 6) rfl rfl ?_
 refine wpL_done (fun W29 hW29 => ?_)
 change Code.wp ..
 refine wp_seq ?_
 refine wp_region_L _ hW29 ?_
 refine lm (v := .bool true) rfl rfl ?_
 refine wpL_done (fun W30 hW30 => ?_)
 change Code.wp ..
 refine wp_seq ?_
 refine wp_cond_true rfl ?_
 refine wp_skip ?_
 change Code.wp ..
 refine wp_seq ?_
 refine wp_block ?_
 refine wp_seq ?_
 refine wp_region_L _ hW30 ?_
 refine lm (v := .int .i64 (((b6.toNat - 48) : Nat) : Int)) rfl rfl ?_
 refine lm (v := .int .i64 (((b6.toNat - 48) : Nat) : Int)) rfl rfl ?_
 refine wpL_done (fun W31 hW31 => ?_)
 change Code.wp ..
 refine wp_region_L _ hW31 ?_
 refine lm (v := .int .i64 ((n6 : Nat) : Int)) rfl rfl ?_
 refine lp (v := .int .i64 (((10 * n6) : Nat) : Int)) rfl rfl (run_bin rfl (vx := (.int .i64 ((10 : Nat) : Int))) (vy := (.int .i64 ((n6 : Nat) : Int))) Tw.kr Tw.kr fun w => bn_mul (z := (10 * n6)) rfl (wr_i64 Tw.om) w) ?_
 refine lm (v := .int .i64 (((b6.toNat - 48) : Nat) : Int)) rfl rfl ?_
 obtain ⟨n7, hn7⟩ : ∃ m, ((10 * n6) + (b6.toNat - 48)) = m := ⟨_, rfl⟩
 have hq7 : n7 ≤ 9999999 := by omega
 obtain rfl : n7 = n := by rw [← hn, ← hn7, ← hn6, ← hn5, ← hn4, ← hn3, ← hn2, ← hn1]; rfl
 refine lp (v := .int .i64 ((n7 : Nat) : Int)) rfl rfl (run_bin rfl (vx := (.int .i64 (((10 * n6) : Nat) : Int))) (vy := (.int .i64 (((b6.toNat - 48) : Nat) : Int))) Tw.kr Tw.kr fun w => bn_add (z := n7) hn7 (wr_i64 Tw.om) w) ?_
 refine lm (v := .int .i64 ((n7 : Nat) : Int)) rfl rfl ?_
 refine wpL_done (fun W32 hW32 => ?_)
 change Code.wp ..
 refine wp_region_L _ hW32 ?_
 refine lm (v := .int .i64 7) rfl rfl ?_
 refine lm (v := .int .i64 7) rfl rfl ?_
 refine wpL_done (fun W33 hW33 => ?_)
 change Code.wp ..
 refine wp_seq ?_
 refine wp_region_L _ hW33 ?_
 refine lm (v := .bool false) rfl rfl ?_
 refine wpL_done (fun W34 hW34 => ?_)
 change Code.wp ..
 refine wp_seq ?_
 refine wp_cond_false rfl ?_
 refine wp_exit ?_
 change Code.wp ..
 refine wp_seq ?_
 refine wp_region_L _ hW34 ?_
 refine lm (v := .int .i64 ((n7 : Nat) : Int)) rfl rfl ?_
 refine lp (v := .int .i64 (((n7 / 10000) : Nat) : Int)) rfl rfl (run_bin rfl (vx := (.int .i64 ((n7 : Nat) : Int))) (vy := (.int .i64 ((10000 : Nat) : Int))) Tw.kr Tw.kr fun w => bn_quo (z := (n7 / 10000)) rfl Tw.om (wr_i64 Tw.om) w) ?_
 refine lp (v := .int .i64 ((((n7 / 10000) % 4) : Nat) : Int)) rfl rfl (run_bin rfl (vx := (.int .i64 (((n7 / 10000) : Nat) : Int))) (vy := (.int .i64 ((4 : Nat) : Int))) Tw.kr Tw.kr fun w => bn_rem (z := ((n7 / 10000) % 4)) rfl Tw.om w) ?_
 refine lv (v := .tuple #[.int .u8 (((halfN ((n7 / 10000) % 4)) : Nat) : Int), .bool (halfB ((n7 / 10000) % 4))]) rfl rfl (yb_call (f := 104) (args := #[.int .i64 ((((n7 / 10000) % 4) : Nat) : Int)]) Tw.kf fun W hW => halfOf_any ((n7 / 10000) % 4) Tw.om W (HE.out.keep hW.1)) ?_
 refine lm (v := .tuple #[.int .u8 (((halfN ((n7 / 10000) % 4)) : Nat) : Int), .bool (halfB ((n7 / 10000) % 4))]) rfl rfl ?_
 refine lm (v := .int .u8 (((halfN ((n7 / 10000) % 4)) : Nat) : Int)) rfl rfl ?_
 refine lm (v := .bool (halfB ((n7 / 10000) % 4))) rfl rfl ?_
 refine lm (v := .int .u8 (((halfN ((n7 / 10000) % 4)) : Nat) : Int)) rfl rfl ?_
 refine lm (v := .bool (halfB ((n7 / 10000) % 4))) rfl rfl ?_
 refine wpL_done (fun W35 hW35 => ?_)
 change Code.wp ..
 refine wp_seq ?_
 refine wp_region_L _ hW35 ?_
 refine lm (v := .int .i64 ((n7 : Nat) : Int)) rfl rfl ?_
 refine lp (v := .int .i64 (((n7 % 100) : Nat) : Int)) rfl rfl (run_bin rfl (vx := (.int .i64 ((n7 : Nat) : Int))) (vy := (.int .i64 ((100 : Nat) : Int))) Tw.kr Tw.kr fun w => bn_rem (z := (n7 % 100)) rfl Tw.om w) ?_
 refine lv (v := .tuple #[.int .i64 (((tierR (n7 % 100) / 2 : Nat) : Int) - 1), .bool (tierD (n7 % 100)), .bool (tierB (n7 % 100))]) rfl rfl (yb_call (f := 105) (args := #[.int .i64 (((n7 % 100) : Nat) : Int)]) Tw.kf fun W hW => tierOf_any (n7 % 100) Tw.om W) ?_
 refine lm (v := .tuple #[.int .i64 (((tierR (n7 % 100) / 2 : Nat) : Int) - 1), .bool (tierD (n7 % 100)), .bool (tierB (n7 % 100))]) rfl rfl ?_
 refine lm (v := .int .i64 (((tierR (n7 % 100) / 2 : Nat) : Int) - 1)) rfl rfl ?_
 refine lm (v := .bool (tierD (n7 % 100))) rfl rfl ?_
 refine lm (v := .bool (tierB (n7 % 100))) rfl rfl ?_
 refine lm (v := .int .i64 (((tierR (n7 % 100) / 2 : Nat) : Int) - 1)) rfl rfl ?_
 refine lm (v := .bool (tierD (n7 % 100))) rfl rfl ?_
 refine lm (v := .bool (tierB (n7 % 100))) rfl rfl ?_
 refine wpL_done (fun W36 hW36 => ?_)
 change Code.wp ..
 refine wp_seq ?_
 refine wp_region_L _ hW36 ?_
 refine lm (v := .int .i64 ((n7 : Nat) : Int)) rfl rfl ?_
 refine lp (v := .int .i64 (((n7 / 10000) : Nat) : Int)) rfl rfl (run_bin rfl (vx := (.int .i64 ((n7 : Nat) : Int))) (vy := (.int .i64 ((10000 : Nat) : Int))) Tw.kr Tw.kr fun w => bn_quo (z := (n7 / 10000)) rfl Tw.om (wr_i64 Tw.om) w) ?_
 refine lp (v := .int .i64 ((((n7 / 10000) / 4) : Nat) : Int)) rfl rfl (run_bin rfl (vx := (.int .i64 (((n7 / 10000) : Nat) : Int))) (vy := (.int .i64 ((4 : Nat) : Int))) Tw.kr Tw.kr fun w => bn_quo (z := ((n7 / 10000) / 4)) rfl Tw.om (wr_i64 Tw.om) w) ?_
 refine lm (v := .int .i64 ((n7 : Nat) : Int)) rfl rfl ?_
 refine lp (v := .int .i64 (((n7 / 100) : Nat) : Int)) rfl rfl (run_bin rfl (vx := (.int .i64 ((n7 : Nat) : Int))) (vy := (.int .i64 ((100 : Nat) : Int))) Tw.kr Tw.kr fun w => bn_quo (z := (n7 / 100)) rfl Tw.om (wr_i64 Tw.om) w) ?_
 refine lp (v := .int .i64 ((((n7 / 100) % 100) : Nat) : Int)) rfl rfl (run_bin rfl (vx := (.int .i64 (((n7 / 100) : Nat) : Int))) (vy := (.int .i64 ((100 : Nat) : Int))) Tw.kr Tw.kr fun w => bn_rem (z := ((n7 / 100) % 100)) rfl Tw.om w) ?_
 refine lm (v := .int .i64 (((tierR (n7 % 100) / 2 : Nat) : Int) - 1)) rfl rfl ?_
 refine lm (v := .bool (tierD (n7 % 100))) rfl rfl ?_
 refine lm (v := .int .u8 (((halfN ((n7 / 10000) % 4)) : Nat) : Int)) rfl rfl ?_
 refine lm (v := .agg #[.int .i64 ((((n7 / 10000) / 4) : Nat) : Int), .int .i64 ((((n7 / 100) % 100) : Nat) : Int), .int .i64 (((tierR (n7 % 100) / 2 : Nat) : Int) - 1), .bool (tierD (n7 % 100)), .int .u8 (((halfN ((n7 / 10000) % 4)) : Nat) : Int)]) rfl rfl ?_
 refine lm (v := .bool (halfB ((n7 / 10000) % 4))) rfl rfl ?_
 refine lm (v := .bool (halfB ((n7 / 10000) % 4))) rfl rfl ?_
 cases h1 : (halfB ((n7 / 10000) % 4)) with
 | false =>
   refine ln rfl ?_
   refine lm (v := .bool false) rfl rfl ?_
   refine wpL_s [(g2, .cells #[.int .i64 (((b0.toNat - 48) : Nat) : Int), .int .i64 (((b1.toNat - 48) : Nat) : Int), .int .i64 (((b2.toNat - 48) : Nat) : Int), .int .i64 (((b3.toNat - 48) : Nat) : Int), .int .i64 (((b4.toNat - 48) : Nat) : Int), .int .i64 (((b5.toNat - 48) : Nat) : Int), .int .i64 (((b6.toNat - 48) : Nat) : Int)] 150 (0, 0)), (g1, .cells #[.int .i64 ((((n7 / 10000) / 4) : Nat) : Int), .int .i64 ((((n7 / 100) % 100) : Nat) : Int), .int .i64 (((tierR (n7 % 100) / 2 : Nat) : Int) - 1), .bool (tierD (n7 % 100)), .int .u8 (((halfN ((n7 / 10000) % 4)) : Nat) : Int)] 111 (0, 0))] rfl rfl (st_row (off := 0) (v := .agg #[.int .i64 ((((n7 / 10000) / 4) : Nat) : Int), .int .i64 ((((n7 / 100) % 100) : Nat) : Int), .int .i64 (((tierR (n7 % 100) / 2 : Nat) : Int) - 1), .bool (tierD (n7 % 100)), .int .u8 (((halfN ((n7 / 10000) % 4)) : Nat) : Int)]) rfl Tw.kr Tw.kr Tw.m1 Bg1 Tw.kr (by first | (simp [Value.cells]; done) | exact Nat.le_of_ble_eq_true rfl) (by intro v hv; simp [Value.cells] at hv; first | (subst hv; rfl) | (rcases hv with rfl | rfl | rfl | rfl | rfl <;> rfl)) Tw.kr (List.forall_mem_cons.2 ⟨.inr ⟨Tw.m0, Tw.nee⟩, (List.forall_mem_cons.2 ⟨.inl rfl, (List.forall_mem_nil _)⟩)⟩)) ?_
   refine lm (v := .bool false) rfl rfl ?_
   refine wpL_done (fun W37 hW37 => ?_)
   change Code.wp ..
   refine wp_ret ?_
   try simp only [inBlock_ret, then_ret]
   refine bodyPost_ret (v := .tuple #[.agg #[.int .i64 ((((n7 / 10000) / 4) : Nat) : Int), .int .i64 ((((n7 / 100) % 100) : Nat) : Int), .int .i64 (((tierR (n7 % 100) / 2 : Nat) : Int) - 1), .bool (tierD (n7 % 100)), .int .u8 (((halfN ((n7 / 10000) % 4)) : Nat) : Int)], .bool false]) ?_ rfl ?_
   · exact (res_cell_tmp (p := 2) (q := 3) rfl rfl (hW37.2 _ Tw.m1) Tryd.underlying111 rfl Tw.kr)
   · exact ⟨(plc_is (by simp [*])), hW37.1⟩
 | true =>
   refine lm (v := .bool (tierB (n7 % 100))) rfl rfl ?_
   refine lm (v := .bool (tierB (n7 % 100))) rfl rfl ?_
   refine wpL_s [(g2, .cells #[.int .i64 (((b0.toNat - 48) : Nat) : Int), .int .i64 (((b1.toNat - 48) : Nat) : Int), .int .i64 (((b2.toNat - 48) : Nat) : Int), .int .i64 (((b3.toNat - 48) : Nat) : Int), .int .i64 (((b4.toNat - 48) : Nat) : Int), .int .i64 (((b5.toNat - 48) : Nat) : Int), .int .i64 (((b6.toNat - 48) : Nat) : Int)] 150 (0, 0)), (g1, .cells #[.int .i64 ((((n7 / 10000) / 4) : Nat) : Int), .int .i64 ((((n7 / 100) % 100) : Nat) : Int), .int .i64 (((tierR (n7 % 100) / 2 : Nat) : Int) - 1), .bool (tierD (n7 % 100)), .int .u8 (((halfN ((n7 / 10000) % 4)) : Nat) : Int)] 111 (0, 0))] rfl rfl (st_row (off := 0) (v := .agg #[.int .i64 ((((n7 / 10000) / 4) : Nat) : Int), .int .i64 ((((n7 / 100) % 100) : Nat) : Int), .int .i64 (((tierR (n7 % 100) / 2 : Nat) : Int) - 1), .bool (tierD (n7 % 100)), .int .u8 (((halfN ((n7 / 10000) % 4)) : Nat) : Int)]) rfl Tw.kr Tw.kr Tw.m1 Bg1 Tw.kr (by first | (simp [Value.cells]; done) | exact Nat.le_of_ble_eq_true rfl) (by intro v hv; simp [Value.cells] at hv; first | (subst hv; rfl) | (rcases hv with rfl | rfl | rfl | rfl | rfl <;> rfl)) Tw.kr (List.forall_mem_cons.2 ⟨.inr ⟨Tw.m0, Tw.nee⟩, (List.forall_mem_cons.2 ⟨.inl rfl, (List.forall_mem_nil _)⟩)⟩)) ?_
   refine lm (v := .bool (tierB (n7 % 100))) rfl rfl ?_
   refine wpL_done (fun W38 hW38 => ?_)
   change Code.wp ..
   refine wp_ret ?_
   try simp only [inBlock_ret, then_ret]
   refine bodyPost_ret (v := .tuple #[.agg #[.int .i64 ((((n7 / 10000) / 4) : Nat) : Int), .int .i64 ((((n7 / 100) % 100) : Nat) : Int), .int .i64 (((tierR (n7 % 100) / 2 : Nat) : Int) - 1), .bool (tierD (n7 % 100)), .int .u8 (((halfN ((n7 / 10000) % 4)) : Nat) : Int)], .bool (tierB (n7 % 100))]) ?_ rfl ?_
   · exact (res_cell_tmp (p := 2) (q := 3) rfl rfl (hW38.2 _ Tw.m1) Tryd.underlying111 rfl Tw.kr)
   · exact ⟨(plc_is (by simp [*])), hW38.1⟩
set_option maxRecDepth 100000 in
set_option maxHeartbeats 4000000 in
theorem placeOf_no (l : List UInt8) (hl : l.length ≤ 281474976710656) (hd : digsOk l = false) (w : World) : Calls Tryd.prog 69 #[strV l] w fun e w' => e = .returned (.tuple #[.agg #[.int .i64 0, .int .i64 0, .int .i64 0, .bool false, .int .u8 0], .bool false]) ∧ Below w.heap.size w w' := by
 go_enter Tryd.func69, Tryd.ntmps69
 refine wp_seq ?_
 refine wp_region_L [] (KS.start w) ?_
 refine wpL_new (fun g => .pointer (some ⟨g, 0, none⟩)) (obi := .cells #[.int .i64 0, .int .i64 0, .int .i64 0, .bool false, .int .u8 0] 111 (0, 0)) rfl rfl Tw.kf Tw.pf fun g1 Bg1 Fg1 => ?_
 refine lm (v := .bool false) rfl rfl ?_
 refine wpL_done (fun W1 hW1 => ?_)
 change Code.wp ..
 refine wp_seq ?_
 refine wp_region_L _ hW1 ?_
 refine lm (v := strV l) rfl rfl ?_
 refine wpL_c (f := 103) (args := #[strV l]) (fun v K9 => ∃ d0 d1 d2 d3 d4 d5 d6 : Int, v = Value.tuple #[.agg #[.int .i64 d0, .int .i64 d1, .int .i64 d2, .int .i64 d3, .int .i64 d4, .int .i64 d5, .int .i64 d6], .bool false] ∧ K9 = [(g1, .cells #[.int .i64 0, .int .i64 0, .int .i64 0, .bool false, .int .u8 0] 111 (0, 0))]) rfl Tw.kr Tw.kf (fun W hW => ((digitsOf_no hl hd W).mono fun e w' ⟨⟨d0, d1, d2, d3, d4, d5, d6, he⟩, hb⟩ => ⟨_, _, he, hW.below hb, d0, d1, d2, d3, d4, d5, d6, rfl, rfl⟩)) Tw.pf ?_
 rintro _ _ ⟨d0, d1, d2, d3, d4, d5, d6, rfl, rfl⟩
 refine lm (v := .tuple #[.agg #[.int .i64 d0, .int .i64 d1, .int .i64 d2, .int .i64 d3, .int .i64 d4, .int .i64 d5, .int .i64 d6], .bool false]) rfl rfl ?_
 refine lm (v := .agg #[.int .i64 d0, .int .i64 d1, .int .i64 d2, .int .i64 d3, .int .i64 d4, .int .i64 d5, .int .i64 d6]) rfl rfl ?_
 refine lm (v := .bool false) rfl rfl ?_
 refine wpL_new (fun g => .pointer (some ⟨g, 0, none⟩)) (obi := .cells #[.int .i64 0, .int .i64 0, .int .i64 0, .int .i64 0, .int .i64 0, .int .i64 0, .int .i64 0] 150 (0, 0)) rfl rfl Tw.kf Tw.pf fun g2 Bg2 Fg2 => ?_
 obtain dj3_0 : g1 ≠ g2 := Tw.dkf Fg2
 refine wpL_s [(g2, .cells #[.int .i64 d0, .int .i64 d1, .int .i64 d2, .int .i64 d3, .int .i64 d4, .int .i64 d5, .int .i64 d6] 150 (0, 0)), (g1, .cells #[.int .i64 0, .int .i64 0, .int .i64 0, .bool false, .int .u8 0] 111 (0, 0))] rfl rfl (st_row (off := 0) (v := .agg #[.int .i64 d0, .int .i64 d1, .int .i64 d2, .int .i64 d3, .int .i64 d4, .int .i64 d5, .int .i64 d6]) rfl Tw.kr Tw.kr Tw.m0 Bg2 Tw.kr (by first | (simp [Value.cells]; done) | exact Nat.le_of_ble_eq_true rfl) (by intro v hv; simp [Value.cells] at hv; first | (subst hv; rfl) | (rcases hv with rfl | rfl | rfl | rfl | rfl | rfl | rfl <;> rfl)) Tw.kr (List.forall_mem_cons.2 ⟨.inl rfl, (List.forall_mem_cons.2 ⟨.inr ⟨Tw.m1, Tw.nee⟩, (List.forall_mem_nil _)⟩)⟩)) ?_
 refine lm (v := .bool false) rfl rfl ?_
 refine wpL_done (fun W2 hW2 => ?_)
 change Code.wp ..
 refine wp_seq ?_
 refine wp_seq ?_
 refine wp_region_L _ hW2 ?_
 refine lm (v := .bool false) rfl rfl ?_
 refine lm (v := .bool true) rfl rfl ?_
 refine wpL_done (fun W3 hW3 => ?_)
 change Code.wp ..
 refine wp_cond_true rfl ?_
 refine wp_seq ?_
 refine wp_region_L _ hW3 ?_
 refine lm (v := .agg #[.int .i64 0, .int .i64 0, .int .i64 0, .bool false, .int .u8 0]) rfl rfl ?_
 refine wpL_s [(g2, .cells #[.int .i64 d0, .int .i64 d1, .int .i64 d2, .int .i64 d3, .int .i64 d4, .int .i64 d5, .int .i64 d6] 150 (0, 0)), (g1, .cells #[.int .i64 0, .int .i64 0, .int .i64 0, .bool false, .int .u8 0] 111 (0, 0))] rfl rfl (st_row (off := 0) (v := .agg #[.int .i64 0, .int .i64 0, .int .i64 0, .bool false, .int .u8 0]) rfl Tw.kr Tw.kr Tw.m1 Bg1 Tw.kr (by first | (simp [Value.cells]; done) | exact Nat.le_of_ble_eq_true rfl) (by intro v hv; simp [Value.cells] at hv; first | (subst hv; rfl) | (rcases hv with rfl | rfl | rfl | rfl | rfl <;> rfl)) Tw.kr (List.forall_mem_cons.2 ⟨.inr ⟨Tw.m0, Tw.nee⟩, (List.forall_mem_cons.2 ⟨.inl rfl, (List.forall_mem_nil _)⟩)⟩)) ?_
 refine lm (v := .bool false) rfl rfl ?_
 refine wpL_done (fun W4 hW4 => ?_)
 change Code.wp ..
 refine wp_ret ?_
 try simp only [inBlock_ret, then_ret]
 refine bodyPost_ret (v := .tuple #[.agg #[.int .i64 0, .int .i64 0, .int .i64 0, .bool false, .int .u8 0], .bool false]) ?_ rfl ?_
 · exact (res_cell_tmp (p := 2) (q := 3) rfl rfl (hW4.2 _ Tw.m1) Tryd.underlying111 rfl Tw.kr)
 · exact ⟨rfl, hW4.1⟩
theorem placeOf_yes {l : List UInt8} (hd : digsOk l = true) (w : World) (hE : Env w) : Calls Tryd.prog 69 #[strV l] w fun e w' => e = .returned (.tuple #[.agg #[.int .i64 ((decN l / 10000 / 4 : Nat) : Int), .int .i64 ((decN l / 100 % 100 : Nat) : Int), .int .i64 (((tierR (decN l % 100) / 2 : Nat) : Int) - 1), .bool (tierD (decN l % 100)), .int .u8 ((halfN (decN l / 10000 % 4) : Nat) : Int)], .bool (halfB (decN l / 10000 % 4) && tierB (decN l % 100))]) ∧ Below w.heap.size w w' := by
 obtain ⟨b0, b1, b2, b3, b4, b5, b6, rfl, k0, k1, k2, k3, k4, k5, k6⟩ := digs_split hd
 exact placeOf_ok b0 b1 b2 b3 b4 b5 b6 k0 k1 k2 k3 k4 k5 k6 _ rfl hd w hE
end Go.Proofs.YtlinjngifacmoaaDoor
/- Names and slots belong to one another. -/
namespace Go.Proofs.YtlinjngifacmoaaDoor
open Go Go.RowKit Tw
theorem right_cols {cs : List Col} {os : List Cov} (h : rightX cs os = true) : (∀ c ∈ cs, colX c = true) ∧ (cs.map placeX).Nodup ∧ cs.length ≤ 200 := by
 unfold rightX colsX at h
 simp only [Bool.and_eq_true, Bool.not_eq_true', decide_eq_false_iff_not] at h
 obtain ⟨h1, h2, _⟩ := cols_iff.1 h.1.2.2
 exact ⟨h1, h2, by omega⟩
theorem right_inj {cs : List Col} {os : List Cov} (h : rightX cs os = true) {i j : Nat} {a b : Col} (ha : cs[i]? = some a) (hb : cs[j]? = some b) (he : placeX a = placeX b) : i = j := by
 obtain ⟨_, h2, _⟩ := right_cols h
 have ha2 : (cs.map placeX)[i]? = some (placeX a) := by rw [List.getElem?_map, ha]; rfl
 have hb2 : (cs.map placeX)[j]? = some (placeX a) := by rw [List.getElem?_map, hb, he]; rfl
 have hi := (List.getElem?_eq_some_iff.1 ha2).1
 exact (List.getElem?_inj hi h2).1 (ha2.trans hb2.symm)
theorem hasH_le {z h : Nat} (hh : hasH z h = true) : h ≤ 2 := by
 rcases hsX_mem (hasH_iff.1 hh) with ⟨_, h1⟩ | ⟨_, h1⟩ <;> omega
theorem slot_at {cs : List Col} {x : Slt} (h : isSlot cs x = true) : ∃ (m : Nat) (y : Col), x.col = ((m : Nat) : Int) ∧ cs[m]? = some y ∧ 0 ≤ x.tier ∧ x.tier < y.tiers ∧ x.half ≤ 2 := by
 have key : ∀ z, rightS cs x z = true → ∃ (m : Nat) (y : Col), x.col = ((m : Nat) : Int) ∧ cs[m]? = some y ∧ 0 ≤ x.tier ∧ x.tier < y.tiers ∧ x.half ≤ 2 := fun z hz => by
   unfold rightS at hz
   rw [Bool.and_eq_true] at hz
   obtain ⟨j, c, h1, h2, h3, h4⟩ := exS_iff.1 hz.1
   exact ⟨j, c, h2, h1, h3, h4, hasH_le hz.2⟩
 unfold isSlot at h
 rw [Bool.or_eq_true] at h
 rcases h with h | h
 · exact key _ h
 · exact key _ h
theorem name_at {cs : List Col} {m : Nat} {y : Col} {t : Int} {h : Nat} (hy : cs[m]? = some y) : nameX cs ⟨((m : Nat) : Int), t, h⟩ = txtN (numN y.bay.toNat y.row.toNat t.toNat y.deck h) := by
 unfold nameX nameC
 rw [(el_nat (d := col0) hy).2]
theorem slot_in {cs : List Col} {os : List Cov} (hr : rightX cs os = true) {m : Nat} {y : Col} {t : Int} (hy : cs[m]? = some y) (h0 : 0 ≤ t) (h1 : t < y.tiers) : (0 ≤ y.bay ∧ y.bay ≤ 39) ∧ (0 ≤ y.row ∧ y.row ≤ 30) ∧ (0 ≤ t ∧ t ≤ 9) := by
 have := colx_in ((right_cols hr).1 y (List.mem_of_getElem? hy))
 omega
theorem find_name {cs : List Col} {os : List Cov} (hr : rightX cs os = true) {x : Slt} (hx : isSlot cs x = true) : findR cs os (nameX cs x) = (x, 0) := by
 obtain ⟨m, y, hm, hy, h0, h1, hh⟩ := slot_at hx
 obtain ⟨xc, xt, xh⟩ := x
 simp only at hm h0 h1 hh
 subst hm
 obtain ⟨⟨hb1, hb2⟩, ⟨hr1, hr2⟩, ⟨ht1, ht2⟩⟩ := slot_in hr hy h0 h1
 obtain ⟨b, hb⟩ := Int.eq_ofNat_of_zero_le hb1
 obtain ⟨r, hrw⟩ := Int.eq_ofNat_of_zero_le hr1
 obtain ⟨t, ht⟩ := Int.eq_ofNat_of_zero_le ht1
 subst ht
 rw [name_at hy, hb, hrw, Int.toNat_natCast, Int.toNat_natCast, Int.toNat_natCast]
 obtain ⟨p1, p2, p3, p4, p5, p6, p7⟩ := name_place (b := b) (r := r) (t := t) (h := xh) (d := y.deck) Tw.om Tw.om Tw.om hh
 have hf : findC cs (txtN (numN b r t y.deck xh)) = some m := by
   unfold findC
   rw [p2, p3, p4, p6]
   refine fst_is hy (isAt_place.2 ?_) fun j z hj hz => ?_
   · unfold placeX; rw [hb, hrw]
   · cases hq : isAt ((b : Nat) : Int) ((r : Nat) : Int) y.deck z with
     | false => rfl
     | true =>
       have e := isAt_place.1 hq
       have e2 : placeX z = placeX y := by rw [e]; unfold placeX; rw [hb, hrw]
       have := right_inj hr hz hy e2
       omega
 unfold findR
 rw [if_pos hr, if_pos p1]
 have hfo : foundB cs (txtN (numN b r t y.deck xh)) = true := by
   unfold foundB
   rw [hf, p2, p5]
   exact Bool.and_eq_true_iff.2 ⟨rfl, exS_iff.2 ⟨m, y, hy, rfl, by omega, h1⟩⟩
 rw [if_pos hfo]
 unfold slotOf
 rw [hf, p2, p5, p7]
 rfl
theorem si_is {l m : List UInt8} {a b : Nat} (h : (l, a) = (m, b)) : Ending.returned (.tuple #[strV l, .int .i64 ((a : Nat) : Int)]) = .returned (.tuple #[strV m, .int .i64 ((b : Nat) : Int)]) := by
 cases h; rfl
theorem xi_is {x y : Slt} {a b : Nat} (h : (x, a) = (y, b)) : Ending.returned (.tuple #[.agg (sltC x).toArray, .int .i64 ((a : Nat) : Int)]) = .returned (.tuple #[.agg (sltC y).toArray, .int .i64 ((b : Nat) : Int)]) := by
 cases h; rfl
end Go.Proofs.YtlinjngifacmoaaDoor
namespace Go.Proofs.YtlinjngifacmoaaDoor
open Go Go.RowKit Tw
theorem text_any (b r t : Int) (h : Nat) (d : Bool) (hb : 0 ≤ b ∧ b ≤ 39) (hr : 0 ≤ r ∧ r ≤ 30) (ht : 0 ≤ t ∧ t ≤ 9) (hh : h ≤ 2) (w : World) (hE : Env w) : Calls Tryd.prog 67 #[.agg #[.int .i64 b, .int .i64 r, .int .i64 t, .bool d, .int .u8 ((h : Nat) : Int)]] w fun e w' => e = .returned (strV (txtN (numN b.toNat r.toNat t.toNat d h))) ∧ Below w.heap.size w w' := by
 obtain ⟨b, rfl⟩ := Int.eq_ofNat_of_zero_le hb.1
 obtain ⟨r, rfl⟩ := Int.eq_ofNat_of_zero_le hr.1
 obtain ⟨t, rfl⟩ := Int.eq_ofNat_of_zero_le ht.1
 exact text_nat b r t h d Tw.om Tw.om Tw.om hh w hE
set_option maxRecDepth 100000 in
set_option maxHeartbeats 4000000 in
theorem SName_any (cs : List Col) (pc : Option Addr) (cc : Nat) (lc : cs.length ≤ 4000000000) (os : List Cov) (po : Option Addr) (co : Nat) (lo : os.length ≤ 4000000000) (t : Tl) (xc xt : Int) (xh : Nat) (w : World) (hc : SLV w pc (cs.flatMap colC)) (ho : SLV w po (os.flatMap covC)) (hr : RwR w os) (lr : ∀ o ∈ os, o.rows.length ≤ 4000000000) (hq : PlR w cs) (lq : ∀ c ∈ cs, c.plugs.length ≤ 4000000000) (hE : Env w) : Calls Tryd.prog 29 #[.agg (shC (.slice pc cs.length cc) (.slice po os.length co) t).toArray, .agg #[.int .i64 xc, .int .i64 xt, .int .u8 ((xh : Nat) : Int)]] w fun e w' => e = .returned (.tuple #[strV (nameR cs os (⟨xc, xt, xh⟩ : Slt)).1, .int .i64 (((nameR cs os (⟨xc, xt, xh⟩ : Slt)).2 : Nat) : Int)]) ∧ Below w.heap.size w w' := by
 have HC := Lib.hid hc
 clear hc
 have HO := Lib.hid ho
 clear ho
 have HR := Lib.hid hr
 clear hr
 have HQ := Lib.hid hq
 clear hq
 have HE := Lib.hid hE
 clear hE
 go_enter Tryd.func29, Tryd.ntmps29
 refine wp_seq ?_
 refine wp_region_L [] (KS.start w) ?_
 refine wpL_new (fun g => .pointer (some ⟨g, 0, none⟩)) (obi := .cells (shC (.slice pc cs.length cc) (.slice po os.length co) t).toArray 32 (0, 0)) rfl rfl Tw.kf Tw.pf fun g1 Bg1 Fg1 => ?_
 refine wpL_new (fun g => .pointer (some ⟨g, 0, none⟩)) (obi := .cells #[.int .i64 xc, .int .i64 xt, .int .u8 ((xh : Nat) : Int)] 34 (0, 0)) rfl rfl Tw.kf Tw.pf fun g2 Bg2 Fg2 => ?_
 obtain dj3_0 : g1 ≠ g2 := Tw.dkf Fg2
 refine lm (v := strV []) rfl rfl ?_
 refine lm (v := .int .i64 0) rfl rfl ?_
 refine wpL_done (fun W1 hW1 => ?_)
 change Code.wp ..
 refine wp_seq ?_
 refine wp_seq ?_
 refine wp_region_L _ hW1 ?_
 refine lv (v := .agg (shC (.slice pc cs.length cc) (.slice po os.length co) t).toArray) rfl rfl (yb_load (n := 13) (off := 0) rfl Tw.kr Tw.m1 Tryd.underlying32 rfl Tw.kr (by first | (simp [Value.cells]; done) | exact Nat.le_of_ble_eq_true rfl) Tw.kr) ?_
 refine lv (v := .bool (rightX cs os)) rfl rfl (yb_call (f := 66) (args := #[.agg (shC (.slice pc cs.length cc) (.slice po os.length co) t).toArray]) Tw.kf fun W hW => Right_any cs pc cc Tw.om os po co Tw.om t W ((RL.base HC.out) _ (hW.sub (fun _ h => by cases h))) ((RL.base HO.out) _ (hW.sub (fun _ h => by cases h))) (HR.out.keep hW.1) lr (HQ.out.keep hW.1) lq) ?_
 refine lp (v := .bool (!(rightX cs os))) rfl rfl (run_un rfl Tw.kr fun w => un_not w) ?_
 refine wpL_done (fun W2 hW2 => ?_)
 change Code.wp ..
 cases h1 : (rightX cs os) with
 | false =>
   refine wp_cond_true rfl ?_
   refine wp_seq ?_
   refine wp_region_L _ hW2 ?_
   refine lm (v := strV []) rfl rfl ?_
   refine lm (v := .int .i64 2) rfl rfl ?_
   refine wpL_done (fun W3 hW3 => ?_)
   change Code.wp ..
   refine wp_ret ?_
   try simp only [inBlock_ret, then_ret]
   refine bodyPost_ret (v := .tuple #[strV [], .int .i64 2]) ?_ rfl ?_
   · kernel_rfl
   · exact ⟨(si_is (by unfold nameR; rw [if_neg (by rw [h1]; decide)])), hW3.1⟩
 | true =>
   refine wp_cond_false rfl ?_
   refine wp_skip ?_
   change Code.wp ..
   refine wp_seq ?_
   refine wp_seq ?_
   refine wp_region_L _ hW2 ?_
   refine lv (v := .agg (shC (.slice pc cs.length cc) (.slice po os.length co) t).toArray) rfl rfl (yb_load (n := 13) (off := 0) rfl Tw.kr Tw.m1 Tryd.underlying32 rfl Tw.kr (by first | (simp [Value.cells]; done) | exact Nat.le_of_ble_eq_true rfl) Tw.kr) ?_
   refine lv (v := .agg #[.int .i64 xc, .int .i64 xt, .int .u8 ((xh : Nat) : Int)]) rfl rfl (yb_load (n := 3) (off := 0) rfl Tw.kr Tw.m0 Tryd.underlying34 rfl Tw.kr (by first | (simp [Value.cells]; done) | exact Nat.le_of_ble_eq_true rfl) Tw.kr) ?_
   refine lv (v := .bool (rightS cs (⟨xc, xt, xh⟩ : Slt) 20)) rfl rfl (yb_call (f := 14) (args := #[.agg (shC (.slice pc cs.length cc) (.slice po os.length co) t).toArray, .agg #[.int .i64 xc, .int .i64 xt, .int .u8 ((xh : Nat) : Int)], .int .u8 20]) Tw.kf fun W hW => SRight_any cs pc cc Tw.om os po co Tw.om t (⟨xc, xt, xh⟩ : Slt) 20 W ((RL.base HC.out) _ (hW.sub (fun _ h => by cases h))) ((RL.base HO.out) _ (hW.sub (fun _ h => by cases h)))) ?_
   refine lp (v := .bool (!(rightS cs (⟨xc, xt, xh⟩ : Slt) 20))) rfl rfl (run_un rfl Tw.kr fun w => un_not w) ?_
   refine lm (v := .bool (!(rightS cs (⟨xc, xt, xh⟩ : Slt) 20))) rfl rfl ?_
   cases h2 : (rightS cs (⟨xc, xt, xh⟩ : Slt) 20) with
   | false =>
     refine lv (v := .agg (shC (.slice pc cs.length cc) (.slice po os.length co) t).toArray) rfl rfl (yb_load (n := 13) (off := 0) rfl Tw.kr Tw.m1 Tryd.underlying32 rfl Tw.kr (by first | (simp [Value.cells]; done) | exact Nat.le_of_ble_eq_true rfl) Tw.kr) ?_
     refine lv (v := .agg #[.int .i64 xc, .int .i64 xt, .int .u8 ((xh : Nat) : Int)]) rfl rfl (yb_load (n := 3) (off := 0) rfl Tw.kr Tw.m0 Tryd.underlying34 rfl Tw.kr (by first | (simp [Value.cells]; done) | exact Nat.le_of_ble_eq_true rfl) Tw.kr) ?_
     refine lv (v := .bool (rightS cs (⟨xc, xt, xh⟩ : Slt) 40)) rfl rfl (yb_call (f := 14) (args := #[.agg (shC (.slice pc cs.length cc) (.slice po os.length co) t).toArray, .agg #[.int .i64 xc, .int .i64 xt, .int .u8 ((xh : Nat) : Int)], .int .u8 40]) Tw.kf fun W hW => SRight_any cs pc cc Tw.om os po co Tw.om t (⟨xc, xt, xh⟩ : Slt) 40 W ((RL.base HC.out) _ (hW.sub (fun _ h => by cases h))) ((RL.base HO.out) _ (hW.sub (fun _ h => by cases h)))) ?_
     refine lp (v := .bool (!(rightS cs (⟨xc, xt, xh⟩ : Slt) 40))) rfl rfl (run_un rfl Tw.kr fun w => un_not w) ?_
     refine lm (v := .bool (!(rightS cs (⟨xc, xt, xh⟩ : Slt) 40))) rfl rfl ?_
     refine wpL_done (fun W4 hW4 => ?_)
     change Code.wp ..
     cases h3 : (rightS cs (⟨xc, xt, xh⟩ : Slt) 40) with
     | false =>
       refine wp_cond_true rfl ?_
       refine wp_seq ?_
       refine wp_region_L _ hW4 ?_
       refine lm (v := strV []) rfl rfl ?_
       refine lm (v := .int .i64 6) rfl rfl ?_
       refine wpL_done (fun W5 hW5 => ?_)
       change Code.wp ..
       refine wp_ret ?_
       try simp only [inBlock_ret, then_ret]
       refine bodyPost_ret (v := .tuple #[strV [], .int .i64 6]) ?_ rfl ?_
       · kernel_rfl
       · exact ⟨(si_is (by unfold nameR; rw [if_pos h1, if_neg (by unfold isSlot; rw [h2, h3]; decide)])), hW5.1⟩
     | true =>
       refine wp_cond_false rfl ?_
       refine wp_skip ?_
       change Code.wp ..
       refine wp_seq ?_
       have hiS := (show isSlot cs (⟨xc, xt, xh⟩ : Slt) = true from by unfold isSlot; rw [h2, h3] <;> rfl)
       obtain ⟨m, y, hm, hy, ht0, ht1, hh2⟩ := slot_at hiS
       simp only at hm ht0 ht1 hh2
       subst hm
       obtain ⟨hi1, hi2, hi3⟩ := slot_in h1 hy ht0 ht1
       have hml := (List.getElem?_eq_some_iff.1 hy).1
       refine wp_region_L _ hW4 ?_
       refine lm (v := .pointer (some ⟨g1, 0, none⟩)) rfl rfl ?_
       refine lv (v := .slice pc cs.length cc) rfl rfl (yb_cell (off := 0) rfl Tw.kr Tw.m1 Tryd.underlying22 rfl Tw.kr) ?_
       refine lm (v := .pointer (some ⟨g2, 0, none⟩)) rfl rfl ?_
       refine lv (v := .int .i64 ((m : Nat) : Int)) rfl rfl (yb_cell (off := 0) rfl Tw.kr Tw.m0 Tryd.underlying3 rfl Tw.kr) ?_
       obtain ⟨y4, g4_, f4_, hy4, hp4, hc4⟩ := RL.at (RL.base HC.out) colC_len (by decide) (hW4.sub (fun _ h => by cases h)) (k := m) Tw.om
       obtain rfl : y4 = y := by rw [hy4] at hy; cases hy; rfl
       refine lp (v := .pointer (some ⟨g4_, f4_ + m * 12, none⟩)) rfl rfl (run_idxQ (p := pc) (cap := cc) (n := cs.length) (j := .i64) (k := m) (sz := 12) rfl Tryd.underlying22 Tw.kr Tw.kr hp4 Tw.kr Tw.om) ?_
       refine lv (v := .agg (colC y4).toArray) rfl rfl (yb_rs (off := f4_ + m * 12) (cs := colC y4) rfl Tw.kr (fun W hW => hc4 W (hW.sub (fun _ h => by cases h))) Tryd.underlying65 rfl Tw.kr) ?_
       refine wpL_new (fun g => .pointer (some ⟨g, 0, none⟩)) (obi := .cells #[.int .i64 0, .int .i64 0, .bool false, .int .i64 0, .int .i64 0, .int .i64 0, .int .i64 0, .int .i64 0, .slice none 0 0, .int .i64 0, .int .i64 0, .int .i64 0] 65 (0, 0)) rfl rfl Tw.kf Tw.pf fun g5 Bg5 Fg5 => ?_
       obtain ⟨dj6_0, dj6_1⟩ : g2 ≠ g5 ∧ g1 ≠ g5 := Tw.dkf Fg5
       refine wpL_s [(g5, .cells (colC y4).toArray 65 (0, 0)), (g2, .cells #[.int .i64 ((m : Nat) : Int), .int .i64 xt, .int .u8 ((xh : Nat) : Int)] 34 (0, 0)), (g1, .cells (shC (.slice pc cs.length cc) (.slice po os.length co) t).toArray 32 (0, 0))] rfl rfl (st_row (off := 0) (v := .agg (colC y4).toArray) rfl Tw.kr Tw.kr Tw.m0 Bg5 Tw.kr (by first | (simp [Value.cells]; done) | exact Nat.le_of_ble_eq_true rfl) (fun v hv => colC_one y4 v hv) Tw.kr (List.forall_mem_cons.2 ⟨.inl rfl, (List.forall_mem_cons.2 ⟨.inr ⟨Tw.m1, Tw.nee⟩, (List.forall_mem_cons.2 ⟨.inr ⟨Tw.m2, Tw.nee⟩, (List.forall_mem_nil _)⟩)⟩)⟩)) ?_
       refine wpL_done (fun W6 hW6 => ?_)
       change Code.wp ..
       refine wp_seq ?_
       refine wp_region_L _ hW6 ?_
       refine lm (v := .pointer (some ⟨g5, 0, none⟩)) rfl rfl ?_
       refine lv (v := .int .i64 y4.bay) rfl rfl (yb_cell (off := 0) rfl Tw.kr Tw.m0 Tryd.underlying3 rfl Tw.kr) ?_
       refine lm (v := .pointer (some ⟨g5, 1, none⟩)) rfl rfl ?_
       refine lv (v := .int .i64 y4.row) rfl rfl (yb_cell (off := 1) rfl Tw.kr Tw.m0 Tryd.underlying3 rfl Tw.kr) ?_
       refine lm (v := .pointer (some ⟨g2, 1, none⟩)) rfl rfl ?_
       refine lv (v := .int .i64 xt) rfl rfl (yb_cell (off := 1) rfl Tw.kr Tw.m1 Tryd.underlying3 rfl Tw.kr) ?_
       refine lm (v := .pointer (some ⟨g5, 2, none⟩)) rfl rfl ?_
       refine lv (v := .bool y4.deck) rfl rfl (yb_cell (off := 2) rfl Tw.kr Tw.m0 Tryd.underlying4 rfl Tw.kr) ?_
       refine lm (v := .pointer (some ⟨g2, 2, none⟩)) rfl rfl ?_
       refine lv (v := .int .u8 ((xh : Nat) : Int)) rfl rfl (yb_cell (off := 2) rfl Tw.kr Tw.m1 Tryd.underlying5 rfl Tw.kr) ?_
       refine lm (v := .agg #[.int .i64 y4.bay, .int .i64 y4.row, .int .i64 xt, .bool y4.deck, .int .u8 ((xh : Nat) : Int)]) rfl rfl ?_
       refine lv (v := strV (txtN (numN (y4.bay).toNat (y4.row).toNat (xt).toNat y4.deck xh))) rfl rfl (yb_call (f := 67) (args := #[.agg #[.int .i64 y4.bay, .int .i64 y4.row, .int .i64 xt, .bool y4.deck, .int .u8 ((xh : Nat) : Int)]]) Tw.kf fun W hW => text_any y4.bay y4.row xt xh y4.deck hi1 hi2 hi3 hh2 W (HE.out.keep hW.1)) ?_
       refine lm (v := strV (txtN (numN (y4.bay).toNat (y4.row).toNat (xt).toNat y4.deck xh))) rfl rfl ?_
       refine lm (v := .int .i64 0) rfl rfl ?_
       refine wpL_done (fun W7 hW7 => ?_)
       change Code.wp ..
       refine wp_ret ?_
       try simp only [inBlock_ret, then_ret]
       refine bodyPost_ret (v := .tuple #[strV (txtN (numN (y4.bay).toNat (y4.row).toNat (xt).toNat y4.deck xh)), .int .i64 0]) ?_ rfl ?_
       · kernel_rfl
       · exact ⟨(si_is (by unfold nameR; rw [if_pos h1, if_pos hiS, name_at hy])), hW7.1⟩
   | true =>
     refine ln rfl ?_
     refine ln rfl ?_
     refine ln rfl ?_
     refine ln rfl ?_
     refine lm (v := .bool false) rfl rfl ?_
     refine wpL_done (fun W8 hW8 => ?_)
     change Code.wp ..
     refine wp_cond_false rfl ?_
     refine wp_skip ?_
     change Code.wp ..
     refine wp_seq ?_
     have hiS := (show isSlot cs (⟨xc, xt, xh⟩ : Slt) = true from by unfold isSlot; rw [h2] <;> rfl)
     obtain ⟨m, y, hm, hy, ht0, ht1, hh2⟩ := slot_at hiS
     simp only at hm ht0 ht1 hh2
     subst hm
     obtain ⟨hi1, hi2, hi3⟩ := slot_in h1 hy ht0 ht1
     have hml := (List.getElem?_eq_some_iff.1 hy).1
     refine wp_region_L _ hW8 ?_
     refine lm (v := .pointer (some ⟨g1, 0, none⟩)) rfl rfl ?_
     refine lv (v := .slice pc cs.length cc) rfl rfl (yb_cell (off := 0) rfl Tw.kr Tw.m1 Tryd.underlying22 rfl Tw.kr) ?_
     refine lm (v := .pointer (some ⟨g2, 0, none⟩)) rfl rfl ?_
     refine lv (v := .int .i64 ((m : Nat) : Int)) rfl rfl (yb_cell (off := 0) rfl Tw.kr Tw.m0 Tryd.underlying3 rfl Tw.kr) ?_
     obtain ⟨y7, g7_, f7_, hy7, hp7, hc7⟩ := RL.at (RL.base HC.out) colC_len (by decide) (hW8.sub (fun _ h => by cases h)) (k := m) Tw.om
     obtain rfl : y7 = y := by rw [hy7] at hy; cases hy; rfl
     refine lp (v := .pointer (some ⟨g7_, f7_ + m * 12, none⟩)) rfl rfl (run_idxQ (p := pc) (cap := cc) (n := cs.length) (j := .i64) (k := m) (sz := 12) rfl Tryd.underlying22 Tw.kr Tw.kr hp7 Tw.kr Tw.om) ?_
     refine lv (v := .agg (colC y7).toArray) rfl rfl (yb_rs (off := f7_ + m * 12) (cs := colC y7) rfl Tw.kr (fun W hW => hc7 W (hW.sub (fun _ h => by cases h))) Tryd.underlying65 rfl Tw.kr) ?_
     refine wpL_new (fun g => .pointer (some ⟨g, 0, none⟩)) (obi := .cells #[.int .i64 0, .int .i64 0, .bool false, .int .i64 0, .int .i64 0, .int .i64 0, .int .i64 0, .int .i64 0, .slice none 0 0, .int .i64 0, .int .i64 0, .int .i64 0] 65 (0, 0)) rfl rfl Tw.kf Tw.pf fun g8 Bg8 Fg8 => ?_
     obtain ⟨dj9_0, dj9_1⟩ : g2 ≠ g8 ∧ g1 ≠ g8 := Tw.dkf Fg8
     refine wpL_s [(g8, .cells (colC y7).toArray 65 (0, 0)), (g2, .cells #[.int .i64 ((m : Nat) : Int), .int .i64 xt, .int .u8 ((xh : Nat) : Int)] 34 (0, 0)), (g1, .cells (shC (.slice pc cs.length cc) (.slice po os.length co) t).toArray 32 (0, 0))] rfl rfl (st_row (off := 0) (v := .agg (colC y7).toArray) rfl Tw.kr Tw.kr Tw.m0 Bg8 Tw.kr (by first | (simp [Value.cells]; done) | exact Nat.le_of_ble_eq_true rfl) (fun v hv => colC_one y7 v hv) Tw.kr (List.forall_mem_cons.2 ⟨.inl rfl, (List.forall_mem_cons.2 ⟨.inr ⟨Tw.m1, Tw.nee⟩, (List.forall_mem_cons.2 ⟨.inr ⟨Tw.m2, Tw.nee⟩, (List.forall_mem_nil _)⟩)⟩)⟩)) ?_
     refine wpL_done (fun W9 hW9 => ?_)
     change Code.wp ..
     refine wp_seq ?_
     refine wp_region_L _ hW9 ?_
     refine lm (v := .pointer (some ⟨g8, 0, none⟩)) rfl rfl ?_
     refine lv (v := .int .i64 y7.bay) rfl rfl (yb_cell (off := 0) rfl Tw.kr Tw.m0 Tryd.underlying3 rfl Tw.kr) ?_
     refine lm (v := .pointer (some ⟨g8, 1, none⟩)) rfl rfl ?_
     refine lv (v := .int .i64 y7.row) rfl rfl (yb_cell (off := 1) rfl Tw.kr Tw.m0 Tryd.underlying3 rfl Tw.kr) ?_
     refine lm (v := .pointer (some ⟨g2, 1, none⟩)) rfl rfl ?_
     refine lv (v := .int .i64 xt) rfl rfl (yb_cell (off := 1) rfl Tw.kr Tw.m1 Tryd.underlying3 rfl Tw.kr) ?_
     refine lm (v := .pointer (some ⟨g8, 2, none⟩)) rfl rfl ?_
     refine lv (v := .bool y7.deck) rfl rfl (yb_cell (off := 2) rfl Tw.kr Tw.m0 Tryd.underlying4 rfl Tw.kr) ?_
     refine lm (v := .pointer (some ⟨g2, 2, none⟩)) rfl rfl ?_
     refine lv (v := .int .u8 ((xh : Nat) : Int)) rfl rfl (yb_cell (off := 2) rfl Tw.kr Tw.m1 Tryd.underlying5 rfl Tw.kr) ?_
     refine lm (v := .agg #[.int .i64 y7.bay, .int .i64 y7.row, .int .i64 xt, .bool y7.deck, .int .u8 ((xh : Nat) : Int)]) rfl rfl ?_
     refine lv (v := strV (txtN (numN (y7.bay).toNat (y7.row).toNat (xt).toNat y7.deck xh))) rfl rfl (yb_call (f := 67) (args := #[.agg #[.int .i64 y7.bay, .int .i64 y7.row, .int .i64 xt, .bool y7.deck, .int .u8 ((xh : Nat) : Int)]]) Tw.kf fun W hW => text_any y7.bay y7.row xt xh y7.deck hi1 hi2 hi3 hh2 W (HE.out.keep hW.1)) ?_
     refine lm (v := strV (txtN (numN (y7.bay).toNat (y7.row).toNat (xt).toNat y7.deck xh))) rfl rfl ?_
     refine lm (v := .int .i64 0) rfl rfl ?_
     refine wpL_done (fun W10 hW10 => ?_)
     change Code.wp ..
     refine wp_ret ?_
     try simp only [inBlock_ret, then_ret]
     refine bodyPost_ret (v := .tuple #[strV (txtN (numN (y7.bay).toNat (y7.row).toNat (xt).toNat y7.deck xh)), .int .i64 0]) ?_ rfl ?_
     · kernel_rfl
     · exact ⟨(si_is (by unfold nameR; rw [if_pos h1, if_pos hiS, name_at hy])), hW10.1⟩
set_option maxRecDepth 100000 in
set_option maxHeartbeats 4000000 in
theorem SFind_any (cs : List Col) (pc : Option Addr) (cc : Nat) (lc : cs.length ≤ 4000000000) (os : List Cov) (po : Option Addr) (co : Nat) (lo : os.length ≤ 4000000000) (t : Tl) (l : List UInt8) (hl : l.length ≤ 281474976710656) (w : World) (hc : SLV w pc (cs.flatMap colC)) (ho : SLV w po (os.flatMap covC)) (hr : RwR w os) (lr : ∀ o ∈ os, o.rows.length ≤ 4000000000) (hq : PlR w cs) (lq : ∀ c ∈ cs, c.plugs.length ≤ 4000000000) (hE : Env w) : Calls Tryd.prog 31 #[.agg (shC (.slice pc cs.length cc) (.slice po os.length co) t).toArray, strV l] w fun e w' => e = .returned (.tuple #[.agg (sltC (findR cs os l).1).toArray, .int .i64 (((findR cs os l).2 : Nat) : Int)]) ∧ Below w.heap.size w w' := by
 have HC := Lib.hid hc
 clear hc
 have HO := Lib.hid ho
 clear ho
 have HR := Lib.hid hr
 clear hr
 have HQ := Lib.hid hq
 clear hq
 have HE := Lib.hid hE
 clear hE
 go_enter Tryd.func31, Tryd.ntmps31
 refine wp_seq ?_
 refine wp_region_L [] (KS.start w) ?_
 refine wpL_new (fun g => .pointer (some ⟨g, 0, none⟩)) (obi := .cells (shC (.slice pc cs.length cc) (.slice po os.length co) t).toArray 32 (0, 0)) rfl rfl Tw.kf Tw.pf fun g1 Bg1 Fg1 => ?_
 refine wpL_new (fun g => .pointer (some ⟨g, 0, none⟩)) (obi := .cells #[.int .i64 0, .int .i64 0, .int .u8 0] 34 (0, 0)) rfl rfl Tw.kf Tw.pf fun g2 Bg2 Fg2 => ?_
 obtain dj3_0 : g1 ≠ g2 := Tw.dkf Fg2
 refine lm (v := .int .i64 0) rfl rfl ?_
 refine wpL_done (fun W1 hW1 => ?_)
 change Code.wp ..
 refine wp_seq ?_
 refine wp_seq ?_
 refine wp_region_L _ hW1 ?_
 refine lv (v := .agg (shC (.slice pc cs.length cc) (.slice po os.length co) t).toArray) rfl rfl (yb_load (n := 13) (off := 0) rfl Tw.kr Tw.m1 Tryd.underlying32 rfl Tw.kr (by first | (simp [Value.cells]; done) | exact Nat.le_of_ble_eq_true rfl) Tw.kr) ?_
 refine lv (v := .bool (rightX cs os)) rfl rfl (yb_call (f := 66) (args := #[.agg (shC (.slice pc cs.length cc) (.slice po os.length co) t).toArray]) Tw.kf fun W hW => Right_any cs pc cc Tw.om os po co Tw.om t W ((RL.base HC.out) _ (hW.sub (fun _ h => by cases h))) ((RL.base HO.out) _ (hW.sub (fun _ h => by cases h))) (HR.out.keep hW.1) lr (HQ.out.keep hW.1) lq) ?_
 refine lp (v := .bool (!(rightX cs os))) rfl rfl (run_un rfl Tw.kr fun w => un_not w) ?_
 refine wpL_done (fun W2 hW2 => ?_)
 change Code.wp ..
 cases h1 : (rightX cs os) with
 | false =>
   refine wp_cond_true rfl ?_
   refine wp_seq ?_
   refine wp_region_L _ hW2 ?_
   refine lm (v := .agg #[.int .i64 0, .int .i64 0, .int .u8 0]) rfl rfl ?_
   refine wpL_s [(g2, .cells #[.int .i64 0, .int .i64 0, .int .u8 0] 34 (0, 0)), (g1, .cells (shC (.slice pc cs.length cc) (.slice po os.length co) t).toArray 32 (0, 0))] rfl rfl (st_row (off := 0) (v := .agg #[.int .i64 0, .int .i64 0, .int .u8 0]) rfl Tw.kr Tw.kr Tw.m0 Bg2 Tw.kr (by first | (simp [Value.cells]; done) | exact Nat.le_of_ble_eq_true rfl) (by intro v hv; simp [Value.cells] at hv; first | (subst hv; rfl) | (rcases hv with rfl | rfl | rfl <;> rfl)) Tw.kr (List.forall_mem_cons.2 ⟨.inl rfl, (List.forall_mem_cons.2 ⟨.inr ⟨Tw.m1, Tw.nee⟩, (List.forall_mem_nil _)⟩)⟩)) ?_
   refine lm (v := .int .i64 2) rfl rfl ?_
   refine wpL_done (fun W3 hW3 => ?_)
   change Code.wp ..
   refine wp_ret ?_
   try simp only [inBlock_ret, then_ret]
   refine bodyPost_ret (v := .tuple #[.agg #[.int .i64 0, .int .i64 0, .int .u8 0], .int .i64 2]) ?_ rfl ?_
   · exact (res_cell_tmp (p := 4) (q := 5) rfl rfl (hW3.2 _ Tw.m0) Tryd.underlying34 rfl Tw.kr)
   · exact ⟨(xi_is (x := slt0) (by unfold findR; rw [if_neg (by rw [h1]; decide)])), hW3.1⟩
 | true =>
   refine wp_cond_false rfl ?_
   refine wp_skip ?_
   change Code.wp ..
   refine wp_seq ?_
   refine wp_region_L _ hW2 ?_
   refine lm (v := strV l) rfl rfl ?_
   cases h2 : (digsOk l) with
   | false =>
     refine lv (v := .tuple #[.agg #[.int .i64 0, .int .i64 0, .int .i64 0, .bool false, .int .u8 0], .bool false]) rfl rfl (yb_call (f := 69) (args := #[strV l]) Tw.kf fun W hW => placeOf_no l Tw.om h2 W) ?_
     refine lm (v := .tuple #[.agg #[.int .i64 0, .int .i64 0, .int .i64 0, .bool false, .int .u8 0], .bool false]) rfl rfl ?_
     refine lm (v := .agg #[.int .i64 0, .int .i64 0, .int .i64 0, .bool false, .int .u8 0]) rfl rfl ?_
     refine lm (v := .bool false) rfl rfl ?_
     refine wpL_new (fun g => .pointer (some ⟨g, 0, none⟩)) (obi := .cells #[.int .i64 0, .int .i64 0, .int .i64 0, .bool false, .int .u8 0] 111 (0, 0)) rfl rfl Tw.kf Tw.pf fun g4 Bg4 Fg4 => ?_
     obtain ⟨dj5_0, dj5_1⟩ : g2 ≠ g4 ∧ g1 ≠ g4 := Tw.dkf Fg4
     refine wpL_s [(g4, .cells #[.int .i64 0, .int .i64 0, .int .i64 0, .bool false, .int .u8 0] 111 (0, 0)), (g2, .cells #[.int .i64 0, .int .i64 0, .int .u8 0] 34 (0, 0)), (g1, .cells (shC (.slice pc cs.length cc) (.slice po os.length co) t).toArray 32 (0, 0))] rfl rfl (st_row (off := 0) (v := .agg #[.int .i64 0, .int .i64 0, .int .i64 0, .bool false, .int .u8 0]) rfl Tw.kr Tw.kr Tw.m0 Bg4 Tw.kr (by first | (simp [Value.cells]; done) | exact Nat.le_of_ble_eq_true rfl) (by intro v hv; simp [Value.cells] at hv; first | (subst hv; rfl) | (rcases hv with rfl | rfl | rfl | rfl | rfl <;> rfl)) Tw.kr (List.forall_mem_cons.2 ⟨.inl rfl, (List.forall_mem_cons.2 ⟨.inr ⟨Tw.m1, Tw.nee⟩, (List.forall_mem_cons.2 ⟨.inr ⟨Tw.m2, Tw.nee⟩, (List.forall_mem_nil _)⟩)⟩)⟩)) ?_
     refine lm (v := .bool false) rfl rfl ?_
     refine wpL_done (fun W4 hW4 => ?_)
     change Code.wp ..
     refine wp_seq ?_
     refine wp_seq ?_
     refine wp_region_L _ hW4 ?_
     refine lm (v := .bool false) rfl rfl ?_
     refine lm (v := .bool true) rfl rfl ?_
     refine wpL_done (fun W5 hW5 => ?_)
     change Code.wp ..
     refine wp_cond_true rfl ?_
     refine wp_seq ?_
     refine wp_region_L _ hW5 ?_
     refine lm (v := .agg #[.int .i64 0, .int .i64 0, .int .u8 0]) rfl rfl ?_
     refine wpL_s [(g4, .cells #[.int .i64 0, .int .i64 0, .int .i64 0, .bool false, .int .u8 0] 111 (0, 0)), (g2, .cells #[.int .i64 0, .int .i64 0, .int .u8 0] 34 (0, 0)), (g1, .cells (shC (.slice pc cs.length cc) (.slice po os.length co) t).toArray 32 (0, 0))] rfl rfl (st_row (off := 0) (v := .agg #[.int .i64 0, .int .i64 0, .int .u8 0]) rfl Tw.kr Tw.kr Tw.m1 Bg2 Tw.kr (by first | (simp [Value.cells]; done) | exact Nat.le_of_ble_eq_true rfl) (by intro v hv; simp [Value.cells] at hv; first | (subst hv; rfl) | (rcases hv with rfl | rfl | rfl <;> rfl)) Tw.kr (List.forall_mem_cons.2 ⟨.inr ⟨Tw.m0, Tw.nee⟩, (List.forall_mem_cons.2 ⟨.inl rfl, (List.forall_mem_cons.2 ⟨.inr ⟨Tw.m2, Tw.nee⟩, (List.forall_mem_nil _)⟩)⟩)⟩)) ?_
     refine lm (v := .int .i64 80) rfl rfl ?_
     refine wpL_done (fun W6 hW6 => ?_)
     change Code.wp ..
     refine wp_ret ?_
     try simp only [inBlock_ret, then_ret]
     refine bodyPost_ret (v := .tuple #[.agg #[.int .i64 0, .int .i64 0, .int .u8 0], .int .i64 80]) ?_ rfl ?_
     · exact (res_cell_tmp (p := 4) (q := 5) rfl rfl (hW6.2 _ Tw.m1) Tryd.underlying34 rfl Tw.kr)
     · exact ⟨(xi_is (x := slt0) (by unfold findR; rw [if_pos h1, if_neg (by unfold placeB; rw [h2]; simp)])), hW6.1⟩
   | true =>
     refine lv (v := .tuple #[.agg #[.int .i64 ((((decN l) / 10000 / 4) : Nat) : Int), .int .i64 ((((decN l) / 100 % 100) : Nat) : Int), .int .i64 (((tierR ((decN l) % 100) / 2 : Nat) : Int) - 1), .bool (tierD ((decN l) % 100)), .int .u8 (((halfN ((decN l) / 10000 % 4)) : Nat) : Int)], .bool (halfB ((decN l) / 10000 % 4) && tierB ((decN l) % 100))]) rfl rfl (yb_call (f := 69) (args := #[strV l]) Tw.kf fun W hW => placeOf_yes h2 W (HE.out.keep hW.1)) ?_
     refine lm (v := .tuple #[.agg #[.int .i64 ((((decN l) / 10000 / 4) : Nat) : Int), .int .i64 ((((decN l) / 100 % 100) : Nat) : Int), .int .i64 (((tierR ((decN l) % 100) / 2 : Nat) : Int) - 1), .bool (tierD ((decN l) % 100)), .int .u8 (((halfN ((decN l) / 10000 % 4)) : Nat) : Int)], .bool (halfB ((decN l) / 10000 % 4) && tierB ((decN l) % 100))]) rfl rfl ?_
     refine lm (v := .agg #[.int .i64 ((((decN l) / 10000 / 4) : Nat) : Int), .int .i64 ((((decN l) / 100 % 100) : Nat) : Int), .int .i64 (((tierR ((decN l) % 100) / 2 : Nat) : Int) - 1), .bool (tierD ((decN l) % 100)), .int .u8 (((halfN ((decN l) / 10000 % 4)) : Nat) : Int)]) rfl rfl ?_
     refine lm (v := .bool (halfB ((decN l) / 10000 % 4) && tierB ((decN l) % 100))) rfl rfl ?_
     refine wpL_new (fun g => .pointer (some ⟨g, 0, none⟩)) (obi := .cells #[.int .i64 0, .int .i64 0, .int .i64 0, .bool false, .int .u8 0] 111 (0, 0)) rfl rfl Tw.kf Tw.pf fun g6 Bg6 Fg6 => ?_
     obtain ⟨dj7_0, dj7_1⟩ : g2 ≠ g6 ∧ g1 ≠ g6 := Tw.dkf Fg6
     refine wpL_s [(g6, .cells #[.int .i64 ((((decN l) / 10000 / 4) : Nat) : Int), .int .i64 ((((decN l) / 100 % 100) : Nat) : Int), .int .i64 (((tierR ((decN l) % 100) / 2 : Nat) : Int) - 1), .bool (tierD ((decN l) % 100)), .int .u8 (((halfN ((decN l) / 10000 % 4)) : Nat) : Int)] 111 (0, 0)), (g2, .cells #[.int .i64 0, .int .i64 0, .int .u8 0] 34 (0, 0)), (g1, .cells (shC (.slice pc cs.length cc) (.slice po os.length co) t).toArray 32 (0, 0))] rfl rfl (st_row (off := 0) (v := .agg #[.int .i64 ((((decN l) / 10000 / 4) : Nat) : Int), .int .i64 ((((decN l) / 100 % 100) : Nat) : Int), .int .i64 (((tierR ((decN l) % 100) / 2 : Nat) : Int) - 1), .bool (tierD ((decN l) % 100)), .int .u8 (((halfN ((decN l) / 10000 % 4)) : Nat) : Int)]) rfl Tw.kr Tw.kr Tw.m0 Bg6 Tw.kr (by first | (simp [Value.cells]; done) | exact Nat.le_of_ble_eq_true rfl) (by intro v hv; simp [Value.cells] at hv; first | (subst hv; rfl) | (rcases hv with rfl | rfl | rfl | rfl | rfl <;> rfl)) Tw.kr (List.forall_mem_cons.2 ⟨.inl rfl, (List.forall_mem_cons.2 ⟨.inr ⟨Tw.m1, Tw.nee⟩, (List.forall_mem_cons.2 ⟨.inr ⟨Tw.m2, Tw.nee⟩, (List.forall_mem_nil _)⟩)⟩)⟩)) ?_
     refine lm (v := .bool (halfB ((decN l) / 10000 % 4) && tierB ((decN l) % 100))) rfl rfl ?_
     refine wpL_done (fun W7 hW7 => ?_)
     change Code.wp ..
     refine wp_seq ?_
     refine wp_seq ?_
     refine wp_region_L _ hW7 ?_
     refine lm (v := .bool (halfB ((decN l) / 10000 % 4) && tierB ((decN l) % 100))) rfl rfl ?_
     refine lp (v := .bool (!(halfB ((decN l) / 10000 % 4) && tierB ((decN l) % 100)))) rfl rfl (run_un rfl Tw.kr fun w => un_not w) ?_
     refine wpL_done (fun W8 hW8 => ?_)
     change Code.wp ..
     cases h3 : (halfB ((decN l) / 10000 % 4) && tierB ((decN l) % 100)) with
     | false =>
       refine wp_cond_true rfl ?_
       refine wp_seq ?_
       refine wp_region_L _ hW8 ?_
       refine lm (v := .agg #[.int .i64 0, .int .i64 0, .int .u8 0]) rfl rfl ?_
       refine wpL_s [(g6, .cells #[.int .i64 ((((decN l) / 10000 / 4) : Nat) : Int), .int .i64 ((((decN l) / 100 % 100) : Nat) : Int), .int .i64 (((tierR ((decN l) % 100) / 2 : Nat) : Int) - 1), .bool (tierD ((decN l) % 100)), .int .u8 (((halfN ((decN l) / 10000 % 4)) : Nat) : Int)] 111 (0, 0)), (g2, .cells #[.int .i64 0, .int .i64 0, .int .u8 0] 34 (0, 0)), (g1, .cells (shC (.slice pc cs.length cc) (.slice po os.length co) t).toArray 32 (0, 0))] rfl rfl (st_row (off := 0) (v := .agg #[.int .i64 0, .int .i64 0, .int .u8 0]) rfl Tw.kr Tw.kr Tw.m1 Bg2 Tw.kr (by first | (simp [Value.cells]; done) | exact Nat.le_of_ble_eq_true rfl) (by intro v hv; simp [Value.cells] at hv; first | (subst hv; rfl) | (rcases hv with rfl | rfl | rfl <;> rfl)) Tw.kr (List.forall_mem_cons.2 ⟨.inr ⟨Tw.m0, Tw.nee⟩, (List.forall_mem_cons.2 ⟨.inl rfl, (List.forall_mem_cons.2 ⟨.inr ⟨Tw.m2, Tw.nee⟩, (List.forall_mem_nil _)⟩)⟩)⟩)) ?_
       refine lm (v := .int .i64 80) rfl rfl ?_
       refine wpL_done (fun W9 hW9 => ?_)
       change Code.wp ..
       refine wp_ret ?_
       try simp only [inBlock_ret, then_ret]
       refine bodyPost_ret (v := .tuple #[.agg #[.int .i64 0, .int .i64 0, .int .u8 0], .int .i64 80]) ?_ rfl ?_
       · exact (res_cell_tmp (p := 4) (q := 5) rfl rfl (hW9.2 _ Tw.m1) Tryd.underlying34 rfl Tw.kr)
       · exact ⟨(xi_is (x := slt0) (by unfold findR; rw [if_pos h1, if_neg (by unfold placeB; rw [h2, h3]; decide)])), hW9.1⟩
     | true =>
       have hpl : placeB l = true := by unfold placeB; rw [h2, h3]; rfl
       have het : (((tierR ((decN l) % 100) / 2 : Nat) : Int) - 1) = (((tierR ((decN l) % 100) / 2 - 1) : Nat) : Int) := by have h9 := h3; rw [Bool.and_eq_true] at h9; have h8 := h9.2; unfold tierB at h8; simp only [Bool.and_eq_true, decide_eq_true_eq] at h8; omega
       rw [het]
       try rw [het] at hW8
       refine wp_cond_false rfl ?_
       refine wp_skip ?_
       change Code.wp ..
       refine wp_seq ?_
       refine wp_region_L _ hW8 ?_
       refine lv (v := .agg (shC (.slice pc cs.length cc) (.slice po os.length co) t).toArray) rfl rfl (yb_load (n := 13) (off := 0) rfl Tw.kr Tw.m2 Tryd.underlying32 rfl Tw.kr (by first | (simp [Value.cells]; done) | exact Nat.le_of_ble_eq_true rfl) Tw.kr) ?_
       refine lm (v := .pointer (some ⟨g6, 0, none⟩)) rfl rfl ?_
       refine lv (v := .int .i64 ((((decN l) / 10000 / 4) : Nat) : Int)) rfl rfl (yb_cell (off := 0) rfl Tw.kr Tw.m0 Tryd.underlying3 rfl Tw.kr) ?_
       refine lm (v := .pointer (some ⟨g6, 1, none⟩)) rfl rfl ?_
       refine lv (v := .int .i64 ((((decN l) / 100 % 100) : Nat) : Int)) rfl rfl (yb_cell (off := 1) rfl Tw.kr Tw.m0 Tryd.underlying3 rfl Tw.kr) ?_
       refine lm (v := .pointer (some ⟨g6, 3, none⟩)) rfl rfl ?_
       refine lv (v := .bool (tierD ((decN l) % 100))) rfl rfl (yb_cell (off := 3) rfl Tw.kr Tw.m0 Tryd.underlying4 rfl Tw.kr) ?_
       refine lv (v := .tuple #[.int .i64 (findN (findC cs l)), .bool ((findC cs l).isSome)]) rfl rfl (yb_call (f := 70) (args := #[.agg (shC (.slice pc cs.length cc) (.slice po os.length co) t).toArray, .int .i64 ((((decN l) / 10000 / 4) : Nat) : Int), .int .i64 ((((decN l) / 100 % 100) : Nat) : Int), .bool (tierD ((decN l) % 100))]) Tw.kf fun W hW => Find_any cs pc cc Tw.om os po co Tw.om t ((((decN l) / 10000 / 4) : Nat) : Int) ((((decN l) / 100 % 100) : Nat) : Int) (tierD ((decN l) % 100)) W ((RL.base HC.out) _ (hW.sub (fun _ h => by cases h))) ((RL.base HO.out) _ (hW.sub (fun _ h => by cases h)))) ?_
       refine lm (v := .tuple #[.int .i64 (findN (findC cs l)), .bool ((findC cs l).isSome)]) rfl rfl ?_
       refine lm (v := .int .i64 (findN (findC cs l))) rfl rfl ?_
       refine lm (v := .bool ((findC cs l).isSome)) rfl rfl ?_
       refine lm (v := .int .i64 (findN (findC cs l))) rfl rfl ?_
       refine lm (v := .bool ((findC cs l).isSome)) rfl rfl ?_
       refine wpL_done (fun W10 hW10 => ?_)
       change Code.wp ..
       refine wp_seq ?_
       refine wp_seq ?_
       refine wp_region_L _ hW10 ?_
       refine lm (v := .bool ((findC cs l).isSome)) rfl rfl ?_
       refine lp (v := .bool (!((findC cs l).isSome))) rfl rfl (run_un rfl Tw.kr fun w => un_not w) ?_
       refine lm (v := .bool (!((findC cs l).isSome))) rfl rfl ?_
       cases h4 : ((findC cs l).isSome) with
       | false =>
         refine ln rfl ?_
         refine ln rfl ?_
         refine ln rfl ?_
         refine ln rfl ?_
         refine ln rfl ?_
         refine ln rfl ?_
         refine lm (v := .bool true) rfl rfl ?_
         refine wpL_done (fun W11 hW11 => ?_)
         change Code.wp ..
         refine wp_cond_true rfl ?_
         refine wp_seq ?_
         refine wp_region_L _ hW11 ?_
         refine lm (v := .agg #[.int .i64 0, .int .i64 0, .int .u8 0]) rfl rfl ?_
         refine wpL_s [(g6, .cells #[.int .i64 ((((decN l) / 10000 / 4) : Nat) : Int), .int .i64 ((((decN l) / 100 % 100) : Nat) : Int), .int .i64 (((tierR ((decN l) % 100) / 2 - 1) : Nat) : Int), .bool (tierD ((decN l) % 100)), .int .u8 (((halfN ((decN l) / 10000 % 4)) : Nat) : Int)] 111 (0, 0)), (g2, .cells #[.int .i64 0, .int .i64 0, .int .u8 0] 34 (0, 0)), (g1, .cells (shC (.slice pc cs.length cc) (.slice po os.length co) t).toArray 32 (0, 0))] rfl rfl (st_row (off := 0) (v := .agg #[.int .i64 0, .int .i64 0, .int .u8 0]) rfl Tw.kr Tw.kr Tw.m1 Bg2 Tw.kr (by first | (simp [Value.cells]; done) | exact Nat.le_of_ble_eq_true rfl) (by intro v hv; simp [Value.cells] at hv; first | (subst hv; rfl) | (rcases hv with rfl | rfl | rfl <;> rfl)) Tw.kr (List.forall_mem_cons.2 ⟨.inr ⟨Tw.m0, Tw.nee⟩, (List.forall_mem_cons.2 ⟨.inl rfl, (List.forall_mem_cons.2 ⟨.inr ⟨Tw.m2, Tw.nee⟩, (List.forall_mem_nil _)⟩)⟩)⟩)) ?_
         refine lm (v := .int .i64 6) rfl rfl ?_
         refine wpL_done (fun W12 hW12 => ?_)
         change Code.wp ..
         refine wp_ret ?_
         try simp only [inBlock_ret, then_ret]
         refine bodyPost_ret (v := .tuple #[.agg #[.int .i64 0, .int .i64 0, .int .u8 0], .int .i64 6]) ?_ rfl ?_
         · exact (res_cell_tmp (p := 4) (q := 5) rfl rfl (hW12.2 _ Tw.m1) Tryd.underlying34 rfl Tw.kr)
         · exact ⟨(xi_is (x := slt0) (by unfold findR; rw [if_pos h1, if_pos hpl, if_neg (by unfold foundB; rw [h4]; simp)])), hW12.1⟩
       | true =>
         refine lv (v := .agg (shC (.slice pc cs.length cc) (.slice po os.length co) t).toArray) rfl rfl (yb_load (n := 13) (off := 0) rfl Tw.kr Tw.m2 Tryd.underlying32 rfl Tw.kr (by first | (simp [Value.cells]; done) | exact Nat.le_of_ble_eq_true rfl) Tw.kr) ?_
         refine lm (v := .int .i64 (findN (findC cs l))) rfl rfl ?_
         refine lm (v := .pointer (some ⟨g6, 2, none⟩)) rfl rfl ?_
         refine lv (v := .int .i64 (((tierR ((decN l) % 100) / 2 - 1) : Nat) : Int)) rfl rfl (yb_cell (off := 2) rfl Tw.kr Tw.m0 Tryd.underlying3 rfl Tw.kr) ?_
         refine lv (v := .bool (exS cs (findN (findC cs l)) (((tierR ((decN l) % 100) / 2 - 1) : Nat) : Int))) rfl rfl (yb_call (f := 45) (args := #[.agg (shC (.slice pc cs.length cc) (.slice po os.length co) t).toArray, .int .i64 (findN (findC cs l)), .int .i64 (((tierR ((decN l) % 100) / 2 - 1) : Nat) : Int)]) Tw.kf fun W hW => exists_any cs pc cc Tw.om os po co Tw.om t (findN (findC cs l)) (((tierR ((decN l) % 100) / 2 - 1) : Nat) : Int) W ((RL.base HC.out) _ (hW.sub (fun _ h => by cases h))) ((RL.base HO.out) _ (hW.sub (fun _ h => by cases h)))) ?_
         refine lp (v := .bool (!(exS cs (findN (findC cs l)) (((tierR ((decN l) % 100) / 2 - 1) : Nat) : Int)))) rfl rfl (run_un rfl Tw.kr fun w => un_not w) ?_
         refine lm (v := .bool (!(exS cs (findN (findC cs l)) (((tierR ((decN l) % 100) / 2 - 1) : Nat) : Int)))) rfl rfl ?_
         refine wpL_done (fun W13 hW13 => ?_)
         change Code.wp ..
         cases h5 : (exS cs (findN (findC cs l)) (((tierR ((decN l) % 100) / 2 - 1) : Nat) : Int)) with
         | false =>
           refine wp_cond_true rfl ?_
           refine wp_seq ?_
           refine wp_region_L _ hW13 ?_
           refine lm (v := .agg #[.int .i64 0, .int .i64 0, .int .u8 0]) rfl rfl ?_
           refine wpL_s [(g6, .cells #[.int .i64 ((((decN l) / 10000 / 4) : Nat) : Int), .int .i64 ((((decN l) / 100 % 100) : Nat) : Int), .int .i64 (((tierR ((decN l) % 100) / 2 - 1) : Nat) : Int), .bool (tierD ((decN l) % 100)), .int .u8 (((halfN ((decN l) / 10000 % 4)) : Nat) : Int)] 111 (0, 0)), (g2, .cells #[.int .i64 0, .int .i64 0, .int .u8 0] 34 (0, 0)), (g1, .cells (shC (.slice pc cs.length cc) (.slice po os.length co) t).toArray 32 (0, 0))] rfl rfl (st_row (off := 0) (v := .agg #[.int .i64 0, .int .i64 0, .int .u8 0]) rfl Tw.kr Tw.kr Tw.m1 Bg2 Tw.kr (by first | (simp [Value.cells]; done) | exact Nat.le_of_ble_eq_true rfl) (by intro v hv; simp [Value.cells] at hv; first | (subst hv; rfl) | (rcases hv with rfl | rfl | rfl <;> rfl)) Tw.kr (List.forall_mem_cons.2 ⟨.inr ⟨Tw.m0, Tw.nee⟩, (List.forall_mem_cons.2 ⟨.inl rfl, (List.forall_mem_cons.2 ⟨.inr ⟨Tw.m2, Tw.nee⟩, (List.forall_mem_nil _)⟩)⟩)⟩)) ?_
           refine lm (v := .int .i64 6) rfl rfl ?_
           refine wpL_done (fun W14 hW14 => ?_)
           change Code.wp ..
           refine wp_ret ?_
           try simp only [inBlock_ret, then_ret]
           refine bodyPost_ret (v := .tuple #[.agg #[.int .i64 0, .int .i64 0, .int .u8 0], .int .i64 6]) ?_ rfl ?_
           · exact (res_cell_tmp (p := 4) (q := 5) rfl rfl (hW14.2 _ Tw.m1) Tryd.underlying34 rfl Tw.kr)
           · exact ⟨(xi_is (x := slt0) (by unfold findR; rw [if_pos h1, if_pos hpl, if_neg (by unfold foundB; rw [h4, h5]; simp)])), hW14.1⟩
         | true =>
           refine wp_cond_false rfl ?_
           refine wp_skip ?_
           change Code.wp ..
           refine wp_seq ?_
           refine wp_region_L _ hW13 ?_
           refine lm (v := .int .i64 (findN (findC cs l))) rfl rfl ?_
           refine lm (v := .pointer (some ⟨g6, 2, none⟩)) rfl rfl ?_
           refine lv (v := .int .i64 (((tierR ((decN l) % 100) / 2 - 1) : Nat) : Int)) rfl rfl (yb_cell (off := 2) rfl Tw.kr Tw.m0 Tryd.underlying3 rfl Tw.kr) ?_
           refine lm (v := .pointer (some ⟨g6, 4, none⟩)) rfl rfl ?_
           refine lv (v := .int .u8 (((halfN ((decN l) / 10000 % 4)) : Nat) : Int)) rfl rfl (yb_cell (off := 4) rfl Tw.kr Tw.m0 Tryd.underlying5 rfl Tw.kr) ?_
           refine lm (v := .agg #[.int .i64 (findN (findC cs l)), .int .i64 (((tierR ((decN l) % 100) / 2 - 1) : Nat) : Int), .int .u8 (((halfN ((decN l) / 10000 % 4)) : Nat) : Int)]) rfl rfl ?_
           refine wpL_s [(g6, .cells #[.int .i64 ((((decN l) / 10000 / 4) : Nat) : Int), .int .i64 ((((decN l) / 100 % 100) : Nat) : Int), .int .i64 (((tierR ((decN l) % 100) / 2 - 1) : Nat) : Int), .bool (tierD ((decN l) % 100)), .int .u8 (((halfN ((decN l) / 10000 % 4)) : Nat) : Int)] 111 (0, 0)), (g2, .cells #[.int .i64 (findN (findC cs l)), .int .i64 (((tierR ((decN l) % 100) / 2 - 1) : Nat) : Int), .int .u8 (((halfN ((decN l) / 10000 % 4)) : Nat) : Int)] 34 (0, 0)), (g1, .cells (shC (.slice pc cs.length cc) (.slice po os.length co) t).toArray 32 (0, 0))] rfl rfl (st_row (off := 0) (v := .agg #[.int .i64 (findN (findC cs l)), .int .i64 (((tierR ((decN l) % 100) / 2 - 1) : Nat) : Int), .int .u8 (((halfN ((decN l) / 10000 % 4)) : Nat) : Int)]) rfl Tw.kr Tw.kr Tw.m1 Bg2 Tw.kr (by first | (simp [Value.cells]; done) | exact Nat.le_of_ble_eq_true rfl) (by intro v hv; simp [Value.cells] at hv; first | (subst hv; rfl) | (rcases hv with rfl | rfl | rfl <;> rfl)) Tw.kr (List.forall_mem_cons.2 ⟨.inr ⟨Tw.m0, Tw.nee⟩, (List.forall_mem_cons.2 ⟨.inl rfl, (List.forall_mem_cons.2 ⟨.inr ⟨Tw.m2, Tw.nee⟩, (List.forall_mem_nil _)⟩)⟩)⟩)) ?_
           refine lm (v := .int .i64 0) rfl rfl ?_
           refine wpL_done (fun W15 hW15 => ?_)
           change Code.wp ..
           refine wp_ret ?_
           try simp only [inBlock_ret, then_ret]
           refine bodyPost_ret (v := .tuple #[.agg #[.int .i64 (findN (findC cs l)), .int .i64 (((tierR ((decN l) % 100) / 2 - 1) : Nat) : Int), .int .u8 (((halfN ((decN l) / 10000 % 4)) : Nat) : Int)], .int .i64 0]) ?_ rfl ?_
           · exact (res_cell_tmp (p := 4) (q := 5) rfl rfl (hW15.2 _ Tw.m1) Tryd.underlying34 rfl Tw.kr)
           · exact ⟨(xi_is (x := slotOf cs l) (by unfold findR; rw [if_pos h1, if_pos hpl, if_pos (by unfold foundB; rw [h4, h5]; rfl)])), hW15.1⟩
end Go.Proofs.YtlinjngifacmoaaDoor
