import Derived.Test.YtllmpemmknblaaaDoorBS00
import Derived.Test.YtllmpemmknblaaaDoorJQz01
/- Part of the proof: JL, JN, JO, JP, JQ0. -/
set_option linter.unusedVariables false
set_option linter.unusedSimpArgs false
set_option linter.unusedSectionVars false
namespace Go.Proofs.YtllmpemmknblaaaDoor
open Go Go.RowKit Tw
set_option maxRecDepth 100000 in
set_option maxHeartbeats 4000000 in
theorem lists_00 (l : List Bx) (p : Option Addr) (c : Nat) (id : Int) (n : List UInt8) (hl : l.length ≤ 300) (f1 : findX l id = none) (f2 : idxFrom (idIs id) 0 l = -1) (nb1 : l.find? (numP n) = none) (nb2 : idxFrom (numP n) 0 l = -1) (w : World) (hp : SLV w p (bcs l)) : Calls Tryd.prog 11 #[.slice p l.length c, .int .i64 id, strV n] w fun e w' => e = .returned (.bool true) ∧ Below w.heap.size w w' := by
 have HP := Lib.hid hp
 clear hp
 obtain ⟨va, ve, hv, hv0, hv1⟩ := valid_two l
 have hol : (orderX l).length = l.length := order_len l
 go_enter Tryd.func11, Tryd.ntmps11
 refine wp_seq ?_
 refine wp_region_L [] (KS.start w) ?_
 refine lm (v := .bool false) rfl rfl ?_
 refine wpL_done (fun W1 hW1 => ?_)
 change Code.wp ..
 refine wp_seq ?_
 refine wp_region_L _ hW1 ?_
 refine lm (v := .slice p l.length c) rfl rfl ?_
 refine lp (v := .int .i64 ((l.length : Nat) : Int)) rfl rfl (run_lenL (p := p) (cap := c) (n := l.length) rfl Tryd.underlying22 Tw.kr) ?_
 refine lp (v := .int .i64 (((l.length + 1) : Nat) : Int)) rfl rfl (run_bin rfl (vx := (.int .i64 ((l.length : Nat) : Int))) (vy := (.int .i64 ((1 : Nat) : Int))) Tw.kr Tw.kr fun w => bn_add (z := (l.length + 1)) rfl (wr_i64 Tw.om) w) ?_
 refine wpL_new (fun g => .slice (some ⟨g, 0, none⟩) (l.length + 1) (l.length + 1)) (obi := .cells (bcs (List.replicate (l.length + 1) bx0)).toArray 26 (0, 0)) rfl rfl (run_mkb (n := (l.length + 1)) (b := 64) rfl Tryd.underlying22 Tw.kr (by decide) Tw.kr Tw.kr Tw.om) Tw.pf fun g1 Bg1 Fg1 => ?_
 refine lm (v := .slice (some ⟨g1, 0, none⟩) (l.length + 1) (l.length + 1)) rfl rfl ?_
 refine wpL_done (fun W2 hW2 => ?_)
 change Code.wp ..
 refine wp_seq ?_
 refine wp_region_L _ hW2 ?_
 refine lm (v := .slice (some ⟨g1, 0, none⟩) (l.length + 1) (l.length + 1)) rfl rfl ?_
 refine lm (v := .slice p l.length c) rfl rfl ?_
 refine wpL_g (CopyB 26 g1 [] (l ++ (List.replicate (l.length + 1) bx0).drop l.length) l.length) rfl rfl (copy_all (m := l.length + 1) (dc := l.length + 1) (p := p) (sc := c) (r := List.replicate (l.length + 1) bx0) rfl Tryd.underlying22 Tw.kr Tw.kr Tw.kr Tw.m0 Bg1 (row_lit _) (by simp) Tw.om (fun W hW => ((RL.base HP.out) _ (hW.sub (fun _ h => by cases h)))) (fun _ h => by cases h)) Tw.pf ?_
 rintro _ _ ⟨rfl, cur1, hr1, rfl⟩
 rw [rep_last] at hr1
 refine wpL_done (fun W3 hW3 => ?_)
 change Code.wp ..
 refine wp_seq ?_
 refine wp_region_L _ hW3 ?_
 refine lm (v := .slice (some ⟨g1, 0, none⟩) (l.length + 1) (l.length + 1)) rfl rfl ?_
 refine lm (v := .slice p l.length c) rfl rfl ?_
 refine lp (v := .int .i64 ((l.length : Nat) : Int)) rfl rfl (run_lenL (p := p) (cap := c) (n := l.length) rfl Tryd.underlying22 Tw.kr) ?_
 refine lv (v := .agg (bxL exB).toArray) rfl rfl (yb_call (f := 13) (args := #[]) Tw.kf fun W hW => example_any W) ?_
 refine lp (v := .pointer (some ⟨g1, 0 + l.length * 9, none⟩)) rfl rfl (run_idxL (j := .i64) (n := (l.length + 1)) (cap := (l.length + 1)) (b := g1) (off := 0) (k := l.length) (sz := 9) rfl Tryd.underlying22 Tw.kr Tw.kr Tw.kr Tw.om) ?_
 refine wpL_s [(g1, .cells (putR cur1 l.length exB) 26 (0, 0))] rfl rfl (st_rec (b := exB) rfl Tw.kr Tw.kr Tw.m0 Bg1 Tw.kr hr1 (by simp) (List.forall_mem_cons.2 ⟨.inl rfl, (List.forall_mem_nil _)⟩)) ?_
 have hr2 := row_put exB hr1
 refine wpL_done (fun W4 hW4 => ?_)
 change Code.wp ..
 refine wp_seq ?_
 refine wp_region_L _ hW4 ?_
 refine lm (v := .slice (some ⟨g1, 0, none⟩) (l.length + 1) (l.length + 1)) rfl rfl ?_
 refine lm (v := .slice p l.length c) rfl rfl ?_
 refine lp (v := .int .i64 ((l.length : Nat) : Int)) rfl rfl (run_lenL (p := p) (cap := c) (n := l.length) rfl Tryd.underlying22 Tw.kr) ?_
 have R0 : RL bxL w (some ⟨g1, 0, none⟩) l [(g1, .cells (putR cur1 l.length exB) 26 (0, 0))] := row_rl hr2
 refine lp (v := .slice (some ⟨g1, 0, none⟩) l.length (l.length + 1)) rfl rfl (run_slt (kd := .i64) (j := l.length) (n := (l.length + 1)) (c := (l.length + 1)) (sz := 9) rfl Tryd.underlying22 Tw.kr Tw.kr Tw.kr Tw.om) ?_
 refine lm (v := .slice (some ⟨g1, 0, none⟩) l.length (l.length + 1)) rfl rfl ?_
 refine wpL_done (fun W5 hW5 => ?_)
 change Code.wp ..
 refine wp_seq ?_
 refine wp_region_L _ hW5 ?_
 refine lm (v := .slice (some ⟨g1, 0, none⟩) l.length (l.length + 1)) rfl rfl ?_
 refine lv (v := .tuple #[.int .i64 va, .int .i64 ve]) rfl rfl (yb_call (f := 29) (args := #[.slice (some ⟨g1, 0, none⟩) l.length (l.length + 1)]) Tw.kf fun W hW => (by have h9 := Valid_any l (some ⟨g1, 0, none⟩) (l.length + 1) Tw.om W (R0 _ (hW.sub (fun p hp => by cases List.mem_singleton.1 hp; exact Tw.m0))); rw [hv] at h9; exact h9)) ?_
 refine lm (v := .tuple #[.int .i64 va, .int .i64 ve]) rfl rfl ?_
 refine lm (v := .int .i64 va) rfl rfl ?_
 refine lm (v := .int .i64 ve) rfl rfl ?_
 refine lm (v := .int .i64 va) rfl rfl ?_
 refine lm (v := .int .i64 ve) rfl rfl ?_
 refine wpL_done (fun W6 hW6 => ?_)
 change Code.wp ..
 refine wp_seq ?_
 refine wp_region_L _ hW6 ?_
 refine lm (v := .slice (some ⟨g1, 0, none⟩) l.length (l.length + 1)) rfl rfl ?_
 refine lm (v := .int .i64 id) rfl rfl ?_
 refine lv (v := .tuple #[.agg (bxL bx0).toArray, .bool false]) rfl rfl (yb_call (f := 30) (args := #[.slice (some ⟨g1, 0, none⟩) l.length (l.length + 1), .int .i64 id]) Tw.kf fun W hW => (by have h9 := Find_any l (some ⟨g1, 0, none⟩) (l.length + 1) id Tw.om W (R0 _ (hW.sub (fun p hp => by cases List.mem_singleton.1 hp; exact Tw.m0))); rw [f1] at h9; exact h9)) ?_
 refine lm (v := .tuple #[.agg (bxL bx0).toArray, .bool false]) rfl rfl ?_
 refine lm (v := .agg (bxL bx0).toArray) rfl rfl ?_
 refine lm (v := .bool false) rfl rfl ?_
 refine wpL_new (fun g => .pointer (some ⟨g, 0, none⟩)) (obi := .cells #[.int .i64 0, strV [], .int .u8 0, .bool false, .int .i64 0, .int .i64 0, .int .i64 0, .int .u8 0, .bool false] 26 (0, 0)) rfl rfl Tw.kf Tw.pf fun g2 Bg2 Fg2 => ?_
 obtain dj3_0 : g1 ≠ g2 := Tw.dkf Fg2
 refine wpL_s [(g2, .cells (bxL bx0).toArray 26 (0, 0)), (g1, .cells (putR cur1 l.length exB) 26 (0, 0))] rfl rfl (st_row (off := 0) (v := .agg (bxL bx0).toArray) rfl Tw.kr Tw.kr Tw.m0 Bg2 Tw.kr (by first | (simp [Value.cells]; done) | exact Nat.le_of_ble_eq_true rfl) (fun v hv => bxL_one bx0 v hv) Tw.kr (List.forall_mem_cons.2 ⟨.inl rfl, (List.forall_mem_cons.2 ⟨.inr ⟨Tw.m1, Tw.nee⟩, (List.forall_mem_nil _)⟩)⟩)) ?_
 refine lm (v := .bool false) rfl rfl ?_
 refine wpL_done (fun W7 hW7 => ?_)
 change Code.wp ..
 refine wp_seq ?_
 refine wp_region_L _ hW7 ?_
 refine lm (v := .slice (some ⟨g1, 0, none⟩) l.length (l.length + 1)) rfl rfl ?_
 refine lm (v := strV n) rfl rfl ?_
 refine lv (v := .tuple #[.int .i64 0, .bool false]) rfl rfl (yb_call (f := 31) (args := #[.slice (some ⟨g1, 0, none⟩) l.length (l.length + 1), strV n]) Tw.kf fun W hW => (by have h9 := Numbered_any l (some ⟨g1, 0, none⟩) (l.length + 1) n Tw.om W (R0 _ (hW.sub (fun p hp => by cases List.mem_singleton.1 hp; exact Tw.m1))); rw [numbered_p, nb1] at h9; exact h9)) ?_
 refine lm (v := .tuple #[.int .i64 0, .bool false]) rfl rfl ?_
 refine lm (v := .int .i64 0) rfl rfl ?_
 refine lm (v := .bool false) rfl rfl ?_
 refine lm (v := .int .i64 0) rfl rfl ?_
 refine lm (v := .bool false) rfl rfl ?_
 refine wpL_done (fun W8 hW8 => ?_)
 change Code.wp ..
 refine wp_seq ?_
 refine wp_region_L _ hW8 ?_
 refine lm (v := .slice (some ⟨g1, 0, none⟩) l.length (l.length + 1)) rfl rfl ?_
 refine lv (v := .agg (smL (totalX l)).toArray) rfl rfl (yb_call (f := 26) (args := #[.slice (some ⟨g1, 0, none⟩) l.length (l.length + 1)]) Tw.kf fun W hW => Total_any l (some ⟨g1, 0, none⟩) (l.length + 1) Tw.om W (R0 _ (hW.sub (fun p hp => by cases List.mem_singleton.1 hp; exact Tw.m1)))) ?_
 refine lm (v := .slice (some ⟨g1, 0, none⟩) l.length (l.length + 1)) rfl rfl ?_
 refine wpL_c (f := 27) (args := #[.slice (some ⟨g1, 0, none⟩) l.length (l.length + 1)]) (OutOL w [(g2, .cells (bxL bx0).toArray 26 (0, 0)), (g1, .cells (putR cur1 l.length exB) 26 (0, 0))] 26 9 (orderX l).length ((orderX l).flatMap bxL)) rfl Tw.kr Tw.kf (fun W hW => calls_o hW (((Order_any l (some ⟨g1, 0, none⟩) (l.length + 1) Tw.om W (R0 _ (hW.sub (fun p hp => by cases List.mem_singleton.1 hp; exact Tw.m1)))).mono fun _ _ ⟨v, h1, h2, h3⟩ => ⟨v, h1, by rw [order_len]; exact h2, h3⟩))) Tw.pf ?_
 rintro v4 _ ⟨Kl4, O4, N4, rfl⟩
 obtain ⟨dj5_0, dj5_1⟩ : Dk g2 Kl4 ∧ Dk g1 Kl4 := Tw.djf N4
 refine wpL_new (fun g => .pointer (some ⟨g, 0, none⟩)) (obi := .cells #[.int .i64 0, .int .i64 0, .int .i64 0, .int .i64 0, .int .i64 0] 47 (0, 0)) rfl rfl Tw.kf Tw.pf fun g6 Bg6 Fg6 => ?_
 obtain ⟨dj7_0, dj7_1, dj7_2⟩ : g2 ≠ g6 ∧ g1 ≠ g6 ∧ Dk g6 Kl4 := Tw.dkf Fg6
 refine wpL_s ((g6, .cells (smL (totalX l)).toArray 47 (0, 0)) :: (g2, .cells (bxL bx0).toArray 26 (0, 0)) :: (g1, .cells (putR cur1 l.length exB) 26 (0, 0)) :: Kl4) rfl rfl (st_row (off := 0) (v := .agg (smL (totalX l)).toArray) rfl Tw.kr Tw.kr Tw.m0 Bg6 Tw.kr (by first | (simp [Value.cells]; done) | exact Nat.le_of_ble_eq_true rfl) (fun v hv => smL_one (totalX l) v hv) Tw.kr (List.forall_mem_cons.2 ⟨.inl rfl, (List.forall_mem_cons.2 ⟨.inr ⟨Tw.m1, Tw.nee⟩, (List.forall_mem_cons.2 ⟨.inr ⟨Tw.m2, Tw.nee⟩, (fun p hp => .inr ⟨(.tail _ (.tail _ (.tail _ hp))), ((show Dk g6 Kl4 from Tw.djt) _ hp)⟩)⟩)⟩)⟩)) ?_
 refine lm (v := v4) rfl rfl ?_
 refine wpL_done (fun W9 hW9 => ?_)
 change Code.wp ..
 refine wp_seq ?_
 refine wp_seq ?_
 refine wp_region_L _ hW9 ?_
 refine lm (v := v4) rfl rfl ?_
 refine lp (v := .int .i64 ((((orderX l).length) : Nat) : Int)) rfl rfl (run_lenO (W0 := w) rfl Tryd.underlying22 Tw.kr O4) ?_
 refine lm (v := .int .i64 0) rfl rfl ?_
 refine wpL_done (fun W10 hW10 => ?_)
 change Code.wp ..
 refine wp_block ?_
 go_loopw [62] (fun u62 wr => ∃ (k : Nat) (m : List Bx) (Km : List (Nat × Obj)), (k ≤ (orderX l).length) ∧ (m.length = (orderX l).length) ∧ (OwnL w 26 9 v4 (orderX l).length (bcs m) Km) ∧ (Dk g6 Km) ∧ (Dk g2 Km) ∧ (Dk g1 Km) ∧ u62 = .int .i64 ((k : Nat) : Int) ∧ KS w ((g6, .cells (smL (totalX l)).toArray 47 (0, 0)) :: (g2, .cells (bxL bx0).toArray 26 (0, 0)) :: (g1, .cells (putR cur1 l.length exB) 26 (0, 0)) :: Km) wr) (fun u62 _ => (orderX l).length - (intOf u62).toNat)
 case atStart => exact ⟨0, (orderX l), Kl4, (Nat.zero_le _), rfl, O4, (show Dk g6 Kl4 from Tw.djt), (show Dk g2 Kl4 from Tw.djt), (show Dk g1 Kl4 from Tw.djt), rfl, (hW10.sub (fun p hp => by first | exact hp | (simp only [List.mem_cons, List.mem_append, List.nil_append, List.not_mem_nil, or_assoc, or_false, false_or] at hp ⊢ <;> grind)))⟩
 case round =>
   obtain ⟨k, m, Km, hk, hm, hO, dh8_0, dh8_1, dh8_2, rfl, hL11⟩ := hrel
   refine wp_seq ?_
   refine wp_region_L _ hL11 ?_
   refine lp (v := .bool (decide (k < ((orderX l).length)))) rfl rfl (run_bin rfl (vx := (.int .i64 ((k : Nat) : Int))) (vy := (.int .i64 ((((orderX l).length) : Nat) : Int))) Tw.kr Tw.kr fun w => bn_lss rfl w) ?_
   refine wpL_done (fun W12 hW12 => ?_)
   change Code.wp ..
   refine wp_seq ?_
   cases hd1 : (decide (k < ((orderX l).length))) with
   | false =>
     have h1 : ¬ (k < ((orderX l).length)) := of_decide_eq_false hd1
     clear hd1
     refine wp_cond_false rfl ?_
     refine wp_exit ?_
     change Code.wp ..
     refine wp_seq ?_
     refine wp_region_L _ hW12 ?_
     refine lm (v := .slice (some ⟨g1, 0, none⟩) l.length (l.length + 1)) rfl rfl ?_
     refine wpL_c (f := 27) (args := #[.slice (some ⟨g1, 0, none⟩) l.length (l.length + 1)]) (OutRL bxL w ((g6, .cells (smL (totalX l)).toArray 47 (0, 0)) :: (g2, .cells (bxL bx0).toArray 26 (0, 0)) :: (g1, .cells (putR cur1 l.length exB) 26 (0, 0)) :: Km) (orderX l)) rfl Tw.kr Tw.kf (fun W hW => calls_r hW (((Order_any l (some ⟨g1, 0, none⟩) (l.length + 1) Tw.om W (R0 _ (hW.sub (fun p hp => by cases List.mem_singleton.1 hp; exact Tw.m2)))).mono fun _ _ ⟨v, h1, h2, h3⟩ => ⟨v, h1, by rw [order_len]; exact h2, h3⟩))) Tw.pf ?_
     rintro _ _ ⟨p9, c9, Kl9, rfl, n9, R9, N9, rfl⟩
     obtain ⟨dj10_0, dj10_1, dj10_2, dj10_3⟩ : Dk g6 Kl9 ∧ Dk g2 Kl9 ∧ Dk g1 Kl9 ∧ Dj Km Kl9 := Tw.djf N9
     refine wpL_sub (K2 := ((g6, .cells (smL (totalX l)).toArray 47 (0, 0)) :: (g2, .cells (bxL bx0).toArray 26 (0, 0)) :: (g1, .cells (putR cur1 l.length exB) 26 (0, 0)) :: (Km ++ Kl9))) (fun p hp => by simp only [List.mem_cons, List.mem_append, or_assoc] at hp ⊢; exact hp) ?_
     refine lm (v := .slice p9 ((orderX l).length) c9) rfl rfl ?_
     refine wpL_done (fun W13 hW13 => ?_)
     change Code.wp ..
     refine wp_seq ?_
     refine wp_seq ?_
     refine wp_region_V _ Tw.kr hW13 ?_
     refine vm (i := 0) (v := .slice (some ⟨g1, 0, none⟩) l.length (l.length + 1)) rfl rfl rfl ?_
     refine vm (i := 1) (v := .slice p l.length c) rfl rfl rfl ?_
     refine vv (i := 2) (v := .bool true) rfl rfl rfl (yb_call (f := 28) (args := #[.slice (some ⟨g1, 0, none⟩) l.length (l.length + 1), .slice p l.length c]) Tw.kf fun W hW => same_is l l (some ⟨g1, 0, none⟩) p (l.length + 1) c rfl rfl Tw.om W (R0 _ (hW.sub (fun p hp => by cases List.mem_singleton.1 hp; exact Tw.m2))) ((RL.base HP.out) _ (hW.sub (fun _ h => by cases h))) rfl) ?_
     refine vm (i := 3) (v := .bool false) rfl rfl rfl ?_
     refine vm (i := 4) (v := .bool false) rfl rfl rfl ?_
     refine vm (i := 5) (v := .slice (some ⟨g1, 0, none⟩) (l.length + 1) (l.length + 1)) rfl rfl rfl ?_
     refine vm (i := 6) (v := .slice p l.length c) rfl rfl rfl ?_
     refine vp (i := 7) (v := .int .i64 ((l.length : Nat) : Int)) rfl rfl rfl (run_lenL (p := p) (cap := c) (n := l.length) rfl Tryd.underlying22 Tw.kr) ?_
     refine vp (i := 8) (v := .pointer (some ⟨g1, 0 + l.length * 9, none⟩)) rfl rfl rfl (run_idxL (j := .i64) (n := (l.length + 1)) (cap := (l.length + 1)) (b := g1) (off := 0) (k := l.length) (sz := 9) rfl Tryd.underlying22 Tw.kr Tw.kr Tw.kr Tw.om) ?_
     refine vv (i := 9) (v := .agg (bxL exB).toArray) rfl rfl rfl (yb_cells (off := 0 + l.length * 9) (cur := (putR cur1 l.length exB)) (cs := bxL exB) rfl Tw.kr Tw.m2 (row_last hr2) Tryd.underlying26 rfl Tw.kr) ?_
     refine vv (i := 10) (v := .agg (bxL exB).toArray) rfl rfl rfl (yb_call (f := 13) (args := #[]) Tw.kf fun W hW => example_any W) ?_
     refine vp (i := 11) (v := .bool false) rfl rfl rfl (run_bin rfl (vx := .agg (bxL exB).toArray) (vy := .agg (bxL exB).toArray) Tw.kr Tw.kr fun w => neq_bx (a := exB) (b := exB) (decide_eq_true rfl) w) ?_
     refine vm (i := 12) (v := .bool false) rfl rfl rfl ?_
     refine wpV_done Tw.kr (fun W14 hW14 => ?_) _
     change Code.wp ..
     refine wp_cond_false rfl ?_
     refine wp_skip ?_
     change Code.wp ..
     refine wp_seq ?_
     refine wp_region_L _ hW14 ?_
     refine lm (v := .slice p l.length c) rfl rfl ?_
     refine lv (v := .tuple #[.int .i64 va, .int .i64 ve]) rfl rfl (yb_call (f := 32) (args := #[.slice p l.length c]) Tw.kf fun W hW => (by have h9 := RValid_any l p c Tw.om W ((RL.base HP.out) _ (hW.sub (fun _ h => by cases h))); rw [hv] at h9; exact h9)) ?_
     refine lm (v := .tuple #[.int .i64 va, .int .i64 ve]) rfl rfl ?_
     refine lm (v := .int .i64 va) rfl rfl ?_
     refine lm (v := .int .i64 ve) rfl rfl ?_
     refine lm (v := .int .i64 va) rfl rfl ?_
     refine lm (v := .int .i64 ve) rfl rfl ?_
     refine wpL_done (fun W15 hW15 => ?_)
     change Code.wp ..
     refine wp_seq ?_
     refine wp_seq ?_
     refine wp_region_L _ hW15 ?_
     refine lm (v := .int .i64 va) rfl rfl ?_
     refine lm (v := .int .i64 va) rfl rfl ?_
     refine lp (v := .bool false) rfl rfl (run_bin rfl (vx := (.int .i64 va)) (vy := (.int .i64 va)) Tw.kr Tw.kr fun w => bi_neq (decide_eq_true rfl) w) ?_
     refine lm (v := .bool false) rfl rfl ?_
     refine lm (v := .int .i64 ve) rfl rfl ?_
     refine lm (v := .int .i64 ve) rfl rfl ?_
     refine lp (v := .bool false) rfl rfl (run_bin rfl (vx := (.int .i64 ve)) (vy := (.int .i64 ve)) Tw.kr Tw.kr fun w => bi_neq (decide_eq_true rfl) w) ?_
     refine lm (v := .bool false) rfl rfl ?_
     refine lm (v := .bool false) rfl rfl ?_
     refine lm (v := .slice p9 ((orderX l).length) c9) rfl rfl ?_
     refine lm (v := .slice p l.length c) rfl rfl ?_
     refine wpL_c (f := 33) (args := #[.slice p l.length c]) (OutRL bxL w ((g6, .cells (smL (totalX l)).toArray 47 (0, 0)) :: (g2, .cells (bxL bx0).toArray 26 (0, 0)) :: (g1, .cells (putR cur1 l.length exB) 26 (0, 0)) :: (Km ++ Kl9)) (orderX l)) rfl Tw.kr Tw.kf (fun W hW => calls_r hW (((ROrder_any l p c Tw.om W ((RL.base HP.out) _ (hW.sub (fun _ h => by cases h)))).mono fun _ _ ⟨v, h1, h2, h3⟩ => ⟨v, h1, by rw [order_len]; exact h2, h3⟩))) Tw.pf ?_
     rintro _ _ ⟨p11, c11, Kl11, rfl, n11, R11, N11, rfl⟩
     obtain ⟨dj12_0, dj12_1, dj12_2, dj12_3, dj12_4⟩ : Dk g6 Kl11 ∧ Dk g2 Kl11 ∧ Dk g1 Kl11 ∧ Dj Km Kl11 ∧ Dj Kl9 Kl11 := Tw.djf N11
     refine wpL_sub (K2 := ((g6, .cells (smL (totalX l)).toArray 47 (0, 0)) :: (g2, .cells (bxL bx0).toArray 26 (0, 0)) :: (g1, .cells (putR cur1 l.length exB) 26 (0, 0)) :: (Km ++ (Kl9 ++ Kl11)))) (fun p hp => by simp only [List.mem_cons, List.mem_append, or_assoc] at hp ⊢; exact hp) ?_
     refine lv (v := .bool true) rfl rfl (yb_call (f := 28) (args := #[.slice p9 ((orderX l).length) c9, .slice p11 ((orderX l).length) c11]) Tw.kf fun W hW => same_is (orderX l) (orderX l) p9 p11 c9 c11 rfl rfl Tw.om W (R9 _ (hW.sub (fun p hp => by simp only [List.mem_cons, List.mem_append, List.nil_append, List.not_mem_nil, or_assoc, or_false, false_or, hp, true_or, or_true]))) (R11 _ (hW.sub (fun p hp => by simp only [List.mem_cons, List.mem_append, List.nil_append, List.not_mem_nil, or_assoc, or_false, false_or, hp, true_or, or_true]))) rfl) ?_
     refine lm (v := .bool false) rfl rfl ?_
     refine lm (v := .bool false) rfl rfl ?_
     refine wpL_done (fun W16 hW16 => ?_)
     change Code.wp ..
     refine wp_cond_false rfl ?_
     refine wp_skip ?_
     change Code.wp ..
     refine wp_seq ?_
     refine wp_region_L _ hW16 ?_
     refine lm (v := .slice p l.length c) rfl rfl ?_
     refine lv (v := .agg (smL (totalX l)).toArray) rfl rfl (yb_call (f := 34) (args := #[.slice p l.length c]) Tw.kf fun W hW => RTotal_any l p c Tw.om W ((RL.base HP.out) _ (hW.sub (fun _ h => by cases h)))) ?_
     refine wpL_new (fun g => .pointer (some ⟨g, 0, none⟩)) (obi := .cells #[.int .i64 0, .int .i64 0, .int .i64 0, .int .i64 0, .int .i64 0] 66 (0, 0)) rfl rfl Tw.kf Tw.pf fun g13 Bg13 Fg13 => ?_
     obtain ⟨dj14_0, dj14_1, dj14_2, dj14_3, dj14_4, dj14_5⟩ : g6 ≠ g13 ∧ g2 ≠ g13 ∧ g1 ≠ g13 ∧ Dk g13 Km ∧ Dk g13 Kl9 ∧ Dk g13 Kl11 := Tw.dkf Fg13
     refine wpL_s ((g13, .cells (smL (totalX l)).toArray 66 (0, 0)) :: (g6, .cells (smL (totalX l)).toArray 47 (0, 0)) :: (g2, .cells (bxL bx0).toArray 26 (0, 0)) :: (g1, .cells (putR cur1 l.length exB) 26 (0, 0)) :: (Km ++ (Kl9 ++ Kl11))) rfl rfl (st_row (off := 0) (v := .agg (smL (totalX l)).toArray) rfl Tw.kr Tw.kr Tw.m0 Bg13 Tw.kr (by first | (simp [Value.cells]; done) | exact Nat.le_of_ble_eq_true rfl) (fun v hv => smL_one (totalX l) v hv) Tw.kr (List.forall_mem_cons.2 ⟨.inl rfl, (List.forall_mem_cons.2 ⟨.inr ⟨Tw.m1, Tw.nee⟩, (List.forall_mem_cons.2 ⟨.inr ⟨Tw.m2, Tw.nee⟩, (List.forall_mem_cons.2 ⟨.inr ⟨Tw.m3, Tw.nee⟩, (fun p hp => .inr ⟨(.tail _ (.tail _ (.tail _ (.tail _ hp)))), ((show Dk g13 (Km ++ (Kl9 ++ Kl11)) from Tw.djt) _ hp)⟩)⟩)⟩)⟩)⟩)) ?_
     refine wpL_done (fun W17 hW17 => ?_)
     change Code.wp ..
     refine wp_seq ?_
     refine wp_seq ?_
     refine wp_region_L _ hW17 ?_
     refine lv (v := .agg (smL (totalX l)).toArray) rfl rfl (yb_load (n := 5) (off := 0) rfl Tw.kr Tw.m1 Tryd.underlying47 rfl Tw.kr (by first | (simp [Value.cells]; done) | exact Nat.le_of_ble_eq_true rfl) Tw.kr) ?_
     refine lm (v := .pointer (some ⟨g13, 0, none⟩)) rfl rfl ?_
     refine lv (v := .int .i64 ((((totalX l).n) : Nat) : Int)) rfl rfl (yb_cell (off := 0) rfl Tw.kr Tw.m0 Tryd.underlying3 rfl Tw.kr) ?_
     refine lm (v := .pointer (some ⟨g13, 1, none⟩)) rfl rfl ?_
     refine lv (v := .int .i64 ((((totalX l).h) : Nat) : Int)) rfl rfl (yb_cell (off := 1) rfl Tw.kr Tw.m0 Tryd.underlying3 rfl Tw.kr) ?_
     refine lm (v := .pointer (some ⟨g13, 2, none⟩)) rfl rfl ?_
     refine lv (v := .int .i64 ((totalX l).k)) rfl rfl (yb_cell (off := 2) rfl Tw.kr Tw.m0 Tryd.underlying3 rfl Tw.kr) ?_
     refine lm (v := .pointer (some ⟨g13, 3, none⟩)) rfl rfl ?_
     refine lv (v := .int .i64 ((((totalX l).r) : Nat) : Int)) rfl rfl (yb_cell (off := 3) rfl Tw.kr Tw.m0 Tryd.underlying3 rfl Tw.kr) ?_
     refine lm (v := .pointer (some ⟨g13, 4, none⟩)) rfl rfl ?_
     refine lv (v := .int .i64 ((((totalX l).d) : Nat) : Int)) rfl rfl (yb_cell (off := 4) rfl Tw.kr Tw.m0 Tryd.underlying3 rfl Tw.kr) ?_
     refine lm (v := .agg (smL (totalX l)).toArray) rfl rfl ?_
     refine lp (v := .bool false) rfl rfl (run_bin rfl (vx := .agg (smL (totalX l)).toArray) (vy := .agg (smL (totalX l)).toArray) Tw.kr Tw.kr fun w => neq_smL w) ?_
     refine wpL_done (fun W18 hW18 => ?_)
     change Code.wp ..
     refine wp_cond_false rfl ?_
     refine wp_skip ?_
     change Code.wp ..
     refine wp_seq ?_
     refine wp_region_L _ hW18 ?_
     refine lm (v := .slice p l.length c) rfl rfl ?_
     refine lm (v := .int .i64 id) rfl rfl ?_
     refine lv (v := .int .i64 (-1)) rfl rfl (yb_call (f := 35) (args := #[.slice p l.length c, .int .i64 id]) Tw.kf fun W hW => (by have h9 := RFind_any l p c id Tw.om W ((RL.base HP.out) _ (hW.sub (fun _ h => by cases h))); rw [f2] at h9; exact h9)) ?_
     refine lm (v := .slice p l.length c) rfl rfl ?_
     refine lm (v := strV n) rfl rfl ?_
     refine lv (v := .int .i64 (-1)) rfl rfl (yb_call (f := 36) (args := #[.slice p l.length c, strV n]) Tw.kf fun W hW => (by have h9 := RNumbered_any l p c n Tw.om W ((RL.base HP.out) _ (hW.sub (fun _ h => by cases h))); rw [nb2] at h9; exact h9)) ?_
     refine lm (v := .int .i64 (-1)) rfl rfl ?_
     refine lm (v := .int .i64 (-1)) rfl rfl ?_
     refine wpL_done (fun W19 hW19 => ?_)
     change Code.wp ..
     refine wp_seq ?_
     refine wp_seq ?_
     refine wp_region_V _ Tw.kr hW19 ?_
     refine vm (i := 0) (v := .bool false) rfl rfl rfl ?_
     refine vm (i := 1) (v := .int .i64 (-1)) rfl rfl rfl ?_
     refine vm (i := 2) (v := .bool false) rfl rfl rfl ?_
     refine vp (i := 3) (v := .bool false) rfl rfl rfl (run_bin rfl (vx := .bool false) (vy := .bool false) Tw.kr Tw.kr fun w => bn_bool_neq rfl Tryd.underlying4 w) ?_
     refine vm (i := 4) (v := .bool false) rfl rfl rfl ?_
     refine vm (i := 5) (v := .int .i64 (-1)) rfl rfl rfl ?_
     refine vm (i := 6) (v := .bool false) rfl rfl rfl ?_
     refine vm (i := 7) (v := .bool false) rfl rfl rfl ?_
     refine vn (i := 8) rfl rfl ?_
     refine vn (i := 9) rfl rfl ?_
     refine vn (i := 10) rfl rfl ?_
     refine vn (i := 11) rfl rfl ?_
     refine vn (i := 12) rfl rfl ?_
     refine vn (i := 13) rfl rfl ?_
     refine vm (i := 14) (v := .bool false) rfl rfl rfl ?_
     refine vm (i := 15) (v := .bool false) rfl rfl rfl ?_
     refine vm (i := 16) (v := .bool false) rfl rfl rfl ?_
     refine vm (i := 17) (v := .int .i64 (-1)) rfl rfl rfl ?_
     refine vm (i := 18) (v := .bool true) rfl rfl rfl ?_
     refine vm (i := 19) (v := .bool true) rfl rfl rfl ?_
     refine vv (i := 20) (v := .agg (bxL bx0).toArray) rfl rfl rfl (yb_load (n := 9) (off := 0) rfl Tw.kr Tw.m2 Tryd.underlying26 rfl Tw.kr (by first | (simp [Value.cells]; done) | exact Nat.le_of_ble_eq_true rfl) Tw.kr) ?_
     refine vm (i := 21) (v := .agg #[.int .i64 0, strV [], .int .u8 0, .bool false, .int .i64 0, .int .i64 0, .int .i64 0, .int .u8 0, .bool false]) rfl rfl rfl ?_
     refine vp (i := 22) (v := .bool false) rfl rfl rfl (run_bin rfl (vx := .agg (bxL bx0).toArray) (vy := .agg (bxL bx0).toArray) Tw.kr Tw.kr fun w => neq_bx (a := bx0) (b := bx0) (decide_eq_true rfl) w) ?_
     refine vm (i := 23) (v := .bool false) rfl rfl rfl ?_
     refine vm (i := 24) (v := .bool false) rfl rfl rfl ?_
     refine wpV_done Tw.kr (fun W20 hW20 => ?_) _
     change Code.wp ..
     refine wp_cond_false rfl ?_
     refine wp_skip ?_
     change Code.wp ..
     refine wp_seq ?_
     refine wp_region_L _ hW20 ?_
     refine lm (v := .bool false) rfl rfl ?_
     refine lm (v := .int .i64 (-1)) rfl rfl ?_
     refine lm (v := .bool false) rfl rfl ?_
     refine lp (v := .bool true) rfl rfl (run_bin rfl (vx := .bool false) (vy := .bool false) Tw.kr Tw.kr fun w => bn_bool_eql rfl Tryd.underlying4 w) ?_
     refine lm (v := .bool true) rfl rfl ?_
     refine lm (v := .int .i64 (-1)) rfl rfl ?_
     refine lm (v := .bool false) rfl rfl ?_
     refine lm (v := .bool false) rfl rfl ?_
     refine ln rfl ?_
     refine ln rfl ?_
     refine ln rfl ?_
     refine ln rfl ?_
     refine ln rfl ?_
     refine ln rfl ?_
     refine ln rfl ?_
     refine lm (v := .bool false) rfl rfl ?_
     refine lm (v := .bool false) rfl rfl ?_
     refine lm (v := .int .i64 (-1)) rfl rfl ?_
     refine lm (v := .bool true) rfl rfl ?_
     refine lm (v := .bool true) rfl rfl ?_
     refine lm (v := .int .i64 0) rfl rfl ?_
     refine lm (v := .bool true) rfl rfl ?_
     refine lm (v := .bool true) rfl rfl ?_
     refine lm (v := .bool true) rfl rfl ?_
     refine lm (v := .bool true) rfl rfl ?_
     refine lm (v := .bool true) rfl rfl ?_
     refine wpL_done (fun W21 hW21 => ?_)
     change Code.wp ..
     refine wp_ret ?_
     try simp only [inBlock_ret, then_ret]
     refine bodyPost_ret (v := .bool true) ?_ rfl ?_
     · kernel_rfl
     · exact ⟨rfl, hW21.1⟩
   | true =>
     have h1 : k < ((orderX l).length) := of_decide_eq_true hd1
     clear hd1
     refine wp_cond_true rfl ?_
     refine wp_skip ?_
     change Code.wp ..
     refine wp_seq ?_
     refine wp_block ?_
     refine wp_seq ?_
     refine wp_region_L _ hW12 ?_
     refine lm (v := .int .i64 ((k : Nat) : Int)) rfl rfl ?_
     refine lm (v := .int .i64 ((k : Nat) : Int)) rfl rfl ?_
     refine wpL_done (fun W22 hW22 => ?_)
     change Code.wp ..
     obtain ⟨g9, cap9, cur9, rfl, hB9, hR9, hr9, rfl⟩ := own_blk hO Tw.om
     obtain ⟨bq, hbq⟩ : ∃ y, m[k]? = some y := ⟨_, List.getElem?_eq_getElem Tw.om⟩
     have hcap9 := hR9.2.2.1
     have gng6 : g9 ≠ g6 := by simpa only [dk_cons, dk_nil, and_true] using (show Dk g6 [(g9, .cells cur9 26 (0, 0))] from by assumption)
     have gng2 : g9 ≠ g2 := by simpa only [dk_cons, dk_nil, and_true] using (show Dk g2 [(g9, .cells cur9 26 (0, 0))] from by assumption)
     have gng1 : g9 ≠ g1 := by simpa only [dk_cons, dk_nil, and_true] using (show Dk g1 [(g9, .cells cur9 26 (0, 0))] from by assumption)
     refine wp_region_L _ hW22 ?_
     refine lm (v := .slice (some ⟨g9, 0, none⟩) (orderX l).length cap9) rfl rfl ?_
     refine lm (v := .int .i64 ((k : Nat) : Int)) rfl rfl ?_
     refine lp (v := .pointer (some ⟨g9, 0 + k * 9, none⟩)) rfl rfl (run_idxL (j := .i64) (n := (orderX l).length) (cap := cap9) (b := g9) (off := 0) (k := k) (sz := 9) rfl Tryd.underlying22 Tw.kr Tw.kr Tw.kr Tw.om) ?_
     refine lm (v := .pointer (some ⟨g9, 0 + k * 9 + 4, none⟩)) rfl rfl ?_
     refine lv (v := .int .i64 bq.kilos) rfl rfl (yb_cell (off := 0 + k * 9 + 4) (v := .int .i64 bq.kilos) rfl Tw.kr Tw.m3 Tryd.underlying3 rfl (RowR.get hr9 bxL_len hbq 4 _ rfl)) ?_
     refine lp (v := .int .i64 (IntKind.i64.wrap (bq.kilos + 1))) rfl rfl (run_bin rfl (vx := .int .i64 bq.kilos) (vy := .int .i64 1) Tw.kr Tw.kr fun w => bw_add (z := (IntKind.i64.wrap (bq.kilos + 1))) rfl w) ?_
     refine lp (v := .pointer (some ⟨g9, 0 + k * 9, none⟩)) rfl rfl (run_idxL (j := .i64) (n := (orderX l).length) (cap := cap9) (b := g9) (off := 0) (k := k) (sz := 9) rfl Tryd.underlying22 Tw.kr Tw.kr Tw.kr Tw.om) ?_
     refine lm (v := .pointer (some ⟨g9, 0 + k * 9 + 4, none⟩)) rfl rfl ?_
     refine wpL_s [(g6, .cells (smL (totalX l)).toArray 47 (0, 0)), (g2, .cells (bxL bx0).toArray 26 (0, 0)), (g1, .cells (putR cur1 l.length exB) 26 (0, 0)), (g9, .cells (cur9.setIfInBounds (0 + k * 9 + 4) (.int .i64 (IntKind.i64.wrap (bq.kilos + 1)))) 26 (0, 0))] rfl rfl (st_at (off := 0 + k * 9 + 4) (v := .int .i64 (IntKind.i64.wrap (bq.kilos + 1))) rfl Tw.kr Tw.kr Tw.m3 hB9 Tw.kr rfl rfl (by rw [hR9.1]; have h9 := hR9.2.2.1; omega) (.inr rfl) (List.forall_mem_cons.2 ⟨.inr ⟨Tw.m0, Tw.nee⟩, (List.forall_mem_cons.2 ⟨.inr ⟨Tw.m1, Tw.nee⟩, (List.forall_mem_cons.2 ⟨.inr ⟨Tw.m2, Tw.nee⟩, (List.forall_mem_cons.2 ⟨.inl rfl, (List.forall_mem_nil _)⟩)⟩)⟩)⟩)) ?_
     refine wpL_done (fun W23 hW23 => ?_)
     change Code.wp ..
     refine wp_region_L _ hW23 ?_
     refine lp (v := .int .i64 (((k + 1) : Nat) : Int)) rfl rfl (run_bin rfl (vx := (.int .i64 ((k : Nat) : Int))) (vy := (.int .i64 ((1 : Nat) : Int))) Tw.kr Tw.kr fun w => bn_add (z := (k + 1)) rfl (wr_i64 Tw.om) w) ?_
     refine lm (v := .int .i64 (((k + 1) : Nat) : Int)) rfl rfl ?_
     refine wpL_done (fun W24 hW24 => ?_)
     go_roundw
     case rel =>
       repeat apply Exists.intro
       exact ⟨⟨k + 1, (m.set k { bq with kilos := (IntKind.i64.wrap (bq.kilos + 1)) }), [(g9, .cells (cur9.setIfInBounds (0 + k * 9 + 4) (.int .i64 (IntKind.i64.wrap (bq.kilos + 1)))) 26 (0, 0))], Tw.om, (by rw [List.length_set]; omega), (blk_own hB9 hR9 hbq rfl), (show Dk g6 [(g9, .cells (cur9.setIfInBounds (0 + k * 9 + 4) (.int .i64 (IntKind.i64.wrap (bq.kilos + 1)))) 26 (0, 0))] from Tw.djt), (show Dk g2 [(g9, .cells (cur9.setIfInBounds (0 + k * 9 + 4) (.int .i64 (IntKind.i64.wrap (bq.kilos + 1)))) 26 (0, 0))] from Tw.djt), (show Dk g1 [(g9, .cells (cur9.setIfInBounds (0 + k * 9 + 4) (.int .i64 (IntKind.i64.wrap (bq.kilos + 1)))) 26 (0, 0))] from Tw.djt), rfl, (hW24.sub (fun p hp => by first | exact hp | (simp only [List.mem_cons, List.mem_append, List.nil_append, List.not_mem_nil, or_assoc, or_false, false_or] at hp ⊢ <;> grind)))⟩, rfl⟩
     case measure => (show (orderX l).length - (intOf (.int .i64 (((k + 1) : Nat) : Int))).toNat < (orderX l).length - (intOf (.int .i64 ((k : Nat) : Int))).toNat); simp only [intOf]; omega
set_option maxRecDepth 100000 in
set_option maxHeartbeats 4000000 in
theorem lists_01 (l : List Bx) (p : Option Addr) (c : Nat) (id : Int) (n : List UInt8) (hl : l.length ≤ 300) (f1 : findX l id = none) (f2 : idxFrom (idIs id) 0 l = -1) (b2 : Bx) (j2 : Nat) (nb1 : l.find? (numP n) = some b2) (nb2 : idxFrom (numP n) 0 l = ((j2 : Nat) : Int)) (nb3 : l[j2]? = some b2) (w : World) (hp : SLV w p (bcs l)) : Calls Tryd.prog 11 #[.slice p l.length c, .int .i64 id, strV n] w fun e w' => e = .returned (.bool true) ∧ Below w.heap.size w w' := by
 have HP := Lib.hid hp
 clear hp
 obtain ⟨va, ve, hv, hv0, hv1⟩ := valid_two l
 have hol : (orderX l).length = l.length := order_len l
 have hj2 : j2 < l.length := (List.getElem?_eq_some_iff.1 nb3).1
 go_enter Tryd.func11, Tryd.ntmps11
 refine wp_seq ?_
 refine wp_region_L [] (KS.start w) ?_
 refine lm (v := .bool false) rfl rfl ?_
 refine wpL_done (fun W1 hW1 => ?_)
 change Code.wp ..
 refine wp_seq ?_
 refine wp_region_L _ hW1 ?_
 refine lm (v := .slice p l.length c) rfl rfl ?_
 refine lp (v := .int .i64 ((l.length : Nat) : Int)) rfl rfl (run_lenL (p := p) (cap := c) (n := l.length) rfl Tryd.underlying22 Tw.kr) ?_
 refine lp (v := .int .i64 (((l.length + 1) : Nat) : Int)) rfl rfl (run_bin rfl (vx := (.int .i64 ((l.length : Nat) : Int))) (vy := (.int .i64 ((1 : Nat) : Int))) Tw.kr Tw.kr fun w => bn_add (z := (l.length + 1)) rfl (wr_i64 Tw.om) w) ?_
 refine wpL_new (fun g => .slice (some ⟨g, 0, none⟩) (l.length + 1) (l.length + 1)) (obi := .cells (bcs (List.replicate (l.length + 1) bx0)).toArray 26 (0, 0)) rfl rfl (run_mkb (n := (l.length + 1)) (b := 64) rfl Tryd.underlying22 Tw.kr (by decide) Tw.kr Tw.kr Tw.om) Tw.pf fun g1 Bg1 Fg1 => ?_
 refine lm (v := .slice (some ⟨g1, 0, none⟩) (l.length + 1) (l.length + 1)) rfl rfl ?_
 refine wpL_done (fun W2 hW2 => ?_)
 change Code.wp ..
 refine wp_seq ?_
 refine wp_region_L _ hW2 ?_
 refine lm (v := .slice (some ⟨g1, 0, none⟩) (l.length + 1) (l.length + 1)) rfl rfl ?_
 refine lm (v := .slice p l.length c) rfl rfl ?_
 refine wpL_g (CopyB 26 g1 [] (l ++ (List.replicate (l.length + 1) bx0).drop l.length) l.length) rfl rfl (copy_all (m := l.length + 1) (dc := l.length + 1) (p := p) (sc := c) (r := List.replicate (l.length + 1) bx0) rfl Tryd.underlying22 Tw.kr Tw.kr Tw.kr Tw.m0 Bg1 (row_lit _) (by simp) Tw.om (fun W hW => ((RL.base HP.out) _ (hW.sub (fun _ h => by cases h)))) (fun _ h => by cases h)) Tw.pf ?_
 rintro _ _ ⟨rfl, cur1, hr1, rfl⟩
 rw [rep_last] at hr1
 refine wpL_done (fun W3 hW3 => ?_)
 change Code.wp ..
 refine wp_seq ?_
 refine wp_region_L _ hW3 ?_
 refine lm (v := .slice (some ⟨g1, 0, none⟩) (l.length + 1) (l.length + 1)) rfl rfl ?_
 refine lm (v := .slice p l.length c) rfl rfl ?_
 refine lp (v := .int .i64 ((l.length : Nat) : Int)) rfl rfl (run_lenL (p := p) (cap := c) (n := l.length) rfl Tryd.underlying22 Tw.kr) ?_
 refine lv (v := .agg (bxL exB).toArray) rfl rfl (yb_call (f := 13) (args := #[]) Tw.kf fun W hW => example_any W) ?_
 refine lp (v := .pointer (some ⟨g1, 0 + l.length * 9, none⟩)) rfl rfl (run_idxL (j := .i64) (n := (l.length + 1)) (cap := (l.length + 1)) (b := g1) (off := 0) (k := l.length) (sz := 9) rfl Tryd.underlying22 Tw.kr Tw.kr Tw.kr Tw.om) ?_
 refine wpL_s [(g1, .cells (putR cur1 l.length exB) 26 (0, 0))] rfl rfl (st_rec (b := exB) rfl Tw.kr Tw.kr Tw.m0 Bg1 Tw.kr hr1 (by simp) (List.forall_mem_cons.2 ⟨.inl rfl, (List.forall_mem_nil _)⟩)) ?_
 have hr2 := row_put exB hr1
 refine wpL_done (fun W4 hW4 => ?_)
 change Code.wp ..
 refine wp_seq ?_
 refine wp_region_L _ hW4 ?_
 refine lm (v := .slice (some ⟨g1, 0, none⟩) (l.length + 1) (l.length + 1)) rfl rfl ?_
 refine lm (v := .slice p l.length c) rfl rfl ?_
 refine lp (v := .int .i64 ((l.length : Nat) : Int)) rfl rfl (run_lenL (p := p) (cap := c) (n := l.length) rfl Tryd.underlying22 Tw.kr) ?_
 have R0 : RL bxL w (some ⟨g1, 0, none⟩) l [(g1, .cells (putR cur1 l.length exB) 26 (0, 0))] := row_rl hr2
 refine lp (v := .slice (some ⟨g1, 0, none⟩) l.length (l.length + 1)) rfl rfl (run_slt (kd := .i64) (j := l.length) (n := (l.length + 1)) (c := (l.length + 1)) (sz := 9) rfl Tryd.underlying22 Tw.kr Tw.kr Tw.kr Tw.om) ?_
 refine lm (v := .slice (some ⟨g1, 0, none⟩) l.length (l.length + 1)) rfl rfl ?_
 refine wpL_done (fun W5 hW5 => ?_)
 change Code.wp ..
 refine wp_seq ?_
 refine wp_region_L _ hW5 ?_
 refine lm (v := .slice (some ⟨g1, 0, none⟩) l.length (l.length + 1)) rfl rfl ?_
 refine lv (v := .tuple #[.int .i64 va, .int .i64 ve]) rfl rfl (yb_call (f := 29) (args := #[.slice (some ⟨g1, 0, none⟩) l.length (l.length + 1)]) Tw.kf fun W hW => (by have h9 := Valid_any l (some ⟨g1, 0, none⟩) (l.length + 1) Tw.om W (R0 _ (hW.sub (fun p hp => by cases List.mem_singleton.1 hp; exact Tw.m0))); rw [hv] at h9; exact h9)) ?_
 refine lm (v := .tuple #[.int .i64 va, .int .i64 ve]) rfl rfl ?_
 refine lm (v := .int .i64 va) rfl rfl ?_
 refine lm (v := .int .i64 ve) rfl rfl ?_
 refine lm (v := .int .i64 va) rfl rfl ?_
 refine lm (v := .int .i64 ve) rfl rfl ?_
 refine wpL_done (fun W6 hW6 => ?_)
 change Code.wp ..
 refine wp_seq ?_
 refine wp_region_L _ hW6 ?_
 refine lm (v := .slice (some ⟨g1, 0, none⟩) l.length (l.length + 1)) rfl rfl ?_
 refine lm (v := .int .i64 id) rfl rfl ?_
 refine lv (v := .tuple #[.agg (bxL bx0).toArray, .bool false]) rfl rfl (yb_call (f := 30) (args := #[.slice (some ⟨g1, 0, none⟩) l.length (l.length + 1), .int .i64 id]) Tw.kf fun W hW => (by have h9 := Find_any l (some ⟨g1, 0, none⟩) (l.length + 1) id Tw.om W (R0 _ (hW.sub (fun p hp => by cases List.mem_singleton.1 hp; exact Tw.m0))); rw [f1] at h9; exact h9)) ?_
 refine lm (v := .tuple #[.agg (bxL bx0).toArray, .bool false]) rfl rfl ?_
 refine lm (v := .agg (bxL bx0).toArray) rfl rfl ?_
 refine lm (v := .bool false) rfl rfl ?_
 refine wpL_new (fun g => .pointer (some ⟨g, 0, none⟩)) (obi := .cells #[.int .i64 0, strV [], .int .u8 0, .bool false, .int .i64 0, .int .i64 0, .int .i64 0, .int .u8 0, .bool false] 26 (0, 0)) rfl rfl Tw.kf Tw.pf fun g2 Bg2 Fg2 => ?_
 obtain dj3_0 : g1 ≠ g2 := Tw.dkf Fg2
 refine wpL_s [(g2, .cells (bxL bx0).toArray 26 (0, 0)), (g1, .cells (putR cur1 l.length exB) 26 (0, 0))] rfl rfl (st_row (off := 0) (v := .agg (bxL bx0).toArray) rfl Tw.kr Tw.kr Tw.m0 Bg2 Tw.kr (by first | (simp [Value.cells]; done) | exact Nat.le_of_ble_eq_true rfl) (fun v hv => bxL_one bx0 v hv) Tw.kr (List.forall_mem_cons.2 ⟨.inl rfl, (List.forall_mem_cons.2 ⟨.inr ⟨Tw.m1, Tw.nee⟩, (List.forall_mem_nil _)⟩)⟩)) ?_
 refine lm (v := .bool false) rfl rfl ?_
 refine wpL_done (fun W7 hW7 => ?_)
 change Code.wp ..
 refine wp_seq ?_
 refine wp_region_L _ hW7 ?_
 refine lm (v := .slice (some ⟨g1, 0, none⟩) l.length (l.length + 1)) rfl rfl ?_
 refine lm (v := strV n) rfl rfl ?_
 refine lv (v := .tuple #[.int .i64 b2.id, .bool true]) rfl rfl (yb_call (f := 31) (args := #[.slice (some ⟨g1, 0, none⟩) l.length (l.length + 1), strV n]) Tw.kf fun W hW => (by have h9 := Numbered_any l (some ⟨g1, 0, none⟩) (l.length + 1) n Tw.om W (R0 _ (hW.sub (fun p hp => by cases List.mem_singleton.1 hp; exact Tw.m1))); rw [numbered_p, nb1] at h9; exact h9)) ?_
 refine lm (v := .tuple #[.int .i64 b2.id, .bool true]) rfl rfl ?_
 refine lm (v := .int .i64 b2.id) rfl rfl ?_
 refine lm (v := .bool true) rfl rfl ?_
 refine lm (v := .int .i64 b2.id) rfl rfl ?_
 refine lm (v := .bool true) rfl rfl ?_
 refine wpL_done (fun W8 hW8 => ?_)
 change Code.wp ..
 refine wp_seq ?_
 refine wp_region_L _ hW8 ?_
 refine lm (v := .slice (some ⟨g1, 0, none⟩) l.length (l.length + 1)) rfl rfl ?_
 refine lv (v := .agg (smL (totalX l)).toArray) rfl rfl (yb_call (f := 26) (args := #[.slice (some ⟨g1, 0, none⟩) l.length (l.length + 1)]) Tw.kf fun W hW => Total_any l (some ⟨g1, 0, none⟩) (l.length + 1) Tw.om W (R0 _ (hW.sub (fun p hp => by cases List.mem_singleton.1 hp; exact Tw.m1)))) ?_
 refine lm (v := .slice (some ⟨g1, 0, none⟩) l.length (l.length + 1)) rfl rfl ?_
 refine wpL_c (f := 27) (args := #[.slice (some ⟨g1, 0, none⟩) l.length (l.length + 1)]) (OutOL w [(g2, .cells (bxL bx0).toArray 26 (0, 0)), (g1, .cells (putR cur1 l.length exB) 26 (0, 0))] 26 9 (orderX l).length ((orderX l).flatMap bxL)) rfl Tw.kr Tw.kf (fun W hW => calls_o hW (((Order_any l (some ⟨g1, 0, none⟩) (l.length + 1) Tw.om W (R0 _ (hW.sub (fun p hp => by cases List.mem_singleton.1 hp; exact Tw.m1)))).mono fun _ _ ⟨v, h1, h2, h3⟩ => ⟨v, h1, by rw [order_len]; exact h2, h3⟩))) Tw.pf ?_
 rintro v4 _ ⟨Kl4, O4, N4, rfl⟩
 obtain ⟨dj5_0, dj5_1⟩ : Dk g2 Kl4 ∧ Dk g1 Kl4 := Tw.djf N4
 refine wpL_new (fun g => .pointer (some ⟨g, 0, none⟩)) (obi := .cells #[.int .i64 0, .int .i64 0, .int .i64 0, .int .i64 0, .int .i64 0] 47 (0, 0)) rfl rfl Tw.kf Tw.pf fun g6 Bg6 Fg6 => ?_
 obtain ⟨dj7_0, dj7_1, dj7_2⟩ : g2 ≠ g6 ∧ g1 ≠ g6 ∧ Dk g6 Kl4 := Tw.dkf Fg6
 refine wpL_s ((g6, .cells (smL (totalX l)).toArray 47 (0, 0)) :: (g2, .cells (bxL bx0).toArray 26 (0, 0)) :: (g1, .cells (putR cur1 l.length exB) 26 (0, 0)) :: Kl4) rfl rfl (st_row (off := 0) (v := .agg (smL (totalX l)).toArray) rfl Tw.kr Tw.kr Tw.m0 Bg6 Tw.kr (by first | (simp [Value.cells]; done) | exact Nat.le_of_ble_eq_true rfl) (fun v hv => smL_one (totalX l) v hv) Tw.kr (List.forall_mem_cons.2 ⟨.inl rfl, (List.forall_mem_cons.2 ⟨.inr ⟨Tw.m1, Tw.nee⟩, (List.forall_mem_cons.2 ⟨.inr ⟨Tw.m2, Tw.nee⟩, (fun p hp => .inr ⟨(.tail _ (.tail _ (.tail _ hp))), ((show Dk g6 Kl4 from Tw.djt) _ hp)⟩)⟩)⟩)⟩)) ?_
 refine lm (v := v4) rfl rfl ?_
 refine wpL_done (fun W9 hW9 => ?_)
 change Code.wp ..
 refine wp_seq ?_
 refine wp_seq ?_
 refine wp_region_L _ hW9 ?_
 refine lm (v := v4) rfl rfl ?_
 refine lp (v := .int .i64 ((((orderX l).length) : Nat) : Int)) rfl rfl (run_lenO (W0 := w) rfl Tryd.underlying22 Tw.kr O4) ?_
 refine lm (v := .int .i64 0) rfl rfl ?_
 refine wpL_done (fun W10 hW10 => ?_)
 change Code.wp ..
 refine wp_block ?_
 go_loopw [62] (fun u62 wr => ∃ (k : Nat) (m : List Bx) (Km : List (Nat × Obj)), (k ≤ (orderX l).length) ∧ (m.length = (orderX l).length) ∧ (OwnL w 26 9 v4 (orderX l).length (bcs m) Km) ∧ (Dk g6 Km) ∧ (Dk g2 Km) ∧ (Dk g1 Km) ∧ u62 = .int .i64 ((k : Nat) : Int) ∧ KS w ((g6, .cells (smL (totalX l)).toArray 47 (0, 0)) :: (g2, .cells (bxL bx0).toArray 26 (0, 0)) :: (g1, .cells (putR cur1 l.length exB) 26 (0, 0)) :: Km) wr) (fun u62 _ => (orderX l).length - (intOf u62).toNat)
 case atStart => exact ⟨0, (orderX l), Kl4, (Nat.zero_le _), rfl, O4, (show Dk g6 Kl4 from Tw.djt), (show Dk g2 Kl4 from Tw.djt), (show Dk g1 Kl4 from Tw.djt), rfl, (hW10.sub (fun p hp => by first | exact hp | (simp only [List.mem_cons, List.mem_append, List.nil_append, List.not_mem_nil, or_assoc, or_false, false_or] at hp ⊢ <;> grind)))⟩
 case round =>
   obtain ⟨k, m, Km, hk, hm, hO, dh8_0, dh8_1, dh8_2, rfl, hL11⟩ := hrel
   refine wp_seq ?_
   refine wp_region_L _ hL11 ?_
   refine lp (v := .bool (decide (k < ((orderX l).length)))) rfl rfl (run_bin rfl (vx := (.int .i64 ((k : Nat) : Int))) (vy := (.int .i64 ((((orderX l).length) : Nat) : Int))) Tw.kr Tw.kr fun w => bn_lss rfl w) ?_
   refine wpL_done (fun W12 hW12 => ?_)
   change Code.wp ..
   refine wp_seq ?_
   cases hd1 : (decide (k < ((orderX l).length))) with
   | false =>
     have h1 : ¬ (k < ((orderX l).length)) := of_decide_eq_false hd1
     clear hd1
     refine wp_cond_false rfl ?_
     refine wp_exit ?_
     change Code.wp ..
     refine wp_seq ?_
     refine wp_region_L _ hW12 ?_
     refine lm (v := .slice (some ⟨g1, 0, none⟩) l.length (l.length + 1)) rfl rfl ?_
     refine wpL_c (f := 27) (args := #[.slice (some ⟨g1, 0, none⟩) l.length (l.length + 1)]) (OutRL bxL w ((g6, .cells (smL (totalX l)).toArray 47 (0, 0)) :: (g2, .cells (bxL bx0).toArray 26 (0, 0)) :: (g1, .cells (putR cur1 l.length exB) 26 (0, 0)) :: Km) (orderX l)) rfl Tw.kr Tw.kf (fun W hW => calls_r hW (((Order_any l (some ⟨g1, 0, none⟩) (l.length + 1) Tw.om W (R0 _ (hW.sub (fun p hp => by cases List.mem_singleton.1 hp; exact Tw.m2)))).mono fun _ _ ⟨v, h1, h2, h3⟩ => ⟨v, h1, by rw [order_len]; exact h2, h3⟩))) Tw.pf ?_
     rintro _ _ ⟨p9, c9, Kl9, rfl, n9, R9, N9, rfl⟩
     obtain ⟨dj10_0, dj10_1, dj10_2, dj10_3⟩ : Dk g6 Kl9 ∧ Dk g2 Kl9 ∧ Dk g1 Kl9 ∧ Dj Km Kl9 := Tw.djf N9
     refine wpL_sub (K2 := ((g6, .cells (smL (totalX l)).toArray 47 (0, 0)) :: (g2, .cells (bxL bx0).toArray 26 (0, 0)) :: (g1, .cells (putR cur1 l.length exB) 26 (0, 0)) :: (Km ++ Kl9))) (fun p hp => by simp only [List.mem_cons, List.mem_append, or_assoc] at hp ⊢; exact hp) ?_
     refine lm (v := .slice p9 ((orderX l).length) c9) rfl rfl ?_
     refine wpL_done (fun W13 hW13 => ?_)
     change Code.wp ..
     refine wp_seq ?_
     refine wp_seq ?_
     refine wp_region_V _ Tw.kr hW13 ?_
     refine vm (i := 0) (v := .slice (some ⟨g1, 0, none⟩) l.length (l.length + 1)) rfl rfl rfl ?_
     refine vm (i := 1) (v := .slice p l.length c) rfl rfl rfl ?_
     refine vv (i := 2) (v := .bool true) rfl rfl rfl (yb_call (f := 28) (args := #[.slice (some ⟨g1, 0, none⟩) l.length (l.length + 1), .slice p l.length c]) Tw.kf fun W hW => same_is l l (some ⟨g1, 0, none⟩) p (l.length + 1) c rfl rfl Tw.om W (R0 _ (hW.sub (fun p hp => by cases List.mem_singleton.1 hp; exact Tw.m2))) ((RL.base HP.out) _ (hW.sub (fun _ h => by cases h))) rfl) ?_
     refine vm (i := 3) (v := .bool false) rfl rfl rfl ?_
     refine vm (i := 4) (v := .bool false) rfl rfl rfl ?_
     refine vm (i := 5) (v := .slice (some ⟨g1, 0, none⟩) (l.length + 1) (l.length + 1)) rfl rfl rfl ?_
     refine vm (i := 6) (v := .slice p l.length c) rfl rfl rfl ?_
     refine vp (i := 7) (v := .int .i64 ((l.length : Nat) : Int)) rfl rfl rfl (run_lenL (p := p) (cap := c) (n := l.length) rfl Tryd.underlying22 Tw.kr) ?_
     refine vp (i := 8) (v := .pointer (some ⟨g1, 0 + l.length * 9, none⟩)) rfl rfl rfl (run_idxL (j := .i64) (n := (l.length + 1)) (cap := (l.length + 1)) (b := g1) (off := 0) (k := l.length) (sz := 9) rfl Tryd.underlying22 Tw.kr Tw.kr Tw.kr Tw.om) ?_
     refine vv (i := 9) (v := .agg (bxL exB).toArray) rfl rfl rfl (yb_cells (off := 0 + l.length * 9) (cur := (putR cur1 l.length exB)) (cs := bxL exB) rfl Tw.kr Tw.m2 (row_last hr2) Tryd.underlying26 rfl Tw.kr) ?_
     refine vv (i := 10) (v := .agg (bxL exB).toArray) rfl rfl rfl (yb_call (f := 13) (args := #[]) Tw.kf fun W hW => example_any W) ?_
     refine vp (i := 11) (v := .bool false) rfl rfl rfl (run_bin rfl (vx := .agg (bxL exB).toArray) (vy := .agg (bxL exB).toArray) Tw.kr Tw.kr fun w => neq_bx (a := exB) (b := exB) (decide_eq_true rfl) w) ?_
     refine vm (i := 12) (v := .bool false) rfl rfl rfl ?_
     refine wpV_done Tw.kr (fun W14 hW14 => ?_) _
     change Code.wp ..
     refine wp_cond_false rfl ?_
     refine wp_skip ?_
     change Code.wp ..
     refine wp_seq ?_
     refine wp_region_L _ hW14 ?_
     refine lm (v := .slice p l.length c) rfl rfl ?_
     refine lv (v := .tuple #[.int .i64 va, .int .i64 ve]) rfl rfl (yb_call (f := 32) (args := #[.slice p l.length c]) Tw.kf fun W hW => (by have h9 := RValid_any l p c Tw.om W ((RL.base HP.out) _ (hW.sub (fun _ h => by cases h))); rw [hv] at h9; exact h9)) ?_
     refine lm (v := .tuple #[.int .i64 va, .int .i64 ve]) rfl rfl ?_
     refine lm (v := .int .i64 va) rfl rfl ?_
     refine lm (v := .int .i64 ve) rfl rfl ?_
     refine lm (v := .int .i64 va) rfl rfl ?_
     refine lm (v := .int .i64 ve) rfl rfl ?_
     refine wpL_done (fun W15 hW15 => ?_)
     change Code.wp ..
     refine wp_seq ?_
     refine wp_seq ?_
     refine wp_region_L _ hW15 ?_
     refine lm (v := .int .i64 va) rfl rfl ?_
     refine lm (v := .int .i64 va) rfl rfl ?_
     refine lp (v := .bool false) rfl rfl (run_bin rfl (vx := (.int .i64 va)) (vy := (.int .i64 va)) Tw.kr Tw.kr fun w => bi_neq (decide_eq_true rfl) w) ?_
     refine lm (v := .bool false) rfl rfl ?_
     refine lm (v := .int .i64 ve) rfl rfl ?_
     refine lm (v := .int .i64 ve) rfl rfl ?_
     refine lp (v := .bool false) rfl rfl (run_bin rfl (vx := (.int .i64 ve)) (vy := (.int .i64 ve)) Tw.kr Tw.kr fun w => bi_neq (decide_eq_true rfl) w) ?_
     refine lm (v := .bool false) rfl rfl ?_
     refine lm (v := .bool false) rfl rfl ?_
     refine lm (v := .slice p9 ((orderX l).length) c9) rfl rfl ?_
     refine lm (v := .slice p l.length c) rfl rfl ?_
     refine wpL_c (f := 33) (args := #[.slice p l.length c]) (OutRL bxL w ((g6, .cells (smL (totalX l)).toArray 47 (0, 0)) :: (g2, .cells (bxL bx0).toArray 26 (0, 0)) :: (g1, .cells (putR cur1 l.length exB) 26 (0, 0)) :: (Km ++ Kl9)) (orderX l)) rfl Tw.kr Tw.kf (fun W hW => calls_r hW (((ROrder_any l p c Tw.om W ((RL.base HP.out) _ (hW.sub (fun _ h => by cases h)))).mono fun _ _ ⟨v, h1, h2, h3⟩ => ⟨v, h1, by rw [order_len]; exact h2, h3⟩))) Tw.pf ?_
     rintro _ _ ⟨p11, c11, Kl11, rfl, n11, R11, N11, rfl⟩
     obtain ⟨dj12_0, dj12_1, dj12_2, dj12_3, dj12_4⟩ : Dk g6 Kl11 ∧ Dk g2 Kl11 ∧ Dk g1 Kl11 ∧ Dj Km Kl11 ∧ Dj Kl9 Kl11 := Tw.djf N11
     refine wpL_sub (K2 := ((g6, .cells (smL (totalX l)).toArray 47 (0, 0)) :: (g2, .cells (bxL bx0).toArray 26 (0, 0)) :: (g1, .cells (putR cur1 l.length exB) 26 (0, 0)) :: (Km ++ (Kl9 ++ Kl11)))) (fun p hp => by simp only [List.mem_cons, List.mem_append, or_assoc] at hp ⊢; exact hp) ?_
     refine lv (v := .bool true) rfl rfl (yb_call (f := 28) (args := #[.slice p9 ((orderX l).length) c9, .slice p11 ((orderX l).length) c11]) Tw.kf fun W hW => same_is (orderX l) (orderX l) p9 p11 c9 c11 rfl rfl Tw.om W (R9 _ (hW.sub (fun p hp => by simp only [List.mem_cons, List.mem_append, List.nil_append, List.not_mem_nil, or_assoc, or_false, false_or, hp, true_or, or_true]))) (R11 _ (hW.sub (fun p hp => by simp only [List.mem_cons, List.mem_append, List.nil_append, List.not_mem_nil, or_assoc, or_false, false_or, hp, true_or, or_true]))) rfl) ?_
     refine lm (v := .bool false) rfl rfl ?_
     refine lm (v := .bool false) rfl rfl ?_
     refine wpL_done (fun W16 hW16 => ?_)
     change Code.wp ..
     refine wp_cond_false rfl ?_
     refine wp_skip ?_
     change Code.wp ..
     refine wp_seq ?_
     refine wp_region_L _ hW16 ?_
     refine lm (v := .slice p l.length c) rfl rfl ?_
     refine lv (v := .agg (smL (totalX l)).toArray) rfl rfl (yb_call (f := 34) (args := #[.slice p l.length c]) Tw.kf fun W hW => RTotal_any l p c Tw.om W ((RL.base HP.out) _ (hW.sub (fun _ h => by cases h)))) ?_
     refine wpL_new (fun g => .pointer (some ⟨g, 0, none⟩)) (obi := .cells #[.int .i64 0, .int .i64 0, .int .i64 0, .int .i64 0, .int .i64 0] 66 (0, 0)) rfl rfl Tw.kf Tw.pf fun g13 Bg13 Fg13 => ?_
     obtain ⟨dj14_0, dj14_1, dj14_2, dj14_3, dj14_4, dj14_5⟩ : g6 ≠ g13 ∧ g2 ≠ g13 ∧ g1 ≠ g13 ∧ Dk g13 Km ∧ Dk g13 Kl9 ∧ Dk g13 Kl11 := Tw.dkf Fg13
     refine wpL_s ((g13, .cells (smL (totalX l)).toArray 66 (0, 0)) :: (g6, .cells (smL (totalX l)).toArray 47 (0, 0)) :: (g2, .cells (bxL bx0).toArray 26 (0, 0)) :: (g1, .cells (putR cur1 l.length exB) 26 (0, 0)) :: (Km ++ (Kl9 ++ Kl11))) rfl rfl (st_row (off := 0) (v := .agg (smL (totalX l)).toArray) rfl Tw.kr Tw.kr Tw.m0 Bg13 Tw.kr (by first | (simp [Value.cells]; done) | exact Nat.le_of_ble_eq_true rfl) (fun v hv => smL_one (totalX l) v hv) Tw.kr (List.forall_mem_cons.2 ⟨.inl rfl, (List.forall_mem_cons.2 ⟨.inr ⟨Tw.m1, Tw.nee⟩, (List.forall_mem_cons.2 ⟨.inr ⟨Tw.m2, Tw.nee⟩, (List.forall_mem_cons.2 ⟨.inr ⟨Tw.m3, Tw.nee⟩, (fun p hp => .inr ⟨(.tail _ (.tail _ (.tail _ (.tail _ hp)))), ((show Dk g13 (Km ++ (Kl9 ++ Kl11)) from Tw.djt) _ hp)⟩)⟩)⟩)⟩)⟩)) ?_
     refine wpL_done (fun W17 hW17 => ?_)
     change Code.wp ..
     refine wp_seq ?_
     refine wp_seq ?_
     refine wp_region_L _ hW17 ?_
     refine lv (v := .agg (smL (totalX l)).toArray) rfl rfl (yb_load (n := 5) (off := 0) rfl Tw.kr Tw.m1 Tryd.underlying47 rfl Tw.kr (by first | (simp [Value.cells]; done) | exact Nat.le_of_ble_eq_true rfl) Tw.kr) ?_
     refine lm (v := .pointer (some ⟨g13, 0, none⟩)) rfl rfl ?_
     refine lv (v := .int .i64 ((((totalX l).n) : Nat) : Int)) rfl rfl (yb_cell (off := 0) rfl Tw.kr Tw.m0 Tryd.underlying3 rfl Tw.kr) ?_
     refine lm (v := .pointer (some ⟨g13, 1, none⟩)) rfl rfl ?_
     refine lv (v := .int .i64 ((((totalX l).h) : Nat) : Int)) rfl rfl (yb_cell (off := 1) rfl Tw.kr Tw.m0 Tryd.underlying3 rfl Tw.kr) ?_
     refine lm (v := .pointer (some ⟨g13, 2, none⟩)) rfl rfl ?_
     refine lv (v := .int .i64 ((totalX l).k)) rfl rfl (yb_cell (off := 2) rfl Tw.kr Tw.m0 Tryd.underlying3 rfl Tw.kr) ?_
     refine lm (v := .pointer (some ⟨g13, 3, none⟩)) rfl rfl ?_
     refine lv (v := .int .i64 ((((totalX l).r) : Nat) : Int)) rfl rfl (yb_cell (off := 3) rfl Tw.kr Tw.m0 Tryd.underlying3 rfl Tw.kr) ?_
     refine lm (v := .pointer (some ⟨g13, 4, none⟩)) rfl rfl ?_
     refine lv (v := .int .i64 ((((totalX l).d) : Nat) : Int)) rfl rfl (yb_cell (off := 4) rfl Tw.kr Tw.m0 Tryd.underlying3 rfl Tw.kr) ?_
     refine lm (v := .agg (smL (totalX l)).toArray) rfl rfl ?_
     refine lp (v := .bool false) rfl rfl (run_bin rfl (vx := .agg (smL (totalX l)).toArray) (vy := .agg (smL (totalX l)).toArray) Tw.kr Tw.kr fun w => neq_smL w) ?_
     refine wpL_done (fun W18 hW18 => ?_)
     change Code.wp ..
     refine wp_cond_false rfl ?_
     refine wp_skip ?_
     change Code.wp ..
     refine wp_seq ?_
     refine wp_region_L _ hW18 ?_
     refine lm (v := .slice p l.length c) rfl rfl ?_
     refine lm (v := .int .i64 id) rfl rfl ?_
     refine lv (v := .int .i64 (-1)) rfl rfl (yb_call (f := 35) (args := #[.slice p l.length c, .int .i64 id]) Tw.kf fun W hW => (by have h9 := RFind_any l p c id Tw.om W ((RL.base HP.out) _ (hW.sub (fun _ h => by cases h))); rw [f2] at h9; exact h9)) ?_
     refine lm (v := .slice p l.length c) rfl rfl ?_
     refine lm (v := strV n) rfl rfl ?_
     refine lv (v := .int .i64 ((j2 : Nat) : Int)) rfl rfl (yb_call (f := 36) (args := #[.slice p l.length c, strV n]) Tw.kf fun W hW => (by have h9 := RNumbered_any l p c n Tw.om W ((RL.base HP.out) _ (hW.sub (fun _ h => by cases h))); rw [nb2] at h9; exact h9)) ?_
     refine lm (v := .int .i64 (-1)) rfl rfl ?_
     refine lm (v := .int .i64 ((j2 : Nat) : Int)) rfl rfl ?_
     refine wpL_done (fun W19 hW19 => ?_)
     change Code.wp ..
     refine wp_seq ?_
     refine wp_seq ?_
     refine wp_region_V _ Tw.kr hW19 ?_
     refine vm (i := 0) (v := .bool false) rfl rfl rfl ?_
     refine vm (i := 1) (v := .int .i64 (-1)) rfl rfl rfl ?_
     refine vm (i := 2) (v := .bool false) rfl rfl rfl ?_
     refine vp (i := 3) (v := .bool false) rfl rfl rfl (run_bin rfl (vx := .bool false) (vy := .bool false) Tw.kr Tw.kr fun w => bn_bool_neq rfl Tryd.underlying4 w) ?_
     refine vm (i := 4) (v := .bool false) rfl rfl rfl ?_
     refine vm (i := 5) (v := .int .i64 (-1)) rfl rfl rfl ?_
     refine vm (i := 6) (v := .bool false) rfl rfl rfl ?_
     refine vm (i := 7) (v := .bool false) rfl rfl rfl ?_
     refine vn (i := 8) rfl rfl ?_
     refine vn (i := 9) rfl rfl ?_
     refine vn (i := 10) rfl rfl ?_
     refine vn (i := 11) rfl rfl ?_
     refine vn (i := 12) rfl rfl ?_
     refine vn (i := 13) rfl rfl ?_
     refine vm (i := 14) (v := .bool false) rfl rfl rfl ?_
     refine vm (i := 15) (v := .bool false) rfl rfl rfl ?_
     refine vm (i := 16) (v := .bool false) rfl rfl rfl ?_
     refine vm (i := 17) (v := .int .i64 (-1)) rfl rfl rfl ?_
     refine vm (i := 18) (v := .bool true) rfl rfl rfl ?_
     refine vm (i := 19) (v := .bool true) rfl rfl rfl ?_
     refine vv (i := 20) (v := .agg (bxL bx0).toArray) rfl rfl rfl (yb_load (n := 9) (off := 0) rfl Tw.kr Tw.m2 Tryd.underlying26 rfl Tw.kr (by first | (simp [Value.cells]; done) | exact Nat.le_of_ble_eq_true rfl) Tw.kr) ?_
     refine vm (i := 21) (v := .agg #[.int .i64 0, strV [], .int .u8 0, .bool false, .int .i64 0, .int .i64 0, .int .i64 0, .int .u8 0, .bool false]) rfl rfl rfl ?_
     refine vp (i := 22) (v := .bool false) rfl rfl rfl (run_bin rfl (vx := .agg (bxL bx0).toArray) (vy := .agg (bxL bx0).toArray) Tw.kr Tw.kr fun w => neq_bx (a := bx0) (b := bx0) (decide_eq_true rfl) w) ?_
     refine vm (i := 23) (v := .bool false) rfl rfl rfl ?_
     refine vm (i := 24) (v := .bool false) rfl rfl rfl ?_
     refine wpV_done Tw.kr (fun W20 hW20 => ?_) _
     change Code.wp ..
     refine wp_cond_false rfl ?_
     refine wp_skip ?_
     change Code.wp ..
     refine wp_seq ?_
     refine wp_region_L _ hW20 ?_
     refine lm (v := .bool true) rfl rfl ?_
     refine lm (v := .int .i64 ((j2 : Nat) : Int)) rfl rfl ?_
     refine lp (v := .bool true) rfl rfl (run_bin rfl (vx := (.int .i64 ((j2 : Nat) : Int))) (vy := (.int .i64 ((0 : Nat) : Int))) Tw.kr Tw.kr fun w => bn_geq (decide_eq_false (Nat.not_lt_zero _)) w) ?_
     refine lp (v := .bool true) rfl rfl (run_bin rfl (vx := .bool true) (vy := .bool true) Tw.kr Tw.kr fun w => bn_bool_eql rfl Tryd.underlying4 w) ?_
     refine lm (v := .bool true) rfl rfl ?_
     refine lm (v := .int .i64 ((j2 : Nat) : Int)) rfl rfl ?_
     refine lp (v := .bool true) rfl rfl (run_bin rfl (vx := (.int .i64 ((j2 : Nat) : Int))) (vy := (.int .i64 ((0 : Nat) : Int))) Tw.kr Tw.kr fun w => bn_geq (decide_eq_false (Nat.not_lt_zero _)) w) ?_
     refine lm (v := .bool true) rfl rfl ?_
     refine lm (v := .int .i64 b2.id) rfl rfl ?_
     refine lm (v := .slice p l.length c) rfl rfl ?_
     refine lm (v := .int .i64 ((j2 : Nat) : Int)) rfl rfl ?_
     obtain ⟨y15, g15_, f15_, hy15, hp15, hc15⟩ := RL.at (RL.base HP.out) bxL_len (by decide) (hW20.sub (fun _ h => by cases h)) (k := j2) Tw.om
     have ey15 : b2 = y15 := by rw [nb3] at hy15; exact Option.some.inj hy15
     subst ey15
     refine lp (v := .pointer (some ⟨g15_, f15_ + j2 * 9, none⟩)) rfl rfl (run_idxQ (p := p) (cap := c) (n := l.length) (j := .i64) (k := j2) (sz := 9) rfl Tryd.underlying22 Tw.kr Tw.kr hp15 Tw.kr Tw.om) ?_
     refine lm (v := .pointer (some ⟨g15_, f15_ + j2 * 9, none⟩)) rfl rfl ?_
     refine lv (v := .int .i64 b2.id) rfl rfl (yb_rf (v := .int .i64 b2.id) rfl Tw.kr (fun W hW => hc15 W (hW.sub (fun _ h => by cases h)) 0 _ rfl) Tryd.underlying3 rfl) ?_
     refine lp (v := .bool true) rfl rfl (run_bin rfl (vx := (.int .i64 b2.id)) (vy := (.int .i64 b2.id)) Tw.kr Tw.kr fun w => bi_eql (decide_eq_true rfl) w) ?_
     refine lm (v := .bool true) rfl rfl ?_
     refine lm (v := .bool true) rfl rfl ?_
     refine ln rfl ?_
     refine ln rfl ?_
     refine ln rfl ?_
     refine ln rfl ?_
     refine ln rfl ?_
     refine ln rfl ?_
     refine lm (v := .bool true) rfl rfl ?_
     refine lm (v := .bool true) rfl rfl ?_
     refine lm (v := .bool true) rfl rfl ?_
     refine wpL_done (fun W21 hW21 => ?_)
     change Code.wp ..
     refine wp_ret ?_
     try simp only [inBlock_ret, then_ret]
     refine bodyPost_ret (v := .bool true) ?_ rfl ?_
     · kernel_rfl
     · exact ⟨rfl, hW21.1⟩
   | true =>
     have h1 : k < ((orderX l).length) := of_decide_eq_true hd1
     clear hd1
     refine wp_cond_true rfl ?_
     refine wp_skip ?_
     change Code.wp ..
     refine wp_seq ?_
     refine wp_block ?_
     refine wp_seq ?_
     refine wp_region_L _ hW12 ?_
     refine lm (v := .int .i64 ((k : Nat) : Int)) rfl rfl ?_
     refine lm (v := .int .i64 ((k : Nat) : Int)) rfl rfl ?_
     refine wpL_done (fun W22 hW22 => ?_)
     change Code.wp ..
     obtain ⟨g9, cap9, cur9, rfl, hB9, hR9, hr9, rfl⟩ := own_blk hO Tw.om
     obtain ⟨bq, hbq⟩ : ∃ y, m[k]? = some y := ⟨_, List.getElem?_eq_getElem Tw.om⟩
     have hcap9 := hR9.2.2.1
     have gng6 : g9 ≠ g6 := by simpa only [dk_cons, dk_nil, and_true] using (show Dk g6 [(g9, .cells cur9 26 (0, 0))] from by assumption)
     have gng2 : g9 ≠ g2 := by simpa only [dk_cons, dk_nil, and_true] using (show Dk g2 [(g9, .cells cur9 26 (0, 0))] from by assumption)
     have gng1 : g9 ≠ g1 := by simpa only [dk_cons, dk_nil, and_true] using (show Dk g1 [(g9, .cells cur9 26 (0, 0))] from by assumption)
     refine wp_region_L _ hW22 ?_
     refine lm (v := .slice (some ⟨g9, 0, none⟩) (orderX l).length cap9) rfl rfl ?_
     refine lm (v := .int .i64 ((k : Nat) : Int)) rfl rfl ?_
     refine lp (v := .pointer (some ⟨g9, 0 + k * 9, none⟩)) rfl rfl (run_idxL (j := .i64) (n := (orderX l).length) (cap := cap9) (b := g9) (off := 0) (k := k) (sz := 9) rfl Tryd.underlying22 Tw.kr Tw.kr Tw.kr Tw.om) ?_
     refine lm (v := .pointer (some ⟨g9, 0 + k * 9 + 4, none⟩)) rfl rfl ?_
     refine lv (v := .int .i64 bq.kilos) rfl rfl (yb_cell (off := 0 + k * 9 + 4) (v := .int .i64 bq.kilos) rfl Tw.kr Tw.m3 Tryd.underlying3 rfl (RowR.get hr9 bxL_len hbq 4 _ rfl)) ?_
     refine lp (v := .int .i64 (IntKind.i64.wrap (bq.kilos + 1))) rfl rfl (run_bin rfl (vx := .int .i64 bq.kilos) (vy := .int .i64 1) Tw.kr Tw.kr fun w => bw_add (z := (IntKind.i64.wrap (bq.kilos + 1))) rfl w) ?_
     refine lp (v := .pointer (some ⟨g9, 0 + k * 9, none⟩)) rfl rfl (run_idxL (j := .i64) (n := (orderX l).length) (cap := cap9) (b := g9) (off := 0) (k := k) (sz := 9) rfl Tryd.underlying22 Tw.kr Tw.kr Tw.kr Tw.om) ?_
     refine lm (v := .pointer (some ⟨g9, 0 + k * 9 + 4, none⟩)) rfl rfl ?_
     refine wpL_s [(g6, .cells (smL (totalX l)).toArray 47 (0, 0)), (g2, .cells (bxL bx0).toArray 26 (0, 0)), (g1, .cells (putR cur1 l.length exB) 26 (0, 0)), (g9, .cells (cur9.setIfInBounds (0 + k * 9 + 4) (.int .i64 (IntKind.i64.wrap (bq.kilos + 1)))) 26 (0, 0))] rfl rfl (st_at (off := 0 + k * 9 + 4) (v := .int .i64 (IntKind.i64.wrap (bq.kilos + 1))) rfl Tw.kr Tw.kr Tw.m3 hB9 Tw.kr rfl rfl (by rw [hR9.1]; have h9 := hR9.2.2.1; omega) (.inr rfl) (List.forall_mem_cons.2 ⟨.inr ⟨Tw.m0, Tw.nee⟩, (List.forall_mem_cons.2 ⟨.inr ⟨Tw.m1, Tw.nee⟩, (List.forall_mem_cons.2 ⟨.inr ⟨Tw.m2, Tw.nee⟩, (List.forall_mem_cons.2 ⟨.inl rfl, (List.forall_mem_nil _)⟩)⟩)⟩)⟩)) ?_
     refine wpL_done (fun W23 hW23 => ?_)
     change Code.wp ..
     refine wp_region_L _ hW23 ?_
     refine lp (v := .int .i64 (((k + 1) : Nat) : Int)) rfl rfl (run_bin rfl (vx := (.int .i64 ((k : Nat) : Int))) (vy := (.int .i64 ((1 : Nat) : Int))) Tw.kr Tw.kr fun w => bn_add (z := (k + 1)) rfl (wr_i64 Tw.om) w) ?_
     refine lm (v := .int .i64 (((k + 1) : Nat) : Int)) rfl rfl ?_
     refine wpL_done (fun W24 hW24 => ?_)
     go_roundw
     case rel =>
       repeat apply Exists.intro
       exact ⟨⟨k + 1, (m.set k { bq with kilos := (IntKind.i64.wrap (bq.kilos + 1)) }), [(g9, .cells (cur9.setIfInBounds (0 + k * 9 + 4) (.int .i64 (IntKind.i64.wrap (bq.kilos + 1)))) 26 (0, 0))], Tw.om, (by rw [List.length_set]; omega), (blk_own hB9 hR9 hbq rfl), (show Dk g6 [(g9, .cells (cur9.setIfInBounds (0 + k * 9 + 4) (.int .i64 (IntKind.i64.wrap (bq.kilos + 1)))) 26 (0, 0))] from Tw.djt), (show Dk g2 [(g9, .cells (cur9.setIfInBounds (0 + k * 9 + 4) (.int .i64 (IntKind.i64.wrap (bq.kilos + 1)))) 26 (0, 0))] from Tw.djt), (show Dk g1 [(g9, .cells (cur9.setIfInBounds (0 + k * 9 + 4) (.int .i64 (IntKind.i64.wrap (bq.kilos + 1)))) 26 (0, 0))] from Tw.djt), rfl, (hW24.sub (fun p hp => by first | exact hp | (simp only [List.mem_cons, List.mem_append, List.nil_append, List.not_mem_nil, or_assoc, or_false, false_or] at hp ⊢ <;> grind)))⟩, rfl⟩
     case measure => (show (orderX l).length - (intOf (.int .i64 (((k + 1) : Nat) : Int))).toNat < (orderX l).length - (intOf (.int .i64 ((k : Nat) : Int))).toNat); simp only [intOf]; omega
set_option maxRecDepth 100000 in
set_option maxHeartbeats 4000000 in
theorem lists_10 (l : List Bx) (p : Option Addr) (c : Nat) (id : Int) (n : List UInt8) (hl : l.length ≤ 300) (b1 : Bx) (j1 : Nat) (f1 : findX l id = some b1) (f2 : idxFrom (idIs id) 0 l = ((j1 : Nat) : Int)) (f3 : l[j1]? = some b1) (nb1 : l.find? (numP n) = none) (nb2 : idxFrom (numP n) 0 l = -1) (w : World) (hp : SLV w p (bcs l)) : Calls Tryd.prog 11 #[.slice p l.length c, .int .i64 id, strV n] w fun e w' => e = .returned (.bool true) ∧ Below w.heap.size w w' := by
 have HP := Lib.hid hp
 clear hp
 obtain ⟨va, ve, hv, hv0, hv1⟩ := valid_two l
 have hol : (orderX l).length = l.length := order_len l
 have hj1 : j1 < l.length := (List.getElem?_eq_some_iff.1 f3).1
 go_enter Tryd.func11, Tryd.ntmps11
 refine wp_seq ?_
 refine wp_region_L [] (KS.start w) ?_
 refine lm (v := .bool false) rfl rfl ?_
 refine wpL_done (fun W1 hW1 => ?_)
 change Code.wp ..
 refine wp_seq ?_
 refine wp_region_L _ hW1 ?_
 refine lm (v := .slice p l.length c) rfl rfl ?_
 refine lp (v := .int .i64 ((l.length : Nat) : Int)) rfl rfl (run_lenL (p := p) (cap := c) (n := l.length) rfl Tryd.underlying22 Tw.kr) ?_
 refine lp (v := .int .i64 (((l.length + 1) : Nat) : Int)) rfl rfl (run_bin rfl (vx := (.int .i64 ((l.length : Nat) : Int))) (vy := (.int .i64 ((1 : Nat) : Int))) Tw.kr Tw.kr fun w => bn_add (z := (l.length + 1)) rfl (wr_i64 Tw.om) w) ?_
 refine wpL_new (fun g => .slice (some ⟨g, 0, none⟩) (l.length + 1) (l.length + 1)) (obi := .cells (bcs (List.replicate (l.length + 1) bx0)).toArray 26 (0, 0)) rfl rfl (run_mkb (n := (l.length + 1)) (b := 64) rfl Tryd.underlying22 Tw.kr (by decide) Tw.kr Tw.kr Tw.om) Tw.pf fun g1 Bg1 Fg1 => ?_
 refine lm (v := .slice (some ⟨g1, 0, none⟩) (l.length + 1) (l.length + 1)) rfl rfl ?_
 refine wpL_done (fun W2 hW2 => ?_)
 change Code.wp ..
 refine wp_seq ?_
 refine wp_region_L _ hW2 ?_
 refine lm (v := .slice (some ⟨g1, 0, none⟩) (l.length + 1) (l.length + 1)) rfl rfl ?_
 refine lm (v := .slice p l.length c) rfl rfl ?_
 refine wpL_g (CopyB 26 g1 [] (l ++ (List.replicate (l.length + 1) bx0).drop l.length) l.length) rfl rfl (copy_all (m := l.length + 1) (dc := l.length + 1) (p := p) (sc := c) (r := List.replicate (l.length + 1) bx0) rfl Tryd.underlying22 Tw.kr Tw.kr Tw.kr Tw.m0 Bg1 (row_lit _) (by simp) Tw.om (fun W hW => ((RL.base HP.out) _ (hW.sub (fun _ h => by cases h)))) (fun _ h => by cases h)) Tw.pf ?_
 rintro _ _ ⟨rfl, cur1, hr1, rfl⟩
 rw [rep_last] at hr1
 refine wpL_done (fun W3 hW3 => ?_)
 change Code.wp ..
 refine wp_seq ?_
 refine wp_region_L _ hW3 ?_
 refine lm (v := .slice (some ⟨g1, 0, none⟩) (l.length + 1) (l.length + 1)) rfl rfl ?_
 refine lm (v := .slice p l.length c) rfl rfl ?_
 refine lp (v := .int .i64 ((l.length : Nat) : Int)) rfl rfl (run_lenL (p := p) (cap := c) (n := l.length) rfl Tryd.underlying22 Tw.kr) ?_
 refine lv (v := .agg (bxL exB).toArray) rfl rfl (yb_call (f := 13) (args := #[]) Tw.kf fun W hW => example_any W) ?_
 refine lp (v := .pointer (some ⟨g1, 0 + l.length * 9, none⟩)) rfl rfl (run_idxL (j := .i64) (n := (l.length + 1)) (cap := (l.length + 1)) (b := g1) (off := 0) (k := l.length) (sz := 9) rfl Tryd.underlying22 Tw.kr Tw.kr Tw.kr Tw.om) ?_
 refine wpL_s [(g1, .cells (putR cur1 l.length exB) 26 (0, 0))] rfl rfl (st_rec (b := exB) rfl Tw.kr Tw.kr Tw.m0 Bg1 Tw.kr hr1 (by simp) (List.forall_mem_cons.2 ⟨.inl rfl, (List.forall_mem_nil _)⟩)) ?_
 have hr2 := row_put exB hr1
 refine wpL_done (fun W4 hW4 => ?_)
 change Code.wp ..
 refine wp_seq ?_
 refine wp_region_L _ hW4 ?_
 refine lm (v := .slice (some ⟨g1, 0, none⟩) (l.length + 1) (l.length + 1)) rfl rfl ?_
 refine lm (v := .slice p l.length c) rfl rfl ?_
 refine lp (v := .int .i64 ((l.length : Nat) : Int)) rfl rfl (run_lenL (p := p) (cap := c) (n := l.length) rfl Tryd.underlying22 Tw.kr) ?_
 have R0 : RL bxL w (some ⟨g1, 0, none⟩) l [(g1, .cells (putR cur1 l.length exB) 26 (0, 0))] := row_rl hr2
 refine lp (v := .slice (some ⟨g1, 0, none⟩) l.length (l.length + 1)) rfl rfl (run_slt (kd := .i64) (j := l.length) (n := (l.length + 1)) (c := (l.length + 1)) (sz := 9) rfl Tryd.underlying22 Tw.kr Tw.kr Tw.kr Tw.om) ?_
 refine lm (v := .slice (some ⟨g1, 0, none⟩) l.length (l.length + 1)) rfl rfl ?_
 refine wpL_done (fun W5 hW5 => ?_)
 change Code.wp ..
 refine wp_seq ?_
 refine wp_region_L _ hW5 ?_
 refine lm (v := .slice (some ⟨g1, 0, none⟩) l.length (l.length + 1)) rfl rfl ?_
 refine lv (v := .tuple #[.int .i64 va, .int .i64 ve]) rfl rfl (yb_call (f := 29) (args := #[.slice (some ⟨g1, 0, none⟩) l.length (l.length + 1)]) Tw.kf fun W hW => (by have h9 := Valid_any l (some ⟨g1, 0, none⟩) (l.length + 1) Tw.om W (R0 _ (hW.sub (fun p hp => by cases List.mem_singleton.1 hp; exact Tw.m0))); rw [hv] at h9; exact h9)) ?_
 refine lm (v := .tuple #[.int .i64 va, .int .i64 ve]) rfl rfl ?_
 refine lm (v := .int .i64 va) rfl rfl ?_
 refine lm (v := .int .i64 ve) rfl rfl ?_
 refine lm (v := .int .i64 va) rfl rfl ?_
 refine lm (v := .int .i64 ve) rfl rfl ?_
 refine wpL_done (fun W6 hW6 => ?_)
 change Code.wp ..
 refine wp_seq ?_
 refine wp_region_L _ hW6 ?_
 refine lm (v := .slice (some ⟨g1, 0, none⟩) l.length (l.length + 1)) rfl rfl ?_
 refine lm (v := .int .i64 id) rfl rfl ?_
 refine lv (v := .tuple #[.agg (bxL b1).toArray, .bool true]) rfl rfl (yb_call (f := 30) (args := #[.slice (some ⟨g1, 0, none⟩) l.length (l.length + 1), .int .i64 id]) Tw.kf fun W hW => (by have h9 := Find_any l (some ⟨g1, 0, none⟩) (l.length + 1) id Tw.om W (R0 _ (hW.sub (fun p hp => by cases List.mem_singleton.1 hp; exact Tw.m0))); rw [f1] at h9; exact h9)) ?_
 refine lm (v := .tuple #[.agg (bxL b1).toArray, .bool true]) rfl rfl ?_
 refine lm (v := .agg (bxL b1).toArray) rfl rfl ?_
 refine lm (v := .bool true) rfl rfl ?_
 refine wpL_new (fun g => .pointer (some ⟨g, 0, none⟩)) (obi := .cells #[.int .i64 0, strV [], .int .u8 0, .bool false, .int .i64 0, .int .i64 0, .int .i64 0, .int .u8 0, .bool false] 26 (0, 0)) rfl rfl Tw.kf Tw.pf fun g2 Bg2 Fg2 => ?_
 obtain dj3_0 : g1 ≠ g2 := Tw.dkf Fg2
 refine wpL_s [(g2, .cells (bxL b1).toArray 26 (0, 0)), (g1, .cells (putR cur1 l.length exB) 26 (0, 0))] rfl rfl (st_row (off := 0) (v := .agg (bxL b1).toArray) rfl Tw.kr Tw.kr Tw.m0 Bg2 Tw.kr (by first | (simp [Value.cells]; done) | exact Nat.le_of_ble_eq_true rfl) (fun v hv => bxL_one b1 v hv) Tw.kr (List.forall_mem_cons.2 ⟨.inl rfl, (List.forall_mem_cons.2 ⟨.inr ⟨Tw.m1, Tw.nee⟩, (List.forall_mem_nil _)⟩)⟩)) ?_
 refine lm (v := .bool true) rfl rfl ?_
 refine wpL_done (fun W7 hW7 => ?_)
 change Code.wp ..
 refine wp_seq ?_
 refine wp_region_L _ hW7 ?_
 refine lm (v := .slice (some ⟨g1, 0, none⟩) l.length (l.length + 1)) rfl rfl ?_
 refine lm (v := strV n) rfl rfl ?_
 refine lv (v := .tuple #[.int .i64 0, .bool false]) rfl rfl (yb_call (f := 31) (args := #[.slice (some ⟨g1, 0, none⟩) l.length (l.length + 1), strV n]) Tw.kf fun W hW => (by have h9 := Numbered_any l (some ⟨g1, 0, none⟩) (l.length + 1) n Tw.om W (R0 _ (hW.sub (fun p hp => by cases List.mem_singleton.1 hp; exact Tw.m1))); rw [numbered_p, nb1] at h9; exact h9)) ?_
 refine lm (v := .tuple #[.int .i64 0, .bool false]) rfl rfl ?_
 refine lm (v := .int .i64 0) rfl rfl ?_
 refine lm (v := .bool false) rfl rfl ?_
 refine lm (v := .int .i64 0) rfl rfl ?_
 refine lm (v := .bool false) rfl rfl ?_
 refine wpL_done (fun W8 hW8 => ?_)
 change Code.wp ..
 refine wp_seq ?_
 refine wp_region_L _ hW8 ?_
 refine lm (v := .slice (some ⟨g1, 0, none⟩) l.length (l.length + 1)) rfl rfl ?_
 refine lv (v := .agg (smL (totalX l)).toArray) rfl rfl (yb_call (f := 26) (args := #[.slice (some ⟨g1, 0, none⟩) l.length (l.length + 1)]) Tw.kf fun W hW => Total_any l (some ⟨g1, 0, none⟩) (l.length + 1) Tw.om W (R0 _ (hW.sub (fun p hp => by cases List.mem_singleton.1 hp; exact Tw.m1)))) ?_
 refine lm (v := .slice (some ⟨g1, 0, none⟩) l.length (l.length + 1)) rfl rfl ?_
 refine wpL_c (f := 27) (args := #[.slice (some ⟨g1, 0, none⟩) l.length (l.length + 1)]) (OutOL w [(g2, .cells (bxL b1).toArray 26 (0, 0)), (g1, .cells (putR cur1 l.length exB) 26 (0, 0))] 26 9 (orderX l).length ((orderX l).flatMap bxL)) rfl Tw.kr Tw.kf (fun W hW => calls_o hW (((Order_any l (some ⟨g1, 0, none⟩) (l.length + 1) Tw.om W (R0 _ (hW.sub (fun p hp => by cases List.mem_singleton.1 hp; exact Tw.m1)))).mono fun _ _ ⟨v, h1, h2, h3⟩ => ⟨v, h1, by rw [order_len]; exact h2, h3⟩))) Tw.pf ?_
 rintro v4 _ ⟨Kl4, O4, N4, rfl⟩
 obtain ⟨dj5_0, dj5_1⟩ : Dk g2 Kl4 ∧ Dk g1 Kl4 := Tw.djf N4
 refine wpL_new (fun g => .pointer (some ⟨g, 0, none⟩)) (obi := .cells #[.int .i64 0, .int .i64 0, .int .i64 0, .int .i64 0, .int .i64 0] 47 (0, 0)) rfl rfl Tw.kf Tw.pf fun g6 Bg6 Fg6 => ?_
 obtain ⟨dj7_0, dj7_1, dj7_2⟩ : g2 ≠ g6 ∧ g1 ≠ g6 ∧ Dk g6 Kl4 := Tw.dkf Fg6
 refine wpL_s ((g6, .cells (smL (totalX l)).toArray 47 (0, 0)) :: (g2, .cells (bxL b1).toArray 26 (0, 0)) :: (g1, .cells (putR cur1 l.length exB) 26 (0, 0)) :: Kl4) rfl rfl (st_row (off := 0) (v := .agg (smL (totalX l)).toArray) rfl Tw.kr Tw.kr Tw.m0 Bg6 Tw.kr (by first | (simp [Value.cells]; done) | exact Nat.le_of_ble_eq_true rfl) (fun v hv => smL_one (totalX l) v hv) Tw.kr (List.forall_mem_cons.2 ⟨.inl rfl, (List.forall_mem_cons.2 ⟨.inr ⟨Tw.m1, Tw.nee⟩, (List.forall_mem_cons.2 ⟨.inr ⟨Tw.m2, Tw.nee⟩, (fun p hp => .inr ⟨(.tail _ (.tail _ (.tail _ hp))), ((show Dk g6 Kl4 from Tw.djt) _ hp)⟩)⟩)⟩)⟩)) ?_
 refine lm (v := v4) rfl rfl ?_
 refine wpL_done (fun W9 hW9 => ?_)
 change Code.wp ..
 refine wp_seq ?_
 refine wp_seq ?_
 refine wp_region_L _ hW9 ?_
 refine lm (v := v4) rfl rfl ?_
 refine lp (v := .int .i64 ((((orderX l).length) : Nat) : Int)) rfl rfl (run_lenO (W0 := w) rfl Tryd.underlying22 Tw.kr O4) ?_
 refine lm (v := .int .i64 0) rfl rfl ?_
 refine wpL_done (fun W10 hW10 => ?_)
 change Code.wp ..
 refine wp_block ?_
 go_loopw [62] (fun u62 wr => ∃ (k : Nat) (m : List Bx) (Km : List (Nat × Obj)), (k ≤ (orderX l).length) ∧ (m.length = (orderX l).length) ∧ (OwnL w 26 9 v4 (orderX l).length (bcs m) Km) ∧ (Dk g6 Km) ∧ (Dk g2 Km) ∧ (Dk g1 Km) ∧ u62 = .int .i64 ((k : Nat) : Int) ∧ KS w ((g6, .cells (smL (totalX l)).toArray 47 (0, 0)) :: (g2, .cells (bxL b1).toArray 26 (0, 0)) :: (g1, .cells (putR cur1 l.length exB) 26 (0, 0)) :: Km) wr) (fun u62 _ => (orderX l).length - (intOf u62).toNat)
 case atStart => exact ⟨0, (orderX l), Kl4, (Nat.zero_le _), rfl, O4, (show Dk g6 Kl4 from Tw.djt), (show Dk g2 Kl4 from Tw.djt), (show Dk g1 Kl4 from Tw.djt), rfl, (hW10.sub (fun p hp => by first | exact hp | (simp only [List.mem_cons, List.mem_append, List.nil_append, List.not_mem_nil, or_assoc, or_false, false_or] at hp ⊢ <;> grind)))⟩
 case round =>
   obtain ⟨k, m, Km, hk, hm, hO, dh8_0, dh8_1, dh8_2, rfl, hL11⟩ := hrel
   refine wp_seq ?_
   refine wp_region_L _ hL11 ?_
   refine lp (v := .bool (decide (k < ((orderX l).length)))) rfl rfl (run_bin rfl (vx := (.int .i64 ((k : Nat) : Int))) (vy := (.int .i64 ((((orderX l).length) : Nat) : Int))) Tw.kr Tw.kr fun w => bn_lss rfl w) ?_
   refine wpL_done (fun W12 hW12 => ?_)
   change Code.wp ..
   refine wp_seq ?_
   cases hd1 : (decide (k < ((orderX l).length))) with
   | false =>
     have h1 : ¬ (k < ((orderX l).length)) := of_decide_eq_false hd1
     clear hd1
     refine wp_cond_false rfl ?_
     refine wp_exit ?_
     change Code.wp ..
     refine wp_seq ?_
     refine wp_region_L _ hW12 ?_
     refine lm (v := .slice (some ⟨g1, 0, none⟩) l.length (l.length + 1)) rfl rfl ?_
     refine wpL_c (f := 27) (args := #[.slice (some ⟨g1, 0, none⟩) l.length (l.length + 1)]) (OutRL bxL w ((g6, .cells (smL (totalX l)).toArray 47 (0, 0)) :: (g2, .cells (bxL b1).toArray 26 (0, 0)) :: (g1, .cells (putR cur1 l.length exB) 26 (0, 0)) :: Km) (orderX l)) rfl Tw.kr Tw.kf (fun W hW => calls_r hW (((Order_any l (some ⟨g1, 0, none⟩) (l.length + 1) Tw.om W (R0 _ (hW.sub (fun p hp => by cases List.mem_singleton.1 hp; exact Tw.m2)))).mono fun _ _ ⟨v, h1, h2, h3⟩ => ⟨v, h1, by rw [order_len]; exact h2, h3⟩))) Tw.pf ?_
     rintro _ _ ⟨p9, c9, Kl9, rfl, n9, R9, N9, rfl⟩
     obtain ⟨dj10_0, dj10_1, dj10_2, dj10_3⟩ : Dk g6 Kl9 ∧ Dk g2 Kl9 ∧ Dk g1 Kl9 ∧ Dj Km Kl9 := Tw.djf N9
     refine wpL_sub (K2 := ((g6, .cells (smL (totalX l)).toArray 47 (0, 0)) :: (g2, .cells (bxL b1).toArray 26 (0, 0)) :: (g1, .cells (putR cur1 l.length exB) 26 (0, 0)) :: (Km ++ Kl9))) (fun p hp => by simp only [List.mem_cons, List.mem_append, or_assoc] at hp ⊢; exact hp) ?_
     refine lm (v := .slice p9 ((orderX l).length) c9) rfl rfl ?_
     refine wpL_done (fun W13 hW13 => ?_)
     change Code.wp ..
     refine wp_seq ?_
     refine wp_seq ?_
     refine wp_region_V _ Tw.kr hW13 ?_
     refine vm (i := 0) (v := .slice (some ⟨g1, 0, none⟩) l.length (l.length + 1)) rfl rfl rfl ?_
     refine vm (i := 1) (v := .slice p l.length c) rfl rfl rfl ?_
     refine vv (i := 2) (v := .bool true) rfl rfl rfl (yb_call (f := 28) (args := #[.slice (some ⟨g1, 0, none⟩) l.length (l.length + 1), .slice p l.length c]) Tw.kf fun W hW => same_is l l (some ⟨g1, 0, none⟩) p (l.length + 1) c rfl rfl Tw.om W (R0 _ (hW.sub (fun p hp => by cases List.mem_singleton.1 hp; exact Tw.m2))) ((RL.base HP.out) _ (hW.sub (fun _ h => by cases h))) rfl) ?_
     refine vm (i := 3) (v := .bool false) rfl rfl rfl ?_
     refine vm (i := 4) (v := .bool false) rfl rfl rfl ?_
     refine vm (i := 5) (v := .slice (some ⟨g1, 0, none⟩) (l.length + 1) (l.length + 1)) rfl rfl rfl ?_
     refine vm (i := 6) (v := .slice p l.length c) rfl rfl rfl ?_
     refine vp (i := 7) (v := .int .i64 ((l.length : Nat) : Int)) rfl rfl rfl (run_lenL (p := p) (cap := c) (n := l.length) rfl Tryd.underlying22 Tw.kr) ?_
     refine vp (i := 8) (v := .pointer (some ⟨g1, 0 + l.length * 9, none⟩)) rfl rfl rfl (run_idxL (j := .i64) (n := (l.length + 1)) (cap := (l.length + 1)) (b := g1) (off := 0) (k := l.length) (sz := 9) rfl Tryd.underlying22 Tw.kr Tw.kr Tw.kr Tw.om) ?_
     refine vv (i := 9) (v := .agg (bxL exB).toArray) rfl rfl rfl (yb_cells (off := 0 + l.length * 9) (cur := (putR cur1 l.length exB)) (cs := bxL exB) rfl Tw.kr Tw.m2 (row_last hr2) Tryd.underlying26 rfl Tw.kr) ?_
     refine vv (i := 10) (v := .agg (bxL exB).toArray) rfl rfl rfl (yb_call (f := 13) (args := #[]) Tw.kf fun W hW => example_any W) ?_
     refine vp (i := 11) (v := .bool false) rfl rfl rfl (run_bin rfl (vx := .agg (bxL exB).toArray) (vy := .agg (bxL exB).toArray) Tw.kr Tw.kr fun w => neq_bx (a := exB) (b := exB) (decide_eq_true rfl) w) ?_
     refine vm (i := 12) (v := .bool false) rfl rfl rfl ?_
     refine wpV_done Tw.kr (fun W14 hW14 => ?_) _
     change Code.wp ..
     refine wp_cond_false rfl ?_
     refine wp_skip ?_
     change Code.wp ..
     refine wp_seq ?_
     refine wp_region_L _ hW14 ?_
     refine lm (v := .slice p l.length c) rfl rfl ?_
     refine lv (v := .tuple #[.int .i64 va, .int .i64 ve]) rfl rfl (yb_call (f := 32) (args := #[.slice p l.length c]) Tw.kf fun W hW => (by have h9 := RValid_any l p c Tw.om W ((RL.base HP.out) _ (hW.sub (fun _ h => by cases h))); rw [hv] at h9; exact h9)) ?_
     refine lm (v := .tuple #[.int .i64 va, .int .i64 ve]) rfl rfl ?_
     refine lm (v := .int .i64 va) rfl rfl ?_
     refine lm (v := .int .i64 ve) rfl rfl ?_
     refine lm (v := .int .i64 va) rfl rfl ?_
     refine lm (v := .int .i64 ve) rfl rfl ?_
     refine wpL_done (fun W15 hW15 => ?_)
     change Code.wp ..
     refine wp_seq ?_
     refine wp_seq ?_
     refine wp_region_L _ hW15 ?_
     refine lm (v := .int .i64 va) rfl rfl ?_
     refine lm (v := .int .i64 va) rfl rfl ?_
     refine lp (v := .bool false) rfl rfl (run_bin rfl (vx := (.int .i64 va)) (vy := (.int .i64 va)) Tw.kr Tw.kr fun w => bi_neq (decide_eq_true rfl) w) ?_
     refine lm (v := .bool false) rfl rfl ?_
     refine lm (v := .int .i64 ve) rfl rfl ?_
     refine lm (v := .int .i64 ve) rfl rfl ?_
     refine lp (v := .bool false) rfl rfl (run_bin rfl (vx := (.int .i64 ve)) (vy := (.int .i64 ve)) Tw.kr Tw.kr fun w => bi_neq (decide_eq_true rfl) w) ?_
     refine lm (v := .bool false) rfl rfl ?_
     refine lm (v := .bool false) rfl rfl ?_
     refine lm (v := .slice p9 ((orderX l).length) c9) rfl rfl ?_
     refine lm (v := .slice p l.length c) rfl rfl ?_
     refine wpL_c (f := 33) (args := #[.slice p l.length c]) (OutRL bxL w ((g6, .cells (smL (totalX l)).toArray 47 (0, 0)) :: (g2, .cells (bxL b1).toArray 26 (0, 0)) :: (g1, .cells (putR cur1 l.length exB) 26 (0, 0)) :: (Km ++ Kl9)) (orderX l)) rfl Tw.kr Tw.kf (fun W hW => calls_r hW (((ROrder_any l p c Tw.om W ((RL.base HP.out) _ (hW.sub (fun _ h => by cases h)))).mono fun _ _ ⟨v, h1, h2, h3⟩ => ⟨v, h1, by rw [order_len]; exact h2, h3⟩))) Tw.pf ?_
     rintro _ _ ⟨p11, c11, Kl11, rfl, n11, R11, N11, rfl⟩
     obtain ⟨dj12_0, dj12_1, dj12_2, dj12_3, dj12_4⟩ : Dk g6 Kl11 ∧ Dk g2 Kl11 ∧ Dk g1 Kl11 ∧ Dj Km Kl11 ∧ Dj Kl9 Kl11 := Tw.djf N11
     refine wpL_sub (K2 := ((g6, .cells (smL (totalX l)).toArray 47 (0, 0)) :: (g2, .cells (bxL b1).toArray 26 (0, 0)) :: (g1, .cells (putR cur1 l.length exB) 26 (0, 0)) :: (Km ++ (Kl9 ++ Kl11)))) (fun p hp => by simp only [List.mem_cons, List.mem_append, or_assoc] at hp ⊢; exact hp) ?_
     refine lv (v := .bool true) rfl rfl (yb_call (f := 28) (args := #[.slice p9 ((orderX l).length) c9, .slice p11 ((orderX l).length) c11]) Tw.kf fun W hW => same_is (orderX l) (orderX l) p9 p11 c9 c11 rfl rfl Tw.om W (R9 _ (hW.sub (fun p hp => by simp only [List.mem_cons, List.mem_append, List.nil_append, List.not_mem_nil, or_assoc, or_false, false_or, hp, true_or, or_true]))) (R11 _ (hW.sub (fun p hp => by simp only [List.mem_cons, List.mem_append, List.nil_append, List.not_mem_nil, or_assoc, or_false, false_or, hp, true_or, or_true]))) rfl) ?_
     refine lm (v := .bool false) rfl rfl ?_
     refine lm (v := .bool false) rfl rfl ?_
     refine wpL_done (fun W16 hW16 => ?_)
     change Code.wp ..
     refine wp_cond_false rfl ?_
     refine wp_skip ?_
     change Code.wp ..
     refine wp_seq ?_
     refine wp_region_L _ hW16 ?_
     refine lm (v := .slice p l.length c) rfl rfl ?_
     refine lv (v := .agg (smL (totalX l)).toArray) rfl rfl (yb_call (f := 34) (args := #[.slice p l.length c]) Tw.kf fun W hW => RTotal_any l p c Tw.om W ((RL.base HP.out) _ (hW.sub (fun _ h => by cases h)))) ?_
     refine wpL_new (fun g => .pointer (some ⟨g, 0, none⟩)) (obi := .cells #[.int .i64 0, .int .i64 0, .int .i64 0, .int .i64 0, .int .i64 0] 66 (0, 0)) rfl rfl Tw.kf Tw.pf fun g13 Bg13 Fg13 => ?_
     obtain ⟨dj14_0, dj14_1, dj14_2, dj14_3, dj14_4, dj14_5⟩ : g6 ≠ g13 ∧ g2 ≠ g13 ∧ g1 ≠ g13 ∧ Dk g13 Km ∧ Dk g13 Kl9 ∧ Dk g13 Kl11 := Tw.dkf Fg13
     refine wpL_s ((g13, .cells (smL (totalX l)).toArray 66 (0, 0)) :: (g6, .cells (smL (totalX l)).toArray 47 (0, 0)) :: (g2, .cells (bxL b1).toArray 26 (0, 0)) :: (g1, .cells (putR cur1 l.length exB) 26 (0, 0)) :: (Km ++ (Kl9 ++ Kl11))) rfl rfl (st_row (off := 0) (v := .agg (smL (totalX l)).toArray) rfl Tw.kr Tw.kr Tw.m0 Bg13 Tw.kr (by first | (simp [Value.cells]; done) | exact Nat.le_of_ble_eq_true rfl) (fun v hv => smL_one (totalX l) v hv) Tw.kr (List.forall_mem_cons.2 ⟨.inl rfl, (List.forall_mem_cons.2 ⟨.inr ⟨Tw.m1, Tw.nee⟩, (List.forall_mem_cons.2 ⟨.inr ⟨Tw.m2, Tw.nee⟩, (List.forall_mem_cons.2 ⟨.inr ⟨Tw.m3, Tw.nee⟩, (fun p hp => .inr ⟨(.tail _ (.tail _ (.tail _ (.tail _ hp)))), ((show Dk g13 (Km ++ (Kl9 ++ Kl11)) from Tw.djt) _ hp)⟩)⟩)⟩)⟩)⟩)) ?_
     refine wpL_done (fun W17 hW17 => ?_)
     change Code.wp ..
     refine wp_seq ?_
     refine wp_seq ?_
     refine wp_region_L _ hW17 ?_
     refine lv (v := .agg (smL (totalX l)).toArray) rfl rfl (yb_load (n := 5) (off := 0) rfl Tw.kr Tw.m1 Tryd.underlying47 rfl Tw.kr (by first | (simp [Value.cells]; done) | exact Nat.le_of_ble_eq_true rfl) Tw.kr) ?_
     refine lm (v := .pointer (some ⟨g13, 0, none⟩)) rfl rfl ?_
     refine lv (v := .int .i64 ((((totalX l).n) : Nat) : Int)) rfl rfl (yb_cell (off := 0) rfl Tw.kr Tw.m0 Tryd.underlying3 rfl Tw.kr) ?_
     refine lm (v := .pointer (some ⟨g13, 1, none⟩)) rfl rfl ?_
     refine lv (v := .int .i64 ((((totalX l).h) : Nat) : Int)) rfl rfl (yb_cell (off := 1) rfl Tw.kr Tw.m0 Tryd.underlying3 rfl Tw.kr) ?_
     refine lm (v := .pointer (some ⟨g13, 2, none⟩)) rfl rfl ?_
     refine lv (v := .int .i64 ((totalX l).k)) rfl rfl (yb_cell (off := 2) rfl Tw.kr Tw.m0 Tryd.underlying3 rfl Tw.kr) ?_
     refine lm (v := .pointer (some ⟨g13, 3, none⟩)) rfl rfl ?_
     refine lv (v := .int .i64 ((((totalX l).r) : Nat) : Int)) rfl rfl (yb_cell (off := 3) rfl Tw.kr Tw.m0 Tryd.underlying3 rfl Tw.kr) ?_
     refine lm (v := .pointer (some ⟨g13, 4, none⟩)) rfl rfl ?_
     refine lv (v := .int .i64 ((((totalX l).d) : Nat) : Int)) rfl rfl (yb_cell (off := 4) rfl Tw.kr Tw.m0 Tryd.underlying3 rfl Tw.kr) ?_
     refine lm (v := .agg (smL (totalX l)).toArray) rfl rfl ?_
     refine lp (v := .bool false) rfl rfl (run_bin rfl (vx := .agg (smL (totalX l)).toArray) (vy := .agg (smL (totalX l)).toArray) Tw.kr Tw.kr fun w => neq_smL w) ?_
     refine wpL_done (fun W18 hW18 => ?_)
     change Code.wp ..
     refine wp_cond_false rfl ?_
     refine wp_skip ?_
     change Code.wp ..
     refine wp_seq ?_
     refine wp_region_L _ hW18 ?_
     refine lm (v := .slice p l.length c) rfl rfl ?_
     refine lm (v := .int .i64 id) rfl rfl ?_
     refine lv (v := .int .i64 ((j1 : Nat) : Int)) rfl rfl (yb_call (f := 35) (args := #[.slice p l.length c, .int .i64 id]) Tw.kf fun W hW => (by have h9 := RFind_any l p c id Tw.om W ((RL.base HP.out) _ (hW.sub (fun _ h => by cases h))); rw [f2] at h9; exact h9)) ?_
     refine lm (v := .slice p l.length c) rfl rfl ?_
     refine lm (v := strV n) rfl rfl ?_
     refine lv (v := .int .i64 (-1)) rfl rfl (yb_call (f := 36) (args := #[.slice p l.length c, strV n]) Tw.kf fun W hW => (by have h9 := RNumbered_any l p c n Tw.om W ((RL.base HP.out) _ (hW.sub (fun _ h => by cases h))); rw [nb2] at h9; exact h9)) ?_
     refine lm (v := .int .i64 ((j1 : Nat) : Int)) rfl rfl ?_
     refine lm (v := .int .i64 (-1)) rfl rfl ?_
     refine wpL_done (fun W19 hW19 => ?_)
     change Code.wp ..
     refine wp_seq ?_
     refine wp_seq ?_
     refine wp_region_V _ Tw.kr hW19 ?_
     refine vm (i := 0) (v := .bool true) rfl rfl rfl ?_
     refine vm (i := 1) (v := .int .i64 ((j1 : Nat) : Int)) rfl rfl rfl ?_
     refine vp (i := 2) (v := .bool true) rfl rfl rfl (run_bin rfl (vx := (.int .i64 ((j1 : Nat) : Int))) (vy := (.int .i64 ((0 : Nat) : Int))) Tw.kr Tw.kr fun w => bn_geq (decide_eq_false (Nat.not_lt_zero _)) w) ?_
     refine vp (i := 3) (v := .bool false) rfl rfl rfl (run_bin rfl (vx := .bool true) (vy := .bool true) Tw.kr Tw.kr fun w => bn_bool_neq rfl Tryd.underlying4 w) ?_
     refine vm (i := 4) (v := .bool false) rfl rfl rfl ?_
     refine vm (i := 5) (v := .int .i64 ((j1 : Nat) : Int)) rfl rfl rfl ?_
     refine vp (i := 6) (v := .bool true) rfl rfl rfl (run_bin rfl (vx := (.int .i64 ((j1 : Nat) : Int))) (vy := (.int .i64 ((0 : Nat) : Int))) Tw.kr Tw.kr fun w => bn_geq (decide_eq_false (Nat.not_lt_zero _)) w) ?_
     refine vm (i := 7) (v := .bool true) rfl rfl rfl ?_
     refine vv (i := 8) (v := .agg (bxL b1).toArray) rfl rfl rfl (yb_load (n := 9) (off := 0) rfl Tw.kr Tw.m2 Tryd.underlying26 rfl Tw.kr (by first | (simp [Value.cells]; done) | exact Nat.le_of_ble_eq_true rfl) Tw.kr) ?_
     refine vm (i := 9) (v := .slice p l.length c) rfl rfl rfl ?_
     refine vm (i := 10) (v := .int .i64 ((j1 : Nat) : Int)) rfl rfl rfl ?_
     obtain ⟨y15, g15_, f15_, hy15, hp15, hc15⟩ := RL.at (RL.base HP.out) bxL_len (by decide) (hW19.sub (fun _ h => by cases h)) (k := j1) Tw.om
     have ey15 : b1 = y15 := by rw [f3] at hy15; exact Option.some.inj hy15
     subst ey15
     refine vp (i := 11) (v := .pointer (some ⟨g15_, f15_ + j1 * 9, none⟩)) rfl rfl rfl (run_idxQ (p := p) (cap := c) (n := l.length) (j := .i64) (k := j1) (sz := 9) rfl Tryd.underlying22 Tw.kr Tw.kr hp15 Tw.kr Tw.om) ?_
     refine vb (i := 12) (v := .agg (bxL b1).toArray) rfl rfl rfl (yb_rs (off := f15_ + j1 * 9) (cs := bxL b1) rfl Tw.kr (fun W hW => hc15 W (hW.sub (fun _ h => by cases h))) Tryd.underlying26 rfl Tw.kr) ?_
     refine vp (i := 13) (v := .bool false) rfl rfl rfl (run_bin rfl (vx := .agg (bxL b1).toArray) (vy := .agg (bxL b1).toArray) Tw.kr Tw.kr fun w => neq_bx (a := b1) (b := b1) (decide_eq_true rfl) w) ?_
     refine vm (i := 14) (v := .bool false) rfl rfl rfl ?_
     refine vm (i := 15) (v := .bool false) rfl rfl rfl ?_
     refine vm (i := 16) (v := .bool false) rfl rfl rfl ?_
     refine vm (i := 17) (v := .int .i64 ((j1 : Nat) : Int)) rfl rfl rfl ?_
     refine vp (i := 18) (v := .bool false) rfl rfl rfl (run_bin rfl (vx := (.int .i64 ((j1 : Nat) : Int))) (vy := (.int .i64 ((0 : Nat) : Int))) Tw.kr Tw.kr fun w => bn_lss (decide_eq_false (Nat.not_lt_zero _)) w) ?_
     refine vm (i := 19) (v := .bool false) rfl rfl rfl ?_
     refine vn (i := 20) rfl rfl ?_
     refine vn (i := 21) rfl rfl ?_
     refine vn (i := 22) rfl rfl ?_
     refine vm (i := 23) (v := .bool false) rfl rfl rfl ?_
     refine vm (i := 24) (v := .bool false) rfl rfl rfl ?_
     refine wpV_done Tw.kr (fun W20 hW20 => ?_) _
     change Code.wp ..
     refine wp_cond_false rfl ?_
     refine wp_skip ?_
     change Code.wp ..
     refine wp_seq ?_
     refine wp_region_L _ hW20 ?_
     refine lm (v := .bool false) rfl rfl ?_
     refine lm (v := .int .i64 (-1)) rfl rfl ?_
     refine lm (v := .bool false) rfl rfl ?_
     refine lp (v := .bool true) rfl rfl (run_bin rfl (vx := .bool false) (vy := .bool false) Tw.kr Tw.kr fun w => bn_bool_eql rfl Tryd.underlying4 w) ?_
     refine lm (v := .bool true) rfl rfl ?_
     refine lm (v := .int .i64 (-1)) rfl rfl ?_
     refine lm (v := .bool false) rfl rfl ?_
     refine lm (v := .bool false) rfl rfl ?_
     refine ln rfl ?_
     refine ln rfl ?_
     refine ln rfl ?_
     refine ln rfl ?_
     refine ln rfl ?_
     refine ln rfl ?_
     refine ln rfl ?_
     refine lm (v := .bool false) rfl rfl ?_
     refine lm (v := .bool false) rfl rfl ?_
     refine lm (v := .int .i64 (-1)) rfl rfl ?_
     refine lm (v := .bool true) rfl rfl ?_
     refine lm (v := .bool true) rfl rfl ?_
     refine lm (v := .int .i64 0) rfl rfl ?_
     refine lm (v := .bool true) rfl rfl ?_
     refine lm (v := .bool true) rfl rfl ?_
     refine lm (v := .bool true) rfl rfl ?_
     refine lm (v := .bool true) rfl rfl ?_
     refine lm (v := .bool true) rfl rfl ?_
     refine wpL_done (fun W21 hW21 => ?_)
     change Code.wp ..
     refine wp_ret ?_
     try simp only [inBlock_ret, then_ret]
     refine bodyPost_ret (v := .bool true) ?_ rfl ?_
     · kernel_rfl
     · exact ⟨rfl, hW21.1⟩
   | true =>
     have h1 : k < ((orderX l).length) := of_decide_eq_true hd1
     clear hd1
     refine wp_cond_true rfl ?_
     refine wp_skip ?_
     change Code.wp ..
     refine wp_seq ?_
     refine wp_block ?_
     refine wp_seq ?_
     refine wp_region_L _ hW12 ?_
     refine lm (v := .int .i64 ((k : Nat) : Int)) rfl rfl ?_
     refine lm (v := .int .i64 ((k : Nat) : Int)) rfl rfl ?_
     refine wpL_done (fun W22 hW22 => ?_)
     change Code.wp ..
     obtain ⟨g9, cap9, cur9, rfl, hB9, hR9, hr9, rfl⟩ := own_blk hO Tw.om
     obtain ⟨bq, hbq⟩ : ∃ y, m[k]? = some y := ⟨_, List.getElem?_eq_getElem Tw.om⟩
     have hcap9 := hR9.2.2.1
     have gng6 : g9 ≠ g6 := by simpa only [dk_cons, dk_nil, and_true] using (show Dk g6 [(g9, .cells cur9 26 (0, 0))] from by assumption)
     have gng2 : g9 ≠ g2 := by simpa only [dk_cons, dk_nil, and_true] using (show Dk g2 [(g9, .cells cur9 26 (0, 0))] from by assumption)
     have gng1 : g9 ≠ g1 := by simpa only [dk_cons, dk_nil, and_true] using (show Dk g1 [(g9, .cells cur9 26 (0, 0))] from by assumption)
     refine wp_region_L _ hW22 ?_
     refine lm (v := .slice (some ⟨g9, 0, none⟩) (orderX l).length cap9) rfl rfl ?_
     refine lm (v := .int .i64 ((k : Nat) : Int)) rfl rfl ?_
     refine lp (v := .pointer (some ⟨g9, 0 + k * 9, none⟩)) rfl rfl (run_idxL (j := .i64) (n := (orderX l).length) (cap := cap9) (b := g9) (off := 0) (k := k) (sz := 9) rfl Tryd.underlying22 Tw.kr Tw.kr Tw.kr Tw.om) ?_
     refine lm (v := .pointer (some ⟨g9, 0 + k * 9 + 4, none⟩)) rfl rfl ?_
     refine lv (v := .int .i64 bq.kilos) rfl rfl (yb_cell (off := 0 + k * 9 + 4) (v := .int .i64 bq.kilos) rfl Tw.kr Tw.m3 Tryd.underlying3 rfl (RowR.get hr9 bxL_len hbq 4 _ rfl)) ?_
     refine lp (v := .int .i64 (IntKind.i64.wrap (bq.kilos + 1))) rfl rfl (run_bin rfl (vx := .int .i64 bq.kilos) (vy := .int .i64 1) Tw.kr Tw.kr fun w => bw_add (z := (IntKind.i64.wrap (bq.kilos + 1))) rfl w) ?_
     refine lp (v := .pointer (some ⟨g9, 0 + k * 9, none⟩)) rfl rfl (run_idxL (j := .i64) (n := (orderX l).length) (cap := cap9) (b := g9) (off := 0) (k := k) (sz := 9) rfl Tryd.underlying22 Tw.kr Tw.kr Tw.kr Tw.om) ?_
     refine lm (v := .pointer (some ⟨g9, 0 + k * 9 + 4, none⟩)) rfl rfl ?_
     refine wpL_s [(g6, .cells (smL (totalX l)).toArray 47 (0, 0)), (g2, .cells (bxL b1).toArray 26 (0, 0)), (g1, .cells (putR cur1 l.length exB) 26 (0, 0)), (g9, .cells (cur9.setIfInBounds (0 + k * 9 + 4) (.int .i64 (IntKind.i64.wrap (bq.kilos + 1)))) 26 (0, 0))] rfl rfl (st_at (off := 0 + k * 9 + 4) (v := .int .i64 (IntKind.i64.wrap (bq.kilos + 1))) rfl Tw.kr Tw.kr Tw.m3 hB9 Tw.kr rfl rfl (by rw [hR9.1]; have h9 := hR9.2.2.1; omega) (.inr rfl) (List.forall_mem_cons.2 ⟨.inr ⟨Tw.m0, Tw.nee⟩, (List.forall_mem_cons.2 ⟨.inr ⟨Tw.m1, Tw.nee⟩, (List.forall_mem_cons.2 ⟨.inr ⟨Tw.m2, Tw.nee⟩, (List.forall_mem_cons.2 ⟨.inl rfl, (List.forall_mem_nil _)⟩)⟩)⟩)⟩)) ?_
     refine wpL_done (fun W23 hW23 => ?_)
     change Code.wp ..
     refine wp_region_L _ hW23 ?_
     refine lp (v := .int .i64 (((k + 1) : Nat) : Int)) rfl rfl (run_bin rfl (vx := (.int .i64 ((k : Nat) : Int))) (vy := (.int .i64 ((1 : Nat) : Int))) Tw.kr Tw.kr fun w => bn_add (z := (k + 1)) rfl (wr_i64 Tw.om) w) ?_
     refine lm (v := .int .i64 (((k + 1) : Nat) : Int)) rfl rfl ?_
     refine wpL_done (fun W24 hW24 => ?_)
     go_roundw
     case rel =>
       repeat apply Exists.intro
       exact ⟨⟨k + 1, (m.set k { bq with kilos := (IntKind.i64.wrap (bq.kilos + 1)) }), [(g9, .cells (cur9.setIfInBounds (0 + k * 9 + 4) (.int .i64 (IntKind.i64.wrap (bq.kilos + 1)))) 26 (0, 0))], Tw.om, (by rw [List.length_set]; omega), (blk_own hB9 hR9 hbq rfl), (show Dk g6 [(g9, .cells (cur9.setIfInBounds (0 + k * 9 + 4) (.int .i64 (IntKind.i64.wrap (bq.kilos + 1)))) 26 (0, 0))] from Tw.djt), (show Dk g2 [(g9, .cells (cur9.setIfInBounds (0 + k * 9 + 4) (.int .i64 (IntKind.i64.wrap (bq.kilos + 1)))) 26 (0, 0))] from Tw.djt), (show Dk g1 [(g9, .cells (cur9.setIfInBounds (0 + k * 9 + 4) (.int .i64 (IntKind.i64.wrap (bq.kilos + 1)))) 26 (0, 0))] from Tw.djt), rfl, (hW24.sub (fun p hp => by first | exact hp | (simp only [List.mem_cons, List.mem_append, List.nil_append, List.not_mem_nil, or_assoc, or_false, false_or] at hp ⊢ <;> grind)))⟩, rfl⟩
     case measure => (show (orderX l).length - (intOf (.int .i64 (((k + 1) : Nat) : Int))).toNat < (orderX l).length - (intOf (.int .i64 ((k : Nat) : Int))).toNat); simp only [intOf]; omega
set_option maxRecDepth 100000 in
set_option maxHeartbeats 4000000 in
theorem lists_11 (l : List Bx) (p : Option Addr) (c : Nat) (id : Int) (n : List UInt8) (hl : l.length ≤ 300) (b1 : Bx) (j1 : Nat) (f1 : findX l id = some b1) (f2 : idxFrom (idIs id) 0 l = ((j1 : Nat) : Int)) (f3 : l[j1]? = some b1) (b2 : Bx) (j2 : Nat) (nb1 : l.find? (numP n) = some b2) (nb2 : idxFrom (numP n) 0 l = ((j2 : Nat) : Int)) (nb3 : l[j2]? = some b2) (w : World) (hp : SLV w p (bcs l)) : Calls Tryd.prog 11 #[.slice p l.length c, .int .i64 id, strV n] w fun e w' => e = .returned (.bool true) ∧ Below w.heap.size w w' := by
 have HP := Lib.hid hp
 clear hp
 obtain ⟨va, ve, hv, hv0, hv1⟩ := valid_two l
 have hol : (orderX l).length = l.length := order_len l
 have hj1 : j1 < l.length := (List.getElem?_eq_some_iff.1 f3).1
 have hj2 : j2 < l.length := (List.getElem?_eq_some_iff.1 nb3).1
 go_enter Tryd.func11, Tryd.ntmps11
 refine wp_seq ?_
 refine wp_region_L [] (KS.start w) ?_
 refine lm (v := .bool false) rfl rfl ?_
 refine wpL_done (fun W1 hW1 => ?_)
 change Code.wp ..
 refine wp_seq ?_
 refine wp_region_L _ hW1 ?_
 refine lm (v := .slice p l.length c) rfl rfl ?_
 refine lp (v := .int .i64 ((l.length : Nat) : Int)) rfl rfl (run_lenL (p := p) (cap := c) (n := l.length) rfl Tryd.underlying22 Tw.kr) ?_
 refine lp (v := .int .i64 (((l.length + 1) : Nat) : Int)) rfl rfl (run_bin rfl (vx := (.int .i64 ((l.length : Nat) : Int))) (vy := (.int .i64 ((1 : Nat) : Int))) Tw.kr Tw.kr fun w => bn_add (z := (l.length + 1)) rfl (wr_i64 Tw.om) w) ?_
 refine wpL_new (fun g => .slice (some ⟨g, 0, none⟩) (l.length + 1) (l.length + 1)) (obi := .cells (bcs (List.replicate (l.length + 1) bx0)).toArray 26 (0, 0)) rfl rfl (run_mkb (n := (l.length + 1)) (b := 64) rfl Tryd.underlying22 Tw.kr (by decide) Tw.kr Tw.kr Tw.om) Tw.pf fun g1 Bg1 Fg1 => ?_
 refine lm (v := .slice (some ⟨g1, 0, none⟩) (l.length + 1) (l.length + 1)) rfl rfl ?_
 refine wpL_done (fun W2 hW2 => ?_)
 change Code.wp ..
 refine wp_seq ?_
 refine wp_region_L _ hW2 ?_
 refine lm (v := .slice (some ⟨g1, 0, none⟩) (l.length + 1) (l.length + 1)) rfl rfl ?_
 refine lm (v := .slice p l.length c) rfl rfl ?_
 refine wpL_g (CopyB 26 g1 [] (l ++ (List.replicate (l.length + 1) bx0).drop l.length) l.length) rfl rfl (copy_all (m := l.length + 1) (dc := l.length + 1) (p := p) (sc := c) (r := List.replicate (l.length + 1) bx0) rfl Tryd.underlying22 Tw.kr Tw.kr Tw.kr Tw.m0 Bg1 (row_lit _) (by simp) Tw.om (fun W hW => ((RL.base HP.out) _ (hW.sub (fun _ h => by cases h)))) (fun _ h => by cases h)) Tw.pf ?_
 rintro _ _ ⟨rfl, cur1, hr1, rfl⟩
 rw [rep_last] at hr1
 refine wpL_done (fun W3 hW3 => ?_)
 change Code.wp ..
 refine wp_seq ?_
 refine wp_region_L _ hW3 ?_
 refine lm (v := .slice (some ⟨g1, 0, none⟩) (l.length + 1) (l.length + 1)) rfl rfl ?_
 refine lm (v := .slice p l.length c) rfl rfl ?_
 refine lp (v := .int .i64 ((l.length : Nat) : Int)) rfl rfl (run_lenL (p := p) (cap := c) (n := l.length) rfl Tryd.underlying22 Tw.kr) ?_
 refine lv (v := .agg (bxL exB).toArray) rfl rfl (yb_call (f := 13) (args := #[]) Tw.kf fun W hW => example_any W) ?_
 refine lp (v := .pointer (some ⟨g1, 0 + l.length * 9, none⟩)) rfl rfl (run_idxL (j := .i64) (n := (l.length + 1)) (cap := (l.length + 1)) (b := g1) (off := 0) (k := l.length) (sz := 9) rfl Tryd.underlying22 Tw.kr Tw.kr Tw.kr Tw.om) ?_
 refine wpL_s [(g1, .cells (putR cur1 l.length exB) 26 (0, 0))] rfl rfl (st_rec (b := exB) rfl Tw.kr Tw.kr Tw.m0 Bg1 Tw.kr hr1 (by simp) (List.forall_mem_cons.2 ⟨.inl rfl, (List.forall_mem_nil _)⟩)) ?_
 have hr2 := row_put exB hr1
 refine wpL_done (fun W4 hW4 => ?_)
 change Code.wp ..
 refine wp_seq ?_
 refine wp_region_L _ hW4 ?_
 refine lm (v := .slice (some ⟨g1, 0, none⟩) (l.length + 1) (l.length + 1)) rfl rfl ?_
 refine lm (v := .slice p l.length c) rfl rfl ?_
 refine lp (v := .int .i64 ((l.length : Nat) : Int)) rfl rfl (run_lenL (p := p) (cap := c) (n := l.length) rfl Tryd.underlying22 Tw.kr) ?_
 have R0 : RL bxL w (some ⟨g1, 0, none⟩) l [(g1, .cells (putR cur1 l.length exB) 26 (0, 0))] := row_rl hr2
 refine lp (v := .slice (some ⟨g1, 0, none⟩) l.length (l.length + 1)) rfl rfl (run_slt (kd := .i64) (j := l.length) (n := (l.length + 1)) (c := (l.length + 1)) (sz := 9) rfl Tryd.underlying22 Tw.kr Tw.kr Tw.kr Tw.om) ?_
 refine lm (v := .slice (some ⟨g1, 0, none⟩) l.length (l.length + 1)) rfl rfl ?_
 refine wpL_done (fun W5 hW5 => ?_)
 change Code.wp ..
 refine wp_seq ?_
 refine wp_region_L _ hW5 ?_
 refine lm (v := .slice (some ⟨g1, 0, none⟩) l.length (l.length + 1)) rfl rfl ?_
 refine lv (v := .tuple #[.int .i64 va, .int .i64 ve]) rfl rfl (yb_call (f := 29) (args := #[.slice (some ⟨g1, 0, none⟩) l.length (l.length + 1)]) Tw.kf fun W hW => (by have h9 := Valid_any l (some ⟨g1, 0, none⟩) (l.length + 1) Tw.om W (R0 _ (hW.sub (fun p hp => by cases List.mem_singleton.1 hp; exact Tw.m0))); rw [hv] at h9; exact h9)) ?_
 refine lm (v := .tuple #[.int .i64 va, .int .i64 ve]) rfl rfl ?_
 refine lm (v := .int .i64 va) rfl rfl ?_
 refine lm (v := .int .i64 ve) rfl rfl ?_
 refine lm (v := .int .i64 va) rfl rfl ?_
 refine lm (v := .int .i64 ve) rfl rfl ?_
 refine wpL_done (fun W6 hW6 => ?_)
 change Code.wp ..
 refine wp_seq ?_
 refine wp_region_L _ hW6 ?_
 refine lm (v := .slice (some ⟨g1, 0, none⟩) l.length (l.length + 1)) rfl rfl ?_
 refine lm (v := .int .i64 id) rfl rfl ?_
 refine lv (v := .tuple #[.agg (bxL b1).toArray, .bool true]) rfl rfl (yb_call (f := 30) (args := #[.slice (some ⟨g1, 0, none⟩) l.length (l.length + 1), .int .i64 id]) Tw.kf fun W hW => (by have h9 := Find_any l (some ⟨g1, 0, none⟩) (l.length + 1) id Tw.om W (R0 _ (hW.sub (fun p hp => by cases List.mem_singleton.1 hp; exact Tw.m0))); rw [f1] at h9; exact h9)) ?_
 refine lm (v := .tuple #[.agg (bxL b1).toArray, .bool true]) rfl rfl ?_
 refine lm (v := .agg (bxL b1).toArray) rfl rfl ?_
 refine lm (v := .bool true) rfl rfl ?_
 refine wpL_new (fun g => .pointer (some ⟨g, 0, none⟩)) (obi := .cells #[.int .i64 0, strV [], .int .u8 0, .bool false, .int .i64 0, .int .i64 0, .int .i64 0, .int .u8 0, .bool false] 26 (0, 0)) rfl rfl Tw.kf Tw.pf fun g2 Bg2 Fg2 => ?_
 obtain dj3_0 : g1 ≠ g2 := Tw.dkf Fg2
 refine wpL_s [(g2, .cells (bxL b1).toArray 26 (0, 0)), (g1, .cells (putR cur1 l.length exB) 26 (0, 0))] rfl rfl (st_row (off := 0) (v := .agg (bxL b1).toArray) rfl Tw.kr Tw.kr Tw.m0 Bg2 Tw.kr (by first | (simp [Value.cells]; done) | exact Nat.le_of_ble_eq_true rfl) (fun v hv => bxL_one b1 v hv) Tw.kr (List.forall_mem_cons.2 ⟨.inl rfl, (List.forall_mem_cons.2 ⟨.inr ⟨Tw.m1, Tw.nee⟩, (List.forall_mem_nil _)⟩)⟩)) ?_
 refine lm (v := .bool true) rfl rfl ?_
 refine wpL_done (fun W7 hW7 => ?_)
 change Code.wp ..
 refine wp_seq ?_
 refine wp_region_L _ hW7 ?_
 refine lm (v := .slice (some ⟨g1, 0, none⟩) l.length (l.length + 1)) rfl rfl ?_
 refine lm (v := strV n) rfl rfl ?_
 refine lv (v := .tuple #[.int .i64 b2.id, .bool true]) rfl rfl (yb_call (f := 31) (args := #[.slice (some ⟨g1, 0, none⟩) l.length (l.length + 1), strV n]) Tw.kf fun W hW => (by have h9 := Numbered_any l (some ⟨g1, 0, none⟩) (l.length + 1) n Tw.om W (R0 _ (hW.sub (fun p hp => by cases List.mem_singleton.1 hp; exact Tw.m1))); rw [numbered_p, nb1] at h9; exact h9)) ?_
 refine lm (v := .tuple #[.int .i64 b2.id, .bool true]) rfl rfl ?_
 refine lm (v := .int .i64 b2.id) rfl rfl ?_
 refine lm (v := .bool true) rfl rfl ?_
 refine lm (v := .int .i64 b2.id) rfl rfl ?_
 refine lm (v := .bool true) rfl rfl ?_
 refine wpL_done (fun W8 hW8 => ?_)
 change Code.wp ..
 refine wp_seq ?_
 refine wp_region_L _ hW8 ?_
 refine lm (v := .slice (some ⟨g1, 0, none⟩) l.length (l.length + 1)) rfl rfl ?_
 refine lv (v := .agg (smL (totalX l)).toArray) rfl rfl (yb_call (f := 26) (args := #[.slice (some ⟨g1, 0, none⟩) l.length (l.length + 1)]) Tw.kf fun W hW => Total_any l (some ⟨g1, 0, none⟩) (l.length + 1) Tw.om W (R0 _ (hW.sub (fun p hp => by cases List.mem_singleton.1 hp; exact Tw.m1)))) ?_
 refine lm (v := .slice (some ⟨g1, 0, none⟩) l.length (l.length + 1)) rfl rfl ?_
 refine wpL_c (f := 27) (args := #[.slice (some ⟨g1, 0, none⟩) l.length (l.length + 1)]) (OutOL w [(g2, .cells (bxL b1).toArray 26 (0, 0)), (g1, .cells (putR cur1 l.length exB) 26 (0, 0))] 26 9 (orderX l).length ((orderX l).flatMap bxL)) rfl Tw.kr Tw.kf (fun W hW => calls_o hW (((Order_any l (some ⟨g1, 0, none⟩) (l.length + 1) Tw.om W (R0 _ (hW.sub (fun p hp => by cases List.mem_singleton.1 hp; exact Tw.m1)))).mono fun _ _ ⟨v, h1, h2, h3⟩ => ⟨v, h1, by rw [order_len]; exact h2, h3⟩))) Tw.pf ?_
 rintro v4 _ ⟨Kl4, O4, N4, rfl⟩
 obtain ⟨dj5_0, dj5_1⟩ : Dk g2 Kl4 ∧ Dk g1 Kl4 := Tw.djf N4
 refine wpL_new (fun g => .pointer (some ⟨g, 0, none⟩)) (obi := .cells #[.int .i64 0, .int .i64 0, .int .i64 0, .int .i64 0, .int .i64 0] 47 (0, 0)) rfl rfl Tw.kf Tw.pf fun g6 Bg6 Fg6 => ?_
 obtain ⟨dj7_0, dj7_1, dj7_2⟩ : g2 ≠ g6 ∧ g1 ≠ g6 ∧ Dk g6 Kl4 := Tw.dkf Fg6
 refine wpL_s ((g6, .cells (smL (totalX l)).toArray 47 (0, 0)) :: (g2, .cells (bxL b1).toArray 26 (0, 0)) :: (g1, .cells (putR cur1 l.length exB) 26 (0, 0)) :: Kl4) rfl rfl (st_row (off := 0) (v := .agg (smL (totalX l)).toArray) rfl Tw.kr Tw.kr Tw.m0 Bg6 Tw.kr (by first | (simp [Value.cells]; done) | exact Nat.le_of_ble_eq_true rfl) (fun v hv => smL_one (totalX l) v hv) Tw.kr (List.forall_mem_cons.2 ⟨.inl rfl, (List.forall_mem_cons.2 ⟨.inr ⟨Tw.m1, Tw.nee⟩, (List.forall_mem_cons.2 ⟨.inr ⟨Tw.m2, Tw.nee⟩, (fun p hp => .inr ⟨(.tail _ (.tail _ (.tail _ hp))), ((show Dk g6 Kl4 from Tw.djt) _ hp)⟩)⟩)⟩)⟩)) ?_
 refine lm (v := v4) rfl rfl ?_
 refine wpL_done (fun W9 hW9 => ?_)
 change Code.wp ..
 refine wp_seq ?_
 refine wp_seq ?_
 refine wp_region_L _ hW9 ?_
 refine lm (v := v4) rfl rfl ?_
 refine lp (v := .int .i64 ((((orderX l).length) : Nat) : Int)) rfl rfl (run_lenO (W0 := w) rfl Tryd.underlying22 Tw.kr O4) ?_
 refine lm (v := .int .i64 0) rfl rfl ?_
 refine wpL_done (fun W10 hW10 => ?_)
 change Code.wp ..
 refine wp_block ?_
 go_loopw [62] (fun u62 wr => ∃ (k : Nat) (m : List Bx) (Km : List (Nat × Obj)), (k ≤ (orderX l).length) ∧ (m.length = (orderX l).length) ∧ (OwnL w 26 9 v4 (orderX l).length (bcs m) Km) ∧ (Dk g6 Km) ∧ (Dk g2 Km) ∧ (Dk g1 Km) ∧ u62 = .int .i64 ((k : Nat) : Int) ∧ KS w ((g6, .cells (smL (totalX l)).toArray 47 (0, 0)) :: (g2, .cells (bxL b1).toArray 26 (0, 0)) :: (g1, .cells (putR cur1 l.length exB) 26 (0, 0)) :: Km) wr) (fun u62 _ => (orderX l).length - (intOf u62).toNat)
 case atStart => exact ⟨0, (orderX l), Kl4, (Nat.zero_le _), rfl, O4, (show Dk g6 Kl4 from Tw.djt), (show Dk g2 Kl4 from Tw.djt), (show Dk g1 Kl4 from Tw.djt), rfl, (hW10.sub (fun p hp => by first | exact hp | (simp only [List.mem_cons, List.mem_append, List.nil_append, List.not_mem_nil, or_assoc, or_false, false_or] at hp ⊢ <;> grind)))⟩
 case round =>
   obtain ⟨k, m, Km, hk, hm, hO, dh8_0, dh8_1, dh8_2, rfl, hL11⟩ := hrel
   refine wp_seq ?_
   refine wp_region_L _ hL11 ?_
   refine lp (v := .bool (decide (k < ((orderX l).length)))) rfl rfl (run_bin rfl (vx := (.int .i64 ((k : Nat) : Int))) (vy := (.int .i64 ((((orderX l).length) : Nat) : Int))) Tw.kr Tw.kr fun w => bn_lss rfl w) ?_
   refine wpL_done (fun W12 hW12 => ?_)
   change Code.wp ..
   refine wp_seq ?_
   cases hd1 : (decide (k < ((orderX l).length))) with
   | false =>
     have h1 : ¬ (k < ((orderX l).length)) := of_decide_eq_false hd1
     clear hd1
     refine wp_cond_false rfl ?_
     refine wp_exit ?_
     change Code.wp ..
     refine wp_seq ?_
     refine wp_region_L _ hW12 ?_
     refine lm (v := .slice (some ⟨g1, 0, none⟩) l.length (l.length + 1)) rfl rfl ?_
     refine wpL_c (f := 27) (args := #[.slice (some ⟨g1, 0, none⟩) l.length (l.length + 1)]) (OutRL bxL w ((g6, .cells (smL (totalX l)).toArray 47 (0, 0)) :: (g2, .cells (bxL b1).toArray 26 (0, 0)) :: (g1, .cells (putR cur1 l.length exB) 26 (0, 0)) :: Km) (orderX l)) rfl Tw.kr Tw.kf (fun W hW => calls_r hW (((Order_any l (some ⟨g1, 0, none⟩) (l.length + 1) Tw.om W (R0 _ (hW.sub (fun p hp => by cases List.mem_singleton.1 hp; exact Tw.m2)))).mono fun _ _ ⟨v, h1, h2, h3⟩ => ⟨v, h1, by rw [order_len]; exact h2, h3⟩))) Tw.pf ?_
     rintro _ _ ⟨p9, c9, Kl9, rfl, n9, R9, N9, rfl⟩
     obtain ⟨dj10_0, dj10_1, dj10_2, dj10_3⟩ : Dk g6 Kl9 ∧ Dk g2 Kl9 ∧ Dk g1 Kl9 ∧ Dj Km Kl9 := Tw.djf N9
     refine wpL_sub (K2 := ((g6, .cells (smL (totalX l)).toArray 47 (0, 0)) :: (g2, .cells (bxL b1).toArray 26 (0, 0)) :: (g1, .cells (putR cur1 l.length exB) 26 (0, 0)) :: (Km ++ Kl9))) (fun p hp => by simp only [List.mem_cons, List.mem_append, or_assoc] at hp ⊢; exact hp) ?_
     refine lm (v := .slice p9 ((orderX l).length) c9) rfl rfl ?_
     refine wpL_done (fun W13 hW13 => ?_)
     change Code.wp ..
     refine wp_seq ?_
     refine wp_seq ?_
     refine wp_region_V _ Tw.kr hW13 ?_
     refine vm (i := 0) (v := .slice (some ⟨g1, 0, none⟩) l.length (l.length + 1)) rfl rfl rfl ?_
     refine vm (i := 1) (v := .slice p l.length c) rfl rfl rfl ?_
     refine vv (i := 2) (v := .bool true) rfl rfl rfl (yb_call (f := 28) (args := #[.slice (some ⟨g1, 0, none⟩) l.length (l.length + 1), .slice p l.length c]) Tw.kf fun W hW => same_is l l (some ⟨g1, 0, none⟩) p (l.length + 1) c rfl rfl Tw.om W (R0 _ (hW.sub (fun p hp => by cases List.mem_singleton.1 hp; exact Tw.m2))) ((RL.base HP.out) _ (hW.sub (fun _ h => by cases h))) rfl) ?_
     refine vm (i := 3) (v := .bool false) rfl rfl rfl ?_
     refine vm (i := 4) (v := .bool false) rfl rfl rfl ?_
     refine vm (i := 5) (v := .slice (some ⟨g1, 0, none⟩) (l.length + 1) (l.length + 1)) rfl rfl rfl ?_
     refine vm (i := 6) (v := .slice p l.length c) rfl rfl rfl ?_
     refine vp (i := 7) (v := .int .i64 ((l.length : Nat) : Int)) rfl rfl rfl (run_lenL (p := p) (cap := c) (n := l.length) rfl Tryd.underlying22 Tw.kr) ?_
     refine vp (i := 8) (v := .pointer (some ⟨g1, 0 + l.length * 9, none⟩)) rfl rfl rfl (run_idxL (j := .i64) (n := (l.length + 1)) (cap := (l.length + 1)) (b := g1) (off := 0) (k := l.length) (sz := 9) rfl Tryd.underlying22 Tw.kr Tw.kr Tw.kr Tw.om) ?_
     refine vv (i := 9) (v := .agg (bxL exB).toArray) rfl rfl rfl (yb_cells (off := 0 + l.length * 9) (cur := (putR cur1 l.length exB)) (cs := bxL exB) rfl Tw.kr Tw.m2 (row_last hr2) Tryd.underlying26 rfl Tw.kr) ?_
     refine vv (i := 10) (v := .agg (bxL exB).toArray) rfl rfl rfl (yb_call (f := 13) (args := #[]) Tw.kf fun W hW => example_any W) ?_
     refine vp (i := 11) (v := .bool false) rfl rfl rfl (run_bin rfl (vx := .agg (bxL exB).toArray) (vy := .agg (bxL exB).toArray) Tw.kr Tw.kr fun w => neq_bx (a := exB) (b := exB) (decide_eq_true rfl) w) ?_
     refine vm (i := 12) (v := .bool false) rfl rfl rfl ?_
     refine wpV_done Tw.kr (fun W14 hW14 => ?_) _
     change Code.wp ..
     refine wp_cond_false rfl ?_
     refine wp_skip ?_
     change Code.wp ..
     refine wp_seq ?_
     refine wp_region_L _ hW14 ?_
     refine lm (v := .slice p l.length c) rfl rfl ?_
     refine lv (v := .tuple #[.int .i64 va, .int .i64 ve]) rfl rfl (yb_call (f := 32) (args := #[.slice p l.length c]) Tw.kf fun W hW => (by have h9 := RValid_any l p c Tw.om W ((RL.base HP.out) _ (hW.sub (fun _ h => by cases h))); rw [hv] at h9; exact h9)) ?_
     refine lm (v := .tuple #[.int .i64 va, .int .i64 ve]) rfl rfl ?_
     refine lm (v := .int .i64 va) rfl rfl ?_
     refine lm (v := .int .i64 ve) rfl rfl ?_
     refine lm (v := .int .i64 va) rfl rfl ?_
     refine lm (v := .int .i64 ve) rfl rfl ?_
     refine wpL_done (fun W15 hW15 => ?_)
     change Code.wp ..
     refine wp_seq ?_
     refine wp_seq ?_
     refine wp_region_L _ hW15 ?_
     refine lm (v := .int .i64 va) rfl rfl ?_
     refine lm (v := .int .i64 va) rfl rfl ?_
     refine lp (v := .bool false) rfl rfl (run_bin rfl (vx := (.int .i64 va)) (vy := (.int .i64 va)) Tw.kr Tw.kr fun w => bi_neq (decide_eq_true rfl) w) ?_
     refine lm (v := .bool false) rfl rfl ?_
     refine lm (v := .int .i64 ve) rfl rfl ?_
     refine lm (v := .int .i64 ve) rfl rfl ?_
     refine lp (v := .bool false) rfl rfl (run_bin rfl (vx := (.int .i64 ve)) (vy := (.int .i64 ve)) Tw.kr Tw.kr fun w => bi_neq (decide_eq_true rfl) w) ?_
     refine lm (v := .bool false) rfl rfl ?_
     refine lm (v := .bool false) rfl rfl ?_
     refine lm (v := .slice p9 ((orderX l).length) c9) rfl rfl ?_
     refine lm (v := .slice p l.length c) rfl rfl ?_
     refine wpL_c (f := 33) (args := #[.slice p l.length c]) (OutRL bxL w ((g6, .cells (smL (totalX l)).toArray 47 (0, 0)) :: (g2, .cells (bxL b1).toArray 26 (0, 0)) :: (g1, .cells (putR cur1 l.length exB) 26 (0, 0)) :: (Km ++ Kl9)) (orderX l)) rfl Tw.kr Tw.kf (fun W hW => calls_r hW (((ROrder_any l p c Tw.om W ((RL.base HP.out) _ (hW.sub (fun _ h => by cases h)))).mono fun _ _ ⟨v, h1, h2, h3⟩ => ⟨v, h1, by rw [order_len]; exact h2, h3⟩))) Tw.pf ?_
     rintro _ _ ⟨p11, c11, Kl11, rfl, n11, R11, N11, rfl⟩
     obtain ⟨dj12_0, dj12_1, dj12_2, dj12_3, dj12_4⟩ : Dk g6 Kl11 ∧ Dk g2 Kl11 ∧ Dk g1 Kl11 ∧ Dj Km Kl11 ∧ Dj Kl9 Kl11 := Tw.djf N11
     refine wpL_sub (K2 := ((g6, .cells (smL (totalX l)).toArray 47 (0, 0)) :: (g2, .cells (bxL b1).toArray 26 (0, 0)) :: (g1, .cells (putR cur1 l.length exB) 26 (0, 0)) :: (Km ++ (Kl9 ++ Kl11)))) (fun p hp => by simp only [List.mem_cons, List.mem_append, or_assoc] at hp ⊢; exact hp) ?_
     refine lv (v := .bool true) rfl rfl (yb_call (f := 28) (args := #[.slice p9 ((orderX l).length) c9, .slice p11 ((orderX l).length) c11]) Tw.kf fun W hW => same_is (orderX l) (orderX l) p9 p11 c9 c11 rfl rfl Tw.om W (R9 _ (hW.sub (fun p hp => by simp only [List.mem_cons, List.mem_append, List.nil_append, List.not_mem_nil, or_assoc, or_false, false_or, hp, true_or, or_true]))) (R11 _ (hW.sub (fun p hp => by simp only [List.mem_cons, List.mem_append, List.nil_append, List.not_mem_nil, or_assoc, or_false, false_or, hp, true_or, or_true]))) rfl) ?_
     refine lm (v := .bool false) rfl rfl ?_
     refine lm (v := .bool false) rfl rfl ?_
     refine wpL_done (fun W16 hW16 => ?_)
     change Code.wp ..
     refine wp_cond_false rfl ?_
     refine wp_skip ?_
     change Code.wp ..
     refine wp_seq ?_
     refine wp_region_L _ hW16 ?_
     refine lm (v := .slice p l.length c) rfl rfl ?_
     refine lv (v := .agg (smL (totalX l)).toArray) rfl rfl (yb_call (f := 34) (args := #[.slice p l.length c]) Tw.kf fun W hW => RTotal_any l p c Tw.om W ((RL.base HP.out) _ (hW.sub (fun _ h => by cases h)))) ?_
     refine wpL_new (fun g => .pointer (some ⟨g, 0, none⟩)) (obi := .cells #[.int .i64 0, .int .i64 0, .int .i64 0, .int .i64 0, .int .i64 0] 66 (0, 0)) rfl rfl Tw.kf Tw.pf fun g13 Bg13 Fg13 => ?_
     obtain ⟨dj14_0, dj14_1, dj14_2, dj14_3, dj14_4, dj14_5⟩ : g6 ≠ g13 ∧ g2 ≠ g13 ∧ g1 ≠ g13 ∧ Dk g13 Km ∧ Dk g13 Kl9 ∧ Dk g13 Kl11 := Tw.dkf Fg13
     refine wpL_s ((g13, .cells (smL (totalX l)).toArray 66 (0, 0)) :: (g6, .cells (smL (totalX l)).toArray 47 (0, 0)) :: (g2, .cells (bxL b1).toArray 26 (0, 0)) :: (g1, .cells (putR cur1 l.length exB) 26 (0, 0)) :: (Km ++ (Kl9 ++ Kl11))) rfl rfl (st_row (off := 0) (v := .agg (smL (totalX l)).toArray) rfl Tw.kr Tw.kr Tw.m0 Bg13 Tw.kr (by first | (simp [Value.cells]; done) | exact Nat.le_of_ble_eq_true rfl) (fun v hv => smL_one (totalX l) v hv) Tw.kr (List.forall_mem_cons.2 ⟨.inl rfl, (List.forall_mem_cons.2 ⟨.inr ⟨Tw.m1, Tw.nee⟩, (List.forall_mem_cons.2 ⟨.inr ⟨Tw.m2, Tw.nee⟩, (List.forall_mem_cons.2 ⟨.inr ⟨Tw.m3, Tw.nee⟩, (fun p hp => .inr ⟨(.tail _ (.tail _ (.tail _ (.tail _ hp)))), ((show Dk g13 (Km ++ (Kl9 ++ Kl11)) from Tw.djt) _ hp)⟩)⟩)⟩)⟩)⟩)) ?_
     refine wpL_done (fun W17 hW17 => ?_)
     change Code.wp ..
     refine wp_seq ?_
     refine wp_seq ?_
     refine wp_region_L _ hW17 ?_
     refine lv (v := .agg (smL (totalX l)).toArray) rfl rfl (yb_load (n := 5) (off := 0) rfl Tw.kr Tw.m1 Tryd.underlying47 rfl Tw.kr (by first | (simp [Value.cells]; done) | exact Nat.le_of_ble_eq_true rfl) Tw.kr) ?_
     refine lm (v := .pointer (some ⟨g13, 0, none⟩)) rfl rfl ?_
     refine lv (v := .int .i64 ((((totalX l).n) : Nat) : Int)) rfl rfl (yb_cell (off := 0) rfl Tw.kr Tw.m0 Tryd.underlying3 rfl Tw.kr) ?_
     refine lm (v := .pointer (some ⟨g13, 1, none⟩)) rfl rfl ?_
     refine lv (v := .int .i64 ((((totalX l).h) : Nat) : Int)) rfl rfl (yb_cell (off := 1) rfl Tw.kr Tw.m0 Tryd.underlying3 rfl Tw.kr) ?_
     refine lm (v := .pointer (some ⟨g13, 2, none⟩)) rfl rfl ?_
     refine lv (v := .int .i64 ((totalX l).k)) rfl rfl (yb_cell (off := 2) rfl Tw.kr Tw.m0 Tryd.underlying3 rfl Tw.kr) ?_
     refine lm (v := .pointer (some ⟨g13, 3, none⟩)) rfl rfl ?_
     refine lv (v := .int .i64 ((((totalX l).r) : Nat) : Int)) rfl rfl (yb_cell (off := 3) rfl Tw.kr Tw.m0 Tryd.underlying3 rfl Tw.kr) ?_
     refine lm (v := .pointer (some ⟨g13, 4, none⟩)) rfl rfl ?_
     refine lv (v := .int .i64 ((((totalX l).d) : Nat) : Int)) rfl rfl (yb_cell (off := 4) rfl Tw.kr Tw.m0 Tryd.underlying3 rfl Tw.kr) ?_
     refine lm (v := .agg (smL (totalX l)).toArray) rfl rfl ?_
     refine lp (v := .bool false) rfl rfl (run_bin rfl (vx := .agg (smL (totalX l)).toArray) (vy := .agg (smL (totalX l)).toArray) Tw.kr Tw.kr fun w => neq_smL w) ?_
     refine wpL_done (fun W18 hW18 => ?_)
     change Code.wp ..
     refine wp_cond_false rfl ?_
     refine wp_skip ?_
     change Code.wp ..
     refine wp_seq ?_
     refine wp_region_L _ hW18 ?_
     refine lm (v := .slice p l.length c) rfl rfl ?_
     refine lm (v := .int .i64 id) rfl rfl ?_
     refine lv (v := .int .i64 ((j1 : Nat) : Int)) rfl rfl (yb_call (f := 35) (args := #[.slice p l.length c, .int .i64 id]) Tw.kf fun W hW => (by have h9 := RFind_any l p c id Tw.om W ((RL.base HP.out) _ (hW.sub (fun _ h => by cases h))); rw [f2] at h9; exact h9)) ?_
     refine lm (v := .slice p l.length c) rfl rfl ?_
     refine lm (v := strV n) rfl rfl ?_
     refine lv (v := .int .i64 ((j2 : Nat) : Int)) rfl rfl (yb_call (f := 36) (args := #[.slice p l.length c, strV n]) Tw.kf fun W hW => (by have h9 := RNumbered_any l p c n Tw.om W ((RL.base HP.out) _ (hW.sub (fun _ h => by cases h))); rw [nb2] at h9; exact h9)) ?_
     refine lm (v := .int .i64 ((j1 : Nat) : Int)) rfl rfl ?_
     refine lm (v := .int .i64 ((j2 : Nat) : Int)) rfl rfl ?_
     refine wpL_done (fun W19 hW19 => ?_)
     change Code.wp ..
     refine wp_seq ?_
     refine wp_seq ?_
     refine wp_region_V _ Tw.kr hW19 ?_
     refine vm (i := 0) (v := .bool true) rfl rfl rfl ?_
     refine vm (i := 1) (v := .int .i64 ((j1 : Nat) : Int)) rfl rfl rfl ?_
     refine vp (i := 2) (v := .bool true) rfl rfl rfl (run_bin rfl (vx := (.int .i64 ((j1 : Nat) : Int))) (vy := (.int .i64 ((0 : Nat) : Int))) Tw.kr Tw.kr fun w => bn_geq (decide_eq_false (Nat.not_lt_zero _)) w) ?_
     refine vp (i := 3) (v := .bool false) rfl rfl rfl (run_bin rfl (vx := .bool true) (vy := .bool true) Tw.kr Tw.kr fun w => bn_bool_neq rfl Tryd.underlying4 w) ?_
     refine vm (i := 4) (v := .bool false) rfl rfl rfl ?_
     refine vm (i := 5) (v := .int .i64 ((j1 : Nat) : Int)) rfl rfl rfl ?_
     refine vp (i := 6) (v := .bool true) rfl rfl rfl (run_bin rfl (vx := (.int .i64 ((j1 : Nat) : Int))) (vy := (.int .i64 ((0 : Nat) : Int))) Tw.kr Tw.kr fun w => bn_geq (decide_eq_false (Nat.not_lt_zero _)) w) ?_
     refine vm (i := 7) (v := .bool true) rfl rfl rfl ?_
     refine vv (i := 8) (v := .agg (bxL b1).toArray) rfl rfl rfl (yb_load (n := 9) (off := 0) rfl Tw.kr Tw.m2 Tryd.underlying26 rfl Tw.kr (by first | (simp [Value.cells]; done) | exact Nat.le_of_ble_eq_true rfl) Tw.kr) ?_
     refine vm (i := 9) (v := .slice p l.length c) rfl rfl rfl ?_
     refine vm (i := 10) (v := .int .i64 ((j1 : Nat) : Int)) rfl rfl rfl ?_
     obtain ⟨y15, g15_, f15_, hy15, hp15, hc15⟩ := RL.at (RL.base HP.out) bxL_len (by decide) (hW19.sub (fun _ h => by cases h)) (k := j1) Tw.om
     have ey15 : b1 = y15 := by rw [f3] at hy15; exact Option.some.inj hy15
     subst ey15
     refine vp (i := 11) (v := .pointer (some ⟨g15_, f15_ + j1 * 9, none⟩)) rfl rfl rfl (run_idxQ (p := p) (cap := c) (n := l.length) (j := .i64) (k := j1) (sz := 9) rfl Tryd.underlying22 Tw.kr Tw.kr hp15 Tw.kr Tw.om) ?_
     refine vb (i := 12) (v := .agg (bxL b1).toArray) rfl rfl rfl (yb_rs (off := f15_ + j1 * 9) (cs := bxL b1) rfl Tw.kr (fun W hW => hc15 W (hW.sub (fun _ h => by cases h))) Tryd.underlying26 rfl Tw.kr) ?_
     refine vp (i := 13) (v := .bool false) rfl rfl rfl (run_bin rfl (vx := .agg (bxL b1).toArray) (vy := .agg (bxL b1).toArray) Tw.kr Tw.kr fun w => neq_bx (a := b1) (b := b1) (decide_eq_true rfl) w) ?_
     refine vm (i := 14) (v := .bool false) rfl rfl rfl ?_
     refine vm (i := 15) (v := .bool false) rfl rfl rfl ?_
     refine vm (i := 16) (v := .bool false) rfl rfl rfl ?_
     refine vm (i := 17) (v := .int .i64 ((j1 : Nat) : Int)) rfl rfl rfl ?_
     refine vp (i := 18) (v := .bool false) rfl rfl rfl (run_bin rfl (vx := (.int .i64 ((j1 : Nat) : Int))) (vy := (.int .i64 ((0 : Nat) : Int))) Tw.kr Tw.kr fun w => bn_lss (decide_eq_false (Nat.not_lt_zero _)) w) ?_
     refine vm (i := 19) (v := .bool false) rfl rfl rfl ?_
     refine vn (i := 20) rfl rfl ?_
     refine vn (i := 21) rfl rfl ?_
     refine vn (i := 22) rfl rfl ?_
     refine vm (i := 23) (v := .bool false) rfl rfl rfl ?_
     refine vm (i := 24) (v := .bool false) rfl rfl rfl ?_
     refine wpV_done Tw.kr (fun W20 hW20 => ?_) _
     change Code.wp ..
     refine wp_cond_false rfl ?_
     refine wp_skip ?_
     change Code.wp ..
     refine wp_seq ?_
     refine wp_region_L _ hW20 ?_
     refine lm (v := .bool true) rfl rfl ?_
     refine lm (v := .int .i64 ((j2 : Nat) : Int)) rfl rfl ?_
     refine lp (v := .bool true) rfl rfl (run_bin rfl (vx := (.int .i64 ((j2 : Nat) : Int))) (vy := (.int .i64 ((0 : Nat) : Int))) Tw.kr Tw.kr fun w => bn_geq (decide_eq_false (Nat.not_lt_zero _)) w) ?_
     refine lp (v := .bool true) rfl rfl (run_bin rfl (vx := .bool true) (vy := .bool true) Tw.kr Tw.kr fun w => bn_bool_eql rfl Tryd.underlying4 w) ?_
     refine lm (v := .bool true) rfl rfl ?_
     refine lm (v := .int .i64 ((j2 : Nat) : Int)) rfl rfl ?_
     refine lp (v := .bool true) rfl rfl (run_bin rfl (vx := (.int .i64 ((j2 : Nat) : Int))) (vy := (.int .i64 ((0 : Nat) : Int))) Tw.kr Tw.kr fun w => bn_geq (decide_eq_false (Nat.not_lt_zero _)) w) ?_
     refine lm (v := .bool true) rfl rfl ?_
     refine lm (v := .int .i64 b2.id) rfl rfl ?_
     refine lm (v := .slice p l.length c) rfl rfl ?_
     refine lm (v := .int .i64 ((j2 : Nat) : Int)) rfl rfl ?_
     obtain ⟨y16, g16_, f16_, hy16, hp16, hc16⟩ := RL.at (RL.base HP.out) bxL_len (by decide) (hW20.sub (fun _ h => by cases h)) (k := j2) Tw.om
     have ey16 : b2 = y16 := by rw [nb3] at hy16; exact Option.some.inj hy16
     subst ey16
     refine lp (v := .pointer (some ⟨g16_, f16_ + j2 * 9, none⟩)) rfl rfl (run_idxQ (p := p) (cap := c) (n := l.length) (j := .i64) (k := j2) (sz := 9) rfl Tryd.underlying22 Tw.kr Tw.kr hp16 Tw.kr Tw.om) ?_
     refine lm (v := .pointer (some ⟨g16_, f16_ + j2 * 9, none⟩)) rfl rfl ?_
     refine lv (v := .int .i64 b2.id) rfl rfl (yb_rf (v := .int .i64 b2.id) rfl Tw.kr (fun W hW => hc16 W (hW.sub (fun _ h => by cases h)) 0 _ rfl) Tryd.underlying3 rfl) ?_
     refine lp (v := .bool true) rfl rfl (run_bin rfl (vx := (.int .i64 b2.id)) (vy := (.int .i64 b2.id)) Tw.kr Tw.kr fun w => bi_eql (decide_eq_true rfl) w) ?_
     refine lm (v := .bool true) rfl rfl ?_
     refine lm (v := .bool true) rfl rfl ?_
     refine ln rfl ?_
     refine ln rfl ?_
     refine ln rfl ?_
     refine ln rfl ?_
     refine ln rfl ?_
     refine ln rfl ?_
     refine lm (v := .bool true) rfl rfl ?_
     refine lm (v := .bool true) rfl rfl ?_
     refine lm (v := .bool true) rfl rfl ?_
     refine wpL_done (fun W21 hW21 => ?_)
     change Code.wp ..
     refine wp_ret ?_
     try simp only [inBlock_ret, then_ret]
     refine bodyPost_ret (v := .bool true) ?_ rfl ?_
     · kernel_rfl
     · exact ⟨rfl, hW21.1⟩
   | true =>
     have h1 : k < ((orderX l).length) := of_decide_eq_true hd1
     clear hd1
     refine wp_cond_true rfl ?_
     refine wp_skip ?_
     change Code.wp ..
     refine wp_seq ?_
     refine wp_block ?_
     refine wp_seq ?_
     refine wp_region_L _ hW12 ?_
     refine lm (v := .int .i64 ((k : Nat) : Int)) rfl rfl ?_
     refine lm (v := .int .i64 ((k : Nat) : Int)) rfl rfl ?_
     refine wpL_done (fun W22 hW22 => ?_)
     change Code.wp ..
     obtain ⟨g9, cap9, cur9, rfl, hB9, hR9, hr9, rfl⟩ := own_blk hO Tw.om
     obtain ⟨bq, hbq⟩ : ∃ y, m[k]? = some y := ⟨_, List.getElem?_eq_getElem Tw.om⟩
     have hcap9 := hR9.2.2.1
     have gng6 : g9 ≠ g6 := by simpa only [dk_cons, dk_nil, and_true] using (show Dk g6 [(g9, .cells cur9 26 (0, 0))] from by assumption)
     have gng2 : g9 ≠ g2 := by simpa only [dk_cons, dk_nil, and_true] using (show Dk g2 [(g9, .cells cur9 26 (0, 0))] from by assumption)
     have gng1 : g9 ≠ g1 := by simpa only [dk_cons, dk_nil, and_true] using (show Dk g1 [(g9, .cells cur9 26 (0, 0))] from by assumption)
     refine wp_region_L _ hW22 ?_
     refine lm (v := .slice (some ⟨g9, 0, none⟩) (orderX l).length cap9) rfl rfl ?_
     refine lm (v := .int .i64 ((k : Nat) : Int)) rfl rfl ?_
     refine lp (v := .pointer (some ⟨g9, 0 + k * 9, none⟩)) rfl rfl (run_idxL (j := .i64) (n := (orderX l).length) (cap := cap9) (b := g9) (off := 0) (k := k) (sz := 9) rfl Tryd.underlying22 Tw.kr Tw.kr Tw.kr Tw.om) ?_
     refine lm (v := .pointer (some ⟨g9, 0 + k * 9 + 4, none⟩)) rfl rfl ?_
     refine lv (v := .int .i64 bq.kilos) rfl rfl (yb_cell (off := 0 + k * 9 + 4) (v := .int .i64 bq.kilos) rfl Tw.kr Tw.m3 Tryd.underlying3 rfl (RowR.get hr9 bxL_len hbq 4 _ rfl)) ?_
     refine lp (v := .int .i64 (IntKind.i64.wrap (bq.kilos + 1))) rfl rfl (run_bin rfl (vx := .int .i64 bq.kilos) (vy := .int .i64 1) Tw.kr Tw.kr fun w => bw_add (z := (IntKind.i64.wrap (bq.kilos + 1))) rfl w) ?_
     refine lp (v := .pointer (some ⟨g9, 0 + k * 9, none⟩)) rfl rfl (run_idxL (j := .i64) (n := (orderX l).length) (cap := cap9) (b := g9) (off := 0) (k := k) (sz := 9) rfl Tryd.underlying22 Tw.kr Tw.kr Tw.kr Tw.om) ?_
     refine lm (v := .pointer (some ⟨g9, 0 + k * 9 + 4, none⟩)) rfl rfl ?_
     refine wpL_s [(g6, .cells (smL (totalX l)).toArray 47 (0, 0)), (g2, .cells (bxL b1).toArray 26 (0, 0)), (g1, .cells (putR cur1 l.length exB) 26 (0, 0)), (g9, .cells (cur9.setIfInBounds (0 + k * 9 + 4) (.int .i64 (IntKind.i64.wrap (bq.kilos + 1)))) 26 (0, 0))] rfl rfl (st_at (off := 0 + k * 9 + 4) (v := .int .i64 (IntKind.i64.wrap (bq.kilos + 1))) rfl Tw.kr Tw.kr Tw.m3 hB9 Tw.kr rfl rfl (by rw [hR9.1]; have h9 := hR9.2.2.1; omega) (.inr rfl) (List.forall_mem_cons.2 ⟨.inr ⟨Tw.m0, Tw.nee⟩, (List.forall_mem_cons.2 ⟨.inr ⟨Tw.m1, Tw.nee⟩, (List.forall_mem_cons.2 ⟨.inr ⟨Tw.m2, Tw.nee⟩, (List.forall_mem_cons.2 ⟨.inl rfl, (List.forall_mem_nil _)⟩)⟩)⟩)⟩)) ?_
     refine wpL_done (fun W23 hW23 => ?_)
     change Code.wp ..
     refine wp_region_L _ hW23 ?_
     refine lp (v := .int .i64 (((k + 1) : Nat) : Int)) rfl rfl (run_bin rfl (vx := (.int .i64 ((k : Nat) : Int))) (vy := (.int .i64 ((1 : Nat) : Int))) Tw.kr Tw.kr fun w => bn_add (z := (k + 1)) rfl (wr_i64 Tw.om) w) ?_
     refine lm (v := .int .i64 (((k + 1) : Nat) : Int)) rfl rfl ?_
     refine wpL_done (fun W24 hW24 => ?_)
     go_roundw
     case rel =>
       repeat apply Exists.intro
       exact ⟨⟨k + 1, (m.set k { bq with kilos := (IntKind.i64.wrap (bq.kilos + 1)) }), [(g9, .cells (cur9.setIfInBounds (0 + k * 9 + 4) (.int .i64 (IntKind.i64.wrap (bq.kilos + 1)))) 26 (0, 0))], Tw.om, (by rw [List.length_set]; omega), (blk_own hB9 hR9 hbq rfl), (show Dk g6 [(g9, .cells (cur9.setIfInBounds (0 + k * 9 + 4) (.int .i64 (IntKind.i64.wrap (bq.kilos + 1)))) 26 (0, 0))] from Tw.djt), (show Dk g2 [(g9, .cells (cur9.setIfInBounds (0 + k * 9 + 4) (.int .i64 (IntKind.i64.wrap (bq.kilos + 1)))) 26 (0, 0))] from Tw.djt), (show Dk g1 [(g9, .cells (cur9.setIfInBounds (0 + k * 9 + 4) (.int .i64 (IntKind.i64.wrap (bq.kilos + 1)))) 26 (0, 0))] from Tw.djt), rfl, (hW24.sub (fun p hp => by first | exact hp | (simp only [List.mem_cons, List.mem_append, List.nil_append, List.not_mem_nil, or_assoc, or_false, false_or] at hp ⊢ <;> grind)))⟩, rfl⟩
     case measure => (show (orderX l).length - (intOf (.int .i64 (((k + 1) : Nat) : Int))).toNat < (orderX l).length - (intOf (.int .i64 ((k : Nat) : Int))).toNat); simp only [intOf]; omega
theorem lists_any (l : List Bx) (p : Option Addr) (c : Nat) (id : Int) (n : List UInt8) (hl : l.length ≤ 300) (w : World) (hp : SLV w p (bcs l)) : Calls Tryd.prog 11 #[.slice p l.length c, .int .i64 id, strV n] w fun e w' => e = .returned (.bool true) ∧ Below w.heap.size w w' := by
 rcases find_two (idIs id) l with ⟨f1, f2⟩ | ⟨b1, j1, f1, f2, f3⟩ <;> rcases find_two (numP n) l with ⟨g1, g2⟩ | ⟨b2, j2, g1, g2, g3⟩
 · exact lists_00 l p c id n hl f1 f2 g1 g2 w hp
 · exact lists_01 l p c id n hl f1 f2 b2 j2 g1 g2 g3 w hp
 · exact lists_10 l p c id n hl b1 j1 f1 f2 f3 g1 g2 w hp
 · exact lists_11 l p c id n hl b1 j1 f1 f2 f3 b2 j2 g1 g2 g3 w hp
end Go.Proofs.YtllmpemmknblaaaDoor
/- What BoxSmall leans on. -/
namespace Go.Proofs.YtllmpemmknblaaaDoor
open Go Go.RowKit Tw
def inB (n : Int) : List Value := [.int .i64 n]
theorem inB_len (n : Int) : (inB n).length = 1 := rfl
def txC (t : List UInt8) : List Value := [strV t]
theorem txC_len (t : List UInt8) : (txC t).length = 1 := rfl
theorem txC_one (t : List UInt8) : ∀ v ∈ txC t, v.oneCell' = true := fun v hv => by
 cases List.mem_singleton.1 hv; rfl
theorem inB_one (n : Int) : ∀ v ∈ inB n, v.oneCell' = true := fun v hv => by
 cases List.mem_singleton.1 hv; rfl
theorem lit_rl {α : Type} {cells : α → List Value} {W0 : Base} {g : Nat} {cur : Array Value} {E : TypeId} {l : List α} (h : RowR cells cur l) : RL cells W0 (some ⟨g, 0, none⟩) l [(g, .cells cur E (0, 0))] := fun _ hW => rowr_slv hW Tw.m0 h
theorem wrap_nat (z : Int) : ∃ m : Nat, IntKind.u8.wrap z = ((m : Nat) : Int) := by
 have h : 0 ≤ IntKind.u8.wrap z := by
   unfold IntKind.wrap
   simp [IntKind.bits, IntKind.signed]
   omega
 exact ⟨(IntKind.u8.wrap z).toNat, (Int.toNat_of_nonneg h).symm⟩
theorem code_two (b : Bx) : ∃ (cs : List UInt8) (ce : Int), codeT b = .tuple #[strV cs, .int .i64 ce] := by
 unfold codeT
 split
 · exact ⟨_, _, rfl⟩
 · exact ⟨_, _, rfl⟩
def nsL : List Int := [-1, 0, 1, 2, 9, 10, 19, 20, 21, 31999, 32000, 32001, 39999, 40000, 40001, 999999, 1000000]
theorem nsL_len : nsL.length = 17 := rfl
def txs3 : List (List UInt8) := [[], [67, 83, 81, 85, 51, 48, 53, 52, 51, 56, 51], [67, 83, 81, 85, 51, 48, 53, 52, 51, 56, 52]]
theorem txs3_len : txs3.length = 3 := rfl
theorem own_appB {W0 : Base} {E : TypeId} {v : Value} {n : Nat} {l' : List Bx} {xs : List Value} {K : List (Nat × Obj)} (h : OwnL W0 E 9 v n xs K) (e : xs = bcs l') (e2 : n = l'.length) : OwnL W0 E 9 v l'.length (bcs l') K := by
 subst e e2; exact h
-- many boxes
def mb (k : Nat) : Bx := ⟨((1 + k : Nat) : Int), [], 40, true, 30000, 1, 3, 0, false⟩
def manyL (n : Nat) : List Bx := (List.range n).map mb
theorem manyL_succ (n : Nat) : manyL (n + 1) = manyL n ++ [mb n] := by
 unfold manyL
 rw [List.range_succ, List.map_append]; rfl
theorem manyL_len (n : Nat) : (manyL n).length = n := by unfold manyL; simp
theorem manyL_take {m n : Nat} (h : m ≤ n) : (manyL n).take m = manyL m := by
 unfold manyL
 rw [← List.map_take, List.take_range, Nat.min_eq_left h]
theorem manyL_at {n k : Nat} (h : k < n) : (manyL n)[k]? = some (mb k) := by
 unfold manyL
 rw [List.getElem?_map, List.getElem?_range h]; rfl
theorem mb_right {k : Nat} (h : k < 2000) : rightX (mb k) = true := by
 have h1 : decide ((1 : Int) ≤ ((1 + k : Nat) : Int)) = true := decide_eq_true Tw.om
 have h2 : decide (((1 + k : Nat) : Int) ≤ 999999) = true := decide_eq_true Tw.om
 have r1 : rul1 (mb k) = true := by
   unfold rul1
   show (decide ((1 : Int) ≤ ((1 + k : Nat) : Int)) && decide (((1 + k : Nat) : Int) ≤ 999999)) = true
   rw [h1, h2]; rfl
 unfold rightX
 rw [r1]; rfl
theorem many_good : firstBad (manyL 2000) = none := firstBad_none fun j hj => by
 rw [manyL_len] at hj
 unfold badX
 rw [manyL_at hj]
 show (!rightX (mb j) || seenX (manyL 2000) j (mb j).num || prevX (manyL 2000) j (mb j)) = false
 have h1 : seenX (manyL 2000) j (mb j).num = false := by
   unfold seenX
   rw [decide_eq_false (show ¬ (mb j).num ≠ [] from fun h => h rfl)]; rfl
 have h2 : prevX (manyL 2000) j (mb j) = false := by
   unfold prevX
   cases j with
   | zero => rfl
   | succ i =>
     rw [Nat.add_sub_cancel, manyL_at Tw.om]
     show (_ && decide ((mb (i + 1)).id ≤ (mb i).id)) = false
     rw [decide_eq_false (show ¬ (mb (i + 1)).id ≤ (mb i).id from by show ¬ (((1 + (i + 1) : Nat)) : Int) ≤ ((1 + i : Nat) : Int); omega), Bool.and_false]
 rw [mb_right hj, h1, h2]; rfl
theorem many_valid : validV (manyL 2000) = .tuple #[.int .i64 (-1), .int .i64 0] := by
 unfold validV
 rw [if_neg (by rw [manyL_len]; omega), many_good]
theorem many_more : validV (manyL 2001) = .tuple #[.int .i64 (-1), .int .i64 5] := by
 unfold validV
 rw [if_pos (by rw [manyL_len]; omega)]
end Go.Proofs.YtllmpemmknblaaaDoor
namespace Go.Proofs.YtllmpemmknblaaaDoor
open Go Go.RowKit Tw
set_option maxRecDepth 100000 in
set_option maxHeartbeats 4000000 in
theorem RCode_any (b : Bx) (w : World) : Calls Tryd.prog 37 #[.agg (bxL b).toArray] w fun e w' => e = .returned (codeT b) ∧ Below w.heap.size w w' := by
 go_enter Tryd.func37, Tryd.ntmps37
 refine wp_seq ?_
 refine wp_region_L [] (KS.start w) ?_
 refine wpL_new (fun g => .pointer (some ⟨g, 0, none⟩)) (obi := .cells (bxL b).toArray 26 (0, 0)) rfl rfl Tw.kf Tw.pf fun g1 Bg1 Fg1 => ?_
 refine lm (v := strV []) rfl rfl ?_
 refine lm (v := .int .i64 0) rfl rfl ?_
 refine wpL_done (fun W1 hW1 => ?_)
 change Code.wp ..
 refine wp_seq ?_
 refine wp_region_L _ hW1 ?_
 refine lm (v := strV [50, 50]) rfl rfl ?_
 refine wpL_done (fun W2 hW2 => ?_)
 change Code.wp ..
 refine wp_seq ?_
 refine wp_seq ?_
 refine wp_region_L _ hW2 ?_
 refine lm (v := .pointer (some ⟨g1, 2, none⟩)) rfl rfl ?_
 refine lv (v := .int .u8 ((b.size : Nat) : Int)) rfl rfl (yb_cell (off := 2) rfl Tw.kr Tw.m0 Tryd.underlying5 rfl Tw.kr) ?_
 refine lp (v := .bool (decide (b.size = 40))) rfl rfl (run_bin rfl (vx := (.int .u8 ((b.size : Nat) : Int))) (vy := (.int .u8 ((40 : Nat) : Int))) Tw.kr Tw.kr fun w => bn_eql rfl w) ?_
 refine wpL_done (fun W3 hW3 => ?_)
 change Code.wp ..
 cases hd1 : (decide (b.size = 40)) with
 | false =>
   have h1 : ¬ (b.size = 40) := of_decide_eq_false hd1
   clear hd1
   refine wp_cond_false rfl ?_
   refine wp_skip ?_
   change Code.wp ..
   refine wp_seq ?_
   refine wp_seq ?_
   refine wp_region_L _ hW3 ?_
   refine lm (v := .pointer (some ⟨g1, 2, none⟩)) rfl rfl ?_
   refine lv (v := .int .u8 ((b.size : Nat) : Int)) rfl rfl (yb_cell (off := 2) rfl Tw.kr Tw.m0 Tryd.underlying5 rfl Tw.kr) ?_
   refine lp (v := .bool false) rfl rfl (run_bin rfl (vx := (.int .u8 ((b.size : Nat) : Int))) (vy := (.int .u8 ((40 : Nat) : Int))) Tw.kr Tw.kr fun w => bn_eql (decide_eq_false (by assumption)) w) ?_
   refine lm (v := .bool false) rfl rfl ?_
   refine ln rfl ?_
   refine ln rfl ?_
   refine lm (v := .bool false) rfl rfl ?_
   refine wpL_done (fun W4 hW4 => ?_)
   change Code.wp ..
   refine wp_cond_false rfl ?_
   refine wp_skip ?_
   change Code.wp ..
   refine wp_seq ?_
   refine wp_seq ?_
   refine wp_region_L _ hW4 ?_
   refine lm (v := .pointer (some ⟨g1, 2, none⟩)) rfl rfl ?_
   refine lv (v := .int .u8 ((b.size : Nat) : Int)) rfl rfl (yb_cell (off := 2) rfl Tw.kr Tw.m0 Tryd.underlying5 rfl Tw.kr) ?_
   refine lp (v := .bool (!(decide (b.size = 20)))) rfl rfl (run_bin rfl (vx := (.int .u8 ((b.size : Nat) : Int))) (vy := (.int .u8 ((20 : Nat) : Int))) Tw.kr Tw.kr fun w => bn_neq rfl w) ?_
   refine lm (v := .bool (!(decide (b.size = 20)))) rfl rfl ?_
   cases hd2 : (decide (b.size = 20)) with
   | false =>
     have h2 : ¬ (b.size = 20) := of_decide_eq_false hd2
     clear hd2
     refine lm (v := .pointer (some ⟨g1, 2, none⟩)) rfl rfl ?_
     refine lv (v := .int .u8 ((b.size : Nat) : Int)) rfl rfl (yb_cell (off := 2) rfl Tw.kr Tw.m0 Tryd.underlying5 rfl Tw.kr) ?_
     refine lp (v := .bool true) rfl rfl (run_bin rfl (vx := (.int .u8 ((b.size : Nat) : Int))) (vy := (.int .u8 ((40 : Nat) : Int))) Tw.kr Tw.kr fun w => bn_neq (decide_eq_false (by assumption)) w) ?_
     refine lm (v := .bool true) rfl rfl ?_
     refine lm (v := .bool true) rfl rfl ?_
     refine ln rfl ?_
     refine ln rfl ?_
     refine ln rfl ?_
     refine ln rfl ?_
     refine ln rfl ?_
     refine ln rfl ?_
     refine ln rfl ?_
     refine lm (v := .bool true) rfl rfl ?_
     refine wpL_done (fun W5 hW5 => ?_)
     change Code.wp ..
     refine wp_cond_true rfl ?_
     refine wp_seq ?_
     refine wp_region_L _ hW5 ?_
     refine lm (v := strV []) rfl rfl ?_
     refine lm (v := .int .i64 60) rfl rfl ?_
     refine wpL_done (fun W6 hW6 => ?_)
     change Code.wp ..
     refine wp_ret ?_
     try simp only [inBlock_ret, then_ret]
     refine bodyPost_ret (v := .tuple #[strV [], .int .i64 60]) ?_ rfl ?_
     · kernel_rfl
     · exact ⟨(ret_v (by first | omega | (unfold codeT codeOk codeS; simp [h1, h2]))), hW6.1⟩
   | true =>
     have h2 : b.size = 20 := of_decide_eq_true hd2
     clear hd2
     refine ln rfl ?_
     refine ln rfl ?_
     refine ln rfl ?_
     refine lm (v := .bool false) rfl rfl ?_
     refine lm (v := .bool false) rfl rfl ?_
     refine lm (v := .pointer (some ⟨g1, 2, none⟩)) rfl rfl ?_
     refine lv (v := .int .u8 ((b.size : Nat) : Int)) rfl rfl (yb_cell (off := 2) rfl Tw.kr Tw.m0 Tryd.underlying5 rfl Tw.kr) ?_
     refine lp (v := .bool true) rfl rfl (run_bin rfl (vx := (.int .u8 ((b.size : Nat) : Int))) (vy := (.int .u8 ((20 : Nat) : Int))) Tw.kr Tw.kr fun w => bn_eql (decide_eq_true (by assumption)) w) ?_
     refine lm (v := .bool true) rfl rfl ?_
     refine lm (v := .pointer (some ⟨g1, 3, none⟩)) rfl rfl ?_
     refine lv (v := .bool b.high) rfl rfl (yb_cell (off := 3) rfl Tw.kr Tw.m0 Tryd.underlying4 rfl Tw.kr) ?_
     refine lm (v := .bool b.high) rfl rfl ?_
     refine lm (v := .bool b.high) rfl rfl ?_
     refine wpL_done (fun W7 hW7 => ?_)
     change Code.wp ..
     cases h3 : b.high with
     | false =>
       refine wp_cond_false rfl ?_
       refine wp_skip ?_
       change Code.wp ..
       refine wp_seq ?_
       refine wp_seq ?_
       refine wp_region_L _ hW7 ?_
       refine lm (v := .pointer (some ⟨g1, 8, none⟩)) rfl rfl ?_
       refine lv (v := .bool b.rf) rfl rfl (yb_cell (off := 8) rfl Tw.kr Tw.m0 Tryd.underlying4 rfl Tw.kr) ?_
       refine wpL_done (fun W8 hW8 => ?_)
       change Code.wp ..
       cases h4 : b.rf with
       | false =>
         refine wp_cond_false rfl ?_
         refine wp_skip ?_
         change Code.wp ..
         refine wp_seq ?_
         refine wp_region_L _ hW8 ?_
         refine lm (v := strV [50, 50]) rfl rfl ?_
         refine lp (v := strV ([50, 50] ++ [71, 49])) rfl rfl (run_bin rfl (vx := strV [50, 50]) (vy := strV [71, 49]) Tw.kr Tw.kr fun w => bs_add (c := ([50, 50] ++ [71, 49])) rfl (by first | omega | (simp; done) | (simp; omega)) w) ?_
         refine lm (v := strV ([50, 50] ++ [71, 49])) rfl rfl ?_
         refine lm (v := .int .i64 0) rfl rfl ?_
         refine wpL_done (fun W9 hW9 => ?_)
         change Code.wp ..
         refine wp_ret ?_
         try simp only [inBlock_ret, then_ret]
         refine bodyPost_ret (v := .tuple #[strV ([50, 50] ++ [71, 49]), .int .i64 0]) ?_ rfl ?_
         · kernel_rfl
         · exact ⟨(ret_v (by first | omega | (unfold codeT codeOk codeS; simp [h1, h2, h3, h4]))), hW9.1⟩
       | true =>
         refine wp_cond_true rfl ?_
         refine wp_seq ?_
         refine wp_region_L _ hW8 ?_
         refine lm (v := strV [50, 50]) rfl rfl ?_
         refine lp (v := strV ([50, 50] ++ [82, 49])) rfl rfl (run_bin rfl (vx := strV [50, 50]) (vy := strV [82, 49]) Tw.kr Tw.kr fun w => bs_add (c := ([50, 50] ++ [82, 49])) rfl (by first | omega | (simp; done) | (simp; omega)) w) ?_
         refine lm (v := strV ([50, 50] ++ [82, 49])) rfl rfl ?_
         refine lm (v := .int .i64 0) rfl rfl ?_
         refine wpL_done (fun W10 hW10 => ?_)
         change Code.wp ..
         refine wp_ret ?_
         try simp only [inBlock_ret, then_ret]
         refine bodyPost_ret (v := .tuple #[strV ([50, 50] ++ [82, 49]), .int .i64 0]) ?_ rfl ?_
         · kernel_rfl
         · exact ⟨(ret_v (by first | omega | (unfold codeT codeOk codeS; simp [h1, h2, h3, h4]))), hW10.1⟩
     | true =>
       refine wp_cond_true rfl ?_
       refine wp_seq ?_
       refine wp_region_L _ hW7 ?_
       refine lm (v := strV []) rfl rfl ?_
       refine lm (v := .int .i64 60) rfl rfl ?_
       refine wpL_done (fun W11 hW11 => ?_)
       change Code.wp ..
       refine wp_ret ?_
       try simp only [inBlock_ret, then_ret]
       refine bodyPost_ret (v := .tuple #[strV [], .int .i64 60]) ?_ rfl ?_
       · kernel_rfl
       · exact ⟨(ret_v (by first | omega | (unfold codeT codeOk codeS; simp [h1, h2, h3]))), hW11.1⟩
 | true =>
   have h1 : b.size = 40 := of_decide_eq_true hd1
   clear hd1
   refine wp_cond_true rfl ?_
   refine wp_region_L _ hW3 ?_
   refine lm (v := strV [52, 50]) rfl rfl ?_
   refine wpL_done (fun W12 hW12 => ?_)
   change Code.wp ..
   refine wp_seq ?_
   refine wp_seq ?_
   refine wp_region_L _ hW12 ?_
   refine lm (v := .pointer (some ⟨g1, 2, none⟩)) rfl rfl ?_
   refine lv (v := .int .u8 ((b.size : Nat) : Int)) rfl rfl (yb_cell (off := 2) rfl Tw.kr Tw.m0 Tryd.underlying5 rfl Tw.kr) ?_
   refine lp (v := .bool true) rfl rfl (run_bin rfl (vx := (.int .u8 ((b.size : Nat) : Int))) (vy := (.int .u8 ((40 : Nat) : Int))) Tw.kr Tw.kr fun w => bn_eql (decide_eq_true (by assumption)) w) ?_
   refine lm (v := .bool true) rfl rfl ?_
   refine lm (v := .pointer (some ⟨g1, 3, none⟩)) rfl rfl ?_
   refine lv (v := .bool b.high) rfl rfl (yb_cell (off := 3) rfl Tw.kr Tw.m0 Tryd.underlying4 rfl Tw.kr) ?_
   refine lm (v := .bool b.high) rfl rfl ?_
   refine wpL_done (fun W13 hW13 => ?_)
   change Code.wp ..
   cases h5 : b.high with
   | false =>
     refine wp_cond_false rfl ?_
     refine wp_skip ?_
     change Code.wp ..
     refine wp_seq ?_
     refine wp_seq ?_
     refine wp_region_L _ hW13 ?_
     refine lm (v := .pointer (some ⟨g1, 2, none⟩)) rfl rfl ?_
     refine lv (v := .int .u8 ((b.size : Nat) : Int)) rfl rfl (yb_cell (off := 2) rfl Tw.kr Tw.m0 Tryd.underlying5 rfl Tw.kr) ?_
     refine lp (v := .bool (!(decide (b.size = 20)))) rfl rfl (run_bin rfl (vx := (.int .u8 ((b.size : Nat) : Int))) (vy := (.int .u8 ((20 : Nat) : Int))) Tw.kr Tw.kr fun w => bn_neq rfl w) ?_
     refine lm (v := .bool (!(decide (b.size = 20)))) rfl rfl ?_
     cases hd6 : (decide (b.size = 20)) with
     | false =>
       have h6 : ¬ (b.size = 20) := of_decide_eq_false hd6
       clear hd6
       refine lm (v := .pointer (some ⟨g1, 2, none⟩)) rfl rfl ?_
       refine lv (v := .int .u8 ((b.size : Nat) : Int)) rfl rfl (yb_cell (off := 2) rfl Tw.kr Tw.m0 Tryd.underlying5 rfl Tw.kr) ?_
       refine lp (v := .bool false) rfl rfl (run_bin rfl (vx := (.int .u8 ((b.size : Nat) : Int))) (vy := (.int .u8 ((40 : Nat) : Int))) Tw.kr Tw.kr fun w => bn_neq (decide_eq_true (by assumption)) w) ?_
       refine lm (v := .bool false) rfl rfl ?_
       refine lm (v := .bool false) rfl rfl ?_
       refine lm (v := .pointer (some ⟨g1, 2, none⟩)) rfl rfl ?_
       refine lv (v := .int .u8 ((b.size : Nat) : Int)) rfl rfl (yb_cell (off := 2) rfl Tw.kr Tw.m0 Tryd.underlying5 rfl Tw.kr) ?_
       refine lp (v := .bool false) rfl rfl (run_bin rfl (vx := (.int .u8 ((b.size : Nat) : Int))) (vy := (.int .u8 ((20 : Nat) : Int))) Tw.kr Tw.kr fun w => bn_eql (decide_eq_false (by assumption)) w) ?_
       refine lm (v := .bool false) rfl rfl ?_
       refine ln rfl ?_
       refine ln rfl ?_
       refine lm (v := .bool false) rfl rfl ?_
       refine lm (v := .bool false) rfl rfl ?_
       refine wpL_done (fun W14 hW14 => ?_)
       change Code.wp ..
       refine wp_cond_false rfl ?_
       refine wp_skip ?_
       change Code.wp ..
       refine wp_seq ?_
       refine wp_seq ?_
       refine wp_region_L _ hW14 ?_
       refine lm (v := .pointer (some ⟨g1, 8, none⟩)) rfl rfl ?_
       refine lv (v := .bool b.rf) rfl rfl (yb_cell (off := 8) rfl Tw.kr Tw.m0 Tryd.underlying4 rfl Tw.kr) ?_
       refine wpL_done (fun W15 hW15 => ?_)
       change Code.wp ..
       cases h7 : b.rf with
       | false =>
         refine wp_cond_false rfl ?_
         refine wp_skip ?_
         change Code.wp ..
         refine wp_seq ?_
         refine wp_region_L _ hW15 ?_
         refine lm (v := strV [52, 50]) rfl rfl ?_
         refine lp (v := strV ([52, 50] ++ [71, 49])) rfl rfl (run_bin rfl (vx := strV [52, 50]) (vy := strV [71, 49]) Tw.kr Tw.kr fun w => bs_add (c := ([52, 50] ++ [71, 49])) rfl (by first | omega | (simp; done) | (simp; omega)) w) ?_
         refine lm (v := strV ([52, 50] ++ [71, 49])) rfl rfl ?_
         refine lm (v := .int .i64 0) rfl rfl ?_
         refine wpL_done (fun W16 hW16 => ?_)
         change Code.wp ..
         refine wp_ret ?_
         try simp only [inBlock_ret, then_ret]
         refine bodyPost_ret (v := .tuple #[strV ([52, 50] ++ [71, 49]), .int .i64 0]) ?_ rfl ?_
         · kernel_rfl
         · exact ⟨(ret_v (by first | omega | (unfold codeT codeOk codeS; simp [h1, h5, h6, h7]))), hW16.1⟩
       | true =>
         refine wp_cond_true rfl ?_
         refine wp_seq ?_
         refine wp_region_L _ hW15 ?_
         refine lm (v := strV [52, 50]) rfl rfl ?_
         refine lp (v := strV ([52, 50] ++ [82, 49])) rfl rfl (run_bin rfl (vx := strV [52, 50]) (vy := strV [82, 49]) Tw.kr Tw.kr fun w => bs_add (c := ([52, 50] ++ [82, 49])) rfl (by first | omega | (simp; done) | (simp; omega)) w) ?_
         refine lm (v := strV ([52, 50] ++ [82, 49])) rfl rfl ?_
         refine lm (v := .int .i64 0) rfl rfl ?_
         refine wpL_done (fun W17 hW17 => ?_)
         change Code.wp ..
         refine wp_ret ?_
         try simp only [inBlock_ret, then_ret]
         refine bodyPost_ret (v := .tuple #[strV ([52, 50] ++ [82, 49]), .int .i64 0]) ?_ rfl ?_
         · kernel_rfl
         · exact ⟨(ret_v (by first | omega | (unfold codeT codeOk codeS; simp [h1, h5, h6, h7]))), hW17.1⟩
     | true =>
       have h6 : b.size = 20 := of_decide_eq_true hd6
       clear hd6
       refine ln rfl ?_
       refine ln rfl ?_
       refine ln rfl ?_
       refine lm (v := .bool false) rfl rfl ?_
       refine lm (v := .bool false) rfl rfl ?_
       refine lm (v := .pointer (some ⟨g1, 2, none⟩)) rfl rfl ?_
       refine lv (v := .int .u8 ((b.size : Nat) : Int)) rfl rfl (yb_cell (off := 2) rfl Tw.kr Tw.m0 Tryd.underlying5 rfl Tw.kr) ?_
       refine lp (v := .bool true) rfl rfl (run_bin rfl (vx := (.int .u8 ((b.size : Nat) : Int))) (vy := (.int .u8 ((20 : Nat) : Int))) Tw.kr Tw.kr fun w => bn_eql (decide_eq_true (by assumption)) w) ?_
       refine lm (v := .bool true) rfl rfl ?_
       refine lm (v := .pointer (some ⟨g1, 3, none⟩)) rfl rfl ?_
       refine lv (v := .bool false) rfl rfl (yb_cell (off := 3) (v := .bool false) rfl Tw.kr Tw.m0 Tryd.underlying4 rfl (by have h9 : (bxL b).toArray[3]? = some (.bool b.high) := Tw.kr; rw [h5] at h9; exact h9)) ?_
       refine lm (v := .bool false) rfl rfl ?_
       refine lm (v := .bool false) rfl rfl ?_
       refine wpL_done (fun W18 hW18 => ?_)
       change Code.wp ..
       refine wp_cond_false rfl ?_
       refine wp_skip ?_
       change Code.wp ..
       refine wp_seq ?_
       refine wp_seq ?_
       refine wp_region_L _ hW18 ?_
       refine lm (v := .pointer (some ⟨g1, 8, none⟩)) rfl rfl ?_
       refine lv (v := .bool b.rf) rfl rfl (yb_cell (off := 8) rfl Tw.kr Tw.m0 Tryd.underlying4 rfl Tw.kr) ?_
       refine wpL_done (fun W19 hW19 => ?_)
       change Code.wp ..
       cases h8 : b.rf with
       | false =>
         refine wp_cond_false rfl ?_
         refine wp_skip ?_
         change Code.wp ..
         refine wp_seq ?_
         refine wp_region_L _ hW19 ?_
         refine lm (v := strV [52, 50]) rfl rfl ?_
         refine lp (v := strV ([52, 50] ++ [71, 49])) rfl rfl (run_bin rfl (vx := strV [52, 50]) (vy := strV [71, 49]) Tw.kr Tw.kr fun w => bs_add (c := ([52, 50] ++ [71, 49])) rfl (by first | omega | (simp; done) | (simp; omega)) w) ?_
         refine lm (v := strV ([52, 50] ++ [71, 49])) rfl rfl ?_
         refine lm (v := .int .i64 0) rfl rfl ?_
         refine wpL_done (fun W20 hW20 => ?_)
         change Code.wp ..
         refine wp_ret ?_
         try simp only [inBlock_ret, then_ret]
         refine bodyPost_ret (v := .tuple #[strV ([52, 50] ++ [71, 49]), .int .i64 0]) ?_ rfl ?_
         · kernel_rfl
         · exact ⟨(ret_v (by first | omega | (unfold codeT codeOk codeS; simp [h1, h5, h6, h8]))), hW20.1⟩
       | true =>
         refine wp_cond_true rfl ?_
         refine wp_seq ?_
         refine wp_region_L _ hW19 ?_
         refine lm (v := strV [52, 50]) rfl rfl ?_
         refine lp (v := strV ([52, 50] ++ [82, 49])) rfl rfl (run_bin rfl (vx := strV [52, 50]) (vy := strV [82, 49]) Tw.kr Tw.kr fun w => bs_add (c := ([52, 50] ++ [82, 49])) rfl (by first | omega | (simp; done) | (simp; omega)) w) ?_
         refine lm (v := strV ([52, 50] ++ [82, 49])) rfl rfl ?_
         refine lm (v := .int .i64 0) rfl rfl ?_
         refine wpL_done (fun W21 hW21 => ?_)
         change Code.wp ..
         refine wp_ret ?_
         try simp only [inBlock_ret, then_ret]
         refine bodyPost_ret (v := .tuple #[strV ([52, 50] ++ [82, 49]), .int .i64 0]) ?_ rfl ?_
         · kernel_rfl
         · exact ⟨(ret_v (by first | omega | (unfold codeT codeOk codeS; simp [h1, h5, h6, h8]))), hW21.1⟩
   | true =>
     refine wp_cond_true rfl ?_
     refine wp_region_L _ hW13 ?_
     refine lm (v := strV [52, 53]) rfl rfl ?_
     refine wpL_done (fun W22 hW22 => ?_)
     change Code.wp ..
     refine wp_seq ?_
     refine wp_seq ?_
     refine wp_region_L _ hW22 ?_
     refine lm (v := .pointer (some ⟨g1, 2, none⟩)) rfl rfl ?_
     refine lv (v := .int .u8 ((b.size : Nat) : Int)) rfl rfl (yb_cell (off := 2) rfl Tw.kr Tw.m0 Tryd.underlying5 rfl Tw.kr) ?_
     refine lp (v := .bool (!(decide (b.size = 20)))) rfl rfl (run_bin rfl (vx := (.int .u8 ((b.size : Nat) : Int))) (vy := (.int .u8 ((20 : Nat) : Int))) Tw.kr Tw.kr fun w => bn_neq rfl w) ?_
     refine lm (v := .bool (!(decide (b.size = 20)))) rfl rfl ?_
     cases hd9 : (decide (b.size = 20)) with
     | false =>
       have h9 : ¬ (b.size = 20) := of_decide_eq_false hd9
       clear hd9
       refine lm (v := .pointer (some ⟨g1, 2, none⟩)) rfl rfl ?_
       refine lv (v := .int .u8 ((b.size : Nat) : Int)) rfl rfl (yb_cell (off := 2) rfl Tw.kr Tw.m0 Tryd.underlying5 rfl Tw.kr) ?_
       refine lp (v := .bool false) rfl rfl (run_bin rfl (vx := (.int .u8 ((b.size : Nat) : Int))) (vy := (.int .u8 ((40 : Nat) : Int))) Tw.kr Tw.kr fun w => bn_neq (decide_eq_true (by assumption)) w) ?_
       refine lm (v := .bool false) rfl rfl ?_
       refine lm (v := .bool false) rfl rfl ?_
       refine lm (v := .pointer (some ⟨g1, 2, none⟩)) rfl rfl ?_
       refine lv (v := .int .u8 ((b.size : Nat) : Int)) rfl rfl (yb_cell (off := 2) rfl Tw.kr Tw.m0 Tryd.underlying5 rfl Tw.kr) ?_
       refine lp (v := .bool false) rfl rfl (run_bin rfl (vx := (.int .u8 ((b.size : Nat) : Int))) (vy := (.int .u8 ((20 : Nat) : Int))) Tw.kr Tw.kr fun w => bn_eql (decide_eq_false (by assumption)) w) ?_
       refine lm (v := .bool false) rfl rfl ?_
       refine ln rfl ?_
       refine ln rfl ?_
       refine lm (v := .bool false) rfl rfl ?_
       refine lm (v := .bool false) rfl rfl ?_
       refine wpL_done (fun W23 hW23 => ?_)
       change Code.wp ..
       refine wp_cond_false rfl ?_
       refine wp_skip ?_
       change Code.wp ..
       refine wp_seq ?_
       refine wp_seq ?_
       refine wp_region_L _ hW23 ?_
       refine lm (v := .pointer (some ⟨g1, 8, none⟩)) rfl rfl ?_
       refine lv (v := .bool b.rf) rfl rfl (yb_cell (off := 8) rfl Tw.kr Tw.m0 Tryd.underlying4 rfl Tw.kr) ?_
       refine wpL_done (fun W24 hW24 => ?_)
       change Code.wp ..
       cases h10 : b.rf with
       | false =>
         refine wp_cond_false rfl ?_
         refine wp_skip ?_
         change Code.wp ..
         refine wp_seq ?_
         refine wp_region_L _ hW24 ?_
         refine lm (v := strV [52, 53]) rfl rfl ?_
         refine lp (v := strV ([52, 53] ++ [71, 49])) rfl rfl (run_bin rfl (vx := strV [52, 53]) (vy := strV [71, 49]) Tw.kr Tw.kr fun w => bs_add (c := ([52, 53] ++ [71, 49])) rfl (by first | omega | (simp; done) | (simp; omega)) w) ?_
         refine lm (v := strV ([52, 53] ++ [71, 49])) rfl rfl ?_
         refine lm (v := .int .i64 0) rfl rfl ?_
         refine wpL_done (fun W25 hW25 => ?_)
         change Code.wp ..
         refine wp_ret ?_
         try simp only [inBlock_ret, then_ret]
         refine bodyPost_ret (v := .tuple #[strV ([52, 53] ++ [71, 49]), .int .i64 0]) ?_ rfl ?_
         · kernel_rfl
         · exact ⟨(ret_v (by first | omega | (unfold codeT codeOk codeS; simp [h1, h5, h9, h10]))), hW25.1⟩
       | true =>
         refine wp_cond_true rfl ?_
         refine wp_seq ?_
         refine wp_region_L _ hW24 ?_
         refine lm (v := strV [52, 53]) rfl rfl ?_
         refine lp (v := strV ([52, 53] ++ [82, 49])) rfl rfl (run_bin rfl (vx := strV [52, 53]) (vy := strV [82, 49]) Tw.kr Tw.kr fun w => bs_add (c := ([52, 53] ++ [82, 49])) rfl (by first | omega | (simp; done) | (simp; omega)) w) ?_
         refine lm (v := strV ([52, 53] ++ [82, 49])) rfl rfl ?_
         refine lm (v := .int .i64 0) rfl rfl ?_
         refine wpL_done (fun W26 hW26 => ?_)
         change Code.wp ..
         refine wp_ret ?_
         try simp only [inBlock_ret, then_ret]
         refine bodyPost_ret (v := .tuple #[strV ([52, 53] ++ [82, 49]), .int .i64 0]) ?_ rfl ?_
         · kernel_rfl
         · exact ⟨(ret_v (by first | omega | (unfold codeT codeOk codeS; simp [h1, h5, h9, h10]))), hW26.1⟩
     | true =>
       have h9 : b.size = 20 := of_decide_eq_true hd9
       clear hd9
       refine ln rfl ?_
       refine ln rfl ?_
       refine ln rfl ?_
       refine lm (v := .bool false) rfl rfl ?_
       refine lm (v := .bool false) rfl rfl ?_
       refine lm (v := .pointer (some ⟨g1, 2, none⟩)) rfl rfl ?_
       refine lv (v := .int .u8 ((b.size : Nat) : Int)) rfl rfl (yb_cell (off := 2) rfl Tw.kr Tw.m0 Tryd.underlying5 rfl Tw.kr) ?_
       refine lp (v := .bool true) rfl rfl (run_bin rfl (vx := (.int .u8 ((b.size : Nat) : Int))) (vy := (.int .u8 ((20 : Nat) : Int))) Tw.kr Tw.kr fun w => bn_eql (decide_eq_true (by assumption)) w) ?_
       refine lm (v := .bool true) rfl rfl ?_
       refine lm (v := .pointer (some ⟨g1, 3, none⟩)) rfl rfl ?_
       refine lv (v := .bool true) rfl rfl (yb_cell (off := 3) (v := .bool true) rfl Tw.kr Tw.m0 Tryd.underlying4 rfl (by have h9 : (bxL b).toArray[3]? = some (.bool b.high) := Tw.kr; rw [h5] at h9; exact h9)) ?_
       refine lm (v := .bool true) rfl rfl ?_
       refine lm (v := .bool true) rfl rfl ?_
       refine wpL_done (fun W27 hW27 => ?_)
       change Code.wp ..
       refine wp_cond_true rfl ?_
       refine wp_seq ?_
       refine wp_region_L _ hW27 ?_
       refine lm (v := strV []) rfl rfl ?_
       refine lm (v := .int .i64 60) rfl rfl ?_
       refine wpL_done (fun W28 hW28 => ?_)
       change Code.wp ..
       refine wp_ret ?_
       try simp only [inBlock_ret, then_ret]
       refine bodyPost_ret (v := .tuple #[strV [], .int .i64 60]) ?_ rfl ?_
       · kernel_rfl
       · exact ⟨(ret_v (by first | omega | (unfold codeT codeOk codeS; simp [h1, h5, h9]))), hW28.1⟩
set_option maxRecDepth 100000 in
set_option maxHeartbeats 4000000 in
theorem tells_any (b : Bx) (c : Int) (w : World) (hE : Env w) : Calls Tryd.prog 14 #[.agg (bxL b).toArray, .int .i64 c] w fun e w' => e = .returned (.bool true) ∧ Below w.heap.size w w' := by
 have HE := Lib.hid hE
 clear hE
 obtain ⟨cs, ce, hct⟩ := code_two b
 go_enter Tryd.func14, Tryd.ntmps14
 refine wp_seq ?_
 refine wp_region_L [] (KS.start w) ?_
 refine wpL_new (fun g => .pointer (some ⟨g, 0, none⟩)) (obi := .cells (bxL b).toArray 26 (0, 0)) rfl rfl Tw.kf Tw.pf fun g1 Bg1 Fg1 => ?_
 refine lm (v := .bool false) rfl rfl ?_
 refine wpL_done (fun W1 hW1 => ?_)
 change Code.wp ..
 refine wp_seq ?_
 refine wp_region_L _ hW1 ?_
 refine lv (v := .agg (bxL b).toArray) rfl rfl (yb_load (n := 9) (off := 0) rfl Tw.kr Tw.m0 Tryd.underlying26 rfl Tw.kr (by first | (simp [Value.cells]; done) | exact Nat.le_of_ble_eq_true rfl) Tw.kr) ?_
 refine lv (v := .tuple #[strV cs, .int .i64 ce]) rfl rfl (yb_call (f := 18) (args := #[.agg (bxL b).toArray]) Tw.kf fun W hW => (by have h9 := BCode_any b W (HE.out.keep hW.1); rw [hct] at h9; exact h9)) ?_
 refine lm (v := .tuple #[strV cs, .int .i64 ce]) rfl rfl ?_
 refine lm (v := strV cs) rfl rfl ?_
 refine lm (v := .int .i64 ce) rfl rfl ?_
 refine lm (v := strV cs) rfl rfl ?_
 refine lm (v := .int .i64 ce) rfl rfl ?_
 refine wpL_done (fun W2 hW2 => ?_)
 change Code.wp ..
 refine wp_seq ?_
 refine wp_region_L _ hW2 ?_
 refine lv (v := .agg (bxL b).toArray) rfl rfl (yb_load (n := 9) (off := 0) rfl Tw.kr Tw.m0 Tryd.underlying26 rfl Tw.kr (by first | (simp [Value.cells]; done) | exact Nat.le_of_ble_eq_true rfl) Tw.kr) ?_
 refine lv (v := .tuple #[strV cs, .int .i64 ce]) rfl rfl (yb_call (f := 37) (args := #[.agg (bxL b).toArray]) Tw.kf fun W hW => (by have h9 := RCode_any b W; rw [hct] at h9; exact h9)) ?_
 refine lm (v := .tuple #[strV cs, .int .i64 ce]) rfl rfl ?_
 refine lm (v := strV cs) rfl rfl ?_
 refine lm (v := .int .i64 ce) rfl rfl ?_
 refine lm (v := strV cs) rfl rfl ?_
 refine lm (v := .int .i64 ce) rfl rfl ?_
 refine wpL_done (fun W3 hW3 => ?_)
 change Code.wp ..
 refine wp_seq ?_
 refine wp_region_V _ Tw.kr hW3 ?_
 refine vm (i := 0) (v := strV cs) rfl rfl rfl ?_
 refine vm (i := 1) (v := strV cs) rfl rfl rfl ?_
 refine vp (i := 2) (v := .bool true) rfl rfl rfl (run_bin rfl (vx := strV cs) (vy := strV cs) Tw.kr Tw.kr fun w => bs_eql (decide_eq_true rfl) w) ?_
 refine vm (i := 3) (v := .bool true) rfl rfl rfl ?_
 refine vm (i := 4) (v := .int .i64 ce) rfl rfl rfl ?_
 refine vm (i := 5) (v := .int .i64 ce) rfl rfl rfl ?_
 refine vp (i := 6) (v := .bool true) rfl rfl rfl (run_bin rfl (vx := (.int .i64 ce)) (vy := (.int .i64 ce)) Tw.kr Tw.kr fun w => bi_eql (decide_eq_true rfl) w) ?_
 refine vm (i := 7) (v := .bool true) rfl rfl rfl ?_
 refine vm (i := 8) (v := .bool true) rfl rfl rfl ?_
 refine vv (i := 9) (v := .agg (bxL b).toArray) rfl rfl rfl (yb_load (n := 9) (off := 0) rfl Tw.kr Tw.m0 Tryd.underlying26 rfl Tw.kr (by first | (simp [Value.cells]; done) | exact Nat.le_of_ble_eq_true rfl) Tw.kr) ?_
 refine vv (i := 10) (v := .bool (rightX b)) rfl rfl rfl (yb_call (f := 20) (args := #[.agg (bxL b).toArray]) Tw.kf fun W hW => BRight_any b W) ?_
 refine vv (i := 11) (v := .agg (bxL b).toArray) rfl rfl rfl (yb_load (n := 9) (off := 0) rfl Tw.kr Tw.m0 Tryd.underlying26 rfl Tw.kr (by first | (simp [Value.cells]; done) | exact Nat.le_of_ble_eq_true rfl) Tw.kr) ?_
 refine vv (i := 12) (v := .bool (rightX b)) rfl rfl rfl (yb_call (f := 38) (args := #[.agg (bxL b).toArray]) Tw.kf fun W hW => RRight_any b W) ?_
 refine vp (i := 13) (v := .bool true) rfl rfl rfl (run_bin rfl (vx := .bool (rightX b)) (vy := .bool (rightX b)) Tw.kr Tw.kr fun w => bn_bool_eql (b := true) (beq_self_eq_true _) Tryd.underlying4 w) ?_
 refine vm (i := 14) (v := .bool true) rfl rfl rfl ?_
 refine vm (i := 15) (v := .bool true) rfl rfl rfl ?_
 refine vv (i := 16) (v := .agg (bxL b).toArray) rfl rfl rfl (yb_load (n := 9) (off := 0) rfl Tw.kr Tw.m0 Tryd.underlying26 rfl Tw.kr (by first | (simp [Value.cells]; done) | exact Nat.le_of_ble_eq_true rfl) Tw.kr) ?_
 refine vv (i := 17) (v := .int .i64 (((heightX b) : Nat) : Int)) rfl rfl rfl (yb_call (f := 21) (args := #[.agg (bxL b).toArray]) Tw.kf fun W hW => Height_any b W) ?_
 refine vv (i := 18) (v := .agg (bxL b).toArray) rfl rfl rfl (yb_load (n := 9) (off := 0) rfl Tw.kr Tw.m0 Tryd.underlying26 rfl Tw.kr (by first | (simp [Value.cells]; done) | exact Nat.le_of_ble_eq_true rfl) Tw.kr) ?_
 refine vv (i := 19) (v := .int .i64 (((heightX b) : Nat) : Int)) rfl rfl rfl (yb_call (f := 39) (args := #[.agg (bxL b).toArray]) Tw.kf fun W hW => RHeight_any b W) ?_
 refine vp (i := 20) (v := .bool true) rfl rfl rfl (run_bin rfl (vx := (.int .i64 (((heightX b) : Nat) : Int))) (vy := (.int .i64 (((heightX b) : Nat) : Int))) Tw.kr Tw.kr fun w => bn_eql (decide_eq_true rfl) w) ?_
 refine vm (i := 21) (v := .bool true) rfl rfl rfl ?_
 refine vm (i := 22) (v := .bool true) rfl rfl rfl ?_
 refine vv (i := 23) (v := .agg (bxL b).toArray) rfl rfl rfl (yb_load (n := 9) (off := 0) rfl Tw.kr Tw.m0 Tryd.underlying26 rfl Tw.kr (by first | (simp [Value.cells]; done) | exact Nat.le_of_ble_eq_true rfl) Tw.kr) ?_
 refine vv (i := 24) (v := .int .i64 (((halvesX b) : Nat) : Int)) rfl rfl rfl (yb_call (f := 22) (args := #[.agg (bxL b).toArray]) Tw.kf fun W hW => Halves_any b W) ?_
 refine vv (i := 25) (v := .agg (bxL b).toArray) rfl rfl rfl (yb_load (n := 9) (off := 0) rfl Tw.kr Tw.m0 Tryd.underlying26 rfl Tw.kr (by first | (simp [Value.cells]; done) | exact Nat.le_of_ble_eq_true rfl) Tw.kr) ?_
 refine vv (i := 26) (v := .int .i64 (((halvesX b) : Nat) : Int)) rfl rfl rfl (yb_call (f := 40) (args := #[.agg (bxL b).toArray]) Tw.kf fun W hW => RHalves_any b W) ?_
 refine vp (i := 27) (v := .bool true) rfl rfl rfl (run_bin rfl (vx := (.int .i64 (((halvesX b) : Nat) : Int))) (vy := (.int .i64 (((halvesX b) : Nat) : Int))) Tw.kr Tw.kr fun w => bn_eql (decide_eq_true rfl) w) ?_
 refine vm (i := 28) (v := .bool true) rfl rfl rfl ?_
 refine vm (i := 29) (v := .bool true) rfl rfl rfl ?_
 refine vv (i := 30) (v := .agg (bxL b).toArray) rfl rfl rfl (yb_load (n := 9) (off := 0) rfl Tw.kr Tw.m0 Tryd.underlying26 rfl Tw.kr (by first | (simp [Value.cells]; done) | exact Nat.le_of_ble_eq_true rfl) Tw.kr) ?_
 refine vm (i := 31) (v := .int .i64 c) rfl rfl rfl ?_
 refine vv (i := 32) (v := .bool (aboardX b c)) rfl rfl rfl (yb_call (f := 23) (args := #[.agg (bxL b).toArray, .int .i64 c]) Tw.kf fun W hW => Aboard_any b c W) ?_
 refine vv (i := 33) (v := .agg (bxL b).toArray) rfl rfl rfl (yb_load (n := 9) (off := 0) rfl Tw.kr Tw.m0 Tryd.underlying26 rfl Tw.kr (by first | (simp [Value.cells]; done) | exact Nat.le_of_ble_eq_true rfl) Tw.kr) ?_
 refine vm (i := 34) (v := .int .i64 c) rfl rfl rfl ?_
 refine vv (i := 35) (v := .bool (aboardX b c)) rfl rfl rfl (yb_call (f := 41) (args := #[.agg (bxL b).toArray, .int .i64 c]) Tw.kf fun W hW => RAboard_any b c W) ?_
 refine vp (i := 36) (v := .bool true) rfl rfl rfl (run_bin rfl (vx := .bool (aboardX b c)) (vy := .bool (aboardX b c)) Tw.kr Tw.kr fun w => bn_bool_eql (b := true) (beq_self_eq_true _) Tryd.underlying4 w) ?_
 refine vm (i := 37) (v := .bool true) rfl rfl rfl ?_
 refine vm (i := 38) (v := .bool true) rfl rfl rfl ?_
 refine wpV_done Tw.kr (fun W4 hW4 => ?_) _
 change Code.wp ..
 refine wp_ret ?_
 try simp only [inBlock_ret, then_ret]
 refine bodyPost_ret (v := .bool true) ?_ rfl ?_
 · kernel_rfl
 · exact ⟨rfl, hW4.1⟩
end Go.Proofs.YtllmpemmknblaaaDoor
namespace Go.Proofs.YtllmpemmknblaaaDoor
open Go Go.RowKit Tw
set_option maxRecDepth 100000 in
set_option maxHeartbeats 4000000 in
theorem numbers_any  (w : World) (hE : Env w) : Calls Tryd.prog 15 #[] w fun e w' => e = .returned (.bool true) ∧ Below w.heap.size w w' := by
 have HE := Lib.hid hE
 clear hE
 go_enter Tryd.func15, Tryd.ntmps15
 refine wp_seq ?_
 refine wp_region_L [] (KS.start w) ?_
 refine lm (v := .bool false) rfl rfl ?_
 refine wpL_done (fun W1 hW1 => ?_)
 change Code.wp ..
 refine wp_seq ?_
 refine wp_seq ?_
 refine wp_region_L _ hW1 ?_
 refine lm (v := .int .i64 0) rfl rfl ?_
 refine wpL_done (fun W2 hW2 => ?_)
 change Code.wp ..
 refine wp_block ?_
 go_loopw [5] (fun u5 wr => ∃ (ka : Nat), (ka ≤ 12) ∧ u5 = .int .i64 ((ka : Nat) : Int) ∧ KS w [] wr) (fun u5 _ => 12 - (intOf u5).toNat)
 case atStart => exact ⟨0, Tw.om, rfl, (hW2.sub (fun p hp => by first | exact hp | (simp only [List.mem_cons, List.mem_append, List.nil_append, List.not_mem_nil, or_assoc, or_false, false_or] at hp ⊢ <;> grind)))⟩
 case round =>
   obtain ⟨ka, hka, rfl, hL3⟩ := hrel
   refine wp_seq ?_
   refine wp_region_L _ hL3 ?_
   refine lp (v := .bool (decide (ka < 12))) rfl rfl (run_bin rfl (vx := (.int .i64 ((ka : Nat) : Int))) (vy := (.int .i64 ((12 : Nat) : Int))) Tw.kr Tw.kr fun w => bn_lss rfl w) ?_
   refine wpL_done (fun W4 hW4 => ?_)
   change Code.wp ..
   refine wp_seq ?_
   cases hd1 : (decide (ka < 12)) with
   | false =>
     have h1 : ¬ (ka < 12) := of_decide_eq_false hd1
     clear hd1
     refine wp_cond_false rfl ?_
     refine wp_exit ?_
     change Code.wp ..
     refine wp_seq ?_
     refine wp_region_L _ hW4 ?_
     refine lm (v := .bool true) rfl rfl ?_
     refine wpL_done (fun W5 hW5 => ?_)
     change Code.wp ..
     refine wp_ret ?_
     try simp only [inBlock_ret, then_ret]
     refine bodyPost_ret (v := .bool true) ?_ rfl ?_
     · kernel_rfl
     · exact ⟨rfl, hW5.1⟩
   | true =>
     have h1 : ka < 12 := of_decide_eq_true hd1
     clear hd1
     refine wp_cond_true rfl ?_
     refine wp_skip ?_
     change Code.wp ..
     refine wp_seq ?_
     refine wp_block ?_
     refine wp_seq ?_
     refine wp_region_L _ hW4 ?_
     refine lm (v := .int .i64 ((ka : Nat) : Int)) rfl rfl ?_
     refine lm (v := .int .i64 ((ka : Nat) : Int)) rfl rfl ?_
     refine wpL_done (fun W6 hW6 => ?_)
     change Code.wp ..
     refine wp_seq ?_
     refine wp_region_L _ hW6 ?_
     refine lm (v := .int .i64 0) rfl rfl ?_
     refine wpL_done (fun W7 hW7 => ?_)
     change Code.wp ..
     refine wp_block ?_
     go_loopw [8] (fun u8 wr => ∃ (kb : Nat), (kb ≤ 43) ∧ u8 = .int .i64 ((kb : Nat) : Int) ∧ KS w [] wr) (fun u8 _ => 43 - (intOf u8).toNat)
     case atStart => exact ⟨0, Tw.om, rfl, (hW7.sub (fun p hp => by first | exact hp | (simp only [List.mem_cons, List.mem_append, List.nil_append, List.not_mem_nil, or_assoc, or_false, false_or] at hp ⊢ <;> grind)))⟩
     case round =>
       obtain ⟨kb, hkb, rfl, hL8⟩ := hrel
       refine wp_seq ?_
       refine wp_region_L _ hL8 ?_
       refine lp (v := .bool (decide (kb < 43))) rfl rfl (run_bin rfl (vx := (.int .i64 ((kb : Nat) : Int))) (vy := (.int .i64 ((43 : Nat) : Int))) Tw.kr Tw.kr fun w => bn_lss rfl w) ?_
       refine wpL_done (fun W9 hW9 => ?_)
       change Code.wp ..
       refine wp_seq ?_
       cases hd2 : (decide (kb < 43)) with
       | false =>
         have h2 : ¬ (kb < 43) := of_decide_eq_false hd2
         clear hd2
         refine wp_cond_false rfl ?_
         refine wp_exit ?_
         change Code.wp ..
         refine wp_region_L _ hW9 ?_
         refine lp (v := .int .i64 (((ka + 1) : Nat) : Int)) rfl rfl (run_bin rfl (vx := (.int .i64 ((ka : Nat) : Int))) (vy := (.int .i64 ((1 : Nat) : Int))) Tw.kr Tw.kr fun w => bn_add (z := (ka + 1)) rfl (wr_i64 Tw.om) w) ?_
         refine lm (v := .int .i64 (((ka + 1) : Nat) : Int)) rfl rfl ?_
         refine wpL_done (fun W10 hW10 => ?_)
         go_roundw
         case rel =>
           repeat apply Exists.intro
           exact ⟨⟨ka + 1, Tw.om, rfl, (hW10.sub (fun p hp => by first | exact hp | (simp only [List.mem_cons, List.mem_append, List.nil_append, List.not_mem_nil, or_assoc, or_false, false_or] at hp ⊢ <;> grind)))⟩, rfl⟩
         case measure => (show 12 - (intOf (.int .i64 (((ka + 1) : Nat) : Int))).toNat < 12 - (intOf (.int .i64 ((ka : Nat) : Int))).toNat); simp only [intOf]; omega
       | true =>
         have h2 : kb < 43 := of_decide_eq_true hd2
         clear hd2
         refine wp_cond_true rfl ?_
         refine wp_skip ?_
         change Code.wp ..
         refine wp_seq ?_
         refine wp_block ?_
         refine wp_seq ?_
         refine wp_region_L _ hW9 ?_
         refine lm (v := .int .i64 ((kb : Nat) : Int)) rfl rfl ?_
         refine lm (v := .int .i64 ((kb : Nat) : Int)) rfl rfl ?_
         refine wpL_done (fun W11 hW11 => ?_)
         change Code.wp ..
         refine wp_seq ?_
         refine wp_region_L _ hW11 ?_
         refine lv (v := .agg (bxL exB).toArray) rfl rfl (yb_call (f := 13) (args := #[]) Tw.kf fun W hW => example_any W) ?_
         refine wpL_new (fun g => .pointer (some ⟨g, 0, none⟩)) (obi := .cells #[.int .i64 0, strV [], .int .u8 0, .bool false, .int .i64 0, .int .i64 0, .int .i64 0, .int .u8 0, .bool false] 26 (0, 0)) rfl rfl Tw.kf Tw.pf fun g1 Bg1 Fg1 => ?_
         refine wpL_s [(g1, .cells (bxL exB).toArray 26 (0, 0))] rfl rfl (st_row (off := 0) (v := .agg (bxL exB).toArray) rfl Tw.kr Tw.kr Tw.m0 Bg1 Tw.kr (by first | (simp [Value.cells]; done) | exact Nat.le_of_ble_eq_true rfl) (fun v hv => bxL_one exB v hv) Tw.kr (List.forall_mem_cons.2 ⟨.inl rfl, (List.forall_mem_nil _)⟩)) ?_
         refine wpL_done (fun W12 hW12 => ?_)
         change Code.wp ..
         refine wp_seq ?_
         refine wp_region_V _ Tw.kr hW12 ?_
         refine vm (i := 0) (v := .int .i64 ((ka : Nat) : Int)) rfl rfl rfl ?_
         refine vp (i := 1) (v := .int .i64 (((min ka 11) : Nat) : Int)) rfl rfl rfl (run_min2 (x := ((ka : Nat) : Int)) (y := (11)) (z := (((min ka 11) : Nat) : Int)) rfl Tw.kr Tw.kr Tw.om) ?_
         refine vp (i := 2) (v := strV ([67, 83, 81, 85, 51, 48, 53, 52, 51, 56, 51].take (min ka 11))) rfl rfl rfl (run_slH (k2 := .i64) (l := [67, 83, 81, 85, 51, 48, 53, 52, 51, 56, 51]) (r := ([67, 83, 81, 85, 51, 48, 53, 52, 51, 56, 51].take (min ka 11))) (j := (min ka 11)) rfl Tryd.underlying9 Tw.kr Tw.kr (by first | omega | (simp only [List.length_append, List.length_take, List.length_drop, List.length_cons, List.length_nil]; omega)) rfl) ?_
         refine vm (i := 3) (v := .int .i64 ((kb : Nat) : Int)) rfl rfl rfl ?_
         refine vm (i := 4) (v := .int .i64 ((kb : Nat) : Int)) rfl rfl rfl ?_
         refine vp (i := 5) (v := .int .i64 (((kb + 1) : Nat) : Int)) rfl rfl rfl (run_bin rfl (vx := (.int .i64 ((kb : Nat) : Int))) (vy := (.int .i64 ((1 : Nat) : Int))) Tw.kr Tw.kr fun w => bn_add (z := (kb + 1)) rfl (wr_i64 Tw.om) w) ?_
         refine vp (i := 6) (v := strV (([48, 49, 50, 51, 52, 53, 54, 55, 56, 57, 65, 66, 67, 68, 69, 70, 71, 72, 73, 74, 75, 76, 77, 78, 79, 80, 81, 82, 83, 84, 85, 86, 87, 88, 89, 90, 97, 98, 122, 32, 45, 64, 91].take (kb + 1)).drop kb)) rfl rfl rfl (run_slT (k1 := .i64) (k2 := .i64) (l := [48, 49, 50, 51, 52, 53, 54, 55, 56, 57, 65, 66, 67, 68, 69, 70, 71, 72, 73, 74, 75, 76, 77, 78, 79, 80, 81, 82, 83, 84, 85, 86, 87, 88, 89, 90, 97, 98, 122, 32, 45, 64, 91]) (r := (([48, 49, 50, 51, 52, 53, 54, 55, 56, 57, 65, 66, 67, 68, 69, 70, 71, 72, 73, 74, 75, 76, 77, 78, 79, 80, 81, 82, 83, 84, 85, 86, 87, 88, 89, 90, 97, 98, 122, 32, 45, 64, 91].take (kb + 1)).drop kb)) (i := kb) (j := (kb + 1)) rfl Tryd.underlying9 Tw.kr Tw.kr Tw.kr Tw.om (by first | omega | (simp only [List.length_append, List.length_take, List.length_drop, List.length_cons, List.length_nil]; omega)) rfl) ?_
         obtain ⟨tn2, htn2⟩ : ∃ m : List UInt8, (([67, 83, 81, 85, 51, 48, 53, 52, 51, 56, 51].take (min ka 11)) ++ (([48, 49, 50, 51, 52, 53, 54, 55, 56, 57, 65, 66, 67, 68, 69, 70, 71, 72, 73, 74, 75, 76, 77, 78, 79, 80, 81, 82, 83, 84, 85, 86, 87, 88, 89, 90, 97, 98, 122, 32, 45, 64, 91].take (kb + 1)).drop kb)) = m := ⟨_, rfl⟩
         have hlt2 := congrArg List.length htn2
         simp only [List.length_append, List.length_take, List.length_drop, List.length_cons, List.length_nil] at hlt2
         refine vp (i := 7) (v := strV tn2) rfl rfl rfl (run_bin rfl (vx := strV ([67, 83, 81, 85, 51, 48, 53, 52, 51, 56, 51].take (min ka 11))) (vy := strV (([48, 49, 50, 51, 52, 53, 54, 55, 56, 57, 65, 66, 67, 68, 69, 70, 71, 72, 73, 74, 75, 76, 77, 78, 79, 80, 81, 82, 83, 84, 85, 86, 87, 88, 89, 90, 97, 98, 122, 32, 45, 64, 91].take (kb + 1)).drop kb)) Tw.kr Tw.kr fun w => bs_add (c := tn2) htn2 (by first | omega | (simp only [List.length_append, List.length_take, List.length_drop, List.length_cons, List.length_nil]; omega)) w) ?_
         refine vm (i := 8) (v := .int .i64 ((ka : Nat) : Int)) rfl rfl rfl ?_
         refine vp (i := 9) (v := .int .i64 (((ka + 1) : Nat) : Int)) rfl rfl rfl (run_bin rfl (vx := (.int .i64 ((ka : Nat) : Int))) (vy := (.int .i64 ((1 : Nat) : Int))) Tw.kr Tw.kr fun w => bn_add (z := (ka + 1)) rfl (wr_i64 Tw.om) w) ?_
         refine vp (i := 10) (v := .int .i64 (((min (ka + 1) 11) : Nat) : Int)) rfl rfl rfl (run_min2 (x := (((ka + 1) : Nat) : Int)) (y := (11)) (z := (((min (ka + 1) 11) : Nat) : Int)) rfl Tw.kr Tw.kr Tw.om) ?_
         refine vp (i := 11) (v := strV ([67, 83, 81, 85, 51, 48, 53, 52, 51, 56, 51].drop (min (ka + 1) 11))) rfl rfl rfl (run_slL (k1 := .i64) (l := [67, 83, 81, 85, 51, 48, 53, 52, 51, 56, 51]) (r := ([67, 83, 81, 85, 51, 48, 53, 52, 51, 56, 51].drop (min (ka + 1) 11))) (i := (min (ka + 1) 11)) rfl Tryd.underlying9 Tw.kr Tw.kr (by first | omega | (simp only [List.length_append, List.length_take, List.length_drop, List.length_cons, List.length_nil]; omega)) rfl) ?_
         obtain ⟨tn3, htn3⟩ : ∃ m : List UInt8, (tn2 ++ ([67, 83, 81, 85, 51, 48, 53, 52, 51, 56, 51].drop (min (ka + 1) 11))) = m := ⟨_, rfl⟩
         have hlt3 := congrArg List.length htn3
         simp only [List.length_append, List.length_take, List.length_drop, List.length_cons, List.length_nil] at hlt3
         refine vp (i := 12) (v := strV tn3) rfl rfl rfl (run_bin rfl (vx := strV tn2) (vy := strV ([67, 83, 81, 85, 51, 48, 53, 52, 51, 56, 51].drop (min (ka + 1) 11))) Tw.kr Tw.kr fun w => bs_add (c := tn3) htn3 (by first | omega | (simp only [List.length_append, List.length_take, List.length_drop, List.length_cons, List.length_nil]; omega)) w) ?_
         refine vm (i := 13) (v := .pointer (some ⟨g1, 1, none⟩)) rfl rfl rfl ?_
         refine wpV_s [(g1, .cells #[.int .i64 exB.id, strV tn3, .int .u8 ((exB.size : Nat) : Int), .bool exB.high, .int .i64 exB.kilos, .int .i64 exB.load, .int .i64 exB.dis, .int .u8 ((exB.cls : Nat) : Int), .bool exB.rf] 26 (0, 0))] (i := 14) rfl Tw.kr rfl rfl rfl (st_row (off := 1) (v := strV tn3) rfl Tw.kr Tw.kr Tw.m0 Bg1 Tw.kr (by first | (simp [Value.cells]; done) | exact Nat.le_of_ble_eq_true rfl) (fun v hv => txC_one tn3 v hv) Tw.kr (List.forall_mem_cons.2 ⟨.inl rfl, (List.forall_mem_nil _)⟩)) ?_
         refine wpV_done Tw.kr (fun W13 hW13 => ?_) _
         change Code.wp ..
         refine wp_seq ?_
         refine wp_seq ?_
         refine wp_region_L _ hW13 ?_
         refine lv (v := .agg #[.int .i64 exB.id, strV tn3, .int .u8 ((exB.size : Nat) : Int), .bool exB.high, .int .i64 exB.kilos, .int .i64 exB.load, .int .i64 exB.dis, .int .u8 ((exB.cls : Nat) : Int), .bool exB.rf]) rfl rfl (yb_load (n := 9) (off := 0) rfl Tw.kr Tw.m0 Tryd.underlying26 rfl Tw.kr (by first | (simp [Value.cells]; done) | exact Nat.le_of_ble_eq_true rfl) Tw.kr) ?_
         refine lv (v := .bool true) rfl rfl (yb_call (f := 14) (args := #[.agg #[.int .i64 exB.id, strV tn3, .int .u8 ((exB.size : Nat) : Int), .bool exB.high, .int .i64 exB.kilos, .int .i64 exB.load, .int .i64 exB.dis, .int .u8 ((exB.cls : Nat) : Int), .bool exB.rf], .int .i64 1]) Tw.kf fun W hW => tells_any (⟨exB.id, tn3, exB.size, exB.high, exB.kilos, exB.load, exB.dis, exB.cls, exB.rf⟩ : Bx) (1) W (HE.out.keep hW.1)) ?_
         refine lm (v := .bool false) rfl rfl ?_
         refine wpL_done (fun W14 hW14 => ?_)
         change Code.wp ..
         refine wp_cond_false rfl ?_
         refine wp_skip ?_
         change Code.wp ..
         refine wp_seq ?_
         refine wp_region_L _ hW14 ?_
         refine lm (v := .int .i64 0) rfl rfl ?_
         refine wpL_done (fun W15 hW15 => ?_)
         change Code.wp ..
         refine wp_block ?_
         go_loopw [29] (fun u29 wr => ∃ (kd : Nat) (tx : List UInt8), (kd ≤ 10) ∧ (tx.length ≤ 200) ∧ u29 = .int .i64 ((kd : Nat) : Int) ∧ KS w [(g1, .cells #[.int .i64 exB.id, strV tx, .int .u8 ((exB.size : Nat) : Int), .bool exB.high, .int .i64 exB.kilos, .int .i64 exB.load, .int .i64 exB.dis, .int .u8 ((exB.cls : Nat) : Int), .bool exB.rf] 26 (0, 0))] wr) (fun u29 _ => 10 - (intOf u29).toNat)
         case atStart => exact ⟨0, tn3, Tw.om, Tw.om, rfl, (hW15.sub (fun p hp => by first | exact hp | (simp only [List.mem_cons, List.mem_append, List.nil_append, List.not_mem_nil, or_assoc, or_false, false_or] at hp ⊢ <;> grind)))⟩
         case round =>
           obtain ⟨kd, tx, hkd, htx, rfl, hL16⟩ := hrel
           refine wp_seq ?_
           refine wp_region_L _ hL16 ?_
           refine lp (v := .bool (decide (kd < 10))) rfl rfl (run_bin rfl (vx := (.int .i64 ((kd : Nat) : Int))) (vy := (.int .i64 ((10 : Nat) : Int))) Tw.kr Tw.kr fun w => bn_lss rfl w) ?_
           refine wpL_done (fun W17 hW17 => ?_)
           change Code.wp ..
           refine wp_seq ?_
           cases hd3 : (decide (kd < 10)) with
           | false =>
             have h3 : ¬ (kd < 10) := of_decide_eq_false hd3
             clear hd3
             refine wp_cond_false rfl ?_
             refine wp_exit ?_
             change Code.wp ..
             refine wp_region_L _ hW17 ?_
             refine lp (v := .int .i64 (((kb + 1) : Nat) : Int)) rfl rfl (run_bin rfl (vx := (.int .i64 ((kb : Nat) : Int))) (vy := (.int .i64 ((1 : Nat) : Int))) Tw.kr Tw.kr fun w => bn_add (z := (kb + 1)) rfl (wr_i64 Tw.om) w) ?_
             refine lm (v := .int .i64 (((kb + 1) : Nat) : Int)) rfl rfl ?_
             refine wpL_done (fun W18 hW18 => ?_)
             go_roundw
             case rel =>
               repeat apply Exists.intro
               exact ⟨⟨kb + 1, Tw.om, rfl, (hW18.sub (fun p hp => by first | exact hp | (simp only [List.mem_cons, List.mem_append, List.nil_append, List.not_mem_nil, or_assoc, or_false, false_or] at hp ⊢ <;> grind)))⟩, rfl⟩
             case measure => (show 43 - (intOf (.int .i64 (((kb + 1) : Nat) : Int))).toNat < 43 - (intOf (.int .i64 ((kb : Nat) : Int))).toNat); simp only [intOf]; omega
           | true =>
             have h3 : kd < 10 := of_decide_eq_true hd3
             clear hd3
             refine wp_cond_true rfl ?_
             refine wp_skip ?_
             change Code.wp ..
             refine wp_seq ?_
             refine wp_block ?_
             refine wp_seq ?_
             refine wp_region_L _ hW17 ?_
             refine lm (v := .int .i64 ((kd : Nat) : Int)) rfl rfl ?_
             refine lm (v := .int .i64 ((kd : Nat) : Int)) rfl rfl ?_
             refine wpL_done (fun W19 hW19 => ?_)
             change Code.wp ..
             refine wp_seq ?_
             refine wp_seq ?_
             refine wp_region_L _ hW19 ?_
             refine lm (v := .pointer (some ⟨g1, 1, none⟩)) rfl rfl ?_
             refine lv (v := strV tx) rfl rfl (yb_cell (off := 1) rfl Tw.kr Tw.m0 Tryd.underlying9 rfl Tw.kr) ?_
             refine lp (v := .int .i64 ((tx.length : Nat) : Int)) rfl rfl (run_lenS (l := tx) rfl Tryd.underlying9 Tw.kr) ?_
             refine lp (v := .bool (decide (tx.length = 11))) rfl rfl (run_bin rfl (vx := (.int .i64 ((tx.length : Nat) : Int))) (vy := (.int .i64 ((11 : Nat) : Int))) Tw.kr Tw.kr fun w => bn_eql rfl w) ?_
             refine lm (v := .bool (decide (tx.length = 11))) rfl rfl ?_
             cases hd4 : (decide (tx.length = 11)) with
             | false =>
               have h4 : ¬ (tx.length = 11) := of_decide_eq_false hd4
               clear hd4
               refine ln rfl ?_
               refine ln rfl ?_
               refine lm (v := .bool false) rfl rfl ?_
               refine wpL_done (fun W20 hW20 => ?_)
               change Code.wp ..
               refine wp_cond_false rfl ?_
               refine wp_skip ?_
               change Code.wp ..
               refine wp_seq ?_
               refine wp_region_L _ hW20 ?_
               refine lv (v := .agg #[.int .i64 exB.id, strV tx, .int .u8 ((exB.size : Nat) : Int), .bool exB.high, .int .i64 exB.kilos, .int .i64 exB.load, .int .i64 exB.dis, .int .u8 ((exB.cls : Nat) : Int), .bool exB.rf]) rfl rfl (yb_load (n := 9) (off := 0) rfl Tw.kr Tw.m0 Tryd.underlying26 rfl Tw.kr (by first | (simp [Value.cells]; done) | exact Nat.le_of_ble_eq_true rfl) Tw.kr) ?_
               refine lv (v := .bool true) rfl rfl (yb_call (f := 14) (args := #[.agg #[.int .i64 exB.id, strV tx, .int .u8 ((exB.size : Nat) : Int), .bool exB.high, .int .i64 exB.kilos, .int .i64 exB.load, .int .i64 exB.dis, .int .u8 ((exB.cls : Nat) : Int), .bool exB.rf], .int .i64 1]) Tw.kf fun W hW => tells_any (⟨exB.id, tx, exB.size, exB.high, exB.kilos, exB.load, exB.dis, exB.cls, exB.rf⟩ : Bx) (1) W (HE.out.keep hW.1)) ?_
               refine lm (v := .bool false) rfl rfl ?_
               refine wpL_done (fun W21 hW21 => ?_)
               change Code.wp ..
               refine wp_cond_false rfl ?_
               refine wp_skip ?_
               change Code.wp ..
               refine wp_region_L _ hW21 ?_
               refine lp (v := .int .i64 (((kd + 1) : Nat) : Int)) rfl rfl (run_bin rfl (vx := (.int .i64 ((kd : Nat) : Int))) (vy := (.int .i64 ((1 : Nat) : Int))) Tw.kr Tw.kr fun w => bn_add (z := (kd + 1)) rfl (wr_i64 Tw.om) w) ?_
               refine lm (v := .int .i64 (((kd + 1) : Nat) : Int)) rfl rfl ?_
               refine wpL_done (fun W22 hW22 => ?_)
               go_roundw
               case rel =>
                 repeat apply Exists.intro
                 exact ⟨⟨kd + 1, tx, Tw.om, Tw.om, rfl, (hW22.sub (fun p hp => by first | exact hp | (simp only [List.mem_cons, List.mem_append, List.nil_append, List.not_mem_nil, or_assoc, or_false, false_or] at hp ⊢ <;> grind)))⟩, rfl⟩
               case measure => (show 10 - (intOf (.int .i64 (((kd + 1) : Nat) : Int))).toNat < 10 - (intOf (.int .i64 ((kd : Nat) : Int))).toNat); simp only [intOf]; omega
             | true =>
               have h4 : tx.length = 11 := of_decide_eq_true hd4
               clear hd4
               refine lm (v := .int .i64 ((ka : Nat) : Int)) rfl rfl ?_
               refine lp (v := .bool (decide (ka < 10))) rfl rfl (run_bin rfl (vx := (.int .i64 ((ka : Nat) : Int))) (vy := (.int .i64 ((10 : Nat) : Int))) Tw.kr Tw.kr fun w => bn_lss rfl w) ?_
               refine lm (v := .bool (decide (ka < 10))) rfl rfl ?_
               refine wpL_done (fun W23 hW23 => ?_)
               change Code.wp ..
               cases hd5 : (decide (ka < 10)) with
               | false =>
                 have h5 : ¬ (ka < 10) := of_decide_eq_false hd5
                 clear hd5
                 refine wp_cond_false rfl ?_
                 refine wp_skip ?_
                 change Code.wp ..
                 refine wp_seq ?_
                 refine wp_region_L _ hW23 ?_
                 refine lv (v := .agg #[.int .i64 exB.id, strV tx, .int .u8 ((exB.size : Nat) : Int), .bool exB.high, .int .i64 exB.kilos, .int .i64 exB.load, .int .i64 exB.dis, .int .u8 ((exB.cls : Nat) : Int), .bool exB.rf]) rfl rfl (yb_load (n := 9) (off := 0) rfl Tw.kr Tw.m0 Tryd.underlying26 rfl Tw.kr (by first | (simp [Value.cells]; done) | exact Nat.le_of_ble_eq_true rfl) Tw.kr) ?_
                 refine lv (v := .bool true) rfl rfl (yb_call (f := 14) (args := #[.agg #[.int .i64 exB.id, strV tx, .int .u8 ((exB.size : Nat) : Int), .bool exB.high, .int .i64 exB.kilos, .int .i64 exB.load, .int .i64 exB.dis, .int .u8 ((exB.cls : Nat) : Int), .bool exB.rf], .int .i64 1]) Tw.kf fun W hW => tells_any (⟨exB.id, tx, exB.size, exB.high, exB.kilos, exB.load, exB.dis, exB.cls, exB.rf⟩ : Bx) (1) W (HE.out.keep hW.1)) ?_
                 refine lm (v := .bool false) rfl rfl ?_
                 refine wpL_done (fun W24 hW24 => ?_)
                 change Code.wp ..
                 refine wp_cond_false rfl ?_
                 refine wp_skip ?_
                 change Code.wp ..
                 refine wp_region_L _ hW24 ?_
                 refine lp (v := .int .i64 (((kd + 1) : Nat) : Int)) rfl rfl (run_bin rfl (vx := (.int .i64 ((kd : Nat) : Int))) (vy := (.int .i64 ((1 : Nat) : Int))) Tw.kr Tw.kr fun w => bn_add (z := (kd + 1)) rfl (wr_i64 Tw.om) w) ?_
                 refine lm (v := .int .i64 (((kd + 1) : Nat) : Int)) rfl rfl ?_
                 refine wpL_done (fun W25 hW25 => ?_)
                 go_roundw
                 case rel =>
                   repeat apply Exists.intro
                   exact ⟨⟨kd + 1, tx, Tw.om, Tw.om, rfl, (hW25.sub (fun p hp => by first | exact hp | (simp only [List.mem_cons, List.mem_append, List.nil_append, List.not_mem_nil, or_assoc, or_false, false_or] at hp ⊢ <;> grind)))⟩, rfl⟩
                 case measure => (show 10 - (intOf (.int .i64 (((kd + 1) : Nat) : Int))).toNat < 10 - (intOf (.int .i64 ((kd : Nat) : Int))).toNat); simp only [intOf]; omega
               | true =>
                 have h5 : ka < 10 := of_decide_eq_true hd5
                 clear hd5
                 refine wp_cond_true rfl ?_
                 refine wp_region_V _ Tw.kr hW23 ?_
                 refine vm (i := 0) (v := .pointer (some ⟨g1, 1, none⟩)) rfl rfl rfl ?_
                 refine vv (i := 1) (v := strV tx) rfl rfl rfl (yb_cell (off := 1) rfl Tw.kr Tw.m0 Tryd.underlying9 rfl Tw.kr) ?_
                 refine vp (i := 2) (v := strV (tx.take 10)) rfl rfl rfl (run_slH (k2 := .i64) (l := tx) (r := (tx.take 10)) (j := 10) rfl Tryd.underlying9 Tw.kr Tw.kr (by first | omega | (simp only [List.length_append, List.length_take, List.length_drop, List.length_cons, List.length_nil]; omega)) rfl) ?_
                 refine vm (i := 3) (v := .int .i64 ((kd : Nat) : Int)) rfl rfl rfl ?_
                 refine vm (i := 4) (v := .int .i64 ((kd : Nat) : Int)) rfl rfl rfl ?_
                 refine vp (i := 5) (v := .int .i64 (((kd + 1) : Nat) : Int)) rfl rfl rfl (run_bin rfl (vx := (.int .i64 ((kd : Nat) : Int))) (vy := (.int .i64 ((1 : Nat) : Int))) Tw.kr Tw.kr fun w => bn_add (z := (kd + 1)) rfl (wr_i64 Tw.om) w) ?_
                 refine vp (i := 6) (v := strV (([48, 49, 50, 51, 52, 53, 54, 55, 56, 57, 65, 66, 67, 68, 69, 70, 71, 72, 73, 74, 75, 76, 77, 78, 79, 80, 81, 82, 83, 84, 85, 86, 87, 88, 89, 90, 97, 98, 122, 32, 45, 64, 91].take (kd + 1)).drop kd)) rfl rfl rfl (run_slT (k1 := .i64) (k2 := .i64) (l := [48, 49, 50, 51, 52, 53, 54, 55, 56, 57, 65, 66, 67, 68, 69, 70, 71, 72, 73, 74, 75, 76, 77, 78, 79, 80, 81, 82, 83, 84, 85, 86, 87, 88, 89, 90, 97, 98, 122, 32, 45, 64, 91]) (r := (([48, 49, 50, 51, 52, 53, 54, 55, 56, 57, 65, 66, 67, 68, 69, 70, 71, 72, 73, 74, 75, 76, 77, 78, 79, 80, 81, 82, 83, 84, 85, 86, 87, 88, 89, 90, 97, 98, 122, 32, 45, 64, 91].take (kd + 1)).drop kd)) (i := kd) (j := (kd + 1)) rfl Tryd.underlying9 Tw.kr Tw.kr Tw.kr Tw.om (by first | omega | (simp only [List.length_append, List.length_take, List.length_drop, List.length_cons, List.length_nil]; omega)) rfl) ?_
                 obtain ⟨tn4, htn4⟩ : ∃ m : List UInt8, ((tx.take 10) ++ (([48, 49, 50, 51, 52, 53, 54, 55, 56, 57, 65, 66, 67, 68, 69, 70, 71, 72, 73, 74, 75, 76, 77, 78, 79, 80, 81, 82, 83, 84, 85, 86, 87, 88, 89, 90, 97, 98, 122, 32, 45, 64, 91].take (kd + 1)).drop kd)) = m := ⟨_, rfl⟩
                 have hlt4 := congrArg List.length htn4
                 simp only [List.length_append, List.length_take, List.length_drop, List.length_cons, List.length_nil] at hlt4
                 refine vp (i := 7) (v := strV tn4) rfl rfl rfl (run_bin rfl (vx := strV (tx.take 10)) (vy := strV (([48, 49, 50, 51, 52, 53, 54, 55, 56, 57, 65, 66, 67, 68, 69, 70, 71, 72, 73, 74, 75, 76, 77, 78, 79, 80, 81, 82, 83, 84, 85, 86, 87, 88, 89, 90, 97, 98, 122, 32, 45, 64, 91].take (kd + 1)).drop kd)) Tw.kr Tw.kr fun w => bs_add (c := tn4) htn4 (by first | omega | (simp only [List.length_append, List.length_take, List.length_drop, List.length_cons, List.length_nil]; omega)) w) ?_
                 refine vm (i := 8) (v := .pointer (some ⟨g1, 1, none⟩)) rfl rfl rfl ?_
                 refine wpV_s [(g1, .cells #[.int .i64 exB.id, strV tn4, .int .u8 ((exB.size : Nat) : Int), .bool exB.high, .int .i64 exB.kilos, .int .i64 exB.load, .int .i64 exB.dis, .int .u8 ((exB.cls : Nat) : Int), .bool exB.rf] 26 (0, 0))] (i := 9) rfl Tw.kr rfl rfl rfl (st_row (off := 1) (v := strV tn4) rfl Tw.kr Tw.kr Tw.m0 Bg1 Tw.kr (by first | (simp [Value.cells]; done) | exact Nat.le_of_ble_eq_true rfl) (fun v hv => txC_one tn4 v hv) Tw.kr (List.forall_mem_cons.2 ⟨.inl rfl, (List.forall_mem_nil _)⟩)) ?_
                 refine wpV_done Tw.kr (fun W26 hW26 => ?_) _
                 change Code.wp ..
                 refine wp_seq ?_
                 refine wp_region_L _ hW26 ?_
                 refine lv (v := .agg #[.int .i64 exB.id, strV tn4, .int .u8 ((exB.size : Nat) : Int), .bool exB.high, .int .i64 exB.kilos, .int .i64 exB.load, .int .i64 exB.dis, .int .u8 ((exB.cls : Nat) : Int), .bool exB.rf]) rfl rfl (yb_load (n := 9) (off := 0) rfl Tw.kr Tw.m0 Tryd.underlying26 rfl Tw.kr (by first | (simp [Value.cells]; done) | exact Nat.le_of_ble_eq_true rfl) Tw.kr) ?_
                 refine lv (v := .bool true) rfl rfl (yb_call (f := 14) (args := #[.agg #[.int .i64 exB.id, strV tn4, .int .u8 ((exB.size : Nat) : Int), .bool exB.high, .int .i64 exB.kilos, .int .i64 exB.load, .int .i64 exB.dis, .int .u8 ((exB.cls : Nat) : Int), .bool exB.rf], .int .i64 1]) Tw.kf fun W hW => tells_any (⟨exB.id, tn4, exB.size, exB.high, exB.kilos, exB.load, exB.dis, exB.cls, exB.rf⟩ : Bx) (1) W (HE.out.keep hW.1)) ?_
                 refine lm (v := .bool false) rfl rfl ?_
                 refine wpL_done (fun W27 hW27 => ?_)
                 change Code.wp ..
                 refine wp_cond_false rfl ?_
                 refine wp_skip ?_
                 change Code.wp ..
                 refine wp_region_L _ hW27 ?_
                 refine lp (v := .int .i64 (((kd + 1) : Nat) : Int)) rfl rfl (run_bin rfl (vx := (.int .i64 ((kd : Nat) : Int))) (vy := (.int .i64 ((1 : Nat) : Int))) Tw.kr Tw.kr fun w => bn_add (z := (kd + 1)) rfl (wr_i64 Tw.om) w) ?_
                 refine lm (v := .int .i64 (((kd + 1) : Nat) : Int)) rfl rfl ?_
                 refine wpL_done (fun W28 hW28 => ?_)
                 go_roundw
                 case rel =>
                   repeat apply Exists.intro
                   exact ⟨⟨kd + 1, tn4, Tw.om, Tw.om, rfl, (hW28.sub (fun p hp => by first | exact hp | (simp only [List.mem_cons, List.mem_append, List.nil_append, List.not_mem_nil, or_assoc, or_false, false_or] at hp ⊢ <;> grind)))⟩, rfl⟩
                 case measure => (show 10 - (intOf (.int .i64 (((kd + 1) : Nat) : Int))).toNat < 10 - (intOf (.int .i64 ((kd : Nat) : Int))).toNat); simp only [intOf]; omega
end Go.Proofs.YtllmpemmknblaaaDoor
namespace Go.Proofs.YtllmpemmknblaaaDoor
open Go Go.RowKit Tw
set_option maxRecDepth 100000 in
set_option maxHeartbeats 4000000 in
theorem several_any  (w : World) : Calls Tryd.prog 16 #[] w fun e w' => e = .returned (.bool true) ∧ Below w.heap.size w w' := by
 have ht3 := txs3_len
 go_enter Tryd.func16, Tryd.ntmps16
 refine wp_seq ?_
 refine wp_region_L [] (KS.start w) ?_
 refine lm (v := .bool false) rfl rfl ?_
 refine wpL_done (fun W1 hW1 => ?_)
 change Code.wp ..
 refine wp_seq ?_
 refine wp_region_L _ hW1 ?_
 refine wpL_new (fun g => .slice (some ⟨g, 0, none⟩) 3 3) (obi := .cells #[strV [], strV [67, 83, 81, 85, 51, 48, 53, 52, 51, 56, 51], strV [67, 83, 81, 85, 51, 48, 53, 52, 51, 56, 52]] 9 (0, 0)) rfl rfl Tw.kf Tw.pf fun g1 Bg1 Fg1 => ?_
 refine lm (v := .slice (some ⟨g1, 0, none⟩) 3 3) rfl rfl ?_
 refine wpL_done (fun W2 hW2 => ?_)
 change Code.wp ..
 refine wp_seq ?_
 refine wp_seq ?_
 have RB := Lib.hid (lit_rl (W0 := w) (E := 9) (show RowR txC _ txs3 from ⟨[], rfl⟩) _ (hW2.sub (fun p hp => by cases List.mem_singleton.1 hp; exact Tw.m0)))
 refine wp_region_L (W0 := W2) [] ((KS.start W2)) ?_
 refine lm (v := .int .i64 0) rfl rfl ?_
 refine wpL_done (fun W3 hW3 => ?_)
 change Code.wp ..
 refine wp_block ?_
 go_loopw [16] (fun u16 wr => ∃ (k : Nat), (k ≤ 729) ∧ u16 = .int .i64 ((k : Nat) : Int) ∧ KS W2 [] wr) (fun u16 _ => 729 - (intOf u16).toNat)
 case atStart => exact ⟨0, Tw.om, rfl, (hW3.sub (fun p hp => by first | exact hp | (simp only [List.mem_cons, List.mem_append, List.nil_append, List.not_mem_nil, or_assoc, or_false, false_or] at hp ⊢ <;> grind)))⟩
 case round =>
   obtain ⟨k, hk, rfl, hL4⟩ := hrel
   refine wp_seq ?_
   refine wp_region_L (W0 := W2) [] (hL4) ?_
   refine lp (v := .bool (decide (k < 729))) rfl rfl (run_bin rfl (vx := (.int .i64 ((k : Nat) : Int))) (vy := (.int .i64 ((729 : Nat) : Int))) Tw.kr Tw.kr fun w => bn_lss rfl w) ?_
   refine wpL_done (fun W5 hW5 => ?_)
   change Code.wp ..
   refine wp_seq ?_
   cases hd1 : (decide (k < 729)) with
   | false =>
     have h1 : ¬ (k < 729) := of_decide_eq_false hd1
     clear hd1
     refine wp_cond_false rfl ?_
     refine wp_exit ?_
     change Code.wp ..
     refine wp_seq ?_
     refine wp_region_L (W0 := W2) [] (hW5) ?_
     refine lm (v := .slice none 0 0) rfl rfl ?_
     refine wpL_done (fun W6 hW6 => ?_)
     change Code.wp ..
     refine wp_seq ?_
     refine wp_seq ?_
     refine wp_region_L (W0 := W2) [] (hW6) ?_
     refine lm (v := .int .i64 0) rfl rfl ?_
     refine wpL_done (fun W7 hW7 => ?_)
     change Code.wp ..
     refine wp_block ?_
     go_loopw [61, 8] (fun u61 u8 wr => ∃ (k4 : Nat) (vM : Value) (KM : List (Nat × Obj)), (k4 ≤ 2001) ∧ (OwnL W2 26 9 vM k4 (bcs (manyL k4)) KM) ∧ u61 = .int .i64 ((k4 : Nat) : Int) ∧ vM = u8 ∧ KS W2 KM wr) (fun u61 _ _ => 2001 - (intOf u61).toNat)
     case atStart => exact ⟨0, (.slice none 0 0), [], Tw.om, (OwnL.nil _ _ _), rfl, rfl, (hW7.sub (fun p hp => by first | exact hp | (simp only [List.mem_cons, List.mem_append, List.nil_append, List.not_mem_nil, or_assoc, or_false, false_or] at hp ⊢ <;> grind)))⟩
     case round =>
       obtain ⟨k4, vM, KM, hk4, hOM, rfl, rfl, hL8⟩ := hrel
       refine wp_seq ?_
       refine wp_region_L (W0 := W2) KM (hL8) ?_
       refine lp (v := .bool (decide (k4 < 2001))) rfl rfl (run_bin rfl (vx := (.int .i64 ((k4 : Nat) : Int))) (vy := (.int .i64 ((2001 : Nat) : Int))) Tw.kr Tw.kr fun w => bn_lss rfl w) ?_
       refine wpL_done (fun W9 hW9 => ?_)
       change Code.wp ..
       refine wp_seq ?_
       cases hd2 : (decide (k4 < 2001)) with
       | false =>
         have h2 : ¬ (k4 < 2001) := of_decide_eq_false hd2
         clear hd2
         refine wp_cond_false rfl ?_
         refine wp_exit ?_
         change Code.wp ..
         refine wp_seq ?_
         obtain rfl : k4 = 2001 := by omega
         obtain ⟨pM, cM, rfl, nM, RM⟩ : ∃ p c, vM = .slice p 2001 c ∧ 2001 ≤ c ∧ RL bxL W2 p (manyL 2001) KM := own_rl (cells := bxL) hOM
         refine wp_region_L (W0 := W2) KM (hW9) ?_
         refine lm (v := .slice pM 2001 cM) rfl rfl ?_
         refine lp (v := .slice pM 2000 cM) rfl rfl (run_slt (kd := .i64) (j := 2000) (n := 2001) (c := cM) (sz := 9) rfl Tryd.underlying22 Tw.kr Tw.kr Tw.kr Tw.om) ?_
         refine lv (v := .tuple #[.int .i64 (-1), .int .i64 0]) rfl rfl (yb_call (f := 29) (args := #[.slice pM 2000 cM]) Tw.kf fun W hW => (by have h8 := ((RM.take bxL_len 2000) _ (hW.sub (fun p hp => by simp only [List.mem_cons, List.mem_append, List.nil_append, List.not_mem_nil, or_assoc, or_false, false_or, hp, true_or, or_true]))); rw [manyL_take Tw.om] at h8; have h9 := Valid_any (manyL 2000) pM cM (by rw [manyL_len]; omega) W h8; rw [manyL_len, many_valid] at h9; exact h9)) ?_
         refine lm (v := .tuple #[.int .i64 (-1), .int .i64 0]) rfl rfl ?_
         refine lm (v := .int .i64 (-1)) rfl rfl ?_
         refine lm (v := .int .i64 0) rfl rfl ?_
         refine lm (v := .int .i64 (-1)) rfl rfl ?_
         refine lm (v := .int .i64 0) rfl rfl ?_
         refine wpL_done (fun W10 hW10 => ?_)
         change Code.wp ..
         refine wp_seq ?_
         refine wp_region_L (W0 := W2) KM (hW10) ?_
         refine lm (v := .slice pM 2001 cM) rfl rfl ?_
         refine lv (v := .tuple #[.int .i64 (-1), .int .i64 5]) rfl rfl (yb_call (f := 29) (args := #[.slice pM 2001 cM]) Tw.kf fun W hW => (by have h9 := Valid_any (manyL 2001) pM cM (by rw [manyL_len]; omega) W (RM _ (hW.sub (fun p hp => by simp only [List.mem_cons, List.mem_append, List.nil_append, List.not_mem_nil, or_assoc, or_false, false_or, hp, true_or, or_true]))); rw [manyL_len, many_more] at h9; exact h9)) ?_
         refine lm (v := .tuple #[.int .i64 (-1), .int .i64 5]) rfl rfl ?_
         refine lm (v := .int .i64 (-1)) rfl rfl ?_
         refine lm (v := .int .i64 5) rfl rfl ?_
         refine lm (v := .int .i64 (-1)) rfl rfl ?_
         refine lm (v := .int .i64 5) rfl rfl ?_
         refine wpL_done (fun W11 hW11 => ?_)
         change Code.wp ..
         refine wp_seq ?_
         refine wp_region_L (W0 := W2) KM (hW11) ?_
         refine lm (v := .int .i64 (-1)) rfl rfl ?_
         refine lm (v := .bool true) rfl rfl ?_
         refine lm (v := .bool true) rfl rfl ?_
         refine lm (v := .int .i64 0) rfl rfl ?_
         refine lm (v := .bool true) rfl rfl ?_
         refine lm (v := .bool true) rfl rfl ?_
         refine lm (v := .bool true) rfl rfl ?_
         refine lm (v := .int .i64 (-1)) rfl rfl ?_
         refine lm (v := .bool true) rfl rfl ?_
         refine lm (v := .bool true) rfl rfl ?_
         refine lm (v := .bool true) rfl rfl ?_
         refine lm (v := .int .i64 5) rfl rfl ?_
         refine lm (v := .bool true) rfl rfl ?_
         refine lm (v := .bool true) rfl rfl ?_
         refine lm (v := .bool true) rfl rfl ?_
         refine wpL_done (fun W12 hW12 => ?_)
         change Code.wp ..
         refine wp_ret ?_
         try simp only [inBlock_ret, then_ret]
         refine bodyPost_ret (v := .bool true) ?_ rfl ?_
         · kernel_rfl
         · exact ⟨rfl, (hW2.1.trans (hW12.1.mono hW2.1.size))⟩
       | true =>
         have h2 : k4 < 2001 := of_decide_eq_true hd2
         clear hd2
         refine wp_cond_true rfl ?_
         refine wp_skip ?_
         change Code.wp ..
         refine wp_seq ?_
         refine wp_block ?_
         refine wp_seq ?_
         refine wp_region_L (W0 := W2) KM (hW9) ?_
         refine lm (v := .int .i64 ((k4 : Nat) : Int)) rfl rfl ?_
         refine lm (v := .int .i64 ((k4 : Nat) : Int)) rfl rfl ?_
         refine wpL_done (fun W13 hW13 => ?_)
         change Code.wp ..
         refine wp_seq ?_
         refine wp_region_L (W0 := W2) KM (hW13) ?_
         refine lv (v := .agg (bxL exB).toArray) rfl rfl (yb_call (f := 13) (args := #[]) Tw.kf fun W hW => example_any W) ?_
         refine wpL_new (fun g => .pointer (some ⟨g, 0, none⟩)) (obi := .cells #[.int .i64 0, strV [], .int .u8 0, .bool false, .int .i64 0, .int .i64 0, .int .i64 0, .int .u8 0, .bool false] 26 (0, 0)) rfl rfl Tw.kf Tw.pf fun g3 Bg3 Fg3 => ?_
         obtain dj4_0 : Dk g3 KM := Tw.dkf Fg3
         refine wpL_s ((g3, .cells (bxL exB).toArray 26 (0, 0)) :: KM) rfl rfl (st_row (off := 0) (v := .agg (bxL exB).toArray) rfl Tw.kr Tw.kr Tw.m0 Bg3 Tw.kr (by first | (simp [Value.cells]; done) | exact Nat.le_of_ble_eq_true rfl) (fun v hv => bxL_one exB v hv) Tw.kr (List.forall_mem_cons.2 ⟨.inl rfl, (fun p hp => .inr ⟨(.tail _ hp), ((show Dk g3 KM from Tw.djt) _ hp)⟩)⟩)) ?_
         refine wpL_done (fun W14 hW14 => ?_)
         change Code.wp ..
         refine wp_seq ?_
         refine wp_region_L (W0 := W2) ((g3, .cells (bxL exB).toArray 26 (0, 0)) :: KM) (hW14) ?_
         refine lm (v := .int .i64 ((k4 : Nat) : Int)) rfl rfl ?_
         refine lp (v := .int .i64 (((1 + k4) : Nat) : Int)) rfl rfl (run_bin rfl (vx := (.int .i64 ((1 : Nat) : Int))) (vy := (.int .i64 ((k4 : Nat) : Int))) Tw.kr Tw.kr fun w => bn_add (z := (1 + k4)) rfl (wr_i64 Tw.om) w) ?_
         refine lm (v := .pointer (some ⟨g3, 0, none⟩)) rfl rfl ?_
         refine wpL_s ((g3, .cells #[.int .i64 (((1 + k4) : Nat) : Int), strV exB.num, .int .u8 ((exB.size : Nat) : Int), .bool exB.high, .int .i64 exB.kilos, .int .i64 exB.load, .int .i64 exB.dis, .int .u8 ((exB.cls : Nat) : Int), .bool exB.rf] 26 (0, 0)) :: KM) rfl rfl (st_row (off := 0) (v := .int .i64 (((1 + k4) : Nat) : Int)) rfl Tw.kr Tw.kr Tw.m0 Bg3 Tw.kr (by first | (simp [Value.cells]; done) | exact Nat.le_of_ble_eq_true rfl) (by intro v hv; simp [Value.cells] at hv; first | (subst hv; rfl) | (rcases hv with rfl <;> rfl)) Tw.kr (List.forall_mem_cons.2 ⟨.inl rfl, (fun p hp => .inr ⟨(.tail _ hp), ((show Dk g3 KM from Tw.djt) _ hp)⟩)⟩)) ?_
         refine lm (v := .pointer (some ⟨g3, 1, none⟩)) rfl rfl ?_
         refine wpL_s ((g3, .cells #[.int .i64 (((1 + k4) : Nat) : Int), strV [], .int .u8 ((exB.size : Nat) : Int), .bool exB.high, .int .i64 exB.kilos, .int .i64 exB.load, .int .i64 exB.dis, .int .u8 ((exB.cls : Nat) : Int), .bool exB.rf] 26 (0, 0)) :: KM) rfl rfl (st_row (off := 1) (v := strV []) rfl Tw.kr Tw.kr Tw.m0 Bg3 Tw.kr (by first | (simp [Value.cells]; done) | exact Nat.le_of_ble_eq_true rfl) (fun v hv => txC_one [] v hv) Tw.kr (List.forall_mem_cons.2 ⟨.inl rfl, (fun p hp => .inr ⟨(.tail _ hp), ((show Dk g3 KM from Tw.djt) _ hp)⟩)⟩)) ?_
         refine wpL_done (fun W15 hW15 => ?_)
         change Code.wp ..
         refine wp_region_L (W0 := W2) ((g3, .cells #[.int .i64 (((1 + k4) : Nat) : Int), strV [], .int .u8 ((exB.size : Nat) : Int), .bool exB.high, .int .i64 exB.kilos, .int .i64 exB.load, .int .i64 exB.dis, .int .u8 ((exB.cls : Nat) : Int), .bool exB.rf] 26 (0, 0)) :: KM) (hW15) ?_
         refine lm (v := vM) rfl rfl ?_
         refine lv (v := .agg #[.int .i64 (((1 + k4) : Nat) : Int), strV [], .int .u8 ((exB.size : Nat) : Int), .bool exB.high, .int .i64 exB.kilos, .int .i64 exB.load, .int .i64 exB.dis, .int .u8 ((exB.cls : Nat) : Int), .bool exB.rf]) rfl rfl (yb_load (n := 9) (off := 0) rfl Tw.kr Tw.m0 Tryd.underlying26 rfl Tw.kr (by first | (simp [Value.cells]; done) | exact Nat.le_of_ble_eq_true rfl) Tw.kr) ?_
         refine wpL_new (fun g => .slice (some ⟨g, 0, none⟩) 1 1) (obi := .cells #[.int .i64 (((1 + k4) : Nat) : Int), strV [], .int .u8 ((exB.size : Nat) : Int), .bool exB.high, .int .i64 exB.kilos, .int .i64 exB.load, .int .i64 exB.dis, .int .u8 ((exB.cls : Nat) : Int), .bool exB.rf] 26 (0, 0)) rfl rfl Tw.kf Tw.pf fun g5 Bg5 Fg5 => ?_
         obtain ⟨dj6_0, dj6_1⟩ : g3 ≠ g5 ∧ Dk g5 KM := Tw.dkf Fg5
         refine wpL_g (AppO W2 26 9 [(g3, .cells #[.int .i64 (((1 + k4) : Nat) : Int), strV [], .int .u8 ((exB.size : Nat) : Int), .bool exB.high, .int .i64 exB.kilos, .int .i64 exB.load, .int .i64 exB.dis, .int .u8 ((exB.cls : Nat) : Int), .bool exB.rf] 26 (0, 0))] (k4 + 1) ((bcs (manyL k4)) ++ [.int .i64 (((1 + k4) : Nat) : Int), strV [], .int .u8 ((exB.size : Nat) : Int), .bool exB.high, .int .i64 exB.kilos, .int .i64 exB.load, .int .i64 exB.dis, .int .u8 ((exB.cls : Nat) : Int), .bool exB.rf])) rfl rfl (app_own el_bx (m := 1) (c := 1) (news := [.int .i64 (((1 + k4) : Nat) : Int), strV [], .int .u8 ((exB.size : Nat) : Int), .bool exB.high, .int .i64 exB.kilos, .int .i64 exB.load, .int .i64 exB.dis, .int .u8 ((exB.cls : Nat) : Int), .bool exB.rf]) rfl Tw.kr Tw.kr Tw.m0 hOM Tw.sc (fun p hp => ⟨by simp only [List.mem_cons, List.mem_append, List.nil_append, List.not_mem_nil, or_assoc, or_false, false_or] at hp ⊢ <;> grind, (show Dj [(g3, .cells #[.int .i64 (((1 + k4) : Nat) : Int), strV [], .int .u8 ((exB.size : Nat) : Int), .bool exB.high, .int .i64 exB.kilos, .int .i64 exB.load, .int .i64 exB.dis, .int .u8 ((exB.cls : Nat) : Int), .bool exB.rf] 26 (0, 0))] KM from Tw.djt) p hp⟩) rfl (by simp [strV, Value.oneCell']) Tw.om Tw.om Tw.om) Tw.pf ?_
         rintro v7 K9 ⟨Kl7, O7, N7, rfl⟩
         obtain dj8_0 : Dk g3 Kl7 := Tw.djf N7
         refine lm (v := v7) rfl rfl ?_
         refine wpL_done (fun W16 hW16 => ?_)
         change Code.wp ..
         refine wp_region_L (W0 := W2) ((g3, .cells #[.int .i64 (((1 + k4) : Nat) : Int), strV [], .int .u8 ((exB.size : Nat) : Int), .bool exB.high, .int .i64 exB.kilos, .int .i64 exB.load, .int .i64 exB.dis, .int .u8 ((exB.cls : Nat) : Int), .bool exB.rf] 26 (0, 0)) :: Kl7) (hW16) ?_
         refine lp (v := .int .i64 (((k4 + 1) : Nat) : Int)) rfl rfl (run_bin rfl (vx := (.int .i64 ((k4 : Nat) : Int))) (vy := (.int .i64 ((1 : Nat) : Int))) Tw.kr Tw.kr fun w => bn_add (z := (k4 + 1)) rfl (wr_i64 Tw.om) w) ?_
         refine lm (v := .int .i64 (((k4 + 1) : Nat) : Int)) rfl rfl ?_
         refine wpL_done (fun W17 hW17 => ?_)
         go_roundw
         case rel =>
           repeat apply Exists.intro
           exact ⟨⟨k4 + 1, v7, Kl7, Tw.om, (by have h9 := O7; rw [manyL_succ, bcs_app]; exact h9), rfl, rfl, (hW17.sub (fun p hp => by first | exact hp | (simp only [List.mem_cons, List.mem_append, List.nil_append, List.not_mem_nil, or_assoc, or_false, false_or] at hp ⊢ <;> grind)))⟩, rfl⟩
         case measure => (show 2001 - (intOf (.int .i64 (((k4 + 1) : Nat) : Int))).toNat < 2001 - (intOf (.int .i64 ((k4 : Nat) : Int))).toNat); simp only [intOf]; omega
   | true =>
     have h1 : k < 729 := of_decide_eq_true hd1
     clear hd1
     refine wp_cond_true rfl ?_
     refine wp_skip ?_
     change Code.wp ..
     refine wp_seq ?_
     refine wp_block ?_
     refine wp_seq ?_
     refine wp_region_L (W0 := W2) [] (hW5) ?_
     refine lm (v := .int .i64 ((k : Nat) : Int)) rfl rfl ?_
     refine lm (v := .int .i64 ((k : Nat) : Int)) rfl rfl ?_
     refine wpL_done (fun W18 hW18 => ?_)
     change Code.wp ..
     refine wp_seq ?_
     refine wp_region_L (W0 := W2) [] (hW18) ?_
     refine lm (v := .slice none 0 0) rfl rfl ?_
     refine wpL_done (fun W19 hW19 => ?_)
     change Code.wp ..
     refine wp_seq ?_
     refine wp_seq ?_
     refine wp_region_L (W0 := W2) [] (hW19) ?_
     refine lm (v := .int .i64 ((k : Nat) : Int)) rfl rfl ?_
     refine lm (v := .int .i64 0) rfl rfl ?_
     refine lm (v := .int .i64 ((k : Nat) : Int)) rfl rfl ?_
     refine wpL_done (fun W20 hW20 => ?_)
     change Code.wp ..
     refine wp_block ?_
     go_loopw [4, 5, 3] (fun u4 u5 u3 wr => ∃ (i x : Nat) (A : List Bx) (vA : Value) (KA : List (Nat × Obj)), (i ≤ 3) ∧ (x ≤ 728) ∧ (A.length = i) ∧ (OwnL W2 26 9 vA A.length (bcs A) KA) ∧ u4 = .int .i64 ((i : Nat) : Int) ∧ u5 = .int .i64 ((x : Nat) : Int) ∧ vA = u3 ∧ KS W2 KA wr) (fun u4 _ _ _ => 3 - (intOf u4).toNat)
     case atStart => exact ⟨0, k, [], (.slice none 0 0), [], Tw.om, Tw.om, rfl, (OwnL.nil _ _ _), rfl, rfl, rfl, (hW20.sub (fun p hp => by first | exact hp | (simp only [List.mem_cons, List.mem_append, List.nil_append, List.not_mem_nil, or_assoc, or_false, false_or] at hp ⊢ <;> grind)))⟩
     case round =>
       obtain ⟨i, x, A, vA, KA, hi, hx, hAl, hOA, rfl, rfl, rfl, hL21⟩ := hrel
       refine wp_seq ?_
       refine wp_seq ?_
       refine wp_region_L (W0 := W2) KA (hL21) ?_
       refine lm (v := .int .i64 ((i : Nat) : Int)) rfl rfl ?_
       refine lp (v := .bool (decide (i < 3))) rfl rfl (run_bin rfl (vx := (.int .i64 ((i : Nat) : Int))) (vy := (.int .i64 ((3 : Nat) : Int))) Tw.kr Tw.kr fun w => bn_lss rfl w) ?_
       refine wpL_done (fun W22 hW22 => ?_)
       change Code.wp ..
       cases hd3 : (decide (i < 3)) with
       | false =>
         have h3 : ¬ (i < 3) := of_decide_eq_false hd3
         clear hd3
         refine wp_cond_false rfl ?_
         refine wp_exit ?_
         change Code.wp ..
         refine wp_seq ?_
         obtain ⟨pA, cA, rfl, nA, RA⟩ := own_rl (cells := bxL) hOA
         refine wp_region_L (W0 := W2) KA (hW22) ?_
         refine lm (v := .int .i64 0) rfl rfl ?_
         refine wpL_done (fun W23 hW23 => ?_)
         change Code.wp ..
         refine wp_block ?_
         go_loopw [46] (fun u46 wr => ∃ (m : Nat), (m ≤ 4) ∧ u46 = .int .i64 ((m : Nat) : Int) ∧ KS W2 KA wr) (fun u46 _ => 4 - (intOf u46).toNat)
         case atStart => exact ⟨0, Tw.om, rfl, (hW23.sub (fun p hp => by first | exact hp | (simp only [List.mem_cons, List.mem_append, List.nil_append, List.not_mem_nil, or_assoc, or_false, false_or] at hp ⊢ <;> grind)))⟩
         case round =>
           obtain ⟨m, hm, rfl, hL24⟩ := hrel
           refine wp_seq ?_
           refine wp_region_L (W0 := W2) KA (hL24) ?_
           refine lp (v := .bool (decide (m < 4))) rfl rfl (run_bin rfl (vx := (.int .i64 ((m : Nat) : Int))) (vy := (.int .i64 ((4 : Nat) : Int))) Tw.kr Tw.kr fun w => bn_lss rfl w) ?_
           refine wpL_done (fun W25 hW25 => ?_)
           change Code.wp ..
           refine wp_seq ?_
           cases hd4 : (decide (m < 4)) with
           | false =>
             have h4 : ¬ (m < 4) := of_decide_eq_false hd4
             clear hd4
             refine wp_cond_false rfl ?_
             refine wp_exit ?_
             change Code.wp ..
             refine wp_region_L (W0 := W2) KA (hW25) ?_
             refine lp (v := .int .i64 (((k + 1) : Nat) : Int)) rfl rfl (run_bin rfl (vx := (.int .i64 ((k : Nat) : Int))) (vy := (.int .i64 ((1 : Nat) : Int))) Tw.kr Tw.kr fun w => bn_add (z := (k + 1)) rfl (wr_i64 Tw.om) w) ?_
             refine lm (v := .int .i64 (((k + 1) : Nat) : Int)) rfl rfl ?_
             refine wpL_done (fun W26 hW26 => ?_)
             go_roundw
             case rel =>
               repeat apply Exists.intro
               exact ⟨⟨k + 1, Tw.om, rfl, (hW26.sub (fun p hp => by first | exact hp | (simp only [List.mem_cons, List.mem_append, List.nil_append, List.not_mem_nil, or_assoc, or_false, false_or] at hp ⊢ <;> grind)))⟩, rfl⟩
             case measure => (show 729 - (intOf (.int .i64 (((k + 1) : Nat) : Int))).toNat < 729 - (intOf (.int .i64 ((k : Nat) : Int))).toNat); simp only [intOf]; omega
           | true =>
             have h4 : m < 4 := of_decide_eq_true hd4
             clear hd4
             refine wp_cond_true rfl ?_
             refine wp_skip ?_
             change Code.wp ..
             refine wp_seq ?_
             refine wp_block ?_
             refine wp_seq ?_
             refine wp_region_L (W0 := W2) KA (hW25) ?_
             refine lm (v := .int .i64 ((m : Nat) : Int)) rfl rfl ?_
             refine lm (v := .int .i64 ((m : Nat) : Int)) rfl rfl ?_
             refine wpL_done (fun W27 hW27 => ?_)
             change Code.wp ..
             refine wp_seq ?_
             refine wp_region_V (W0 := W2) KA Tw.kr (hW27) ?_
             refine vm (i := 0) (v := .slice pA A.length cA) rfl rfl rfl ?_
             refine vm (i := 1) (v := .int .i64 ((m : Nat) : Int)) rfl rfl rfl ?_
             refine vp (i := 2) (v := .slice pA m cA) rfl rfl rfl (run_slt (kd := .i64) (j := m) (n := A.length) (c := cA) (sz := 9) rfl Tryd.underlying22 Tw.kr Tw.kr Tw.kr Tw.om) ?_
             refine vm (i := 3) (v := .slice (some ⟨g1, 0, none⟩) 3 3) rfl rfl rfl ?_
             refine vm (i := 4) (v := .int .i64 ((k : Nat) : Int)) rfl rfl rfl ?_
             refine vp (i := 5) (v := .int .i64 (((k % 3) : Nat) : Int)) rfl rfl rfl (run_bin rfl (vx := (.int .i64 ((k : Nat) : Int))) (vy := (.int .i64 ((3 : Nat) : Int))) Tw.kr Tw.kr fun w => bn_rem (z := (k % 3)) rfl Tw.om w) ?_
             obtain ⟨y10, g10_, f10_, hy10, hp10, hc10⟩ := RL.at (RL.base RB.out) txC_len (by decide) (hW27.sub (fun _ h => by cases h)) (k := (k % 3)) Tw.om
             refine vp (i := 6) (v := .pointer (some ⟨g10_, f10_ + (k % 3) * 1, none⟩)) rfl rfl rfl (run_idxQ (p := (some ⟨g1, 0, none⟩)) (cap := 3) (n := 3) (j := .i64) (k := (k % 3)) (sz := 1) rfl Tryd.underlying72 Tw.kr Tw.kr hp10 Tw.kr Tw.om) ?_
             refine vb (i := 7) (v := strV y10) rfl rfl rfl (yb_rf (v := strV y10) rfl Tw.kr (fun W hW => hc10 W (hW.sub (fun _ h => by cases h)) 0 _ rfl) Tryd.underlying9 rfl) ?_
             refine vv (i := 8) (v := .bool true) rfl rfl rfl (yb_call (f := 11) (args := #[.slice pA m cA, .int .i64 2, strV y10]) Tw.kf fun W hW => (by have h9 := lists_any (A.take m) pA cA (2) y10 (by rw [List.length_take]; omega) W ((RA.take bxL_len m) _ (hW.sub (fun p hp => by simp only [List.mem_cons, List.mem_append, List.nil_append, List.not_mem_nil, or_assoc, or_false, false_or, hp, true_or, or_true]))); rw [List.length_take, Nat.min_eq_left Tw.om] at h9; exact h9)) ?_
             refine vm (i := 9) (v := .bool false) rfl rfl rfl ?_
             refine wpV_done Tw.kr (fun W28 hW28 => ?_) _
             change Code.wp ..
             refine wp_cond_false rfl ?_
             refine wp_skip ?_
             change Code.wp ..
             refine wp_region_L (W0 := W2) KA (hW28) ?_
             refine lp (v := .int .i64 (((m + 1) : Nat) : Int)) rfl rfl (run_bin rfl (vx := (.int .i64 ((m : Nat) : Int))) (vy := (.int .i64 ((1 : Nat) : Int))) Tw.kr Tw.kr fun w => bn_add (z := (m + 1)) rfl (wr_i64 Tw.om) w) ?_
             refine lm (v := .int .i64 (((m + 1) : Nat) : Int)) rfl rfl ?_
             refine wpL_done (fun W29 hW29 => ?_)
             go_roundw
             case rel =>
               repeat apply Exists.intro
               exact ⟨⟨m + 1, Tw.om, rfl, (hW29.sub (fun p hp => by first | exact hp | (simp only [List.mem_cons, List.mem_append, List.nil_append, List.not_mem_nil, or_assoc, or_false, false_or] at hp ⊢ <;> grind)))⟩, rfl⟩
             case measure => (show 4 - (intOf (.int .i64 (((m + 1) : Nat) : Int))).toNat < 4 - (intOf (.int .i64 ((m : Nat) : Int))).toNat); simp only [intOf]; omega
       | true =>
         have h3 : i < 3 := of_decide_eq_true hd3
         clear hd3
         refine wp_cond_true rfl ?_
         refine wp_skip ?_
         change Code.wp ..
         refine wp_seq ?_
         refine wp_block ?_
         refine wp_seq ?_
         refine wp_region_L (W0 := W2) KA (hW22) ?_
         refine lv (v := .agg (bxL exB).toArray) rfl rfl (yb_call (f := 13) (args := #[]) Tw.kf fun W hW => example_any W) ?_
         refine wpL_new (fun g => .pointer (some ⟨g, 0, none⟩)) (obi := .cells #[.int .i64 0, strV [], .int .u8 0, .bool false, .int .i64 0, .int .i64 0, .int .i64 0, .int .u8 0, .bool false] 26 (0, 0)) rfl rfl Tw.kf Tw.pf fun g11 Bg11 Fg11 => ?_
         obtain dj12_0 : Dk g11 KA := Tw.dkf Fg11
         refine wpL_s ((g11, .cells (bxL exB).toArray 26 (0, 0)) :: KA) rfl rfl (st_row (off := 0) (v := .agg (bxL exB).toArray) rfl Tw.kr Tw.kr Tw.m0 Bg11 Tw.kr (by first | (simp [Value.cells]; done) | exact Nat.le_of_ble_eq_true rfl) (fun v hv => bxL_one exB v hv) Tw.kr (List.forall_mem_cons.2 ⟨.inl rfl, (fun p hp => .inr ⟨(.tail _ hp), ((show Dk g11 KA from Tw.djt) _ hp)⟩)⟩)) ?_
         refine wpL_done (fun W30 hW30 => ?_)
         change Code.wp ..
         refine wp_seq ?_
         refine wp_region_V (W0 := W2) ((g11, .cells (bxL exB).toArray 26 (0, 0)) :: KA) Tw.kr (hW30) ?_
         refine vm (i := 0) (v := .int .i64 ((x : Nat) : Int)) rfl rfl rfl ?_
         refine vp (i := 1) (v := .int .i64 (((x % 3) : Nat) : Int)) rfl rfl rfl (run_bin rfl (vx := (.int .i64 ((x : Nat) : Int))) (vy := (.int .i64 ((3 : Nat) : Int))) Tw.kr Tw.kr fun w => bn_rem (z := (x % 3)) rfl Tw.om w) ?_
         refine vp (i := 2) (v := .int .i64 (((1 + (x % 3)) : Nat) : Int)) rfl rfl rfl (run_bin rfl (vx := (.int .i64 ((1 : Nat) : Int))) (vy := (.int .i64 (((x % 3) : Nat) : Int))) Tw.kr Tw.kr fun w => bn_add (z := (1 + (x % 3))) rfl (wr_i64 Tw.om) w) ?_
         refine vm (i := 3) (v := .slice (some ⟨g1, 0, none⟩) 3 3) rfl rfl rfl ?_
         refine vm (i := 4) (v := .int .i64 ((x : Nat) : Int)) rfl rfl rfl ?_
         refine vp (i := 5) (v := .int .i64 (((x / 3) : Nat) : Int)) rfl rfl rfl (run_bin rfl (vx := (.int .i64 ((x : Nat) : Int))) (vy := (.int .i64 ((3 : Nat) : Int))) Tw.kr Tw.kr fun w => bn_quo (z := (x / 3)) rfl Tw.om (wr_i64 Tw.om) w) ?_
         refine vp (i := 6) (v := .int .i64 ((((x / 3) % 3) : Nat) : Int)) rfl rfl rfl (run_bin rfl (vx := (.int .i64 (((x / 3) : Nat) : Int))) (vy := (.int .i64 ((3 : Nat) : Int))) Tw.kr Tw.kr fun w => bn_rem (z := ((x / 3) % 3)) rfl Tw.om w) ?_
         obtain ⟨y13, g13_, f13_, hy13, hp13, hc13⟩ := RL.at (RL.base RB.out) txC_len (by decide) (hW30.sub (fun _ h => by cases h)) (k := ((x / 3) % 3)) Tw.om
         refine vp (i := 7) (v := .pointer (some ⟨g13_, f13_ + ((x / 3) % 3) * 1, none⟩)) rfl rfl rfl (run_idxQ (p := (some ⟨g1, 0, none⟩)) (cap := 3) (n := 3) (j := .i64) (k := ((x / 3) % 3)) (sz := 1) rfl Tryd.underlying72 Tw.kr Tw.kr hp13 Tw.kr Tw.om) ?_
         refine vb (i := 8) (v := strV y13) rfl rfl rfl (yb_rf (v := strV y13) rfl Tw.kr (fun W hW => hc13 W (hW.sub (fun _ h => by cases h)) 0 _ rfl) Tryd.underlying9 rfl) ?_
         refine vm (i := 9) (v := .int .i64 ((x : Nat) : Int)) rfl rfl rfl ?_
         refine vp (i := 10) (v := .int .i64 (((x % 2) : Nat) : Int)) rfl rfl rfl (run_bin rfl (vx := (.int .i64 ((x : Nat) : Int))) (vy := (.int .i64 ((2 : Nat) : Int))) Tw.kr Tw.kr fun w => bn_rem (z := (x % 2)) rfl Tw.om w) ?_
         refine vp (i := 11) (v := .int .i64 (((5 + (x % 2)) : Nat) : Int)) rfl rfl rfl (run_bin rfl (vx := (.int .i64 ((5 : Nat) : Int))) (vy := (.int .i64 (((x % 2) : Nat) : Int))) Tw.kr Tw.kr fun w => bn_add (z := (5 + (x % 2))) rfl (wr_i64 Tw.om) w) ?_
         refine vm (i := 12) (v := .pointer (some ⟨g11, 0, none⟩)) rfl rfl rfl ?_
         refine wpV_s ((g11, .cells #[.int .i64 (((1 + (x % 3)) : Nat) : Int), strV exB.num, .int .u8 ((exB.size : Nat) : Int), .bool exB.high, .int .i64 exB.kilos, .int .i64 exB.load, .int .i64 exB.dis, .int .u8 ((exB.cls : Nat) : Int), .bool exB.rf] 26 (0, 0)) :: KA) (i := 13) rfl Tw.kr rfl rfl rfl (st_row (off := 0) (v := .int .i64 (((1 + (x % 3)) : Nat) : Int)) rfl Tw.kr Tw.kr Tw.m0 Bg11 Tw.kr (by first | (simp [Value.cells]; done) | exact Nat.le_of_ble_eq_true rfl) (by intro v hv; simp [Value.cells] at hv; first | (subst hv; rfl) | (rcases hv with rfl <;> rfl)) Tw.kr (List.forall_mem_cons.2 ⟨.inl rfl, (fun p hp => .inr ⟨(.tail _ hp), ((show Dk g11 KA from Tw.djt) _ hp)⟩)⟩)) ?_
         refine vm (i := 14) (v := .pointer (some ⟨g11, 1, none⟩)) rfl rfl rfl ?_
         refine wpV_s ((g11, .cells #[.int .i64 (((1 + (x % 3)) : Nat) : Int), strV y13, .int .u8 ((exB.size : Nat) : Int), .bool exB.high, .int .i64 exB.kilos, .int .i64 exB.load, .int .i64 exB.dis, .int .u8 ((exB.cls : Nat) : Int), .bool exB.rf] 26 (0, 0)) :: KA) (i := 15) rfl Tw.kr rfl rfl rfl (st_row (off := 1) (v := strV y13) rfl Tw.kr Tw.kr Tw.m0 Bg11 Tw.kr (by first | (simp [Value.cells]; done) | exact Nat.le_of_ble_eq_true rfl) (fun v hv => txC_one y13 v hv) Tw.kr (List.forall_mem_cons.2 ⟨.inl rfl, (fun p hp => .inr ⟨(.tail _ hp), ((show Dk g11 KA from Tw.djt) _ hp)⟩)⟩)) ?_
         refine vm (i := 16) (v := .pointer (some ⟨g11, 4, none⟩)) rfl rfl rfl ?_
         refine wpV_s ((g11, .cells #[.int .i64 (((1 + (x % 3)) : Nat) : Int), strV y13, .int .u8 ((exB.size : Nat) : Int), .bool exB.high, .int .i64 (((5 + (x % 2)) : Nat) : Int), .int .i64 exB.load, .int .i64 exB.dis, .int .u8 ((exB.cls : Nat) : Int), .bool exB.rf] 26 (0, 0)) :: KA) (i := 17) rfl Tw.kr rfl rfl rfl (st_row (off := 4) (v := .int .i64 (((5 + (x % 2)) : Nat) : Int)) rfl Tw.kr Tw.kr Tw.m0 Bg11 Tw.kr (by first | (simp [Value.cells]; done) | exact Nat.le_of_ble_eq_true rfl) (by intro v hv; simp [Value.cells] at hv; first | (subst hv; rfl) | (rcases hv with rfl <;> rfl)) Tw.kr (List.forall_mem_cons.2 ⟨.inl rfl, (fun p hp => .inr ⟨(.tail _ hp), ((show Dk g11 KA from Tw.djt) _ hp)⟩)⟩)) ?_
         refine wpV_done Tw.kr (fun W31 hW31 => ?_) _
         change Code.wp ..
         refine wp_seq ?_
         refine wp_region_L (W0 := W2) ((g11, .cells #[.int .i64 (((1 + (x % 3)) : Nat) : Int), strV y13, .int .u8 ((exB.size : Nat) : Int), .bool exB.high, .int .i64 (((5 + (x % 2)) : Nat) : Int), .int .i64 exB.load, .int .i64 exB.dis, .int .u8 ((exB.cls : Nat) : Int), .bool exB.rf] 26 (0, 0)) :: KA) (hW31) ?_
         refine lm (v := vA) rfl rfl ?_
         refine lv (v := .agg #[.int .i64 (((1 + (x % 3)) : Nat) : Int), strV y13, .int .u8 ((exB.size : Nat) : Int), .bool exB.high, .int .i64 (((5 + (x % 2)) : Nat) : Int), .int .i64 exB.load, .int .i64 exB.dis, .int .u8 ((exB.cls : Nat) : Int), .bool exB.rf]) rfl rfl (yb_load (n := 9) (off := 0) rfl Tw.kr Tw.m0 Tryd.underlying26 rfl Tw.kr (by first | (simp [Value.cells]; done) | exact Nat.le_of_ble_eq_true rfl) Tw.kr) ?_
         refine wpL_new (fun g => .slice (some ⟨g, 0, none⟩) 1 1) (obi := .cells #[.int .i64 (((1 + (x % 3)) : Nat) : Int), strV y13, .int .u8 ((exB.size : Nat) : Int), .bool exB.high, .int .i64 (((5 + (x % 2)) : Nat) : Int), .int .i64 exB.load, .int .i64 exB.dis, .int .u8 ((exB.cls : Nat) : Int), .bool exB.rf] 26 (0, 0)) rfl rfl Tw.kf Tw.pf fun g14 Bg14 Fg14 => ?_
         obtain ⟨dj15_0, dj15_1⟩ : g11 ≠ g14 ∧ Dk g14 KA := Tw.dkf Fg14
         refine wpL_g (AppO W2 26 9 [(g11, .cells #[.int .i64 (((1 + (x % 3)) : Nat) : Int), strV y13, .int .u8 ((exB.size : Nat) : Int), .bool exB.high, .int .i64 (((5 + (x % 2)) : Nat) : Int), .int .i64 exB.load, .int .i64 exB.dis, .int .u8 ((exB.cls : Nat) : Int), .bool exB.rf] 26 (0, 0))] (A.length + 1) ((bcs A) ++ [.int .i64 (((1 + (x % 3)) : Nat) : Int), strV y13, .int .u8 ((exB.size : Nat) : Int), .bool exB.high, .int .i64 (((5 + (x % 2)) : Nat) : Int), .int .i64 exB.load, .int .i64 exB.dis, .int .u8 ((exB.cls : Nat) : Int), .bool exB.rf])) rfl rfl (app_own el_bx (m := 1) (c := 1) (news := [.int .i64 (((1 + (x % 3)) : Nat) : Int), strV y13, .int .u8 ((exB.size : Nat) : Int), .bool exB.high, .int .i64 (((5 + (x % 2)) : Nat) : Int), .int .i64 exB.load, .int .i64 exB.dis, .int .u8 ((exB.cls : Nat) : Int), .bool exB.rf]) rfl Tw.kr Tw.kr Tw.m0 hOA Tw.sc (fun p hp => ⟨by simp only [List.mem_cons, List.mem_append, List.nil_append, List.not_mem_nil, or_assoc, or_false, false_or] at hp ⊢ <;> grind, (show Dj [(g11, .cells #[.int .i64 (((1 + (x % 3)) : Nat) : Int), strV y13, .int .u8 ((exB.size : Nat) : Int), .bool exB.high, .int .i64 (((5 + (x % 2)) : Nat) : Int), .int .i64 exB.load, .int .i64 exB.dis, .int .u8 ((exB.cls : Nat) : Int), .bool exB.rf] 26 (0, 0))] KA from Tw.djt) p hp⟩) rfl (by simp [strV, Value.oneCell']) Tw.om Tw.om Tw.om) Tw.pf ?_
         rintro v16 K9 ⟨Kl16, O16, N16, rfl⟩
         obtain dj17_0 : Dk g11 Kl16 := Tw.djf N16
         refine lm (v := v16) rfl rfl ?_
         refine wpL_done (fun W32 hW32 => ?_)
         change Code.wp ..
         refine wp_region_L (W0 := W2) ((g11, .cells #[.int .i64 (((1 + (x % 3)) : Nat) : Int), strV y13, .int .u8 ((exB.size : Nat) : Int), .bool exB.high, .int .i64 (((5 + (x % 2)) : Nat) : Int), .int .i64 exB.load, .int .i64 exB.dis, .int .u8 ((exB.cls : Nat) : Int), .bool exB.rf] 26 (0, 0)) :: Kl16) (hW32) ?_
         refine lm (v := .int .i64 ((x : Nat) : Int)) rfl rfl ?_
         refine lp (v := .int .i64 (((x / 9) : Nat) : Int)) rfl rfl (run_bin rfl (vx := (.int .i64 ((x : Nat) : Int))) (vy := (.int .i64 ((9 : Nat) : Int))) Tw.kr Tw.kr fun w => bn_quo (z := (x / 9)) rfl Tw.om (wr_i64 Tw.om) w) ?_
         refine lm (v := .int .i64 (((x / 9) : Nat) : Int)) rfl rfl ?_
         refine wpL_done (fun W33 hW33 => ?_)
         change Code.wp ..
         refine wp_region_L (W0 := W2) ((g11, .cells #[.int .i64 (((1 + (x % 3)) : Nat) : Int), strV y13, .int .u8 ((exB.size : Nat) : Int), .bool exB.high, .int .i64 (((5 + (x % 2)) : Nat) : Int), .int .i64 exB.load, .int .i64 exB.dis, .int .u8 ((exB.cls : Nat) : Int), .bool exB.rf] 26 (0, 0)) :: Kl16) (hW33) ?_
         refine lm (v := .int .i64 ((i : Nat) : Int)) rfl rfl ?_
         refine lp (v := .int .i64 (((i + 1) : Nat) : Int)) rfl rfl (run_bin rfl (vx := (.int .i64 ((i : Nat) : Int))) (vy := (.int .i64 ((1 : Nat) : Int))) Tw.kr Tw.kr fun w => bn_add (z := (i + 1)) rfl (wr_i64 Tw.om) w) ?_
         refine lm (v := .int .i64 (((i + 1) : Nat) : Int)) rfl rfl ?_
         refine wpL_done (fun W34 hW34 => ?_)
         go_roundw
         case rel =>
           repeat apply Exists.intro
           exact ⟨⟨i + 1, (x / 9), (A ++ [(⟨(((1 + (x % 3)) : Nat) : Int), y13, exB.size, exB.high, (((5 + (x % 2)) : Nat) : Int), exB.load, exB.dis, exB.cls, exB.rf⟩ : Bx)]), v16, Kl16, Tw.om, Tw.om, (by rw [List.length_append, List.length_singleton]; omega), (own_appB (l' := A ++ [(⟨(((1 + (x % 3)) : Nat) : Int), y13, exB.size, exB.high, (((5 + (x % 2)) : Nat) : Int), exB.load, exB.dis, exB.cls, exB.rf⟩ : Bx)]) O16 (by rw [bcs_app]; rfl) (by rw [List.length_append]; rfl)), rfl, rfl, rfl, (hW34.sub (fun p hp => by first | exact hp | (simp only [List.mem_cons, List.mem_append, List.nil_append, List.not_mem_nil, or_assoc, or_false, false_or] at hp ⊢ <;> grind)))⟩, rfl⟩
         case measure => (show 3 - (intOf (.int .i64 (((i + 1) : Nat) : Int))).toNat < 3 - (intOf (.int .i64 ((i : Nat) : Int))).toNat); simp only [intOf]; omega
end Go.Proofs.YtllmpemmknblaaaDoor
