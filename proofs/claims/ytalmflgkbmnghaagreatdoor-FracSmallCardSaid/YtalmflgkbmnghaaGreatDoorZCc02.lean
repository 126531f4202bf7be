import Derived.Test.YtalmflgkbmnghaaGreatDoorZCc01
import Derived.Test.YtalmflgkbmnghaaGreatDoorRM00
/- Part of the proof: Y5, Y3, Y6, Y8, Y9. -/
set_option linter.unusedVariables false
set_option linter.unusedSimpArgs false
set_option linter.unusedSectionVars false
namespace Go.Proofs.YtalmflgkbmnghaaGreatDoor
open Go Go.RowKit Tw
set_option maxRecDepth 100000 in
set_option maxHeartbeats 4000000 in
theorem sub_any (a b : Nat) (p q : Option Addr) (c d : Nat) (hba : b ≤ a) (la : (cd a).length ≤ 100000) (w : World) (hp : SLV w p (nums (cd a))) (hq : SLV w q (nums (cd b))) : Calls Tryz.prog 48 #[.slice p (cd a).length c, .slice q (cd b).length d] w fun e w' => Ans w (cd (a - b)) e w' := by
 have HP : NS (w : Base) p (cd a) [] := NS.base hp
 have HQ : NS (w : Base) q (cd b) [] := NS.base hq
 clear hp hq
 go_enter Tryz.func48, Tryz.ntmps48
 refine wp_seq ?_
 refine wp_region_L [] (KS.start w) ?_
 refine Tw.mm (.slice none 0 0) ?_
 refine wpL_done (fun W1 hW1 => ?_)
 change Code.wp ..
 refine wp_seq ?_
 refine wp_region_L _ hW1 ?_
 refine Tw.mm (.slice none 0 0) ?_
 refine wpL_done (fun W2 hW2 => ?_)
 change Code.wp ..
 refine wp_seq ?_
 refine wp_region_L _ hW2 ?_
 refine Tw.mm (.int .i64 0) ?_
 refine wpL_done (fun W3 hW3 => ?_)
 change Code.wp ..
 refine wp_seq ?_
 refine wp_seq ?_
 refine wp_region_L _ hW3 ?_
 refine Tw.mm (.int .i64 0) ?_
 refine wpL_done (fun W4 hW4 => ?_)
 change Code.wp ..
 refine wp_block ?_
 go_loopw [7, 6, 5] (fun u7 u6 u5 wr => ∃ (i ow : Nat) (R : List Nat) (vo : Value) (Ko : List (Nat × Obj)), (OwnL (w : Base) 3 1 vo i (nums R) Ko) ∧ (SuI a b R i ow) ∧ (i ≤ (cd a).length) ∧ u7 = .int .i64 ((i : Nat) : Int) ∧ u6 = .int .i64 ((ow : Nat) : Int) ∧ vo = u5 ∧ KS w Ko wr) (fun u7 _ _ _ => (cd a).length - (intOf u7).toNat)
 case atStart => exact ⟨0, 0, [], (.slice none 0 0), [], (OwnL.nil _ _ _), (SuI.start a b), Tw.om, rfl, rfl, rfl, (hW4.sub Tw.sb)⟩
 case round =>
   obtain ⟨i, ow, R, vo, Ko, hO, hI, hi, rfl, rfl, rfl, hL5⟩ := hrel
   have how := hI.o1
   refine wp_seq ?_
   refine wp_seq ?_
   refine wp_region_L _ hL5 ?_
   refine Tw.mm (.int .i64 ((i : Nat) : Int)) ?_
   refine Tw.mm (.slice p ((cd a).length) c) ?_
   refine Tw.lp (v := .int .i64 ((((cd a).length) : Nat) : Int)) rfl rfl (run_lenL (p := p) (cap := c) (n := ((cd a).length)) rfl Tryz.underlying32 Tw.kr) ?_
   refine Tw.lp (v := .bool (decide (i < ((cd a).length)))) rfl rfl (run_bin rfl (vx := (.int .i64 ((i : Nat) : Int))) (vy := (.int .i64 ((((cd a).length) : Nat) : Int))) Tw.kr Tw.kr fun w => bn_lss rfl w) ?_
   refine wpL_done (fun W6 hW6 => ?_)
   change Code.wp ..
   cases hd1 : (decide (i < ((cd a).length))) with
   | false =>
     have h1 : ¬ (i < ((cd a).length)) := of_decide_eq_false hd1
     clear hd1
     refine wp_cond_false rfl ?_
     refine wp_exit ?_
     change Code.wp ..
     refine wp_seq ?_
     refine wp_region_L _ hW6 ?_
     refine Tw.mm vo ?_
     obtain ⟨p2, c2, rfl, hc2, HN2, HF2⟩ := own_ns hO
     refine Tw.lv (v := .slice p2 ((cd (a - b)).length) c2) rfl rfl (yb_call (f := 81) (args := #[.slice p2 i c2]) Tw.kf fun W hW => trim_any R (a - b) i p2 c2 hI.ok (hI.end hba h1 hi) (own_len hO).symm hc2 Tw.om W ((HN2.mono Tw.sb) W hW)) ?_
     refine Tw.mm (.slice p2 ((cd (a - b)).length) c2) ?_
     refine wpL_done (fun W7 hW7 => ?_)
     change Code.wp ..
     refine wp_ret ?_
     try simp only [inBlock_ret, then_ret]
     refine bodyPost_ret (v := .slice p2 ((cd (a - b)).length) c2) ?_ rfl ?_
     · kernel_rfl
     · exact ⟨_, _, rfl, (Nat.le_trans (cd_trim_le hI.ok (hI.end hba h1 hi) (own_len hO).symm) hc2), slf_trim (HF2 _ _ (hW7.sub Tw.sb) rfl (Below.refl _ _)) hI.ok (hI.end hba h1 hi), hW7.1⟩
   | true =>
     have h1 : i < ((cd a).length) := of_decide_eq_true hd1
     clear hd1
     refine wp_cond_true rfl ?_
     refine wp_skip ?_
     change Code.wp ..
     refine wp_seq ?_
     refine wp_block ?_
     refine wp_seq ?_
     refine wp_region_L _ hW6 ?_
     refine Tw.mm (.slice p ((cd a).length) c) ?_
     refine Tw.mm (.int .i64 ((i : Nat) : Int)) ?_
     obtain ⟨b3, f3, hp3, hc3⟩ := (HP.mono Tw.sb).at hW6 (k := i) Tw.om
     refine Tw.lp (v := .pointer (some ⟨b3, f3 + i * 1, none⟩)) rfl rfl (run_idxQ (p := p) (cap := c) (n := ((cd a).length)) (j := .i64) (k := i) (sz := 1) rfl Tryz.underlying32 Tw.kr Tw.kr hp3 Tw.kr Tw.om) ?_
     obtain ⟨x4, hx4⟩ : ∃ x, ((cd a) : List Nat)[i]? = some x := ⟨_, List.getElem?_eq_getElem Tw.om⟩
     have lx4 : x4 < 65536 := dOk.at (cd_ok a) hx4
     refine Tw.lv (v := .int .i64 ((x4 : Nat) : Int)) rfl rfl (yb_ns (off := f3 + i * 1) rfl Tw.kr (fun W hW => hc3 W (hW.sub Tw.sb) _ _ hx4) Tryz.underlying3 rfl) ?_
     refine Tw.mm (.int .i64 ((ow : Nat) : Int)) ?_
     refine Tw.lp (v := .int .i64 (((x4 : Nat) : Int) - ((ow : Nat) : Int))) rfl rfl (run_bin rfl (vx := (.int .i64 ((x4 : Nat) : Int))) (vy := (.int .i64 ((ow : Nat) : Int))) Tw.kr Tw.kr fun w => bi_sub (z := (((x4 : Nat) : Int) - ((ow : Nat) : Int))) rfl (wi_i64 Tw.om) w) ?_
     refine Tw.mm (.int .i64 (((x4 : Nat) : Int) - ((ow : Nat) : Int))) ?_
     refine wpL_done (fun W8 hW8 => ?_)
     change Code.wp ..
     refine wp_seq ?_
     refine wp_seq ?_
     refine wp_region_L _ hW8 ?_
     refine Tw.mm (.int .i64 ((i : Nat) : Int)) ?_
     refine Tw.mm (.slice q ((cd b).length) d) ?_
     refine Tw.lp (v := .int .i64 ((((cd b).length) : Nat) : Int)) rfl rfl (run_lenL (p := q) (cap := d) (n := ((cd b).length)) rfl Tryz.underlying32 Tw.kr) ?_
     refine Tw.lp (v := .bool (decide (i < ((cd b).length)))) rfl rfl (run_bin rfl (vx := (.int .i64 ((i : Nat) : Int))) (vy := (.int .i64 ((((cd b).length) : Nat) : Int))) Tw.kr Tw.kr fun w => bn_lss rfl w) ?_
     refine wpL_done (fun W9 hW9 => ?_)
     change Code.wp ..
     cases hd2 : (decide (i < ((cd b).length))) with
     | false =>
       have h2 : ¬ (i < ((cd b).length)) := of_decide_eq_false hd2
       clear hd2
       refine wp_cond_false rfl ?_
       refine wp_skip ?_
       change Code.wp ..
       refine wp_seq ?_
       refine wp_region_L _ hW9 ?_
       refine Tw.mm (.int .i64 0) ?_
       refine wpL_done (fun W10 hW10 => ?_)
       change Code.wp ..
       refine wp_seq ?_
       refine wp_seq ?_
       refine wp_region_L _ hW10 ?_
       refine Tw.mm (.int .i64 (((x4 : Nat) : Int) - ((ow : Nat) : Int))) ?_
       refine Tw.lp (v := .bool (decide ((((x4 : Nat) : Int) - ((ow : Nat) : Int)) < 0))) rfl rfl (run_bin rfl (vx := (.int .i64 (((x4 : Nat) : Int) - ((ow : Nat) : Int)))) (vy := (.int .i64 0)) Tw.kr Tw.kr fun w => bi_lss rfl w) ?_
       refine wpL_done (fun W11 hW11 => ?_)
       change Code.wp ..
       cases hd3 : (decide ((((x4 : Nat) : Int) - ((ow : Nat) : Int)) < 0)) with
       | false =>
         have h3 : ¬ ((((x4 : Nat) : Int) - ((ow : Nat) : Int)) < 0) := of_decide_eq_false hd3
         clear hd3
         refine wp_cond_false rfl ?_
         refine wp_skip ?_
         change Code.wp ..
         refine wp_region_L _ hW11 ?_
         refine Tw.mm vo ?_
         refine Tw.mm (.int .i64 (((x4 : Nat) : Int) - ((ow : Nat) : Int))) ?_
         refine wpL_new (fun g => .slice (some ⟨g, 0, none⟩) 1 1) (obi := .cells #[.int .i64 (((x4 : Nat) : Int) - ((ow : Nat) : Int))] 3 (0, 0)) rfl rfl Tw.kf Tw.pf fun g5 Bg5 Fg5 => ?_
         obtain dj6_0 : Dk g5 Ko := Tw.dkf Fg5
         refine wpL_g (AppO w 3 1 [] (i + 1) ((nums R) ++ [.int .i64 (((x4 : Nat) : Int) - ((ow : Nat) : Int))])) rfl rfl (app_own el_int (m := 1) (c := 1) (news := [.int .i64 (((x4 : Nat) : Int) - ((ow : Nat) : Int))]) rfl Tw.kr Tw.kr Tw.m0 hO Tw.sc (fun _ h => by cases h) rfl (by simp [strV, Value.oneCell']) Tw.om Tw.om Tw.om) Tw.pf ?_
         rintro v7 Kl7 ⟨_, O7, N7, rfl⟩
         refine Tw.mm v7 ?_
         refine wpL_done (fun W12 hW12 => ?_)
         change Code.wp ..
         refine wp_region_L _ hW12 ?_
         refine Tw.mm (.int .i64 ((i : Nat) : Int)) ?_
         refine Tw.lp (v := .int .i64 (((i + 1) : Nat) : Int)) rfl rfl (run_bin rfl (vx := (.int .i64 ((i : Nat) : Int))) (vy := (.int .i64 ((1 : Nat) : Int))) Tw.kr Tw.kr fun w => bn_add (z := (i + 1)) rfl (wr_i64 Tw.om) w) ?_
         refine Tw.mm (.int .i64 (((i + 1) : Nat) : Int)) ?_
         refine wpL_done (fun W13 hW13 => ?_)
         go_roundw
         case rel =>
           repeat apply Exists.intro
           exact ⟨⟨i + 1, 0, (R ++ [((((x4 : Nat) : Int) - ((ow : Nat) : Int))).toNat]), v7, Kl7, (own_snocZ O7 Tw.om), (SuI.step hI hx4 (.inr ⟨h2, rfl⟩) Tw.om Tw.om Tw.om), Tw.om, rfl, rfl, rfl, (hW13.sub Tw.sb)⟩, rfl⟩
         case measure => (show (cd a).length - (intOf (.int .i64 (((i + 1) : Nat) : Int))).toNat < (cd a).length - (intOf (.int .i64 ((i : Nat) : Int))).toNat); simp only [intOf]; omega
       | true =>
         have h3 : (((x4 : Nat) : Int) - ((ow : Nat) : Int)) < 0 := of_decide_eq_true hd3
         clear hd3
         refine wp_cond_true rfl ?_
         refine wp_region_L _ hW11 ?_
         refine Tw.mm (.int .i64 (((x4 : Nat) : Int) - ((ow : Nat) : Int))) ?_
         refine Tw.lp (v := .int .i64 ((((x4 : Nat) : Int) - ((ow : Nat) : Int)) + 65536)) rfl rfl (run_bin rfl (vx := (.int .i64 (((x4 : Nat) : Int) - ((ow : Nat) : Int)))) (vy := (.int .i64 65536)) Tw.kr Tw.kr fun w => bi_add (z := ((((x4 : Nat) : Int) - ((ow : Nat) : Int)) + 65536)) rfl (wi_i64 Tw.om) w) ?_
         refine Tw.mm (.int .i64 ((((x4 : Nat) : Int) - ((ow : Nat) : Int)) + 65536)) ?_
         refine Tw.mm (.int .i64 1) ?_
         refine wpL_done (fun W14 hW14 => ?_)
         change Code.wp ..
         refine wp_region_L _ hW14 ?_
         refine Tw.mm vo ?_
         refine Tw.mm (.int .i64 ((((x4 : Nat) : Int) - ((ow : Nat) : Int)) + 65536)) ?_
         refine wpL_new (fun g => .slice (some ⟨g, 0, none⟩) 1 1) (obi := .cells #[.int .i64 ((((x4 : Nat) : Int) - ((ow : Nat) : Int)) + 65536)] 3 (0, 0)) rfl rfl Tw.kf Tw.pf fun g8 Bg8 Fg8 => ?_
         obtain dj9_0 : Dk g8 Ko := Tw.dkf Fg8
         refine wpL_g (AppO w 3 1 [] (i + 1) ((nums R) ++ [.int .i64 ((((x4 : Nat) : Int) - ((ow : Nat) : Int)) + 65536)])) rfl rfl (app_own el_int (m := 1) (c := 1) (news := [.int .i64 ((((x4 : Nat) : Int) - ((ow : Nat) : Int)) + 65536)]) rfl Tw.kr Tw.kr Tw.m0 hO Tw.sc (fun _ h => by cases h) rfl (by simp [strV, Value.oneCell']) Tw.om Tw.om Tw.om) Tw.pf ?_
         rintro v10 Kl10 ⟨_, O10, N10, rfl⟩
         refine Tw.mm v10 ?_
         refine wpL_done (fun W15 hW15 => ?_)
         change Code.wp ..
         refine wp_region_L _ hW15 ?_
         refine Tw.mm (.int .i64 ((i : Nat) : Int)) ?_
         refine Tw.lp (v := .int .i64 (((i + 1) : Nat) : Int)) rfl rfl (run_bin rfl (vx := (.int .i64 ((i : Nat) : Int))) (vy := (.int .i64 ((1 : Nat) : Int))) Tw.kr Tw.kr fun w => bn_add (z := (i + 1)) rfl (wr_i64 Tw.om) w) ?_
         refine Tw.mm (.int .i64 (((i + 1) : Nat) : Int)) ?_
         refine wpL_done (fun W16 hW16 => ?_)
         go_roundw
         case rel =>
           repeat apply Exists.intro
           exact ⟨⟨i + 1, 1, (R ++ [(((((x4 : Nat) : Int) - ((ow : Nat) : Int)) + 65536)).toNat]), v10, Kl10, (own_snocZ O10 Tw.om), (SuI.step hI hx4 (.inr ⟨h2, rfl⟩) Tw.om Tw.om Tw.om), Tw.om, rfl, rfl, rfl, (hW16.sub Tw.sb)⟩, rfl⟩
         case measure => (show (cd a).length - (intOf (.int .i64 (((i + 1) : Nat) : Int))).toNat < (cd a).length - (intOf (.int .i64 ((i : Nat) : Int))).toNat); simp only [intOf]; omega
     | true =>
       have h2 : i < ((cd b).length) := of_decide_eq_true hd2
       clear hd2
       refine wp_cond_true rfl ?_
       refine wp_region_L _ hW9 ?_
       refine Tw.mm (.int .i64 (((x4 : Nat) : Int) - ((ow : Nat) : Int))) ?_
       refine Tw.mm (.slice q ((cd b).length) d) ?_
       refine Tw.mm (.int .i64 ((i : Nat) : Int)) ?_
       obtain ⟨b11, f11, hp11, hc11⟩ := (HQ.mono Tw.sb).at hW9 (k := i) Tw.om
       refine Tw.lp (v := .pointer (some ⟨b11, f11 + i * 1, none⟩)) rfl rfl (run_idxQ (p := q) (cap := d) (n := ((cd b).length)) (j := .i64) (k := i) (sz := 1) rfl Tryz.underlying32 Tw.kr Tw.kr hp11 Tw.kr Tw.om) ?_
       obtain ⟨x12, hx12⟩ : ∃ x, ((cd b) : List Nat)[i]? = some x := ⟨_, List.getElem?_eq_getElem Tw.om⟩
       have lx12 : x12 < 65536 := dOk.at (cd_ok b) hx12
       refine Tw.lv (v := .int .i64 ((x12 : Nat) : Int)) rfl rfl (yb_ns (off := f11 + i * 1) rfl Tw.kr (fun W hW => hc11 W (hW.sub Tw.sb) _ _ hx12) Tryz.underlying3 rfl) ?_
       refine Tw.lp (v := .int .i64 ((((x4 : Nat) : Int) - ((ow : Nat) : Int)) - ((x12 : Nat) : Int))) rfl rfl (run_bin rfl (vx := (.int .i64 (((x4 : Nat) : Int) - ((ow : Nat) : Int)))) (vy := (.int .i64 ((x12 : Nat) : Int))) Tw.kr Tw.kr fun w => bi_sub (z := ((((x4 : Nat) : Int) - ((ow : Nat) : Int)) - ((x12 : Nat) : Int))) rfl (wi_i64 Tw.om) w) ?_
       refine Tw.mm (.int .i64 ((((x4 : Nat) : Int) - ((ow : Nat) : Int)) - ((x12 : Nat) : Int))) ?_
       refine wpL_done (fun W17 hW17 => ?_)
       change Code.wp ..
       refine wp_seq ?_
       refine wp_region_L _ hW17 ?_
       refine Tw.mm (.int .i64 0) ?_
       refine wpL_done (fun W18 hW18 => ?_)
       change Code.wp ..
       refine wp_seq ?_
       refine wp_seq ?_
       refine wp_region_L _ hW18 ?_
       refine Tw.mm (.int .i64 ((((x4 : Nat) : Int) - ((ow : Nat) : Int)) - ((x12 : Nat) : Int))) ?_
       refine Tw.lp (v := .bool (decide (((((x4 : Nat) : Int) - ((ow : Nat) : Int)) - ((x12 : Nat) : Int)) < 0))) rfl rfl (run_bin rfl (vx := (.int .i64 ((((x4 : Nat) : Int) - ((ow : Nat) : Int)) - ((x12 : Nat) : Int)))) (vy := (.int .i64 0)) Tw.kr Tw.kr fun w => bi_lss rfl w) ?_
       refine wpL_done (fun W19 hW19 => ?_)
       change Code.wp ..
       cases hd4 : (decide (((((x4 : Nat) : Int) - ((ow : Nat) : Int)) - ((x12 : Nat) : Int)) < 0)) with
       | false =>
         have h4 : ¬ (((((x4 : Nat) : Int) - ((ow : Nat) : Int)) - ((x12 : Nat) : Int)) < 0) := of_decide_eq_false hd4
         clear hd4
         refine wp_cond_false rfl ?_
         refine wp_skip ?_
         change Code.wp ..
         refine wp_region_L _ hW19 ?_
         refine Tw.mm vo ?_
         refine Tw.mm (.int .i64 ((((x4 : Nat) : Int) - ((ow : Nat) : Int)) - ((x12 : Nat) : Int))) ?_
         refine wpL_new (fun g => .slice (some ⟨g, 0, none⟩) 1 1) (obi := .cells #[.int .i64 ((((x4 : Nat) : Int) - ((ow : Nat) : Int)) - ((x12 : Nat) : Int))] 3 (0, 0)) rfl rfl Tw.kf Tw.pf fun g13 Bg13 Fg13 => ?_
         obtain dj14_0 : Dk g13 Ko := Tw.dkf Fg13
         refine wpL_g (AppO w 3 1 [] (i + 1) ((nums R) ++ [.int .i64 ((((x4 : Nat) : Int) - ((ow : Nat) : Int)) - ((x12 : Nat) : Int))])) rfl rfl (app_own el_int (m := 1) (c := 1) (news := [.int .i64 ((((x4 : Nat) : Int) - ((ow : Nat) : Int)) - ((x12 : Nat) : Int))]) rfl Tw.kr Tw.kr Tw.m0 hO Tw.sc (fun _ h => by cases h) rfl (by simp [strV, Value.oneCell']) Tw.om Tw.om Tw.om) Tw.pf ?_
         rintro v15 Kl15 ⟨_, O15, N15, rfl⟩
         refine Tw.mm v15 ?_
         refine wpL_done (fun W20 hW20 => ?_)
         change Code.wp ..
         refine wp_region_L _ hW20 ?_
         refine Tw.mm (.int .i64 ((i : Nat) : Int)) ?_
         refine Tw.lp (v := .int .i64 (((i + 1) : Nat) : Int)) rfl rfl (run_bin rfl (vx := (.int .i64 ((i : Nat) : Int))) (vy := (.int .i64 ((1 : Nat) : Int))) Tw.kr Tw.kr fun w => bn_add (z := (i + 1)) rfl (wr_i64 Tw.om) w) ?_
         refine Tw.mm (.int .i64 (((i + 1) : Nat) : Int)) ?_
         refine wpL_done (fun W21 hW21 => ?_)
         go_roundw
         case rel =>
           repeat apply Exists.intro
           exact ⟨⟨i + 1, 0, (R ++ [(((((x4 : Nat) : Int) - ((ow : Nat) : Int)) - ((x12 : Nat) : Int))).toNat]), v15, Kl15, (own_snocZ O15 Tw.om), (SuI.step hI hx4 (.inl ⟨h2, hx12⟩) Tw.om Tw.om Tw.om), Tw.om, rfl, rfl, rfl, (hW21.sub Tw.sb)⟩, rfl⟩
         case measure => (show (cd a).length - (intOf (.int .i64 (((i + 1) : Nat) : Int))).toNat < (cd a).length - (intOf (.int .i64 ((i : Nat) : Int))).toNat); simp only [intOf]; omega
       | true =>
         have h4 : ((((x4 : Nat) : Int) - ((ow : Nat) : Int)) - ((x12 : Nat) : Int)) < 0 := of_decide_eq_true hd4
         clear hd4
         refine wp_cond_true rfl ?_
         refine wp_region_L _ hW19 ?_
         refine Tw.mm (.int .i64 ((((x4 : Nat) : Int) - ((ow : Nat) : Int)) - ((x12 : Nat) : Int))) ?_
         refine Tw.lp (v := .int .i64 (((((x4 : Nat) : Int) - ((ow : Nat) : Int)) - ((x12 : Nat) : Int)) + 65536)) rfl rfl (run_bin rfl (vx := (.int .i64 ((((x4 : Nat) : Int) - ((ow : Nat) : Int)) - ((x12 : Nat) : Int)))) (vy := (.int .i64 65536)) Tw.kr Tw.kr fun w => bi_add (z := (((((x4 : Nat) : Int) - ((ow : Nat) : Int)) - ((x12 : Nat) : Int)) + 65536)) rfl (wi_i64 Tw.om) w) ?_
         refine Tw.mm (.int .i64 (((((x4 : Nat) : Int) - ((ow : Nat) : Int)) - ((x12 : Nat) : Int)) + 65536)) ?_
         refine Tw.mm (.int .i64 1) ?_
         refine wpL_done (fun W22 hW22 => ?_)
         change Code.wp ..
         refine wp_region_L _ hW22 ?_
         refine Tw.mm vo ?_
         refine Tw.mm (.int .i64 (((((x4 : Nat) : Int) - ((ow : Nat) : Int)) - ((x12 : Nat) : Int)) + 65536)) ?_
         refine wpL_new (fun g => .slice (some ⟨g, 0, none⟩) 1 1) (obi := .cells #[.int .i64 (((((x4 : Nat) : Int) - ((ow : Nat) : Int)) - ((x12 : Nat) : Int)) + 65536)] 3 (0, 0)) rfl rfl Tw.kf Tw.pf fun g16 Bg16 Fg16 => ?_
         obtain dj17_0 : Dk g16 Ko := Tw.dkf Fg16
         refine wpL_g (AppO w 3 1 [] (i + 1) ((nums R) ++ [.int .i64 (((((x4 : Nat) : Int) - ((ow : Nat) : Int)) - ((x12 : Nat) : Int)) + 65536)])) rfl rfl (app_own el_int (m := 1) (c := 1) (news := [.int .i64 (((((x4 : Nat) : Int) - ((ow : Nat) : Int)) - ((x12 : Nat) : Int)) + 65536)]) rfl Tw.kr Tw.kr Tw.m0 hO Tw.sc (fun _ h => by cases h) rfl (by simp [strV, Value.oneCell']) Tw.om Tw.om Tw.om) Tw.pf ?_
         rintro v18 Kl18 ⟨_, O18, N18, rfl⟩
         refine Tw.mm v18 ?_
         refine wpL_done (fun W23 hW23 => ?_)
         change Code.wp ..
         refine wp_region_L _ hW23 ?_
         refine Tw.mm (.int .i64 ((i : Nat) : Int)) ?_
         refine Tw.lp (v := .int .i64 (((i + 1) : Nat) : Int)) rfl rfl (run_bin rfl (vx := (.int .i64 ((i : Nat) : Int))) (vy := (.int .i64 ((1 : Nat) : Int))) Tw.kr Tw.kr fun w => bn_add (z := (i + 1)) rfl (wr_i64 Tw.om) w) ?_
         refine Tw.mm (.int .i64 (((i + 1) : Nat) : Int)) ?_
         refine wpL_done (fun W24 hW24 => ?_)
         go_roundw
         case rel =>
           repeat apply Exists.intro
           exact ⟨⟨i + 1, 1, (R ++ [((((((x4 : Nat) : Int) - ((ow : Nat) : Int)) - ((x12 : Nat) : Int)) + 65536)).toNat]), v18, Kl18, (own_snocZ O18 Tw.om), (SuI.step hI hx4 (.inl ⟨h2, hx12⟩) Tw.om Tw.om Tw.om), Tw.om, rfl, rfl, rfl, (hW24.sub Tw.sb)⟩, rfl⟩
         case measure => (show (cd a).length - (intOf (.int .i64 (((i + 1) : Nat) : Int))).toNat < (cd a).length - (intOf (.int .i64 ((i : Nat) : Int))).toNat); simp only [intOf]; omega
end Go.Proofs.YtalmflgkbmnghaaGreatDoor
namespace Go.Proofs.YtalmflgkbmnghaaGreatDoor
open Go Go.RowKit Tw
set_option maxRecDepth 100000 in
set_option maxHeartbeats 4000000 in
theorem whole_any (z : Int) (n : Nat) (hz : z = (n : Int)) (ln : n ≤ 18446744073709551615) (w : World) : Calls Tryz.prog 98 #[.int .u64 z] w fun e w' => Ans w (cd n) e w' := by
 subst hz
 have l4 : (cd n).length ≤ 4 := cd_le.2 (Nat.lt_of_le_of_lt ln (by decide))
 go_enter Tryz.func98, Tryz.ntmps98
 refine wp_seq ?_
 refine wp_region_L [] (KS.start w) ?_
 refine Tw.mm (.slice none 0 0) ?_
 refine wpL_done (fun W1 hW1 => ?_)
 change Code.wp ..
 refine wp_seq ?_
 refine wp_region_L _ hW1 ?_
 refine Tw.mm (.slice none 0 0) ?_
 refine wpL_done (fun W2 hW2 => ?_)
 change Code.wp ..
 refine wp_seq ?_
 refine wp_block ?_
 go_loopw [0, 3] (fun u0 u3 wr => ∃ (m i : Nat) (R : List Nat) (vo : Value) (Ko : List (Nat × Obj)), (OwnL (w : Base) 3 1 vo i (nums R) Ko) ∧ (R ++ cd m = cd n) ∧ u0 = .int .u64 ((m : Nat) : Int) ∧ vo = u3 ∧ KS w Ko wr) (fun u0 _ _ => (intOf u0).toNat)
 case atStart => exact ⟨n, 0, [], (.slice none 0 0), [], (OwnL.nil _ _ _), rfl, rfl, rfl, (hW2.sub Tw.sb)⟩
 case round =>
   obtain ⟨m, i, R, vo, Ko, hO, hR, rfl, rfl, hL3⟩ := hrel
   have li : R.length + (cd m).length = (cd n).length := by rw [← hR, List.length_append]
   have lo := own_len hO
   have hmn : m ≤ n := by have := congrArg dv hR; rw [dv_app, dv_cd, dv_cd] at this; have h1 := Nat.mul_le_mul_right m (Nat.one_le_two_pow (n := 16 * R.length)); rw [Nat.pow_mul] at h1; simp only [Nat.reducePow] at h1; omega
   refine wp_seq ?_
   refine wp_seq ?_
   refine wp_region_L _ hL3 ?_
   refine Tw.mm (.int .u64 ((m : Nat) : Int)) ?_
   refine Tw.lp (v := .bool (decide (0 < m))) rfl rfl (run_bin rfl (vx := (.int .u64 ((m : Nat) : Int))) (vy := (.int .u64 ((0 : Nat) : Int))) Tw.kr Tw.kr fun w => bn_gtr rfl w) ?_
   refine wpL_done (fun W4 hW4 => ?_)
   change Code.wp ..
   cases hd1 : (decide (0 < m)) with
   | false =>
     have h1 : ¬ (0 < m) := of_decide_eq_false hd1
     clear hd1
     refine wp_cond_false rfl ?_
     refine wp_exit ?_
     change Code.wp ..
     refine wp_seq ?_
     refine wp_region_L _ hW4 ?_
     refine Tw.mm vo ?_
     refine Tw.mm vo ?_
     refine wpL_done (fun W5 hW5 => ?_)
     change Code.wp ..
     refine wp_ret ?_
     try simp only [inBlock_ret, then_ret]
     refine bodyPost_ret (v := vo) ?_ rfl ?_
     · kernel_rfl
     · exact ans_end hO (by have : m = 0 := Tw.om; subst this; rw [cd_zero, List.append_nil] at hR; exact hR) hW5 Tw.sb
   | true =>
     have h1 : 0 < m := of_decide_eq_true hd1
     clear hd1
     refine wp_cond_true rfl ?_
     refine wp_skip ?_
     change Code.wp ..
     refine wp_block ?_
     refine wp_seq ?_
     refine wp_region_L _ hW4 ?_
     refine Tw.mm vo ?_
     refine Tw.mm (.int .u64 ((m : Nat) : Int)) ?_
     refine Tw.lp (v := .int .u64 (((m % 65536) : Nat) : Int)) rfl rfl (run_bin rfl (vx := (.int .u64 ((m : Nat) : Int))) (vy := (.int .u64 ((65536 : Nat) : Int))) Tw.kr Tw.kr fun w => bn_rem (z := (m % 65536)) rfl Tw.om w) ?_
     refine Tw.lp (v := .int .i64 (((m % 65536) : Nat) : Int)) rfl rfl (run_conv rfl (vx := (.int .u64 (((m % 65536) : Nat) : Int))) Tw.kr fun w => cv_int Tryz.underlying84 Tryz.underlying3 (wr_i64 Tw.om) w) ?_
     refine wpL_new (fun g => .slice (some ⟨g, 0, none⟩) 1 1) (obi := .cells #[.int .i64 (((m % 65536) : Nat) : Int)] 3 (0, 0)) rfl rfl Tw.kf Tw.pf fun g2 Bg2 Fg2 => ?_
     obtain dj3_0 : Dk g2 Ko := Tw.dkf Fg2
     refine wpL_g (AppO w 3 1 [] (i + 1) ((nums R) ++ [.int .i64 (((m % 65536) : Nat) : Int)])) rfl rfl (app_own el_int (m := 1) (c := 1) (news := [.int .i64 (((m % 65536) : Nat) : Int)]) rfl Tw.kr Tw.kr Tw.m0 hO Tw.sc (fun _ h => by cases h) rfl (by simp [strV, Value.oneCell']) Tw.om Tw.om Tw.om) Tw.pf ?_
     rintro v4 Kl4 ⟨_, O4, N4, rfl⟩
     refine Tw.mm v4 ?_
     refine wpL_done (fun W6 hW6 => ?_)
     change Code.wp ..
     refine wp_region_L _ hW6 ?_
     refine Tw.mm (.int .u64 ((m : Nat) : Int)) ?_
     refine Tw.lp (v := .int .u64 (((m / 65536) : Nat) : Int)) rfl rfl (run_bin rfl (vx := (.int .u64 ((m : Nat) : Int))) (vy := (.int .u64 ((65536 : Nat) : Int))) Tw.kr Tw.kr fun w => bn_quo (z := (m / 65536)) rfl Tw.om (wr_u64 Tw.om) w) ?_
     refine Tw.mm (.int .u64 (((m / 65536) : Nat) : Int)) ?_
     refine wpL_done (fun W7 hW7 => ?_)
     go_roundw
     case rel =>
       repeat apply Exists.intro
       exact ⟨⟨m / 65536, i + 1, (R ++ [m % 65536]), v4, Kl4, (own_snoc O4), (by rw [List.append_assoc, List.singleton_append, ← cd_pos Tw.om]; exact hR), rfl, rfl, (hW7.sub Tw.sb)⟩, rfl⟩
     case measure => (show (intOf (.int .u64 (((m / 65536) : Nat) : Int))).toNat < (intOf (.int .u64 ((m : Nat) : Int))).toNat); simp only [intOf]; omega
end Go.Proofs.YtalmflgkbmnghaaGreatDoor
namespace Go.Proofs.YtalmflgkbmnghaaGreatDoor
open Go Go.RowKit Tw
open Tf (dg R R_pos R_le R_succ dg_of_lt setd setd_eq)
set_option maxRecDepth 100000 in
set_option maxHeartbeats 4000000 in
theorem size_any (z : Int) (z1 : -9223372036854775808 ≤ z) (z2 : z ≤ 9223372036854775807) (w : World) : Calls Tryz.prog 78 #[.int .i64 z] w fun e w' => Ans w (cd z.natAbs) e w' := by
 go_enter Tryz.func78, Tryz.ntmps78
 refine wp_seq ?_
 refine wp_region_L [] (KS.start w) ?_
 refine Tw.mm (.slice none 0 0) ?_
 refine wpL_done (fun W1 hW1 => ?_)
 change Code.wp ..
 refine wp_seq ?_
 refine wp_seq ?_
 refine wp_region_L _ hW1 ?_
 refine Tw.mm (.int .i64 z) ?_
 refine Tw.lp (v := .bool (decide (z < 0))) rfl rfl (run_bin rfl (vx := (.int .i64 z)) (vy := (.int .i64 0)) Tw.kr Tw.kr fun w => bi_lss rfl w) ?_
 refine wpL_done (fun W2 hW2 => ?_)
 change Code.wp ..
 cases hd1 : (decide (z < 0)) with
 | false =>
   have h1 : ¬ (z < 0) := of_decide_eq_false hd1
   clear hd1
   refine wp_cond_false rfl ?_
   refine wp_skip ?_
   change Code.wp ..
   refine wp_seq ?_
   refine wp_region_L _ hW2 ?_
   refine Tw.mm (.int .i64 z) ?_
   refine Tw.lp (v := .int .u64 z) rfl rfl (run_conv rfl (vx := .int .i64 z) Tw.kr fun w => cv_int Tryz.underlying3 Tryz.underlying84 (wi_u64 Tw.om) w) ?_
   refine wpL_c (f := 98) (args := #[.int .u64 z]) (AnsG w [] (cd z.natAbs)) rfl Tw.kr Tw.kf (fun W hW => (whole_any z z.natAbs Tw.om Tw.om W).mono fun e w2 h => Ans.g h hW) Tw.pf ?_
   rintro v1 _ ⟨q1, d1, T1, rfl, C1, H1, F1, J1, rfl⟩
   refine Tw.mm (.slice q1 ((cd z.natAbs).length) d1) ?_
   refine wpL_done (fun W3 hW3 => ?_)
   change Code.wp ..
   refine wp_ret ?_
   try simp only [inBlock_ret, then_ret]
   refine bodyPost_ret (v := .slice q1 ((cd z.natAbs).length) d1) ?_ rfl ?_
   · kernel_rfl
   · exact ⟨_, _, rfl, C1, F1 _ (hW3.sub Tw.sb) rfl, hW3.1⟩
 | true =>
   have h1 : z < 0 := of_decide_eq_true hd1
   clear hd1
   refine wp_cond_true rfl ?_
   refine wp_seq ?_
   refine wp_region_L _ hW2 ?_
   refine Tw.mm (.int .i64 z) ?_
   refine Tw.lp (v := .int .i64 (z + 1)) rfl rfl (run_bin rfl (vx := (.int .i64 z)) (vy := (.int .i64 1)) Tw.kr Tw.kr fun w => bi_add (z := (z + 1)) rfl (wi_i64 Tw.om) w) ?_
   refine Tw.lp (v := .int .i64 (-(z + 1))) rfl rfl (run_un rfl Tw.kr fun w => un_neg (z := (-(z + 1))) rfl (wi_i64 Tw.om) w) ?_
   refine Tw.lp (v := .int .u64 (-(z + 1))) rfl rfl (run_conv rfl (vx := .int .i64 (-(z + 1))) Tw.kr fun w => cv_int Tryz.underlying3 Tryz.underlying84 (wi_u64 Tw.om) w) ?_
   refine Tw.lp (v := .int .u64 ((-(z + 1)) + 1)) rfl rfl (run_bin rfl (vx := (.int .u64 (-(z + 1)))) (vy := (.int .u64 1)) Tw.kr Tw.kr fun w => bi_add (z := ((-(z + 1)) + 1)) rfl (wi_u64 Tw.om) w) ?_
   refine wpL_c (f := 98) (args := #[.int .u64 ((-(z + 1)) + 1)]) (AnsG w [] (cd z.natAbs)) rfl Tw.kr Tw.kf (fun W hW => (whole_any ((-(z + 1)) + 1) z.natAbs Tw.om Tw.om W).mono fun e w2 h => Ans.g h hW) Tw.pf ?_
   rintro v2 _ ⟨q2, d2, T2, rfl, C2, H2, F2, J2, rfl⟩
   refine Tw.mm (.slice q2 ((cd z.natAbs).length) d2) ?_
   refine wpL_done (fun W4 hW4 => ?_)
   change Code.wp ..
   refine wp_ret ?_
   try simp only [inBlock_ret, then_ret]
   refine bodyPost_ret (v := .slice q2 ((cd z.natAbs).length) d2) ?_ rfl ?_
   · kernel_rfl
   · exact ⟨_, _, rfl, C2, F2 _ (hW4.sub Tw.sb) rfl, hW4.1⟩
theorem fa_at {f : Nat → Nat} {j : Nat} (h : j < 8) : (fa 8 f)[0 + j * 1]? = some (.int .u32 ((f j : Nat) : Int)) := by
 rw [Nat.zero_add, Nat.mul_one]; exact fa_get f h
theorem R_sq (k : Nat) : R k = 65536 ^ (2 * k) := by
 unfold R
 rw [Nat.pow_mul]
theorem lim_even {x j a : Nat} (hj : j < 8) (hx : x < 65536 ^ (2 * j)) (ha : a < 65536) : (fa 8 (dg x)).setIfInBounds (0 + j * 1) (.int .u32 ((a : Nat) : Int)) = fa 8 (dg (x + 65536 ^ (2 * j) * a)) := by
 rw [Nat.zero_add, Nat.mul_one, fa_setd hj Tw.om]
 have h := setd_eq x j a
 rw [dg_of_lt (by rw [R_sq]; exact hx), R_sq, Nat.zero_mul, Nat.add_zero] at h
 rw [h, Nat.mul_comm]
theorem lim_odd {x j a : Nat} (hj : j < 8) (hx : x < 65536 ^ (2 * j + 1)) (ha : a < 65536) : dg x j < 65536 ∧ (fa 8 (dg x)).setIfInBounds (0 + j * 1) (.int .u32 ((dg x j + a * 65536 : Nat) : Int)) = fa 8 (dg (x + 65536 ^ (2 * j + 1) * a)) := by
 have hd : dg x j < 65536 := by
   unfold dg
   have : x / R j < 65536 := by
     rw [Nat.div_lt_iff_lt_mul (R_pos j), R_sq]
     rw [Nat.pow_succ, Nat.mul_comm] at hx
     exact hx
   exact Nat.lt_of_le_of_lt (Nat.mod_le _ _) this
 refine ⟨hd, ?_⟩
 rw [Nat.zero_add, Nat.mul_one, fa_setd hj Tw.om]
 have h := setd_eq x j (dg x j + a * 65536)
 rw [Nat.add_mul, R_sq] at h
 have e : a * 65536 * 65536 ^ (2 * j) = 65536 ^ (2 * j + 1) * a := by rw [Nat.pow_succ, Nat.mul_assoc, Nat.mul_comm a, Nat.mul_comm 65536]
 rw [e] at h
 rw [show setd x j (dg x j + a * 65536) = x + 65536 ^ (2 * j + 1) * a from by omega]
theorem lim_e {x i a : Nat} (hi : i < 16) (hx : x < 65536 ^ i) (ha : a < 65536) (h : i % 2 = 0) : (fa 8 (dg x)).setIfInBounds (0 + (i / 2) * 1) (.int .u32 ((a : Nat) : Int)) = fa 8 (dg (x + 65536 ^ i * a)) := by
 have e : i = 2 * (i / 2) := by omega
 have h1 := lim_even (x := x) (j := i / 2) (a := a) Tw.om (by rw [← e]; exact hx) ha
 rw [← e] at h1
 exact h1
theorem lim_o {x i a : Nat} (hi : i < 16) (hx : x < 65536 ^ i) (ha : a < 65536) (h : ¬ i % 2 = 0) : dg x (i / 2) < 65536 ∧ (fa 8 (dg x)).setIfInBounds (0 + (i / 2) * 1) (.int .u32 ((dg x (i / 2) + a * 65536 : Nat) : Int)) = fa 8 (dg (x + 65536 ^ i * a)) := by
 have e : i = 2 * (i / 2) + 1 := by omega
 have h1 := lim_odd (x := x) (j := i / 2) (a := a) Tw.om (by rw [← e]; exact hx) ha
 rw [← e] at h1
 exact h1
def limV (n : Nat) : Value := if (cd n).length ≤ 16 then .tuple #[.agg (fa 8 (dg n)), .bool true] else .tuple #[.agg (fa 8 (dg 0)), .bool false]
set_option maxRecDepth 100000 in
set_option maxHeartbeats 4000000 in
theorem limbs_any (n : Nat) (p : Option Addr) (c : Nat) (la : (cd n).length ≤ 100000) (w : World) (hp : SLV w p (nums (cd n))) : Calls Tryz.prog 83 #[.slice p (cd n).length c] w fun e w' => e = .returned (limV n) ∧ Below w.heap.size w w' := by
 have HP : NS (w : Base) p (cd n) [] := NS.base hp
 clear hp
 go_enter Tryz.func83, Tryz.ntmps83
 refine wp_seq ?_
 refine wp_region_L [] (KS.start w) ?_
 refine wpL_new (fun g => .pointer (some ⟨g, 0, none⟩)) (obi := .cells (fa 8 (dg 0)) 23 (0, 0)) rfl rfl Tw.kf Tw.pf fun g1 Bg1 Fg1 => ?_
 refine Tw.mm (.bool false) ?_
 refine wpL_done (fun W1 hW1 => ?_)
 change Code.wp ..
 refine wp_seq ?_
 refine wp_region_L _ hW1 ?_
 refine wpL_new (fun g => .pointer (some ⟨g, 0, none⟩)) (obi := .cells (fa 8 (dg 0)) 23 (0, 0)) rfl rfl Tw.kf Tw.pf fun g2 Bg2 Fg2 => ?_
 obtain dj3_0 : g1 ≠ g2 := Tw.dkf Fg2
 refine wpL_done (fun W2 hW2 => ?_)
 change Code.wp ..
 refine wp_seq ?_
 refine wp_seq ?_
 refine wp_region_L _ hW2 ?_
 refine Tw.mm (.slice p ((cd n).length) c) ?_
 refine Tw.lp (v := .int .i64 ((((cd n).length) : Nat) : Int)) rfl rfl (run_lenL (p := p) (cap := c) (n := ((cd n).length)) rfl Tryz.underlying32 Tw.kr) ?_
 refine Tw.lp (v := .bool (decide (16 < ((cd n).length)))) rfl rfl (run_bin rfl (vx := (.int .i64 ((((cd n).length) : Nat) : Int))) (vy := (.int .i64 ((16 : Nat) : Int))) Tw.kr Tw.kr fun w => bn_gtr rfl w) ?_
 refine wpL_done (fun W3 hW3 => ?_)
 change Code.wp ..
 cases hd1 : (decide (16 < ((cd n).length))) with
 | false =>
   have h1 : ¬ (16 < ((cd n).length)) := of_decide_eq_false hd1
   clear hd1
   refine wp_cond_false rfl ?_
   refine wp_skip ?_
   change Code.wp ..
   refine wp_seq ?_
   refine wp_seq ?_
   refine wp_region_L _ hW3 ?_
   refine Tw.mm (.int .i64 0) ?_
   refine wpL_done (fun W4 hW4 => ?_)
   change Code.wp ..
   refine wp_block ?_
   go_loopw [5] (fun u5 wr => ∃ (i : Nat), (i ≤ (cd n).length) ∧ u5 = .int .i64 ((i : Nat) : Int) ∧ KS w [(g2, .cells (fa 8 (dg (dv ((cd n).take i)))) 23 (0, 0)), (g1, .cells (fa 8 (dg 0)) 23 (0, 0))] wr) (fun u5 _ => (cd n).length - (intOf u5).toNat)
   case atStart => exact ⟨0, (Nat.zero_le _), rfl, (hW4.sub Tw.sb)⟩
   case round =>
     obtain ⟨i, hi, rfl, hL5⟩ := hrel
     have hx : dv ((cd n).take i) < 65536 ^ i := by
       have h := dv_lt ((cd_ok n).take i)
       rwa [List.length_take, Nat.min_eq_left hi] at h
     refine wp_seq ?_
     refine wp_seq ?_
     refine wp_region_L _ hL5 ?_
     refine Tw.mm (.int .i64 ((i : Nat) : Int)) ?_
     refine Tw.mm (.slice p ((cd n).length) c) ?_
     refine Tw.lp (v := .int .i64 ((((cd n).length) : Nat) : Int)) rfl rfl (run_lenL (p := p) (cap := c) (n := ((cd n).length)) rfl Tryz.underlying32 Tw.kr) ?_
     refine Tw.lp (v := .bool (decide (i < ((cd n).length)))) rfl rfl (run_bin rfl (vx := (.int .i64 ((i : Nat) : Int))) (vy := (.int .i64 ((((cd n).length) : Nat) : Int))) Tw.kr Tw.kr fun w => bn_lss rfl w) ?_
     refine wpL_done (fun W6 hW6 => ?_)
     change Code.wp ..
     cases hd2 : (decide (i < ((cd n).length))) with
     | false =>
       have h2 : ¬ (i < ((cd n).length)) := of_decide_eq_false hd2
       clear hd2
       refine wp_cond_false rfl ?_
       refine wp_exit ?_
       change Code.wp ..
       refine wp_seq ?_
       refine wp_region_L _ hW6 ?_
       refine Tw.lv (v := .agg (fa 8 (dg (dv ((cd n).take i))))) rfl rfl (yb_all rfl Tw.kr Tw.m0 Tryz.underlying23 rfl (by simp only [fa_size]; kernel_rfl)) ?_
       refine wpL_s [(g2, .cells (fa 8 (dg (dv ((cd n).take i)))) 23 (0, 0)), (g1, .cells (fa 8 (dg (dv ((cd n).take i)))) 23 (0, 0))] rfl rfl (st_all (by simp only [fa_size]) (by exact fa_one) rfl Tw.kr Tw.kr Tw.m1 Bg1 (by simp only [fa_size]; kernel_rfl) (List.forall_mem_cons.2 ⟨.inr ⟨Tw.m0, Tw.nee⟩, (List.forall_mem_cons.2 ⟨.inl rfl, (List.forall_mem_nil _)⟩)⟩)) ?_
       refine Tw.mm (.bool true) ?_
       refine wpL_done (fun W7 hW7 => ?_)
       change Code.wp ..
       refine wp_ret ?_
       try simp only [inBlock_ret, then_ret]
       refine bodyPost_ret (v := .tuple #[.agg (fa 8 (dg (dv ((cd n).take i)))), .bool true]) ?_ rfl ?_
       · exact (res_cell_tmp (p := 2) (q := 3) rfl rfl (hW7.2 _ Tw.m1) Tryz.underlying23 rfl (by simp only [fa_size]; kernel_rfl))
       · exact ⟨(by unfold limV; rw [if_pos Tw.om, List.take_of_length_le Tw.om, dv_cd]), hW7.1⟩
     | true =>
       have h2 : i < ((cd n).length) := of_decide_eq_true hd2
       clear hd2
       refine wp_cond_true rfl ?_
       refine wp_skip ?_
       change Code.wp ..
       refine wp_seq ?_
       refine wp_block ?_
       refine wp_seq ?_
       refine wp_region_L _ hW6 ?_
       refine Tw.mm (.int .i64 ((i : Nat) : Int)) ?_
       refine Tw.lp (v := .int .i64 (((i % 2) : Nat) : Int)) rfl rfl (run_bin rfl (vx := (.int .i64 ((i : Nat) : Int))) (vy := (.int .i64 ((2 : Nat) : Int))) Tw.kr Tw.kr fun w => bn_rem (z := (i % 2)) rfl Tw.om w) ?_
       refine Tw.lp (v := .bool (decide ((i % 2) = 0))) rfl rfl (run_bin rfl (vx := (.int .i64 (((i % 2) : Nat) : Int))) (vy := (.int .i64 ((0 : Nat) : Int))) Tw.kr Tw.kr fun w => bn_eql rfl w) ?_
       refine wpL_done (fun W8 hW8 => ?_)
       change Code.wp ..
       cases hd3 : (decide ((i % 2) = 0)) with
       | false =>
         have h3 : ¬ ((i % 2) = 0) := of_decide_eq_false hd3
         clear hd3
         obtain ⟨xq, hxq⟩ : ∃ x, ((cd n) : List Nat)[i]? = some x := ⟨_, List.getElem?_eq_getElem Tw.om⟩
         have ldg := (lim_o Tw.om hx ((cd_ok n).at hxq) h3).1
         refine wp_cond_false rfl ?_
         refine wp_region_V _ Tw.kr hW8 ?_
         refine vm (i := 0) (v := .int .i64 ((i : Nat) : Int)) rfl rfl rfl ?_
         refine vp (i := 1) (v := .int .i64 (((i / 2) : Nat) : Int)) rfl rfl rfl (run_bin rfl (vx := (.int .i64 ((i : Nat) : Int))) (vy := (.int .i64 ((2 : Nat) : Int))) Tw.kr Tw.kr fun w => bn_quo (z := (i / 2)) rfl Tw.om (wr_i64 Tw.om) w) ?_
         refine vm (i := 2) (v := .int .i64 ((i : Nat) : Int)) rfl rfl rfl ?_
         refine vp (i := 3) (v := .int .i64 (((i / 2) : Nat) : Int)) rfl rfl rfl (run_bin rfl (vx := (.int .i64 ((i : Nat) : Int))) (vy := (.int .i64 ((2 : Nat) : Int))) Tw.kr Tw.kr fun w => bn_quo (z := (i / 2)) rfl Tw.om (wr_i64 Tw.om) w) ?_
         refine vp (i := 4) (v := .pointer (some ⟨g2, 0 + (i / 2) * 1, none⟩)) rfl rfl rfl (run_idxA (j := .i64) (b := g2) (off := 0) (k := (i / 2)) (sz := 1) rfl Tryz.underlying23 Tw.kr Tw.kr Tw.kr Tw.om) ?_
         refine vv (i := 5) (v := .int .u32 (((dg (dv ((cd n).take i)) (i / 2)) : Nat) : Int)) rfl rfl rfl (yb_cell rfl Tw.kr Tw.m0 Tryz.underlying22 rfl (fa_at Tw.om)) ?_
         refine vm (i := 6) (v := .slice p ((cd n).length) c) rfl rfl rfl ?_
         refine vm (i := 7) (v := .int .i64 ((i : Nat) : Int)) rfl rfl rfl ?_
         obtain ⟨b4, f4, hp4, hc4⟩ := (HP.mono Tw.sb).at hW8 (k := i) Tw.om
         refine vp (i := 8) (v := .pointer (some ⟨b4, f4 + i * 1, none⟩)) rfl rfl rfl (run_idxQ (p := p) (cap := c) (n := ((cd n).length)) (j := .i64) (k := i) (sz := 1) rfl Tryz.underlying32 Tw.kr Tw.kr hp4 Tw.kr Tw.om) ?_
         obtain ⟨x5, hx5⟩ : ∃ x, ((cd n) : List Nat)[i]? = some x := ⟨_, List.getElem?_eq_getElem Tw.om⟩
         have lx5 : x5 < 65536 := dOk.at (cd_ok n) hx5
         refine vv (i := 9) (v := .int .i64 ((x5 : Nat) : Int)) rfl rfl rfl (yb_ns (off := f4 + i * 1) rfl Tw.kr (fun W hW => hc4 W (hW.sub Tw.sb) _ _ hx5) Tryz.underlying3 rfl) ?_
         refine vp (i := 10) (v := .int .u32 ((x5 : Nat) : Int)) rfl rfl rfl (run_conv rfl (vx := (.int .i64 ((x5 : Nat) : Int))) Tw.kr fun w => cv_int Tryz.underlying3 Tryz.underlying22 (wr_u32 Tw.om) w) ?_
         refine vp (i := 11) (v := .int .u32 (((x5 * 65536) : Nat) : Int)) rfl rfl rfl (run_bin rfl (vx := (.int .u32 ((x5 : Nat) : Int))) (vy := (.int .u32 ((65536 : Nat) : Int))) Tw.kr Tw.kr fun w => bn_mul (z := (x5 * 65536)) rfl (wr_u32 Tw.om) w) ?_
         refine vp (i := 12) (v := .int .u32 ((((dg (dv ((cd n).take i)) (i / 2)) + (x5 * 65536)) : Nat) : Int)) rfl rfl rfl (run_bin rfl (vx := (.int .u32 (((dg (dv ((cd n).take i)) (i / 2)) : Nat) : Int))) (vy := (.int .u32 (((x5 * 65536) : Nat) : Int))) Tw.kr Tw.kr fun w => bn_add (z := ((dg (dv ((cd n).take i)) (i / 2)) + (x5 * 65536))) rfl (wr_u32 Tw.om) w) ?_
         refine vp (i := 13) (v := .pointer (some ⟨g2, 0 + (i / 2) * 1, none⟩)) rfl rfl rfl (run_idxA (j := .i64) (b := g2) (off := 0) (k := (i / 2)) (sz := 1) rfl Tryz.underlying23 Tw.kr Tw.kr Tw.kr Tw.om) ?_
         refine wpV_s [(g2, .cells (fa 8 (dg (dv ((cd n).take (i + 1))))) 23 (0, 0)), (g1, .cells (fa 8 (dg 0)) 23 (0, 0))] (i := 14) rfl Tw.kr rfl rfl rfl (st_to (off := 0 + (i / 2) * 1) ((lim_o Tw.om hx lx5 h3).2.trans (by rw [← dv_take hx5])) rfl Tw.kr Tw.kr Tw.m0 Bg2 Tw.kr rfl rfl (by simp only [fa_size]; omega) (.inr rfl) (List.forall_mem_cons.2 ⟨.inl rfl, (List.forall_mem_cons.2 ⟨.inr ⟨Tw.m1, Tw.nee⟩, (List.forall_mem_nil _)⟩)⟩)) ?_
         refine wpV_done Tw.kr (fun W9 hW9 => ?_) _
         change Code.wp ..
         refine wp_region_L _ hW9 ?_
         refine Tw.mm (.int .i64 ((i : Nat) : Int)) ?_
         refine Tw.lp (v := .int .i64 (((i + 1) : Nat) : Int)) rfl rfl (run_bin rfl (vx := (.int .i64 ((i : Nat) : Int))) (vy := (.int .i64 ((1 : Nat) : Int))) Tw.kr Tw.kr fun w => bn_add (z := (i + 1)) rfl (wr_i64 Tw.om) w) ?_
         refine Tw.mm (.int .i64 (((i + 1) : Nat) : Int)) ?_
         refine wpL_done (fun W10 hW10 => ?_)
         go_roundw
         case rel =>
           repeat apply Exists.intro
           exact ⟨⟨(i + 1), Tw.om, rfl, (hW10.sub Tw.sb)⟩, rfl⟩
         case measure => (show (cd n).length - (intOf (.int .i64 (((i + 1) : Nat) : Int))).toNat < (cd n).length - (intOf (.int .i64 ((i : Nat) : Int))).toNat); simp only [intOf]; omega
       | true =>
         have h3 : (i % 2) = 0 := of_decide_eq_true hd3
         clear hd3
         refine wp_cond_true rfl ?_
         refine wp_region_L _ hW8 ?_
         refine Tw.mm (.int .i64 ((i : Nat) : Int)) ?_
         refine Tw.lp (v := .int .i64 (((i / 2) : Nat) : Int)) rfl rfl (run_bin rfl (vx := (.int .i64 ((i : Nat) : Int))) (vy := (.int .i64 ((2 : Nat) : Int))) Tw.kr Tw.kr fun w => bn_quo (z := (i / 2)) rfl Tw.om (wr_i64 Tw.om) w) ?_
         refine Tw.mm (.slice p ((cd n).length) c) ?_
         refine Tw.mm (.int .i64 ((i : Nat) : Int)) ?_
         obtain ⟨b6, f6, hp6, hc6⟩ := (HP.mono Tw.sb).at hW8 (k := i) Tw.om
         refine Tw.lp (v := .pointer (some ⟨b6, f6 + i * 1, none⟩)) rfl rfl (run_idxQ (p := p) (cap := c) (n := ((cd n).length)) (j := .i64) (k := i) (sz := 1) rfl Tryz.underlying32 Tw.kr Tw.kr hp6 Tw.kr Tw.om) ?_
         obtain ⟨x7, hx7⟩ : ∃ x, ((cd n) : List Nat)[i]? = some x := ⟨_, List.getElem?_eq_getElem Tw.om⟩
         have lx7 : x7 < 65536 := dOk.at (cd_ok n) hx7
         refine Tw.lv (v := .int .i64 ((x7 : Nat) : Int)) rfl rfl (yb_ns (off := f6 + i * 1) rfl Tw.kr (fun W hW => hc6 W (hW.sub Tw.sb) _ _ hx7) Tryz.underlying3 rfl) ?_
         refine Tw.lp (v := .int .u32 ((x7 : Nat) : Int)) rfl rfl (run_conv rfl (vx := (.int .i64 ((x7 : Nat) : Int))) Tw.kr fun w => cv_int Tryz.underlying3 Tryz.underlying22 (wr_u32 Tw.om) w) ?_
         refine Tw.lp (v := .pointer (some ⟨g2, 0 + (i / 2) * 1, none⟩)) rfl rfl (run_idxA (j := .i64) (b := g2) (off := 0) (k := (i / 2)) (sz := 1) rfl Tryz.underlying23 Tw.kr Tw.kr Tw.kr Tw.om) ?_
         refine wpL_s [(g2, .cells (fa 8 (dg (dv ((cd n).take (i + 1))))) 23 (0, 0)), (g1, .cells (fa 8 (dg 0)) 23 (0, 0))] rfl rfl (st_to (off := 0 + (i / 2) * 1) ((lim_e Tw.om hx lx7 h3).trans (by rw [← dv_take hx7])) rfl Tw.kr Tw.kr Tw.m0 Bg2 Tw.kr rfl rfl (by simp only [fa_size]; omega) (.inr rfl) (List.forall_mem_cons.2 ⟨.inl rfl, (List.forall_mem_cons.2 ⟨.inr ⟨Tw.m1, Tw.nee⟩, (List.forall_mem_nil _)⟩)⟩)) ?_
         refine wpL_done (fun W11 hW11 => ?_)
         change Code.wp ..
         refine wp_region_L _ hW11 ?_
         refine Tw.mm (.int .i64 ((i : Nat) : Int)) ?_
         refine Tw.lp (v := .int .i64 (((i + 1) : Nat) : Int)) rfl rfl (run_bin rfl (vx := (.int .i64 ((i : Nat) : Int))) (vy := (.int .i64 ((1 : Nat) : Int))) Tw.kr Tw.kr fun w => bn_add (z := (i + 1)) rfl (wr_i64 Tw.om) w) ?_
         refine Tw.mm (.int .i64 (((i + 1) : Nat) : Int)) ?_
         refine wpL_done (fun W12 hW12 => ?_)
         go_roundw
         case rel =>
           repeat apply Exists.intro
           exact ⟨⟨(i + 1), Tw.om, rfl, (hW12.sub Tw.sb)⟩, rfl⟩
         case measure => (show (cd n).length - (intOf (.int .i64 (((i + 1) : Nat) : Int))).toNat < (cd n).length - (intOf (.int .i64 ((i : Nat) : Int))).toNat); simp only [intOf]; omega
 | true =>
   have h1 : 16 < ((cd n).length) := of_decide_eq_true hd1
   clear hd1
   refine wp_cond_true rfl ?_
   refine wp_seq ?_
   refine wp_region_L _ hW3 ?_
   refine Tw.lv (v := .agg (fa 8 (dg 0))) rfl rfl (yb_all rfl Tw.kr Tw.m0 Tryz.underlying23 rfl (by simp only [fa_size]; kernel_rfl)) ?_
   refine wpL_s [(g2, .cells (fa 8 (dg 0)) 23 (0, 0)), (g1, .cells (fa 8 (dg 0)) 23 (0, 0))] rfl rfl (st_all (by simp only [fa_size]) (by exact fa_one) rfl Tw.kr Tw.kr Tw.m1 Bg1 (by simp only [fa_size]; kernel_rfl) (List.forall_mem_cons.2 ⟨.inr ⟨Tw.m0, Tw.nee⟩, (List.forall_mem_cons.2 ⟨.inl rfl, (List.forall_mem_nil _)⟩)⟩)) ?_
   refine Tw.mm (.bool false) ?_
   refine wpL_done (fun W13 hW13 => ?_)
   change Code.wp ..
   refine wp_ret ?_
   try simp only [inBlock_ret, then_ret]
   refine bodyPost_ret (v := .tuple #[.agg (fa 8 (dg 0)), .bool false]) ?_ rfl ?_
   · exact (res_cell_tmp (p := 2) (q := 3) rfl rfl (hW13.2 _ Tw.m1) Tryz.underlying23 rfl (by simp only [fa_size]; kernel_rfl))
   · exact ⟨(by unfold limV; rw [if_neg Tw.om]), hW13.1⟩
end Go.Proofs.YtalmflgkbmnghaaGreatDoor
namespace Go.Proofs.YtalmflgkbmnghaaGreatDoor
open Go Go.RowKit Tw
set_option maxRecDepth 100000 in
set_option maxHeartbeats 20000000 in
theorem div_any (a b : Nat) (p q : Option Addr) (c d : Nat) (hb : 0 < b) (la : (cd a).length ≤ 90000) (hc : (cd a).length ≤ c) (w : World) (hp : SLV w p (nums (cd a))) (hq : SLV w q (nums (cd b))) : Calls Tryz.prog 61 #[.slice p (cd a).length c, .slice q (cd b).length d] w fun e w' => Ans2 w (cd (a / b)) (cd (a % b)) e w' := by
 have HP : NS (w : Base) p (cd a) [] := NS.base hp
 have HQ : NS (w : Base) q (cd b) [] := NS.base hq
 clear hp hq
 go_enter Tryz.func61, Tryz.ntmps61
 refine wp_seq ?_
 refine wp_region_L [] (KS.start w) ?_
 refine Tw.mm (.slice none 0 0) ?_
 refine Tw.mm (.slice none 0 0) ?_
 refine wpL_done (fun W1 hW1 => ?_)
 change Code.wp ..
 refine wp_seq ?_
 refine wp_seq ?_
 refine wp_region_L _ hW1 ?_
 refine Tw.mm (.slice p ((cd a).length) c) ?_
 refine Tw.mm (.slice q ((cd b).length) d) ?_
 refine Tw.lv (v := .bool (decide (a < b))) rfl rfl (yb_call (f := 47) (args := #[.slice p ((cd a).length) c, .slice q ((cd b).length) d]) Tw.kf fun W hW => less_any a b p q c d Tw.om W ((HP.mono Tw.sb) W hW) ((HQ.mono Tw.sb) W hW)) ?_
 refine wpL_done (fun W2 hW2 => ?_)
 change Code.wp ..
 cases hd1 : (decide (a < b)) with
 | false =>
   have h1 : ¬ (a < b) := of_decide_eq_false hd1
   clear hd1
   have ha := h1
   refine wp_cond_false rfl ?_
   refine wp_skip ?_
   change Code.wp ..
   refine wp_seq ?_
   refine wp_region_L _ hW2 ?_
   refine Tw.mm (.slice q ((cd b).length) d) ?_
   refine Tw.lp (v := .int .i64 ((((cd b).length) : Nat) : Int)) rfl rfl (run_lenL (p := q) (cap := d) (n := ((cd b).length)) rfl Tryz.underlying32 Tw.kr) ?_
   refine Tw.mm (.int .i64 ((((cd b).length) : Nat) : Int)) ?_
   refine wpL_done (fun W3 hW3 => ?_)
   change Code.wp ..
   refine wp_seq ?_
   have hlb := div_len ha
   have hl0 := cd_app hb
   refine wp_region_L _ hW3 ?_
   refine wpL_new (fun g => .slice (some ⟨g, 0, none⟩) 0 0) (obi := .cells #[] 3 (0, 0)) rfl rfl Tw.kf Tw.pf fun g1 Bg1 Fg1 => ?_
   refine Tw.mm (.slice p ((cd a).length) c) ?_
   refine Tw.mm (.slice p ((cd a).length) c) ?_
   refine Tw.lp (v := .int .i64 ((((cd a).length) : Nat) : Int)) rfl rfl (run_lenL (p := p) (cap := c) (n := ((cd a).length)) rfl Tryz.underlying32 Tw.kr) ?_
   refine Tw.mm (.int .i64 ((((cd b).length) : Nat) : Int)) ?_
   refine Tw.lp (v := .int .i64 (((((cd a).length) - ((cd b).length)) : Nat) : Int)) rfl rfl (run_bin rfl (vx := (.int .i64 ((((cd a).length) : Nat) : Int))) (vy := (.int .i64 ((((cd b).length) : Nat) : Int))) Tw.kr Tw.kr fun w => bn_sub (z := (((cd a).length) - ((cd b).length))) rfl Tw.om (wr_i64 Tw.om) w) ?_
   refine Tw.lp (v := .int .i64 ((((((cd a).length) - ((cd b).length)) + 1) : Nat) : Int)) rfl rfl (run_bin rfl (vx := (.int .i64 (((((cd a).length) - ((cd b).length)) : Nat) : Int))) (vy := (.int .i64 ((1 : Nat) : Int))) Tw.kr Tw.kr fun w => bn_add (z := ((((cd a).length) - ((cd b).length)) + 1)) rfl (wr_i64 Tw.om) w) ?_
   refine Tw.lp (v := .slice (if c = ((((cd a).length) - ((cd b).length)) + 1) then p else p.map (·.add (((((cd a).length) - ((cd b).length)) + 1) * 1))) (((cd a).length) - ((((cd a).length) - ((cd b).length)) + 1)) (c - ((((cd a).length) - ((cd b).length)) + 1))) rfl rfl (run_cutL (p := p) (n := ((cd a).length)) (c := c) (i := ((((cd a).length) - ((cd b).length)) + 1)) (k1 := .i64) rfl Tryz.underlying32 Tw.kr Tw.kr Tw.kr Tw.om) ?_
   refine wpL_g (AppO w 3 1 [] (0 + (((cd a).length) - ((((cd a).length) - ((cd b).length)) + 1))) ((nums []) ++ nums ((cd a).drop ((((cd a).length) - ((cd b).length)) + 1)))) rfl rfl (app_any el_int (m := (((cd a).length) - ((((cd a).length) - ((cd b).length)) + 1))) (news := nums ((cd a).drop ((((cd a).length) - ((cd b).length)) + 1))) rfl Tw.kr Tw.kr (src_ns (c := (c - ((((cd a).length) - ((cd b).length)) + 1))) Tryz.underlying32 ((NS.drop (k := ((((cd a).length) - ((cd b).length)) + 1)) (HP.mono Tw.sb) hW3 hc).mono Tw.sb) (by simp)) (own_row (xs := (nums [])) Bg1 rfl Tw.om) (fun p hp => by cases List.mem_singleton.1 hp; exact Tw.m0) (fun _ h => by cases h) Tw.om Tw.om) Tw.pf ?_
   rintro v2 Kl2 ⟨_, O2, N2, rfl⟩
   replace O2 : OwnL w 3 1 v2 (0 + (((cd a).length) - ((((cd a).length) - ((cd b).length)) + 1))) (nums ([] ++ ((cd a).drop ((((cd a).length) - ((cd b).length)) + 1)))) Kl2 := by rw [nums_app]; exact O2
   refine Tw.mm v2 ?_
   refine wpL_done (fun W4 hW4 => ?_)
   change Code.wp ..
   refine wp_seq ?_
   refine wp_region_L _ hW4 ?_
   refine Tw.mm (.slice p ((cd a).length) c) ?_
   refine Tw.lp (v := .int .i64 ((((cd a).length) : Nat) : Int)) rfl rfl (run_lenL (p := p) (cap := c) (n := ((cd a).length)) rfl Tryz.underlying32 Tw.kr) ?_
   refine Tw.mm (.int .i64 ((((cd b).length) : Nat) : Int)) ?_
   refine Tw.lp (v := .int .i64 (((((cd a).length) - ((cd b).length)) : Nat) : Int)) rfl rfl (run_bin rfl (vx := (.int .i64 ((((cd a).length) : Nat) : Int))) (vy := (.int .i64 ((((cd b).length) : Nat) : Int))) Tw.kr Tw.kr fun w => bn_sub (z := (((cd a).length) - ((cd b).length))) rfl Tw.om (wr_i64 Tw.om) w) ?_
   refine Tw.lp (v := .int .i64 ((((((cd a).length) - ((cd b).length)) + 1) : Nat) : Int)) rfl rfl (run_bin rfl (vx := (.int .i64 (((((cd a).length) - ((cd b).length)) : Nat) : Int))) (vy := (.int .i64 ((1 : Nat) : Int))) Tw.kr Tw.kr fun w => bn_add (z := ((((cd a).length) - ((cd b).length)) + 1)) rfl (wr_i64 Tw.om) w) ?_
   refine wpL_new (fun g => .slice (some ⟨g, 0, none⟩) ((((cd a).length) - ((cd b).length)) + 1) ((((cd a).length) - ((cd b).length)) + 1)) (obi := .cells (nums (List.replicate ((((cd a).length) - ((cd b).length)) + 1) 0)).toArray 3 (0, 0)) rfl rfl (run_mk (b := 8) rfl Tryz.underlying32 Tw.kr (by decide) Tw.kr Tw.kr Tw.om) Tw.pf fun g3 Bg3 Fg3 => ?_
   obtain dj4_0 : Dk g3 Kl2 := Tw.dkf Fg3
   refine Tw.mm (.slice (some ⟨g3, 0, none⟩) ((((cd a).length) - ((cd b).length)) + 1) ((((cd a).length) - ((cd b).length)) + 1)) ?_
   refine wpL_done (fun W5 hW5 => ?_)
   change Code.wp ..
   refine wp_seq ?_
   refine wp_seq ?_
   refine wp_region_L _ hW5 ?_
   refine Tw.mm (.slice p ((cd a).length) c) ?_
   refine Tw.lp (v := .int .i64 ((((cd a).length) : Nat) : Int)) rfl rfl (run_lenL (p := p) (cap := c) (n := ((cd a).length)) rfl Tryz.underlying32 Tw.kr) ?_
   refine Tw.mm (.int .i64 ((((cd b).length) : Nat) : Int)) ?_
   refine Tw.lp (v := .int .i64 (((((cd a).length) - ((cd b).length)) : Nat) : Int)) rfl rfl (run_bin rfl (vx := (.int .i64 ((((cd a).length) : Nat) : Int))) (vy := (.int .i64 ((((cd b).length) : Nat) : Int))) Tw.kr Tw.kr fun w => bn_sub (z := (((cd a).length) - ((cd b).length))) rfl Tw.om (wr_i64 Tw.om) w) ?_
   refine Tw.mm (.int .i64 (((((cd a).length) - ((cd b).length)) : Nat) : Int)) ?_
   refine wpL_done (fun W6 hW6 => ?_)
   change Code.wp ..
   refine wp_block ?_
   obtain ⟨p5, c5, rfl, hc5, HN5, HF5⟩ := own_ns O2
   have hD : ([] ++ ((cd a).drop (((cd a).length - (cd b).length) + 1)) : List Nat) = cd (dv ((cd a).drop (((cd a).length - (cd b).length) + 1))) := (List.nil_append _).trans (cd_drop a _)
   have hDn : (0 + (((cd a).length) - ((((cd a).length) - ((cd b).length)) + 1))) = (cd (dv ((cd a).drop (((cd a).length - (cd b).length) + 1)))).length := by rw [← cd_drop a]; simp
   rw [hDn]
   rw [hD] at HN5
   rw [hDn] at hc5
   have hst := start_lt (a := a) (b := b) (i := (((cd a).length - (cd b).length) + 1)) hb Tw.om
   go_loopw [9, 7] (fun u9 u7 wr => ∃ (z : Int) (k : Nat) (pr : Option Addr) (cr : Nat) (r : Nat) (O : List Nat) (Kt : List (Nat × Obj)), (NS (w : Base) pr (cd r) Kt) ∧ ((cd r).length ≤ cr) ∧ (z = (k : Int) - 1) ∧ (O.length = (((cd a).length - (cd b).length) + 1)) ∧ (k ≤ (((cd a).length - (cd b).length) + 1)) ∧ (r = dv ((cd a).drop k) % b) ∧ (dv (O.drop k) = dv ((cd a).drop k) / b) ∧ (dOk O) ∧ (Dk g3 Kt) ∧ u9 = .int .i64 z ∧ u7 = .slice pr ((cd r).length) cr ∧ KS w ((g3, .cells (nums O).toArray 3 (0, 0)) :: Kt) wr) (fun u9 _ _ => (intOf u9 + 1).toNat)
   case atStart => exact ⟨(((((cd a).length - (cd b).length) : Nat) : Int)), (((cd a).length - (cd b).length) + 1), p5, c5, (dv ((cd a).drop (((cd a).length - (cd b).length) + 1))), (List.replicate ((((cd a).length) - ((cd b).length)) + 1) 0), Kl2, (HN5.mono Tw.sb), hc5, Tw.om, (by simp), (Nat.le_refl _), (Nat.mod_eq_of_lt hst).symm, (by rw [rep_drop, Nat.div_eq_of_lt hst]), (dOk.rep _), (show Dk g3 Kl2 from Tw.djt), rfl, rfl, (hW6.sub Tw.sb)⟩
   case round =>
     obtain ⟨z, k, pr, cr, r, O, Kt, HR, hcr, hz, hOl, hk, hr, hOv, hOk, hDk, rfl, rfl, hL7⟩ := hrel
     refine wp_seq ?_
     refine wp_seq ?_
     refine wp_region_L _ hL7 ?_
     refine Tw.mm (.int .i64 z) ?_
     refine Tw.lp (v := .bool (!(decide (z < 0)))) rfl rfl (run_bin rfl (vx := (.int .i64 z)) (vy := (.int .i64 0)) Tw.kr Tw.kr fun w => bi_geq rfl w) ?_
     refine wpL_done (fun W8 hW8 => ?_)
     change Code.wp ..
     cases hd2 : (decide (z < 0)) with
     | false =>
       have h2 : ¬ (z < 0) := of_decide_eq_false hd2
       clear hd2
       obtain ⟨j, rfl⟩ := Int.eq_ofNat_of_zero_le (show 0 ≤ z by omega)
       obtain rfl : k = j + 1 := by omega
       have hrb : r < b := by rw [hr]; exact Nat.mod_lt _ hb
       have hrl : (cd r).length ≤ (cd b).length := cd_le.2 (Nat.lt_trans hrb (cd_hi b))
       refine wp_cond_true rfl ?_
       refine wp_skip ?_
       change Code.wp ..
       refine wp_seq ?_
       refine wp_block ?_
       refine wp_seq ?_
       refine wp_region_L _ hW8 ?_
       refine Tw.mm (.slice p ((cd a).length) c) ?_
       refine Tw.mm (.int .i64 ((j : Nat) : Int)) ?_
       obtain ⟨b6, f6, hp6, hc6⟩ := (HP.mono Tw.sb).at hW8 (k := j) Tw.om
       refine Tw.lp (v := .pointer (some ⟨b6, f6 + j * 1, none⟩)) rfl rfl (run_idxQ (p := p) (cap := c) (n := ((cd a).length)) (j := .i64) (k := j) (sz := 1) rfl Tryz.underlying32 Tw.kr Tw.kr hp6 Tw.kr Tw.om) ?_
       obtain ⟨x7, hx7⟩ : ∃ x, ((cd a) : List Nat)[j]? = some x := ⟨_, List.getElem?_eq_getElem Tw.om⟩
       have lx7 : x7 < 65536 := dOk.at (cd_ok a) hx7
       refine Tw.lv (v := .int .i64 ((x7 : Nat) : Int)) rfl rfl (yb_ns (off := f6 + j * 1) rfl Tw.kr (fun W hW => hc6 W (hW.sub Tw.sb) _ _ hx7) Tryz.underlying3 rfl) ?_
       refine wpL_new (fun g => .slice (some ⟨g, 0, none⟩) 1 1) (obi := .cells #[.int .i64 ((x7 : Nat) : Int)] 3 (0, 0)) rfl rfl Tw.kf Tw.pf fun g8 Bg8 Fg8 => ?_
       obtain ⟨dj9_0, dj9_1⟩ : g3 ≠ g8 ∧ Dk g8 Kt := Tw.dkf Fg8
       refine Tw.mm (.slice pr ((cd r).length) cr) ?_
       refine wpL_g (AppO w 3 1 ((g3, .cells (nums O).toArray 3 (0, 0)) :: Kt) (1 + ((cd r).length)) ((nums [x7]) ++ nums (cd r))) rfl rfl (app_any el_int (m := ((cd r).length)) (news := nums (cd r)) rfl Tw.kr Tw.kr (src_ns (c := cr) Tryz.underlying32 (HR.mono Tw.sb) rfl) (own_row (xs := (nums [x7])) Bg8 rfl Tw.om) (fun p hp => by cases List.mem_singleton.1 hp; exact Tw.m0) (fun p hp => ⟨by simp only [List.mem_cons, List.mem_append, List.nil_append, List.not_mem_nil, or_assoc, or_false, false_or] at hp ⊢ <;> grind, (show Dj ((g3, .cells (nums O).toArray 3 (0, 0)) :: Kt) [(g8, .cells #[.int .i64 ((x7 : Nat) : Int)] 3 (0, 0))] from Tw.djt) p hp⟩) Tw.om Tw.om) Tw.pf ?_
       rintro v10 K9 ⟨Kl10, O10, N10, rfl⟩
       replace O10 : OwnL w 3 1 v10 (1 + ((cd r).length)) (nums ([x7] ++ (cd r))) Kl10 := by rw [nums_app]; exact O10
       obtain ⟨dj11_0, dj11_1⟩ : Dk g3 Kl10 ∧ Dj Kt Kl10 := Tw.djf N10
       obtain ⟨p12, c12, rfl, hc12, HN12, HF12⟩ := own_ns O10
       obtain ⟨y, hy⟩ : ∃ y, y = x7 + 65536 * r := ⟨_, rfl⟩
       have hyl : (cd y).length ≤ (cd b).length - 1 + 2 := by rw [hy]; exact div_x lx7 hrb rfl hl0
       have hq : y / b < 65536 := by rw [hy]; exact quo_lt hb lx7 hrb
       refine Tw.lv (v := .slice p12 ((cd y).length) c12) rfl rfl (yb_call (f := 81) (args := #[.slice p12 (1 + ((cd r).length)) c12]) Tw.kf fun W hW => trim_any ([x7] ++ (cd r)) y (1 + ((cd r).length)) p12 c12 ((show dOk [x7] from fun z hz => by cases List.mem_singleton.1 hz; exact lx7).app (cd_ok r)) ((dv_cons x7 r).trans hy.symm) (own_len O10).symm hc12 Tw.om W ((HN12.mono Tw.sb) W hW)) ?_
       refine Tw.mm (.slice p12 ((cd y).length) c12) ?_
       refine wpL_done (fun W9 hW9 => ?_)
       change Code.wp ..
       refine wp_seq ?_
       refine wp_region_L _ hW9 ?_
       refine Tw.mm (.int .i64 0) ?_
       refine wpL_done (fun W10 hW10 => ?_)
       change Code.wp ..
       refine wp_seq ?_
       refine wp_seq ?_
       refine wp_region_L _ hW10 ?_
       refine Tw.mm (.slice p12 ((cd y).length) c12) ?_
       refine Tw.lp (v := .int .i64 ((((cd y).length) : Nat) : Int)) rfl rfl (run_lenL (p := p12) (cap := c12) (n := ((cd y).length)) rfl Tryz.underlying32 Tw.kr) ?_
       refine Tw.lp (v := .int .i64 (((((cd y).length) : Nat) : Int) - 1)) rfl rfl (run_bin rfl (vx := (.int .i64 ((((cd y).length) : Nat) : Int))) (vy := (.int .i64 ((1 : Nat) : Int))) Tw.kr Tw.kr fun w => bi_sub (z := (((((cd y).length) : Nat) : Int) - 1)) rfl (wi_i64 Tw.om) w) ?_
       refine Tw.mm (.int .i64 (((((cd y).length) : Nat) : Int) - 1)) ?_
       refine wpL_done (fun W11 hW11 => ?_)
       change Code.wp ..
       refine wp_block ?_
       go_loopw [10, 11] (fun u10 u11 wr => ∃ (tp : Nat) (z2 : Int) (k2 : Nat), (z2 = (k2 : Int) - 1) ∧ (k2 ≤ (cd y).length) ∧ (tp = dv ((cd y).drop k2)) ∧ (((cd b).length - 1 ≤ k2 ∨ k2 = (cd y).length)) ∧ u10 = .int .i64 ((tp : Nat) : Int) ∧ u11 = .int .i64 z2 ∧ KS w ((g3, .cells (nums O).toArray 3 (0, 0)) :: (Kt ++ Kl10)) wr) (fun _ u11 _ => (intOf u11 + 1).toNat)
       case atStart => exact ⟨0, ((((cd y).length : Nat) : Int) - 1), (cd y).length, rfl, (Nat.le_refl _), (drop_big (Nat.le_refl _)).symm, (.inr rfl), rfl, rfl, (hW11.sub Tw.sb)⟩
       case round =>
         obtain ⟨tp, z2, k2, hz2, hk2, htp, hkk, rfl, rfl, hL12⟩ := hrel
         refine wp_seq ?_
         refine wp_seq ?_
         refine wp_region_L _ hL12 ?_
         refine Tw.mm (.int .i64 z2) ?_
         refine Tw.mm (.int .i64 ((((cd b).length) : Nat) : Int)) ?_
         refine Tw.lp (v := .int .i64 (((((cd b).length) : Nat) : Int) - 1)) rfl rfl (run_bin rfl (vx := (.int .i64 ((((cd b).length) : Nat) : Int))) (vy := (.int .i64 ((1 : Nat) : Int))) Tw.kr Tw.kr fun w => bi_sub (z := (((((cd b).length) : Nat) : Int) - 1)) rfl (wi_i64 Tw.om) w) ?_
         refine Tw.lp (v := .bool (!(decide (z2 < (((((cd b).length) : Nat) : Int) - 1))))) rfl rfl (run_bin rfl (vx := (.int .i64 z2)) (vy := (.int .i64 (((((cd b).length) : Nat) : Int) - 1))) Tw.kr Tw.kr fun w => bi_geq rfl w) ?_
         refine wpL_done (fun W13 hW13 => ?_)
         change Code.wp ..
         cases hd3 : (decide (z2 < (((((cd b).length) : Nat) : Int) - 1))) with
         | false =>
           have h3 : ¬ (z2 < (((((cd b).length) : Nat) : Int) - 1)) := of_decide_eq_false hd3
           clear hd3
           obtain ⟨j2, rfl⟩ := Int.eq_ofNat_of_zero_le (show 0 ≤ z2 by omega)
           obtain rfl : k2 = j2 + 1 := by omega
           have htb : tp < 65536 := by rw [htp]; exact drop_lt (cd_ok y) (j2 + 1) 1 Tw.om
           refine wp_cond_true rfl ?_
           refine wp_skip ?_
           change Code.wp ..
           refine wp_seq ?_
           refine wp_block ?_
           refine wp_region_L _ hW13 ?_
           refine Tw.mm (.int .i64 ((tp : Nat) : Int)) ?_
           refine Tw.lp (v := .int .i64 (((tp * 65536) : Nat) : Int)) rfl rfl (run_bin rfl (vx := (.int .i64 ((tp : Nat) : Int))) (vy := (.int .i64 ((65536 : Nat) : Int))) Tw.kr Tw.kr fun w => bn_mul (z := (tp * 65536)) rfl (wr_i64 Tw.om) w) ?_
           refine Tw.mm (.slice p12 ((cd y).length) c12) ?_
           refine Tw.mm (.int .i64 ((j2 : Nat) : Int)) ?_
           obtain ⟨b13, f13, hp13, hc13⟩ := ((ns_trim HN12 ((show dOk [x7] from fun z hz => by cases List.mem_singleton.1 hz; exact lx7).app (cd_ok r)) ((dv_cons x7 r).trans hy.symm)).mono Tw.sb).at hW13 (k := j2) Tw.om
           refine Tw.lp (v := .pointer (some ⟨b13, f13 + j2 * 1, none⟩)) rfl rfl (run_idxQ (p := p12) (cap := c12) (n := ((cd y).length)) (j := .i64) (k := j2) (sz := 1) rfl Tryz.underlying32 Tw.kr Tw.kr hp13 Tw.kr Tw.om) ?_
           obtain ⟨x14, hx14⟩ : ∃ x, ((cd y) : List Nat)[j2]? = some x := ⟨_, List.getElem?_eq_getElem Tw.om⟩
           have lx14 : x14 < 65536 := dOk.at (cd_ok y) hx14
           refine Tw.lv (v := .int .i64 ((x14 : Nat) : Int)) rfl rfl (yb_ns (off := f13 + j2 * 1) rfl Tw.kr (fun W hW => hc13 W (hW.sub Tw.sb) _ _ hx14) Tryz.underlying3 rfl) ?_
           refine Tw.lp (v := .int .i64 ((((tp * 65536) + x14) : Nat) : Int)) rfl rfl (run_bin rfl (vx := (.int .i64 (((tp * 65536) : Nat) : Int))) (vy := (.int .i64 ((x14 : Nat) : Int))) Tw.kr Tw.kr fun w => bn_add (z := ((tp * 65536) + x14)) rfl (wr_i64 Tw.om) w) ?_
           refine Tw.mm (.int .i64 ((((tp * 65536) + x14) : Nat) : Int)) ?_
           refine wpL_done (fun W14 hW14 => ?_)
           change Code.wp ..
           refine wp_region_L _ hW14 ?_
           refine Tw.mm (.int .i64 ((j2 : Nat) : Int)) ?_
           refine Tw.lp (v := .int .i64 (((j2 : Nat) : Int) - 1)) rfl rfl (run_bin rfl (vx := (.int .i64 ((j2 : Nat) : Int))) (vy := (.int .i64 ((1 : Nat) : Int))) Tw.kr Tw.kr fun w => bi_sub (z := (((j2 : Nat) : Int) - 1)) rfl (wi_i64 Tw.om) w) ?_
           refine Tw.mm (.int .i64 (((j2 : Nat) : Int) - 1)) ?_
           refine wpL_done (fun W15 hW15 => ?_)
           go_roundw
           case rel =>
             repeat apply Exists.intro
             exact ⟨⟨((tp * 65536) + x14), (((j2 : Nat) : Int) - 1), j2, rfl, Tw.om, (by have e := dv_drop hx14; rw [← htp] at e; omega), (.inl Tw.om), rfl, rfl, (hW15.sub Tw.sb)⟩, rfl⟩
           case measure => (show (intOf (.int .i64 (((j2 : Nat) : Int) - 1)) + 1).toNat < (intOf (.int .i64 ((j2 : Nat) : Int)) + 1).toNat); simp only [intOf]; omega
         | true =>
           have h3 : z2 < (((((cd b).length) : Nat) : Int) - 1) := of_decide_eq_true hd3
           clear hd3
           refine wp_cond_false rfl ?_
           refine wp_exit ?_
           change Code.wp ..
           refine wp_seq ?_
           have htop : tp = y / 65536 ^ ((cd b).length - 1) := by
             refine top_val hyl ?_
             rcases hkk with h | h
             · rw [htp, show k2 = (cd b).length - 1 from by omega]
             · rcases Nat.lt_or_ge k2 ((cd b).length - 1) with h3 | h3
               · rw [htp, drop_big (Nat.le_of_eq h.symm), drop_big Tw.om]
               · rw [htp, show k2 = (cd b).length - 1 from by omega]
           have htb2 : tp < 4294967296 := by rw [htp]; exact drop_lt (cd_ok y) k2 2 Tw.om
           obtain ⟨x15, hx15⟩ : ∃ x, ((cd b) : List Nat)[(((cd b).length) - 1)]? = some x := ⟨_, List.getElem?_eq_getElem Tw.om⟩
           have lx15 : x15 < 65536 := dOk.at (cd_ok b) hx15
           have hd1 : tp / (x15 + 1) ≤ tp := Nat.div_le_self _ _
           have hd2 : tp / x15 ≤ tp := Nat.div_le_self _ _
           have ht0 : 0 < x15 := (top_digit (n := (cd b).length - 1) Tw.om hx15).1
           refine wp_region_V _ Tw.kr hW13 ?_
           refine vm (i := 0) (v := .int .i64 ((tp : Nat) : Int)) rfl rfl rfl ?_
           refine vm (i := 1) (v := .slice q ((cd b).length) d) rfl rfl rfl ?_
           refine vm (i := 2) (v := .int .i64 ((((cd b).length) : Nat) : Int)) rfl rfl rfl ?_
           refine vp (i := 3) (v := .int .i64 (((((cd b).length) - 1) : Nat) : Int)) rfl rfl rfl (run_bin rfl (vx := (.int .i64 ((((cd b).length) : Nat) : Int))) (vy := (.int .i64 ((1 : Nat) : Int))) Tw.kr Tw.kr fun w => bn_sub (z := (((cd b).length) - 1)) rfl Tw.om (wr_i64 Tw.om) w) ?_
           obtain ⟨b16, f16, hp16, hc16⟩ := (HQ.mono Tw.sb).at hW13 (k := (((cd b).length) - 1)) Tw.om
           refine vp (i := 4) (v := .pointer (some ⟨b16, f16 + (((cd b).length) - 1) * 1, none⟩)) rfl rfl rfl (run_idxQ (p := q) (cap := d) (n := ((cd b).length)) (j := .i64) (k := (((cd b).length) - 1)) (sz := 1) rfl Tryz.underlying32 Tw.kr Tw.kr hp16 Tw.kr Tw.om) ?_
           refine vv (i := 5) (v := .int .i64 ((x15 : Nat) : Int)) rfl rfl rfl (yb_ns (off := f16 + (((cd b).length) - 1) * 1) rfl Tw.kr (fun W hW => hc16 W (hW.sub Tw.sb) _ _ hx15) Tryz.underlying3 rfl) ?_
           refine vp (i := 6) (v := .int .i64 (((x15 + 1) : Nat) : Int)) rfl rfl rfl (run_bin rfl (vx := (.int .i64 ((x15 : Nat) : Int))) (vy := (.int .i64 ((1 : Nat) : Int))) Tw.kr Tw.kr fun w => bn_add (z := (x15 + 1)) rfl (wr_i64 Tw.om) w) ?_
           refine vp (i := 7) (v := .int .i64 (((tp / (x15 + 1)) : Nat) : Int)) rfl rfl rfl (run_bin rfl (vx := (.int .i64 ((tp : Nat) : Int))) (vy := (.int .i64 (((x15 + 1) : Nat) : Int))) Tw.kr Tw.kr fun w => bn_quo (z := (tp / (x15 + 1))) rfl Tw.om (wr_i64 Tw.om) w) ?_
           refine vm (i := 8) (v := .int .i64 ((tp : Nat) : Int)) rfl rfl rfl ?_
           refine vm (i := 9) (v := .slice q ((cd b).length) d) rfl rfl rfl ?_
           refine vm (i := 10) (v := .int .i64 ((((cd b).length) : Nat) : Int)) rfl rfl rfl ?_
           refine vp (i := 11) (v := .int .i64 (((((cd b).length) - 1) : Nat) : Int)) rfl rfl rfl (run_bin rfl (vx := (.int .i64 ((((cd b).length) : Nat) : Int))) (vy := (.int .i64 ((1 : Nat) : Int))) Tw.kr Tw.kr fun w => bn_sub (z := (((cd b).length) - 1)) rfl Tw.om (wr_i64 Tw.om) w) ?_
           refine vp (i := 12) (v := .pointer (some ⟨b16, f16 + (((cd b).length) - 1) * 1, none⟩)) rfl rfl rfl (run_idxQ (p := q) (cap := d) (n := ((cd b).length)) (j := .i64) (k := (((cd b).length) - 1)) (sz := 1) rfl Tryz.underlying32 Tw.kr Tw.kr hp16 Tw.kr Tw.om) ?_
           refine vv (i := 13) (v := .int .i64 ((x15 : Nat) : Int)) rfl rfl rfl (yb_ns (off := f16 + (((cd b).length) - 1) * 1) rfl Tw.kr (fun W hW => hc16 W (hW.sub Tw.sb) _ _ hx15) Tryz.underlying3 rfl) ?_
           refine vp (i := 14) (v := .int .i64 (((tp / x15) : Nat) : Int)) rfl rfl rfl (run_bin rfl (vx := (.int .i64 ((tp : Nat) : Int))) (vy := (.int .i64 ((x15 : Nat) : Int))) Tw.kr Tw.kr fun w => bn_quo (z := (tp / x15)) rfl Tw.om (wr_i64 Tw.om) w) ?_
           refine vp (i := 15) (v := .int .i64 (((min (tp / x15) 65535) : Nat) : Int)) rfl rfl rfl (run_minN rfl (x := (tp / x15)) (y := 65535) Tw.kr Tw.kr) ?_
           refine vm (i := 16) (v := .int .i64 (((tp / (x15 + 1)) : Nat) : Int)) rfl rfl rfl ?_
           refine vm (i := 17) (v := .int .i64 (((min (tp / x15) 65535) : Nat) : Int)) rfl rfl rfl ?_
           refine wpV_done Tw.kr (fun W16 hW16 => ?_) _
           change Code.wp ..
           refine wp_seq ?_
           refine wp_block ?_
           obtain ⟨hlo0, hhi0, ht0⟩ := div_bounds (x := y) rfl hl0 hx15 (lo := (tp / (x15 + 1))) (hi := (min (tp / x15) 65535)) (by rw [← htop]) (by rw [← htop]) hq hb
           go_loopw [12, 13] (fun u12 u13 wr => ∃ (lo hi : Nat), (lo ≤ y / b) ∧ (y / b ≤ hi) ∧ (hi ≤ 65535) ∧ u12 = .int .i64 ((lo : Nat) : Int) ∧ u13 = .int .i64 ((hi : Nat) : Int) ∧ KS w ((g3, .cells (nums O).toArray 3 (0, 0)) :: (Kt ++ Kl10)) wr) (fun u12 u13 _ => (intOf u13 - intOf u12).toNat)
           case atStart => exact ⟨(tp / (x15 + 1)), (min (tp / x15) 65535), hlo0, hhi0, Tw.om, rfl, rfl, (hW16.sub Tw.sb)⟩
           case round =>
             obtain ⟨lo, hi, hlo, hhi, hh, rfl, rfl, hL17⟩ := hrel
             refine wp_seq ?_
             refine wp_seq ?_
             refine wp_region_L _ hL17 ?_
             refine Tw.mm (.int .i64 ((lo : Nat) : Int)) ?_
             refine Tw.mm (.int .i64 ((hi : Nat) : Int)) ?_
             refine Tw.lp (v := .bool (decide (lo < hi))) rfl rfl (run_bin rfl (vx := (.int .i64 ((lo : Nat) : Int))) (vy := (.int .i64 ((hi : Nat) : Int))) Tw.kr Tw.kr fun w => bn_lss rfl w) ?_
             refine wpL_done (fun W18 hW18 => ?_)
             change Code.wp ..
             cases hd4 : (decide (lo < hi)) with
             | false =>
               have h4 : ¬ (lo < hi) := of_decide_eq_false hd4
               clear hd4
               refine wp_cond_false rfl ?_
               refine wp_exit ?_
               change Code.wp ..
               refine wp_seq ?_
               refine wp_region_L _ hW18 ?_
               refine Tw.mm (.slice (some ⟨g3, 0, none⟩) ((((cd a).length) - ((cd b).length)) + 1) ((((cd a).length) - ((cd b).length)) + 1)) ?_
               refine Tw.mm (.int .i64 ((j : Nat) : Int)) ?_
               refine Tw.mm (.int .i64 ((lo : Nat) : Int)) ?_
               refine Tw.lp (v := .pointer (some ⟨g3, 0 + j * 1, none⟩)) rfl rfl (run_idxL (j := .i64) (n := ((((cd a).length) - ((cd b).length)) + 1)) (cap := ((((cd a).length) - ((cd b).length)) + 1)) (b := g3) (off := 0) (k := j) (sz := 1) rfl Tryz.underlying32 Tw.kr Tw.kr Tw.kr Tw.om) ?_
               refine wpL_s ((g3, .cells (nums (O.set j lo)).toArray 3 (0, 0)) :: (Kt ++ Kl10)) rfl rfl (st_to (off := 0 + j * 1) (nums_set O j lo) rfl Tw.kr Tw.kr Tw.m0 Bg3 Tw.kr rfl rfl (by simp only [List.size_toArray, nums_len]; omega) (.inr rfl) (List.forall_mem_cons.2 ⟨.inl rfl, (fun p hp => .inr ⟨(.tail _ hp), ((show Dk g3 (Kt ++ Kl10) from Tw.djt) _ hp)⟩)⟩)) ?_
               refine wpL_done (fun W19 hW19 => ?_)
               change Code.wp ..
               refine wp_region_L _ hW19 ?_
               refine Tw.mm (.slice p12 ((cd y).length) c12) ?_
               refine Tw.mm (.slice q ((cd b).length) d) ?_
               refine Tw.mm (.int .i64 ((lo : Nat) : Int)) ?_
               refine wpL_c (f := 82) (args := #[.slice q ((cd b).length) d, .int .i64 ((lo : Nat) : Int)]) (AnsG w ((g3, .cells (nums (O.set j lo)).toArray 3 (0, 0)) :: (Kt ++ Kl10)) (cd (b * lo))) rfl Tw.kr Tw.kf (fun W hW => (scale_any b lo q d Tw.om Tw.om W ((HQ.mono Tw.sb) W hW)).mono fun e w2 h => Ans.g h hW) Tw.pf ?_
               rintro v17 _ ⟨q17, d17, T17, rfl, C17, H17, F17, J17, rfl⟩
               obtain ⟨dj18_0, dj18_1, dj18_2⟩ : Dk g3 T17 ∧ Dj Kt T17 ∧ Dj Kl10 T17 := Tw.djf J17
               have hlq : lo = y / b := by omega
               refine wpL_c (f := 48) (args := #[.slice p12 ((cd y).length) c12, .slice q17 ((cd (b * lo)).length) d17]) (AnsG w ((g3, .cells (nums (O.set j lo)).toArray 3 (0, 0)) :: ((Kt ++ Kl10) ++ T17)) (cd (y - (b * lo)))) rfl Tw.kr Tw.kf (fun W hW => (sub_any y (b * lo) p12 q17 c12 d17 (by rw [hlq]; exact Nat.mul_div_le y b) Tw.om W (((ns_trim HN12 ((show dOk [x7] from fun z hz => by cases List.mem_singleton.1 hz; exact lx7).app (cd_ok r)) ((dv_cons x7 r).trans hy.symm)).mono Tw.sb) W hW) ((H17.mono Tw.sb) W hW)).mono fun e w2 h => Ans.g h hW) Tw.pf ?_
               rintro v19 _ ⟨q19, d19, T19, rfl, C19, H19, F19, J19, rfl⟩
               obtain ⟨dj20_0, dj20_1, dj20_2, dj20_3⟩ : Dk g3 T19 ∧ Dj Kt T19 ∧ Dj Kl10 T19 ∧ Dj T17 T19 := Tw.djf J19
               refine Tw.mm (.slice q19 ((cd (y - (b * lo))).length) d19) ?_
               refine wpL_done (fun W20 hW20 => ?_)
               change Code.wp ..
               refine wp_region_L _ hW20 ?_
               refine Tw.mm (.int .i64 ((j : Nat) : Int)) ?_
               refine Tw.lp (v := .int .i64 (((j : Nat) : Int) - 1)) rfl rfl (run_bin rfl (vx := (.int .i64 ((j : Nat) : Int))) (vy := (.int .i64 ((1 : Nat) : Int))) Tw.kr Tw.kr fun w => bi_sub (z := (((j : Nat) : Int) - 1)) rfl (wi_i64 Tw.om) w) ?_
               refine Tw.mm (.int .i64 (((j : Nat) : Int) - 1)) ?_
               refine wpL_done (fun W21 hW21 => ?_)
               go_roundw
               case rel =>
                 repeat apply Exists.intro
                 exact ⟨⟨(((j : Nat) : Int) - 1), j, q19, d19, (y - (b * lo)), (O.set j lo), (Kt ++ (Kl10 ++ (T17 ++ T19))), (H19.mono Tw.sb), C19, rfl, (by simpa using hOl), Tw.om, (by rw [hy]; exact (quo_digit hx7 hr hb (show lo = _ from by rw [← hy]; omega) Tw.om hOv).2), (quo_digit hx7 hr hb (show lo = _ from by rw [← hy]; omega) Tw.om hOv).1, (hOk.set Tw.om), (show Dk g3 (Kt ++ (Kl10 ++ (T17 ++ T19))) from Tw.djt), rfl, rfl, (hW21.sub Tw.sb)⟩, rfl⟩
               case measure => (show (intOf (.int .i64 (((j : Nat) : Int) - 1)) + 1).toNat < (intOf (.int .i64 ((j : Nat) : Int)) + 1).toNat); simp only [intOf]; omega
             | true =>
               have h4 : lo < hi := of_decide_eq_true hd4
               clear hd4
               refine wp_cond_true rfl ?_
               refine wp_skip ?_
               change Code.wp ..
               refine wp_block ?_
               refine wp_seq ?_
               refine wp_region_L _ hW18 ?_
               refine Tw.mm (.int .i64 ((lo : Nat) : Int)) ?_
               refine Tw.mm (.int .i64 ((hi : Nat) : Int)) ?_
               refine Tw.lp (v := .int .i64 (((lo + hi) : Nat) : Int)) rfl rfl (run_bin rfl (vx := (.int .i64 ((lo : Nat) : Int))) (vy := (.int .i64 ((hi : Nat) : Int))) Tw.kr Tw.kr fun w => bn_add (z := (lo + hi)) rfl (wr_i64 Tw.om) w) ?_
               refine Tw.lp (v := .int .i64 ((((lo + hi) + 1) : Nat) : Int)) rfl rfl (run_bin rfl (vx := (.int .i64 (((lo + hi) : Nat) : Int))) (vy := (.int .i64 ((1 : Nat) : Int))) Tw.kr Tw.kr fun w => bn_add (z := ((lo + hi) + 1)) rfl (wr_i64 Tw.om) w) ?_
               refine Tw.lp (v := .int .i64 (((((lo + hi) + 1) / 2) : Nat) : Int)) rfl rfl (run_bin rfl (vx := (.int .i64 ((((lo + hi) + 1) : Nat) : Int))) (vy := (.int .i64 ((2 : Nat) : Int))) Tw.kr Tw.kr fun w => bn_quo (z := (((lo + hi) + 1) / 2)) rfl Tw.om (wr_i64 Tw.om) w) ?_
               refine Tw.mm (.int .i64 (((((lo + hi) + 1) / 2) : Nat) : Int)) ?_
               refine wpL_done (fun W22 hW22 => ?_)
               change Code.wp ..
               refine wp_seq ?_
               refine wp_region_L _ hW22 ?_
               refine Tw.mm (.slice p12 ((cd y).length) c12) ?_
               refine Tw.mm (.slice q ((cd b).length) d) ?_
               refine Tw.mm (.int .i64 (((((lo + hi) + 1) / 2) : Nat) : Int)) ?_
               refine wpL_c (f := 82) (args := #[.slice q ((cd b).length) d, .int .i64 (((((lo + hi) + 1) / 2) : Nat) : Int)]) (AnsG w ((g3, .cells (nums O).toArray 3 (0, 0)) :: (Kt ++ Kl10)) (cd (b * (((lo + hi) + 1) / 2)))) rfl Tw.kr Tw.kf (fun W hW => (scale_any b (((lo + hi) + 1) / 2) q d Tw.om Tw.om W ((HQ.mono Tw.sb) W hW)).mono fun e w2 h => Ans.g h hW) Tw.pf ?_
               rintro v21 _ ⟨q21, d21, T21, rfl, C21, H21, F21, J21, rfl⟩
               obtain ⟨dj22_0, dj22_1, dj22_2⟩ : Dk g3 T21 ∧ Dj Kt T21 ∧ Dj Kl10 T21 := Tw.djf J21
               refine Tw.lv (v := .bool (decide (y < (b * (((lo + hi) + 1) / 2))))) rfl rfl (yb_call (f := 47) (args := #[.slice p12 ((cd y).length) c12, .slice q21 ((cd (b * (((lo + hi) + 1) / 2))).length) d21]) Tw.kf fun W hW => less_any y (b * (((lo + hi) + 1) / 2)) p12 q21 c12 d21 Tw.om W (((ns_trim HN12 ((show dOk [x7] from fun z hz => by cases List.mem_singleton.1 hz; exact lx7).app (cd_ok r)) ((dv_cons x7 r).trans hy.symm)).mono Tw.sb) W hW) ((H21.mono Tw.sb) W hW)) ?_
               refine wpL_done (fun W23 hW23 => ?_)
               change Code.wp ..
               cases hd5 : (decide (y < (b * (((lo + hi) + 1) / 2)))) with
               | false =>
                 have h5 : ¬ (y < (b * (((lo + hi) + 1) / 2))) := of_decide_eq_false hd5
                 clear hd5
                 refine wp_cond_false rfl ?_
                 refine wp_region_L _ hW23 ?_
                 refine Tw.mm (.int .i64 (((((lo + hi) + 1) / 2) : Nat) : Int)) ?_
                 refine Tw.mm (.int .i64 (((((lo + hi) + 1) / 2) : Nat) : Int)) ?_
                 refine wpL_done (fun W24 hW24 => ?_)
                 go_roundw
                 case rel =>
                   repeat apply Exists.intro
                   exact ⟨⟨(((lo + hi) + 1) / 2), hi, (mid_geq hb h5), hhi, Tw.om, rfl, rfl, (hW24.sub Tw.sb)⟩, rfl⟩
                 case measure => (show (intOf (.int .i64 ((hi : Nat) : Int)) - intOf (.int .i64 (((((lo + hi) + 1) / 2) : Nat) : Int))).toNat < (intOf (.int .i64 ((hi : Nat) : Int)) - intOf (.int .i64 ((lo : Nat) : Int))).toNat); simp only [intOf]; omega
               | true =>
                 have h5 : y < (b * (((lo + hi) + 1) / 2)) := of_decide_eq_true hd5
                 clear hd5
                 refine wp_cond_true rfl ?_
                 refine wp_region_L _ hW23 ?_
                 refine Tw.mm (.int .i64 (((((lo + hi) + 1) / 2) : Nat) : Int)) ?_
                 refine Tw.lp (v := .int .i64 ((((((lo + hi) + 1) / 2) - 1) : Nat) : Int)) rfl rfl (run_bin rfl (vx := (.int .i64 (((((lo + hi) + 1) / 2) : Nat) : Int))) (vy := (.int .i64 ((1 : Nat) : Int))) Tw.kr Tw.kr fun w => bn_sub (z := ((((lo + hi) + 1) / 2) - 1)) rfl Tw.om (wr_i64 Tw.om) w) ?_
                 refine Tw.mm (.int .i64 ((((((lo + hi) + 1) / 2) - 1) : Nat) : Int)) ?_
                 refine wpL_done (fun W25 hW25 => ?_)
                 go_roundw
                 case rel =>
                   repeat apply Exists.intro
                   exact ⟨⟨lo, ((((lo + hi) + 1) / 2) - 1), hlo, (by have := mid_less hb h5; omega), Tw.om, rfl, rfl, (hW25.sub Tw.sb)⟩, rfl⟩
                 case measure => (show (intOf (.int .i64 ((((((lo + hi) + 1) / 2) - 1) : Nat) : Int)) - intOf (.int .i64 ((lo : Nat) : Int))).toNat < (intOf (.int .i64 ((hi : Nat) : Int)) - intOf (.int .i64 ((lo : Nat) : Int))).toNat); simp only [intOf]; omega
     | true =>
       have h2 : z < 0 := of_decide_eq_true hd2
       clear hd2
       refine wp_cond_false rfl ?_
       refine wp_exit ?_
       change Code.wp ..
       refine wp_seq ?_
       obtain rfl : k = 0 := by omega
       have hQ : dv O = a / b := cd_quo a b O hOv
       have hR2 : r = a % b := by rw [hr, List.drop_zero, dv_cd]
       clear hr
       subst hR2
       refine wp_region_L _ hW8 ?_
       refine Tw.mm (.slice (some ⟨g3, 0, none⟩) ((((cd a).length) - ((cd b).length)) + 1) ((((cd a).length) - ((cd b).length)) + 1)) ?_
       refine Tw.lv (v := .slice (some ⟨g3, 0, none⟩) ((cd (a / b)).length) ((((cd a).length) - ((cd b).length)) + 1)) rfl rfl (yb_call (f := 81) (args := #[.slice (some ⟨g3, 0, none⟩) ((((cd a).length) - ((cd b).length)) + 1) ((((cd a).length) - ((cd b).length)) + 1)]) Tw.kf fun W hW => trim_any O (a / b) ((((cd a).length) - ((cd b).length)) + 1) (some ⟨g3, 0, none⟩) ((((cd a).length) - ((cd b).length)) + 1) hOk hQ hOl.symm (Nat.le_refl _) Tw.om W (((show NS (w : Base) (some ⟨g3, 0, none⟩) O [(g3, .cells (nums O).toArray 3 (0, 0))] from ns_blk).mono Tw.sb) W hW)) ?_
       refine Tw.mm (.slice pr ((cd (a % b)).length) cr) ?_
       refine Tw.mm (.slice (some ⟨g3, 0, none⟩) ((cd (a / b)).length) ((((cd a).length) - ((cd b).length)) + 1)) ?_
       refine Tw.mm (.slice pr ((cd (a % b)).length) cr) ?_
       refine wpL_done (fun W26 hW26 => ?_)
       change Code.wp ..
       refine wp_ret ?_
       try simp only [inBlock_ret, then_ret]
       refine bodyPost_ret (v := .tuple #[.slice (some ⟨g3, 0, none⟩) ((cd (a / b)).length) ((((cd a).length) - ((cd b).length)) + 1), .slice pr ((cd (a % b)).length) cr]) ?_ rfl ?_
       · kernel_rfl
       · exact ⟨_, _, _, _, rfl, (Nat.le_trans (cd_trim_le hOk hQ hOl.symm) (Nat.le_refl _)), hcr, (((ns_trim (show NS (w : Base) (some ⟨g3, 0, none⟩) O [(g3, .cells (nums O).toArray 3 (0, 0))] from ns_blk) hOk hQ).mono Tw.sb)) _ hW26, ((HR.mono Tw.sb)) _ hW26, hW26.1⟩
 | true =>
   have h1 : a < b := of_decide_eq_true hd1
   clear hd1
   have ha := h1
   refine wp_cond_true rfl ?_
   refine wp_seq ?_
   refine wp_region_L _ hW2 ?_
   refine Tw.mm (.slice p ((cd a).length) c) ?_
   refine Tw.mm (.slice none 0 0) ?_
   refine Tw.mm (.slice p ((cd a).length) c) ?_
   refine wpL_done (fun W27 hW27 => ?_)
   change Code.wp ..
   refine wp_ret ?_
   try simp only [inBlock_ret, then_ret]
   refine bodyPost_ret (v := .tuple #[.slice none 0 0, .slice p ((cd a).length) c]) ?_ rfl ?_
   · kernel_rfl
   · exact (by rw [(div_none ha).1, (div_none ha).2]; exact ⟨none, 0, p, c, rfl, Nat.zero_le _, hc, .inl rfl, (HP.mono (fun q hq => by cases hq)) _ (hW27.sub (fun q hq => hq)), hW27.1⟩)
end Go.Proofs.YtalmflgkbmnghaaGreatDoor
namespace Go.Proofs.YtalmflgkbmnghaaGreatDoor
open Go Go.RowKit Tw
noncomputable def valOf (w : World) (v : Value) : Nat := Classical.epsilon fun y => ∃ p c, v = .slice p (cd y).length c ∧ SLV w p (nums (cd y))
theorem nums_inj : ∀ {l m : List Nat}, nums l = nums m → l = m
 | [], [], _ => rfl
 | [], _ :: _, h => by simp [nums] at h
 | _ :: _, [], h => by simp [nums] at h
 | x :: r, y :: q, h => by
   simp only [nums, List.map_cons, List.cons.injEq, Value.int.injEq, true_and] at h
   have e : x = y := by omega
   rw [e, nums_inj (l := r) (m := q) h.2]
theorem slv_same {w : World} {p : Option Addr} {l m : List Nat} (h : SLV w p (nums l)) (h2 : SLV w p (nums m)) (hl : l.length = m.length) : l = m := by
 rcases h with h | ⟨b, off, rfl, _, hc⟩
 · have : l = [] := nums_inj (h.trans rfl)
   subst this
   exact (List.eq_nil_of_length_eq_zero (by simpa using hl.symm)).symm
 · rcases h2 with h2 | ⟨b2, off2, e, _, hc2⟩
   · have : m = [] := nums_inj (h2.trans rfl)
     subst this
     exact List.eq_nil_of_length_eq_zero (by simpa using hl)
   · cases e
     refine nums_inj (List.ext_getElem? fun i => ?_)
     rcases Nat.lt_or_ge i l.length with hi | hi
     · obtain ⟨u, hu⟩ : ∃ u, (nums l)[i]? = some u := ⟨_, List.getElem?_eq_getElem (by rw [nums_len]; exact hi)⟩
       obtain ⟨v, hv⟩ : ∃ u, (nums m)[i]? = some u := ⟨_, List.getElem?_eq_getElem (by rw [nums_len]; omega)⟩
       have e1 := hc i u hu
       have e2 := hc2 i v hv
       rw [e1] at e2
       rw [hu, hv, Option.some.inj e2]
     · rw [List.getElem?_eq_none (by rw [nums_len]; exact hi), List.getElem?_eq_none (by rw [nums_len]; omega)]
theorem valOf_eq {w : World} {p : Option Addr} {c y : Nat} (h : SLV w p (nums (cd y))) : valOf w (.slice p (cd y).length c) = y := by
 have hs := Classical.epsilon_spec (p := fun z => ∃ p' c', (Value.slice p (cd y).length c) = .slice p' (cd z).length c' ∧ SLV w p' (nums (cd z))) ⟨y, p, c, rfl, h⟩
 show Classical.epsilon (fun z => ∃ p' c', (Value.slice p (cd y).length c) = .slice p' (cd z).length c' ∧ SLV w p' (nums (cd z))) = y
 revert hs
 generalize Classical.epsilon (fun z => ∃ p' c', (Value.slice p (cd y).length c) = .slice p' (cd z).length c' ∧ SLV w p' (nums (cd z))) = z
 rintro ⟨p', c', e, hz⟩
 injection e with e1 e2 e3
 subst e1
 have := congrArg dv (slv_same hz h e2.symm)
 rwa [dv_cd, dv_cd] at this
theorem cd_mod_len {x y n : Nat} (h0 : 0 < y) (h : (cd y).length ≤ n) : (cd (x % y)).length ≤ n := by
 exact cd_le.2 (Nat.lt_trans (Nat.mod_lt x h0) (cd_le.1 h))
theorem gcd_end {x y g : Nat} (h : Nat.gcd x y = g) (hy : (cd y).length = 0) : x = g := by
 rw [cd_len0.1 hy, Nat.gcd_zero_right] at h
 exact h
set_option maxRecDepth 100000 in
set_option maxHeartbeats 4000000 in
theorem common_any (a b : Nat) (p q : Option Addr) (c d : Nat) (la : (cd a).length ≤ 90000) (lb : (cd b).length ≤ 90000) (hca : (cd a).length ≤ c) (hcb : (cd b).length ≤ d) (w : World) (hp : SLV w p (nums (cd a))) (hq : SLV w q (nums (cd b))) : Calls Tryz.prog 51 #[.slice p (cd a).length c, .slice q (cd b).length d] w fun e w' => AnsV w (cd (Nat.gcd a b)) e w' := by
 have HP : NS (w : Base) p (cd a) [] := NS.base hp
 have HQ : NS (w : Base) q (cd b) [] := NS.base hq
 clear hp hq
 go_enter Tryz.func51, Tryz.ntmps51
 refine wp_seq ?_
 refine wp_region_L [] (KS.start w) ?_
 refine Tw.mm (.slice none 0 0) ?_
 refine wpL_done (fun W1 hW1 => ?_)
 change Code.wp ..
 refine wp_seq ?_
 refine wp_block ?_
 go_loopw [0, 1] (fun u0 u1 wr => ∃ (x y : Nat) (px py : Option Addr) (cx cy : Nat) (Kt : List (Nat × Obj)), (NS (w : Base) px (cd x) Kt) ∧ (NS (w : Base) py (cd y) Kt) ∧ ((cd x).length ≤ cx) ∧ ((cd y).length ≤ cy) ∧ (Nat.gcd x y = Nat.gcd a b) ∧ ((cd x).length ≤ 90000) ∧ ((cd y).length ≤ 90000) ∧ u0 = .slice px ((cd x).length) cx ∧ u1 = .slice py ((cd y).length) cy ∧ KS w Kt wr) (fun _ u1 wz => valOf wz u1)
 case atStart => exact ⟨a, b, p, q, c, d, [], HP, HQ, hca, hcb, rfl, la, lb, rfl, rfl, (hW1.sub Tw.sb)⟩
 case round =>
   obtain ⟨x, y, px, py, cx, cy, Kt, HX, HY, hcx, hcy, hg, hlx, hly, rfl, rfl, hL2⟩ := hrel
   refine wp_seq ?_
   refine wp_seq ?_
   refine wp_region_L _ hL2 ?_
   refine Tw.mm (.slice py ((cd y).length) cy) ?_
   refine Tw.lp (v := .int .i64 ((((cd y).length) : Nat) : Int)) rfl rfl (run_lenL (p := py) (cap := cy) (n := ((cd y).length)) rfl Tryz.underlying32 Tw.kr) ?_
   refine Tw.lp (v := .bool (decide (0 < ((cd y).length)))) rfl rfl (run_bin rfl (vx := (.int .i64 ((((cd y).length) : Nat) : Int))) (vy := (.int .i64 ((0 : Nat) : Int))) Tw.kr Tw.kr fun w => bn_gtr rfl w) ?_
   refine wpL_done (fun W3 hW3 => ?_)
   change Code.wp ..
   cases hd1 : (decide (0 < ((cd y).length))) with
   | false =>
     have h1 : ¬ (0 < ((cd y).length)) := of_decide_eq_false hd1
     clear hd1
     refine wp_cond_false rfl ?_
     refine wp_exit ?_
     change Code.wp ..
     refine wp_seq ?_
     refine wp_region_L _ hW3 ?_
     refine Tw.mm (.slice px ((cd x).length) cx) ?_
     refine Tw.mm (.slice px ((cd x).length) cx) ?_
     refine wpL_done (fun W4 hW4 => ?_)
     change Code.wp ..
     refine wp_ret ?_
     try simp only [inBlock_ret, then_ret]
     refine bodyPost_ret (v := .slice px ((cd x).length) cx) ?_ rfl ?_
     · kernel_rfl
     · exact (gcd_end hg Tw.om ▸ ⟨_, _, rfl, hcx, ((HX.mono Tw.sb)) _ hW4, hW4.1⟩)
   | true =>
     have h1 : 0 < ((cd y).length) := of_decide_eq_true hd1
     clear hd1
     refine wp_cond_true rfl ?_
     refine wp_skip ?_
     change Code.wp ..
     refine wp_block ?_
     refine wp_seq ?_
     refine wp_region_L _ hW3 ?_
     refine Tw.mm (.slice px ((cd x).length) cx) ?_
     refine Tw.mm (.slice py ((cd y).length) cy) ?_
     refine wpL_c (f := 61) (args := #[.slice px ((cd x).length) cx, .slice py ((cd y).length) cy]) (AnsW2 w Kt (cd (x / y)) (cd (x % y))) rfl Tw.kr Tw.kf (fun W hW => (div_any x y px py cx cy (cd_pos' Tw.om) hlx hcx W ((HX.mono Tw.sb) W hW) ((HY.mono Tw.sb) W hW)).mono fun e w2 h => Ans2.g h hW) Tw.pf ?_
     rintro v1 _ ⟨q1, d1, r1, g1, T1, rfl, C1, E1, H1, G1, rfl⟩
     refine Tw.mm (.tuple #[.slice q1 ((cd (x / y)).length) d1, .slice r1 ((cd (x % y)).length) g1]) ?_
     refine Tw.mm (.slice q1 ((cd (x / y)).length) d1) ?_
     refine Tw.mm (.slice r1 ((cd (x % y)).length) g1) ?_
     refine Tw.mm (.slice q1 ((cd (x / y)).length) d1) ?_
     refine Tw.mm (.slice r1 ((cd (x % y)).length) g1) ?_
     refine wpL_done (fun W5 hW5 => ?_)
     change Code.wp ..
     refine wp_region_L _ hW5 ?_
     refine Tw.mm (.slice py ((cd y).length) cy) ?_
     refine Tw.mm (.slice r1 ((cd (x % y)).length) g1) ?_
     refine Tw.mm (.slice py ((cd y).length) cy) ?_
     refine Tw.mm (.slice r1 ((cd (x % y)).length) g1) ?_
     refine wpL_done (fun W6 hW6 => ?_)
     go_roundw
     case rel =>
       repeat apply Exists.intro
       exact ⟨⟨y, (x % y), py, r1, cy, g1, (Kt ++ T1), (HY.mono Tw.sb), (G1.mono Tw.sb), hcy, E1, ((Nat.gcd_comm y ((x % y))).trans ((Nat.gcd_rec y x).symm.trans ((Nat.gcd_comm y x).trans hg))), hly, (cd_mod_len (cd_pos' Tw.om) hly), rfl, rfl, (hW6.sub Tw.sb)⟩, rfl⟩
     case measure => show valOf _ (.slice r1 ((cd (x % y)).length) g1) < valOf _ (.slice py ((cd y).length) cy); rw [valOf_eq ((G1.mono Tw.sb) _ hW6), valOf_eq (HY _ hL2)]; exact Nat.mod_lt _ (cd_pos' Tw.om)
end Go.Proofs.YtalmflgkbmnghaaGreatDoor
