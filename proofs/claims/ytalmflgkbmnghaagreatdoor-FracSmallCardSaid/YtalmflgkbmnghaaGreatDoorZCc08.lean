import Derived.Test.YtalmflgkbmnghaaGreatDoorRM00
import Derived.Test.YtalmflgkbmnghaaGreatDoorZCc07
import Derived.Test.YtalmflgkbmnghaaGreatDoorRM04
/- Part of the proof: YW, YX, YY, ZA, YZ. -/
set_option linter.unusedVariables false
set_option linter.unusedSimpArgs false
set_option linter.unusedSectionVars false
namespace Go.Proofs.YtalmflgkbmnghaaGreatDoor
open Go Go.RowKit Tw
open Tf (dg R R_pos R_le R_succ dg_of_lt setd setd_eq)
variable [ShLZ]
variable [ShSt]
theorem fcs_take {l : List Fr} {i : Nat} {s : Bool} {n d : Nat} (hx : l[i]? = some (s, n, d)) : l.take i ++ [(s, n, d)] = l.take (i + 1) := by
 rw [List.take_add_one, hx]; rfl
set_option maxRecDepth 100000 in
set_option maxHeartbeats 20000000 in
theorem lsums_any (l : List Fr) (p : Option Addr) (c : Nat) (hok : ∀ x ∈ l, frOk x) (w : World) (hE : Env w) (hp : SLV w p (fcs l)) : Calls Tryz.prog 10 #[.slice p l.length c] w fun e w' => e = .returned (.bool true) ∧ Below w.heap.size w w' := by
 have HP : FS (w : Base) p l [] := FS.base hp
 clear hp
 have HE := Lib.hid hE
 clear hE
 go_enter Tryz.func10, Tryz.ntmps10
 refine wp_seq ?_
 refine wp_region_L [] (KS.start w) ?_
 refine Tw.mm (.bool false) ?_
 refine wpL_done (fun W1 hW1 => ?_)
 change Code.wp ..
 refine wp_seq ?_
 refine wp_seq ?_
 refine wp_region_L _ hW1 ?_
 refine Tw.mm (.slice p l.length c) ?_
 refine Tw.lp (v := .int .i64 ((l.length : Nat) : Int)) rfl rfl (run_lenL (p := p) (cap := c) (n := l.length) rfl Tryz.underlying29 Tw.kr) ?_
 refine Tw.lp (v := .bool (decide (20 < l.length))) rfl rfl (run_bin rfl (vx := (.int .i64 ((l.length : Nat) : Int))) (vy := (.int .i64 ((20 : Nat) : Int))) Tw.kr Tw.kr fun w => bn_gtr rfl w) ?_
 refine wpL_done (fun W2 hW2 => ?_)
 change Code.wp ..
 cases hd1 : (decide (20 < l.length)) with
 | false =>
   have h1 : ¬ (20 < l.length) := of_decide_eq_false hd1
   clear hd1
   refine wp_cond_false rfl ?_
   refine wp_skip ?_
   change Code.wp ..
   refine wp_seq ?_
   refine wp_region_L _ hW2 ?_
   refine Tw.mm (.slice none 0 0) ?_
   refine wpL_done (fun W3 hW3 => ?_)
   change Code.wp ..
   refine wp_seq ?_
   refine wp_seq ?_
   refine wp_region_L _ hW3 ?_
   refine Tw.mm (.slice p l.length c) ?_
   refine Tw.lp (v := .int .i64 ((l.length : Nat) : Int)) rfl rfl (run_lenL (p := p) (cap := c) (n := l.length) rfl Tryz.underlying29 Tw.kr) ?_
   refine Tw.mm (.int .i64 0) ?_
   refine wpL_done (fun W4 hW4 => ?_)
   change Code.wp ..
   refine wp_block ?_
   go_loopw [17, 3] (fun u17 u3 wr => ∃ (i : Nat) (vo : Value) (Ko : List (Nat × Obj)), (i ≤ l.length) ∧ (OwnL (w : Base) 34 17 vo i (fcs (l.take i)) Ko) ∧ u17 = .int .i64 ((i : Nat) : Int) ∧ vo = u3 ∧ KS w Ko wr) (fun u17 _ _ => l.length - (intOf u17).toNat)
   case atStart => exact ⟨0, (.slice none 0 0), [], (Nat.zero_le _), (OwnL.nil _ _ _), rfl, rfl, (hW4.sub Tw.sb)⟩
   case round =>
     obtain ⟨i, vo, Ko, hi, hO, rfl, rfl, hL5⟩ := hrel
     refine wp_seq ?_
     refine wp_region_L _ hL5 ?_
     refine Tw.lp (v := .bool (decide (i < l.length))) rfl rfl (run_bin rfl (vx := (.int .i64 ((i : Nat) : Int))) (vy := (.int .i64 ((l.length : Nat) : Int))) Tw.kr Tw.kr fun w => bn_lss rfl w) ?_
     refine wpL_done (fun W6 hW6 => ?_)
     change Code.wp ..
     refine wp_seq ?_
     cases hd2 : (decide (i < l.length)) with
     | false =>
       have h2 : ¬ (i < l.length) := of_decide_eq_false hd2
       clear hd2
       refine wp_cond_false rfl ?_
       refine wp_exit ?_
       change Code.wp ..
       refine wp_seq ?_
       obtain rfl : i = l.length := by omega
       rw [List.take_length] at hO
       refine wp_region_L _ hW6 ?_
       refine wpL_new (fun g => .slice (some ⟨g, 0, none⟩) 0 0) (obi := .cells #[] 25 (0, 0)) rfl rfl Tw.kf Tw.pf fun g2 Bg2 Fg2 => ?_
       obtain dj3_0 : Dk g2 Ko := Tw.dkf Fg2
       refine Tw.mm (.slice p l.length c) ?_
       refine wpL_g (AppO w 25 17 Ko (0 + l.length) ((fcs []) ++ (fcs l))) rfl rfl (app_any el_frc (m := l.length) (news := (fcs l)) rfl Tw.kr Tw.kr (src_fs (c := c) Tryz.underlying29 (HP.mono Tw.sb) rfl) (own_none Bg2) (fun p hp => by cases List.mem_singleton.1 hp; exact Tw.m0) (fun p hp => ⟨by simp only [List.mem_cons, List.mem_append, List.nil_append, List.not_mem_nil, or_assoc, or_false, false_or] at hp ⊢ <;> grind, (show Dj Ko [(g2, .cells #[] 25 (0, 0))] from Tw.djt) p hp⟩) Tw.om Tw.om) Tw.pf ?_
       rintro v4 K9 ⟨Kl4, O4, N4, rfl⟩
       replace O4 : OwnL w 25 17 v4 l.length (fcs l) Kl4 := by rw [Nat.zero_add] at O4; exact O4
       obtain dj5_0 : Dj Ko Kl4 := Tw.djf N4
       refine Tw.mm v4 ?_
       refine wpL_done (fun W7 hW7 => ?_)
       change Code.wp ..
       refine wp_seq ?_
       refine wp_region_L _ hW7 ?_
       refine Tw.mm v4 ?_
       obtain ⟨p6, c6, rfl, hc6, HN6⟩ := own_fs O4
       obtain ⟨sv, nv, dv, ev, hpv, lnv, ldv⟩ := sumV_shape l
       refine Tw.lv (v := .tuple #[.agg (frcC sv nv dv), .int .i64 ev]) rfl rfl (yb_call (f := 35) (args := #[.slice p6 l.length c6]) Tw.kf fun W hW => (by have h := psum_any l p6 c6 Tw.om hok W ((HN6.mono Tw.sb) W hW); rw [hpv] at h; exact h)) ?_
       refine Tw.mm (.tuple #[.agg (frcC sv nv dv), .int .i64 ev]) ?_
       refine Tw.mm (.agg (frcC sv nv dv)) ?_
       refine Tw.mm (.int .i64 ev) ?_
       refine wpL_new (fun g => .pointer (some ⟨g, 0, none⟩)) (obi := .cells (frcC false 0 0) 25 (0, 0)) rfl rfl Tw.kf Tw.pf fun g7 Bg7 Fg7 => ?_
       obtain ⟨dj8_0, dj8_1⟩ : Dk g7 Ko ∧ Dk g7 Kl4 := Tw.dkf Fg7
       refine wpL_s ((g7, .cells (frcC sv nv dv) 25 (0, 0)) :: (Ko ++ Kl4)) rfl rfl (st_all zfz (by exact frc_onec) rfl Tw.kr Tw.kr Tw.m0 Bg7 zfs (List.forall_mem_cons.2 ⟨.inl rfl, (fun p hp => .inr ⟨(.tail _ hp), ((show Dk g7 (Ko ++ Kl4) from Tw.djt) _ hp)⟩)⟩)) ?_
       refine Tw.mm (.int .i64 ev) ?_
       refine wpL_done (fun W8 hW8 => ?_)
       change Code.wp ..
       refine wp_seq ?_
       refine wp_region_L _ hW8 ?_
       refine Tw.mm vo ?_
       obtain ⟨p9, c9, rfl, hc9, HN9⟩ := own_fs hO
       refine Tw.lv (v := .tuple #[.agg (frcC sv nv dv), .int .i64 ev]) rfl rfl (yb_call (f := 36) (args := #[.slice p9 l.length c9]) Tw.kf fun W hW => (by have h := rsum_any l p9 c9 Tw.om hok W ((HN9.mono Tw.sb) W hW); rw [hpv] at h; exact h)) ?_
       refine Tw.mm (.tuple #[.agg (frcC sv nv dv), .int .i64 ev]) ?_
       refine Tw.mm (.agg (frcC sv nv dv)) ?_
       refine Tw.mm (.int .i64 ev) ?_
       refine wpL_new (fun g => .pointer (some ⟨g, 0, none⟩)) (obi := .cells (frcC false 0 0) 34 (0, 0)) rfl rfl Tw.kf Tw.pf fun g10 Bg10 Fg10 => ?_
       obtain ⟨dj11_0, dj11_1, dj11_2⟩ : g7 ≠ g10 ∧ Dk g10 Ko ∧ Dk g10 Kl4 := Tw.dkf Fg10
       refine wpL_s ((g10, .cells (frcC sv nv dv) 34 (0, 0)) :: (g7, .cells (frcC sv nv dv) 25 (0, 0)) :: (Ko ++ Kl4)) rfl rfl (st_all zfz (by exact frc_onec) rfl Tw.kr Tw.kr Tw.m0 Bg10 zfs (List.forall_mem_cons.2 ⟨.inl rfl, (List.forall_mem_cons.2 ⟨.inr ⟨Tw.m1, Tw.nee⟩, (fun p hp => .inr ⟨(.tail _ (.tail _ hp)), ((show Dk g10 (Ko ++ Kl4) from Tw.djt) _ hp)⟩)⟩)⟩)) ?_
       refine Tw.mm (.int .i64 ev) ?_
       refine wpL_done (fun W9 hW9 => ?_)
       change Code.wp ..
       refine wp_seq ?_
       refine wp_seq ?_
       refine wp_region_L _ hW9 ?_
       refine Tw.mm (.slice p l.length c) ?_
       refine Tw.lp (v := .int .i64 ((l.length : Nat) : Int)) rfl rfl (run_lenL (p := p) (cap := c) (n := l.length) rfl Tryz.underlying29 Tw.kr) ?_
       refine Tw.mm (.int .i64 0) ?_
       refine wpL_done (fun W10 hW10 => ?_)
       change Code.wp ..
       refine wp_block ?_
       go_loopw [41] (fun u41 wr => ∃ (i2 : Nat), (i2 ≤ l.length) ∧ u41 = .int .i64 ((i2 : Nat) : Int) ∧ KS w ((g10, .cells (frcC sv nv dv) 34 (0, 0)) :: (g7, .cells (frcC sv nv dv) 25 (0, 0)) :: (Ko ++ Kl4)) wr) (fun u41 _ => l.length - (intOf u41).toNat)
       case atStart => exact ⟨0, (Nat.zero_le _), rfl, (hW10.sub Tw.sb)⟩
       case round =>
         obtain ⟨i2, hi2, rfl, hL11⟩ := hrel
         refine wp_seq ?_
         refine wp_region_L _ hL11 ?_
         refine Tw.lp (v := .bool (decide (i2 < l.length))) rfl rfl (run_bin rfl (vx := (.int .i64 ((i2 : Nat) : Int))) (vy := (.int .i64 ((l.length : Nat) : Int))) Tw.kr Tw.kr fun w => bn_lss rfl w) ?_
         refine wpL_done (fun W12 hW12 => ?_)
         change Code.wp ..
         refine wp_seq ?_
         cases hd3 : (decide (i2 < l.length)) with
         | false =>
           have h3 : ¬ (i2 < l.length) := of_decide_eq_false hd3
           clear hd3
           refine wp_cond_false rfl ?_
           refine wp_exit ?_
           change Code.wp ..
           refine wp_seq ?_
           refine wp_region_L _ hW12 ?_
           refine Tw.lv (v := .agg (frcC sv nv dv)) rfl rfl (yb_all rfl Tw.kr Tw.m1 Tryz.underlying25 rfl zfs) ?_
           refine Tw.mm (.int .i64 ev) ?_
           refine Tw.lv (v := .agg (frcC sv nv dv)) rfl rfl (yb_all rfl Tw.kr Tw.m0 Tryz.underlying34 rfl zfs) ?_
           refine Tw.mm (.int .i64 ev) ?_
           refine Tw.lv (v := .bool true) rfl rfl (yb_call (f := 19) (args := #[.agg (frcC sv nv dv), .int .i64 ev, .agg (frcC sv nv dv), .int .i64 ev]) Tw.kf fun W hW => pair_same sv nv dv ev lnv ldv W) ?_
           refine Tw.mm (.bool true) ?_
           refine wpL_done (fun W13 hW13 => ?_)
           change Code.wp ..
           refine wp_ret ?_
           try simp only [inBlock_ret, then_ret]
           refine bodyPost_ret (v := .bool true) ?_ rfl ?_
           · kernel_rfl
           · exact ⟨rfl, hW13.1⟩
         | true =>
           have h3 : i2 < l.length := of_decide_eq_true hd3
           clear hd3
           refine wp_cond_true rfl ?_
           refine wp_skip ?_
           change Code.wp ..
           refine wp_seq ?_
           refine wp_block ?_
           refine wp_seq ?_
           refine wp_region_L _ hW12 ?_
           refine Tw.mm (.int .i64 ((i2 : Nat) : Int)) ?_
           refine Tw.mm (.int .i64 ((i2 : Nat) : Int)) ?_
           refine wpL_done (fun W14 hW14 => ?_)
           change Code.wp ..
           refine wp_seq ?_
           refine wp_region_V _ Tw.kr hW14 ?_
           refine vm (i := 0) (v := .slice p6 l.length c6) rfl rfl rfl ?_
           refine vm (i := 1) (v := .int .i64 ((i2 : Nat) : Int)) rfl rfl rfl ?_
           obtain ⟨b12, f12, hp12, hc12⟩ := (HN6.mono Tw.sb).at hW14 (k := i2) Tw.om
           refine vp (i := 2) (v := .pointer (some ⟨b12, f12 + i2 * 17, none⟩)) rfl rfl rfl (run_idxQ (p := p6) (cap := c6) (n := l.length) (j := .i64) (k := i2) (sz := 17) rfl Tryz.underlying29 Tw.kr Tw.kr hp12 Tw.kr Tw.om) ?_
           obtain ⟨⟨es13, en13, ed13⟩, hx13⟩ : ∃ x, (l : List Fr)[i2]? = some x := ⟨_, List.getElem?_eq_getElem Tw.om⟩
           have eb13 : en13 < R 8 ∧ ed13 < R 8 := hok _ (List.mem_of_getElem? hx13)
           refine vv (i := 3) (v := .agg (frcC es13 en13 ed13)) rfl rfl rfl (yb_fr (off := f12 + i2 * 17) rfl Tw.kr (fun W hW j v hv => hc12 W (hW.sub Tw.sb) i2 _ hx13 j v hv) Tryz.underlying25 rfl Tw.kr) ?_
           refine vm (i := 4) (v := .slice p l.length c) rfl rfl rfl ?_
           refine vm (i := 5) (v := .int .i64 ((i2 : Nat) : Int)) rfl rfl rfl ?_
           obtain ⟨b14, f14, hp14, hc14⟩ := HP.at (hW14.sub (fun q hq => by cases hq)) (k := i2) Tw.om
           refine vp (i := 6) (v := .pointer (some ⟨b14, f14 + i2 * 17, none⟩)) rfl rfl rfl (run_idxQ (p := p) (cap := c) (n := l.length) (j := .i64) (k := i2) (sz := 17) rfl Tryz.underlying29 Tw.kr Tw.kr hp14 Tw.kr Tw.om) ?_
           refine vb (i := 7) (v := .agg (frcC es13 en13 ed13)) rfl rfl rfl (yb_fr (off := f14 + i2 * 17) rfl Tw.kr (fun W hW j v hv => hc14 W hW i2 _ hx13 j v hv) Tryz.underlying25 rfl Tw.kr) ?_
           refine vp (i := 8) (v := .bool false) rfl rfl rfl (run_bin rfl (vx := .agg (frcC es13 en13 ed13)) (vy := .agg (frcC es13 en13 ed13)) Tw.kr Tw.kr fun w => run_neq27s eb13.1 eb13.2 w) ?_
           refine wpV_done Tw.kr (fun W15 hW15 => ?_) _
           change Code.wp ..
           refine wp_cond_false rfl ?_
           refine wp_skip ?_
           change Code.wp ..
           refine wp_region_L _ hW15 ?_
           refine Tw.lp (v := .int .i64 (((i2 + 1) : Nat) : Int)) rfl rfl (run_bin rfl (vx := (.int .i64 ((i2 : Nat) : Int))) (vy := (.int .i64 ((1 : Nat) : Int))) Tw.kr Tw.kr fun w => bn_add (z := (i2 + 1)) rfl (wr_i64 Tw.om) w) ?_
           refine Tw.mm (.int .i64 (((i2 + 1) : Nat) : Int)) ?_
           refine wpL_done (fun W16 hW16 => ?_)
           go_roundw
           case rel =>
             repeat apply Exists.intro
             exact ⟨⟨i2 + 1, Tw.om, rfl, (hW16.sub Tw.sb)⟩, rfl⟩
           case measure => (show l.length - (intOf (.int .i64 (((i2 + 1) : Nat) : Int))).toNat < l.length - (intOf (.int .i64 ((i2 : Nat) : Int))).toNat); simp only [intOf]; omega
     | true =>
       have h2 : i < l.length := of_decide_eq_true hd2
       clear hd2
       refine wp_cond_true rfl ?_
       refine wp_skip ?_
       change Code.wp ..
       refine wp_seq ?_
       refine wp_block ?_
       refine wp_seq ?_
       refine wp_region_L _ hW6 ?_
       obtain ⟨b15, f15, hp15, hc15⟩ := HP.at (hW6.sub (fun q hq => by cases hq)) (k := i) Tw.om
       refine Tw.lp (v := .pointer (some ⟨b15, f15 + i * 17, none⟩)) rfl rfl (run_idxQ (p := p) (cap := c) (n := l.length) (j := .i64) (k := i) (sz := 17) rfl Tryz.underlying29 Tw.kr Tw.kr hp15 Tw.kr Tw.om) ?_
       obtain ⟨⟨es16, en16, ed16⟩, hx16⟩ : ∃ x, (l : List Fr)[i]? = some x := ⟨_, List.getElem?_eq_getElem Tw.om⟩
       have eb16 : en16 < R 8 ∧ ed16 < R 8 := hok _ (List.mem_of_getElem? hx16)
       refine Tw.lv (v := .agg (frcC es16 en16 ed16)) rfl rfl (yb_fr (off := f15 + i * 17) rfl Tw.kr (fun W hW j v hv => hc15 W (hW.sub (fun q hq => by cases hq)) i _ hx16 j v hv) Tryz.underlying25 rfl Tw.kr) ?_
       refine wpL_new (fun g => .pointer (some ⟨g, 0, none⟩)) (obi := .cells (frcC false 0 0) 25 (0, 0)) rfl rfl Tw.kf Tw.pf fun g17 Bg17 Fg17 => ?_
       obtain dj18_0 : Dk g17 Ko := Tw.dkf Fg17
       refine wpL_s ((g17, .cells (frcC es16 en16 ed16) 25 (0, 0)) :: Ko) rfl rfl (st_all zfz (by exact frc_onec) rfl Tw.kr Tw.kr Tw.m0 Bg17 zfs (List.forall_mem_cons.2 ⟨.inl rfl, (fun p hp => .inr ⟨(.tail _ hp), ((show Dk g17 Ko from Tw.djt) _ hp)⟩)⟩)) ?_
       refine wpL_done (fun W17 hW17 => ?_)
       change Code.wp ..
       refine wp_region_L _ hW17 ?_
       refine Tw.mm vo ?_
       refine Tw.lv (v := .agg (frcC es16 en16 ed16)) rfl rfl (yb_all rfl Tw.kr Tw.m0 Tryz.underlying25 rfl zfs) ?_
       refine wpL_new (fun g => .slice (some ⟨g, 0, none⟩) 1 1) (obi := .cells (frcC es16 en16 ed16) 34 (0, 0)) rfl rfl Tw.kf Tw.pf fun g19 Bg19 Fg19 => ?_
       obtain ⟨dj20_0, dj20_1⟩ : g17 ≠ g19 ∧ Dk g19 Ko := Tw.dkf Fg19
       refine wpL_g (AppO w 34 17 [(g17, .cells (frcC es16 en16 ed16) 25 (0, 0))] (i + 1) ((fcs (l.take i)) ++ (frcC es16 en16 ed16).toList)) rfl rfl (app_own el_rfc (m := 1) (c := 1) (news := (frcC es16 en16 ed16).toList) rfl Tw.kr Tw.kr Tw.m0 hO Tw.sc (fun p hp => ⟨by simp only [List.mem_cons, List.mem_append, List.nil_append, List.not_mem_nil, or_assoc, or_false, false_or] at hp ⊢ <;> grind, (show Dj [(g17, .cells (frcC es16 en16 ed16) 25 (0, 0))] Ko from Tw.djt) p hp⟩) (by simp [frcC]) (frc_onec) Tw.om Tw.om Tw.om) Tw.pf ?_
       rintro v21 K9 ⟨Kl21, O21, N21, rfl⟩
       replace O21 : OwnL w 34 17 v21 (i + 1) (fcs ((l.take i) ++ [(es16, en16, ed16)])) Kl21 := by rw [fcs_snoc]; exact O21
       obtain dj22_0 : Dk g17 Kl21 := Tw.djf N21
       refine Tw.mm v21 ?_
       refine wpL_done (fun W18 hW18 => ?_)
       change Code.wp ..
       refine wp_region_L _ hW18 ?_
       refine Tw.lp (v := .int .i64 (((i + 1) : Nat) : Int)) rfl rfl (run_bin rfl (vx := (.int .i64 ((i : Nat) : Int))) (vy := (.int .i64 ((1 : Nat) : Int))) Tw.kr Tw.kr fun w => bn_add (z := (i + 1)) rfl (wr_i64 Tw.om) w) ?_
       refine Tw.mm (.int .i64 (((i + 1) : Nat) : Int)) ?_
       refine wpL_done (fun W19 hW19 => ?_)
       go_roundw
       case rel =>
         repeat apply Exists.intro
         exact ⟨⟨i + 1, v21, Kl21, Tw.om, (by have h := O21; rw [fcs_take hx16] at h; exact h), rfl, rfl, (hW19.sub Tw.sb)⟩, rfl⟩
       case measure => (show l.length - (intOf (.int .i64 (((i + 1) : Nat) : Int))).toNat < l.length - (intOf (.int .i64 ((i : Nat) : Int))).toNat); simp only [intOf]; omega
 | true =>
   have h1 : 20 < l.length := of_decide_eq_true hd1
   clear hd1
   refine wp_cond_true rfl ?_
   refine wp_seq ?_
   refine wp_region_L _ hW2 ?_
   refine Tw.mm (.bool true) ?_
   refine wpL_done (fun W20 hW20 => ?_)
   change Code.wp ..
   refine wp_ret ?_
   try simp only [inBlock_ret, then_ret]
   refine bodyPost_ret (v := .bool true) ?_ rfl ?_
   · kernel_rfl
   · exact ⟨rfl, hW20.1⟩
end Go.Proofs.YtalmflgkbmnghaaGreatDoor
namespace Go.Proofs.YtalmflgkbmnghaaGreatDoor
open Go Go.RowKit Tw
open Tf (dg R R_pos R_le R_succ dg_of_lt setd setd_eq setd_lt va va_lt dg_va)
section
variable {W0 : Base} {T K : List (Nat × Obj)} {p : Option Addr} {l : List Fr}
theorem FS.take (h : FS W0 p l T) (k : Nat) : FS W0 p (l.take k) T := fun W hW => by
 have e : fcs (l.take k) = (fcs l).take (k * 17) := by
   have h1 : fcs l = fcs (l.take k) ++ fcs (l.drop k) := by rw [← fcs_app, List.take_append_drop]
   rcases Nat.lt_or_ge k l.length with h2 | h2
   · have hlk : (fcs (l.take k)).length = k * 17 := by rw [fcs_len, List.length_take]; congr 1; omega
     have e2 := List.take_left (l₁ := fcs (l.take k)) (l₂ := fcs (l.drop k))
     rw [hlk, ← h1] at e2
     exact e2.symm
   · rw [List.take_of_length_le h2, List.take_of_length_le (by rw [fcs_len]; omega)]
 rw [e]
 exact slv_take (h W hW) _
theorem FS.drop {W : World} {c k : Nat} (h : FS W0 p l T) (hW : KS W0 T W) (hc : l.length ≤ c) : FS W0 (if c = k then p else p.map (·.add (k * 17))) (l.drop k) T := by
 rcases Nat.lt_or_ge k l.length with h1 | h1
 · obtain ⟨b, off, rfl, h2⟩ := h.at hW h1
   rw [if_neg Tw.om]
   intro W2 hW2
   rcases h W2 hW2 with h0 | ⟨b', off', he, hlt, hc2⟩
   · exact absurd h0 (fcs_ne h1)
   · cases he
     refine .inr ⟨b, off + k * 17, by simp [addr_add], hlt, fun i u hu => ?_⟩
     have e : fcs l = fcs (l.take k) ++ fcs (l.drop k) := by rw [← fcs_app, List.take_append_drop]
     have hlk : (fcs (l.take k)).length = k * 17 := by rw [fcs_len, List.length_take]; congr 1; omega
     rw [Nat.add_assoc]
     refine hc2 _ u ?_
     rw [e, List.getElem?_append_right Tw.om, hlk, Nat.add_sub_cancel_left]
     exact hu
 · rw [List.drop_of_length_le h1]; exact fun _ _ => .inl rfl
theorem fs_blk {g : Nat} {E : TypeId} {fr : Nat × Nat} : FS W0 (some ⟨g, 0, none⟩) l [(g, .cells (fcs l).toArray E fr)] := fun W hW => by
 have hb := hW.2 _ Tw.m0
 rcases Nat.eq_zero_or_pos l.length with h0 | h0
 · rw [List.eq_nil_of_length_eq_zero h0]; exact .inl rfl
 · refine .inr ⟨g, 0, rfl, lt_of_block hb, fun i u hu => ?_⟩
   rw [cell_of_row W g (0 + i) (fcs l).toArray E fr hb, Nat.zero_add]
   simpa using hu
theorem own_rowf {E : TypeId} {g n : Nat} (hB : W0.B ≤ g) (hl : l.length = n) (hm : n ≤ 4000000000) : OwnL W0 E 17 (.slice (some ⟨g, 0, none⟩) n n) n (fcs l) [(g, .cells (fcs l).toArray E (0, 0))] :=
 .inr ⟨g, n, _, rfl, hB, ⟨by simp [fcs_len, hl], by unfold maxLen; omega, Nat.le_refl _, by simp [fcs_len, hl], by rw [← hl, ← fcs_len]; simp⟩, rfl⟩
end
section
variable {P : Program} {T E : TypeId}
theorem run_cut17 {o : Oper} {a : Act} {p : Option Addr} {n c i : Nat} {x p1 : Operand} {k1 : IntKind} (ho : o.op = .slice T x (some p1) none none) (hT : P.underlying T = some (.slice E)) (hsz : (P.info? E).map (·.size) = some 17) (hx : a.eval x = .slice p n c) (h1 : a.eval p1 = .int k1 ((i : Nat) : Int)) (hl : i ≤ n) (w : World) : (execOp a.eval o).run P w = .ok (.value (.slice (if c = i then p else p.map (·.add (i * 17))) (n - i) (c - i))) w := by
 unfold execOp
 rw [ho]
 have e1 := fun q => sl_bound (P := P) (k := k1) (c := q) hl w
 cases hq : P.info? E with
 | none => simp [hq] at hsz
 | some j =>
   have hs : j.size = 17 := by simpa [hq] using hsz
   simp [Instr.sliceAt, Instr.slice, Instr.sliceBounds, hx, h1, run_underlying hT, e1, Go.sizeOf, typeInfo, hq, hs]
theorem run_cut17b {o : Oper} {a : Act} {p : Option Addr} {n c i j : Nat} {x p1 p2 : Operand} {k1 k2 : IntKind} (ho : o.op = .slice T x (some p1) (some p2) none) (hT : P.underlying T = some (.slice E)) (hsz : (P.info? E).map (·.size) = some 17) (hx : a.eval x = .slice p n c) (h1 : a.eval p1 = .int k1 ((i : Nat) : Int)) (h2 : a.eval p2 = .int k2 ((j : Nat) : Int)) (hi : i ≤ j) (hj : j ≤ c) (w : World) : (execOp a.eval o).run P w = .ok (.value (.slice (if c = i then p else p.map (·.add (i * 17))) (j - i) (c - i))) w := by
 unfold execOp
 rw [ho]
 have e1 := fun q => sl_bound (P := P) (k := k1) (c := q) hi w
 have e2 := fun q => sl_bound (P := P) (k := k2) (c := q) hj w
 cases hq : P.info? E with
 | none => simp [hq] at hsz
 | some j =>
   have hs : j.size = 17 := by simpa [hq] using hsz
   simp [Instr.sliceAt, Instr.slice, Instr.sliceBounds, hx, h1, h2, run_underlying hT, e1, e2, Go.sizeOf, typeInfo, hq, hs]
end
theorem arr8 (c0 c1 c2 c3 c4 c5 c6 c7 : Nat) (h0 : c0 < 4294967296) (h1 : c1 < 4294967296) (h2 : c2 < 4294967296) (h3 : c3 < 4294967296) (h4 : c4 < 4294967296) (h5 : c5 < 4294967296) (h6 : c6 < 4294967296) (h7 : c7 < 4294967296) :
   ∃ X, X < R 8 ∧ (#[.int .u32 (c0 : Int), .int .u32 (c1 : Int), .int .u32 (c2 : Int), .int .u32 (c3 : Int), .int .u32 (c4 : Int), .int .u32 (c5 : Int), .int .u32 (c6 : Int), .int .u32 (c7 : Int)] : Array Value) = fa 8 (dg X) := by
 have hf : ∀ i, (fun i => [c0, c1, c2, c3, c4, c5, c6, c7].getD i 0) i < 4294967296 := by
   intro i
   match i with
   | 0 => exact h0 | 1 => exact h1 | 2 => exact h2 | 3 => exact h3 | 4 => exact h4 | 5 => exact h5 | 6 => exact h6 | 7 => exact h7
   | n + 8 => simp
 refine ⟨va (fun i => [c0, c1, c2, c3, c4, c5, c6, c7].getD i 0) 8, va_lt _ hf 8, ?_⟩
 have e : fa 8 (dg (va (fun i => [c0, c1, c2, c3, c4, c5, c6, c7].getD i 0) 8)) = fa 8 (fun i => [c0, c1, c2, c3, c4, c5, c6, c7].getD i 0) := fa_congr fun j hj => dg_va _ hf 8 j hj
 rw [e]
 rfl
theorem or_bit {a s : Nat} (h : a < 2 ^ s) (hs : s < 32) : bits .or .u32 (a : Int) ((1 * 2 ^ s : Nat) : Int) = ((a + 2 ^ s : Nat) : Int) := by
 rw [Nat.one_mul]
 have hp : 2 ^ s ≤ 2 ^ 31 := Nat.pow_le_pow_right Tw.om Tw.om
 have h1 : bits .or .u32 (a : Int) ((2 ^ s : Nat) : Int) = IntKind.u32.wrap ((BitVec.ofInt 32 (a : Int) ||| BitVec.ofInt 32 ((2 ^ s : Nat) : Int)).toNat : Int) := rfl
 rw [h1, BitVec.toNat_or, BitVec.ofInt_natCast, BitVec.ofInt_natCast, BitVec.toNat_ofNat, BitVec.toNat_ofNat, Nat.mod_eq_of_lt Tw.om, Nat.mod_eq_of_lt Tw.om, Nat.or_comm]
 have h2 := Nat.two_pow_add_eq_or_of_lt h 1
 rw [Nat.mul_one] at h2
 rw [← h2, Nat.add_comm]
 exact wr_u32 Tw.om
theorem high_dg {i f : Nat} (hi : i < 256) (hf : f ≤ i) : dg (2 ^ i - 2 ^ f) (i / 32) < 2 ^ (i % 32) := by
 have hR : R (i / 32) = 2 ^ (32 * (i / 32)) := by unfold R; rw [Nat.pow_mul]
 unfold dg
 refine Nat.lt_of_le_of_lt (Nat.mod_le _ _) ?_
 rw [Nat.div_lt_iff_lt_mul (R_pos _), hR, ← Nat.pow_add, show i % 32 + 32 * (i / 32) = i from by omega]
 have := Nat.two_pow_pos f
 have := Nat.two_pow_pos i
 omega
theorem high_step {i f : Nat} (hi : i < 256) (hf : f ≤ i) : setd (2 ^ i - 2 ^ f) (i / 32) (dg (2 ^ i - 2 ^ f) (i / 32) + 2 ^ (i % 32)) = 2 ^ (i + 1) - 2 ^ f := by
 have hR : R (i / 32) = 2 ^ (32 * (i / 32)) := by unfold R; rw [Nat.pow_mul]
 have h := setd_eq (2 ^ i - 2 ^ f) (i / 32) (dg (2 ^ i - 2 ^ f) (i / 32) + 2 ^ (i % 32))
 rw [Nat.add_mul] at h
 have h2 : 2 ^ (i % 32) * R (i / 32) = 2 ^ i := by rw [hR, ← Nat.pow_add, show i % 32 + 32 * (i / 32) = i from by omega]
 rw [h2] at h
 have h3 : 2 ^ f ≤ 2 ^ i := Nat.pow_le_pow_right Tw.om hf
 rw [Nat.pow_succ]
 omega
theorem R8_two : R 8 = 2 ^ 256 := by unfold R; decide
section
variable [ShLZ]
variable [ShSt]
theorem top_len : (Lib.decDigits (2 ^ 256 - 1)).length = 78 := by
 have h1 := dec_len78 (n := 2 ^ 256 - 1) (by rw [R8_two]; exact Nat.sub_lt (Nat.two_pow_pos _) Tw.om)
 have h2 : decV (Lib.decDigits (2 ^ 256 - 1)) = 2 ^ 256 - 1 := Tf.dec_value _
 have h3 : (Lib.decDigits (2 ^ 256 - 1)).all isDig = true := by
   have := dig_dec (2 ^ 256 - 1)
   unfold digL at this
   simp only [Bool.and_eq_true] at this
   exact this.1
 have h4 := decV_lt (Lib.decDigits (2 ^ 256 - 1)).length _ h3
 rw [List.take_length, h2] at h4
 rcases Nat.lt_or_ge (Lib.decDigits (2 ^ 256 - 1)).length 78 with h5 | h5
 · exfalso
   have h6 : 10 ^ (Lib.decDigits (2 ^ 256 - 1)).length ≤ 10 ^ 77 := Nat.pow_le_pow_right Tw.om Tw.om
   have h7 : 10 ^ 77 < 2 ^ 256 - 1 := by decide
   omega
 · omega
theorem ratio_ok (a b : Int) (a1 : -9223372036854775808 ≤ a) (a2 : a ≤ 9223372036854775807) (b1 : 0 < b) (b2 : b ≤ 9223372036854775807) : ∃ s n d, n < R 8 ∧ d < R 8 ∧ ∀ W, Calls Tryz.prog 11 #[.int .i64 a, .int .i64 b] W fun e w' => e = .returned (.agg (frcC s n d)) ∧ Below W.heap.size W w' := by
 have la : (cd a.natAbs).length ≤ 4 := cd_le.2 Tw.om
 have lb : (cd b.natAbs).length ≤ 4 := cd_le.2 Tw.om
 exact ⟨_, _, _, div_lt8 la, div_lt8 lb, fun W => ratioF_any a b a1 a2 Tw.om b2 Tw.om W⟩
end
end Go.Proofs.YtalmflgkbmnghaaGreatDoor
namespace Go.Proofs.YtalmflgkbmnghaaGreatDoor
open Go Go.RowKit Tw
open Tf (dg R R_pos R_le R_succ dg_of_lt setd setd_eq)
variable [ShLZ]
variable [ShSt]
theorem b_or {P : Program} {T : TypeId} {px py : Operand} {x y z : Int} (h : bits .or .u32 x y = z) (w : World) : (do eqGuard .or T px py (.int .u32 x) (.int .u32 y); binOp .or T (.int .u32 x) (.int .u32 y) : Sem Value).run P w = .ok (.int .u32 z) w := by
 subst h
 simp [eqGuard, binOp, Op.intBits]
 rfl
theorem shl_small {i : Nat} : 2 ^ (i % 32) ≤ 2147483648 := by
 have h : 2 ^ (i % 32) ≤ 2 ^ 31 := Nat.pow_le_pow_right Tw.om Tw.om
 simpa using h
theorem high_set {i f : Nat} (hi : i < 256) (hf : f ≤ i) : (fa 8 (dg (2 ^ i - 2 ^ f))).setIfInBounds (0 + (i / 32) * 1) (.int .u32 ((dg (2 ^ i - 2 ^ f) (i / 32) + 2 ^ (i % 32) : Nat) : Int)) = fa 8 (dg (2 ^ (i + 1) - 2 ^ f)) := by
 have h1 := high_dg hi hf
 have h2 := shl_small (i := i)
 rw [Nat.zero_add, Nat.mul_one, fa_setd Tw.om Tw.om, high_step hi hf]
theorem fr_snoc {L : List Fr} {s : Bool} {n d : Nat} (h : ∀ x ∈ L, frOk x) (hn : n < R 8) (hd : d < R 8) : ∀ x ∈ L ++ [(s, n, d)], frOk x := by
 intro x hx
 rcases List.mem_append.1 hx with h1 | h1
 · exact h x h1
 · cases List.mem_singleton.1 h1; exact ⟨hn, hd⟩
theorem lsums_len (l : List Fr) (p : Option Addr) (n c : Nat) (hn : n = l.length) (hok : ∀ x ∈ l, frOk x) (w : World) (hE : Env w) (hp : SLV w p (fcs l)) : Calls Tryz.prog 10 #[.slice p n c] w fun e w' => e = .returned (.bool true) ∧ Below w.heap.size w w' := by
 subst hn
 exact lsums_any l p c hok w hE hp
set_option maxRecDepth 100000 in
set_option maxHeartbeats 20000000 in
theorem high_any (f : Nat) (hf : f ≤ 256) (w : World) : Calls Tryz.prog 41 #[.int .i64 ((f : Nat) : Int)] w fun e w' => e = .returned (.agg (fa 8 (dg (2 ^ 256 - 2 ^ f)))) ∧ Below w.heap.size w w' := by
 go_enter Tryz.func41, Tryz.ntmps41
 refine wp_seq ?_
 refine wp_region_L [] (KS.start w) ?_
 refine wpL_new (fun g => .pointer (some ⟨g, 0, none⟩)) (obi := .cells (fa 8 (dg 0)) 23 (0, 0)) rfl rfl Tw.kf Tw.pf fun g1 Bg1 Fg1 => ?_
 refine wpL_done (fun W1 hW1 => ?_)
 change Code.wp ..
 refine wp_seq ?_
 refine wp_region_L _ hW1 ?_
 refine wpL_new (fun g => .pointer (some ⟨g, 0, none⟩)) (obi := .cells (fa 8 (dg 0)) 23 (0, 0)) rfl rfl Tw.kf Tw.pf fun g2 Bg2 Fg2 => ?_
 obtain dj3_0 : g1 ≠ g2 := Tw.dkf Fg2
 refine wpL_done (fun W2 hW2 => ?_)
 change Code.wp ..
 refine wp_seq ?_
 refine wp_seq ?_
 refine wp_region_L _ hW2 ?_
 refine Tw.mm (.int .i64 ((f : Nat) : Int)) ?_
 refine Tw.mm (.int .i64 ((f : Nat) : Int)) ?_
 refine wpL_done (fun W3 hW3 => ?_)
 change Code.wp ..
 refine wp_block ?_
 go_loopw [4] (fun u4 wr => ∃ (i : Nat), (i ≤ 256) ∧ (f ≤ i) ∧ u4 = .int .i64 ((i : Nat) : Int) ∧ KS w [(g2, .cells (fa 8 (dg (2 ^ i - 2 ^ f))) 23 (0, 0)), (g1, .cells (fa 8 (dg 0)) 23 (0, 0))] wr) (fun u4 _ => 256 - (intOf u4).toNat)
 case atStart => exact ⟨f, Tw.om, (Nat.le_refl _), rfl, (hW3.sub Tw.sb)⟩
 case round =>
   obtain ⟨i, hi, hfi, rfl, hL4⟩ := hrel
   refine wp_seq ?_
   refine wp_seq ?_
   refine wp_region_L _ hL4 ?_
   refine Tw.mm (.int .i64 ((i : Nat) : Int)) ?_
   refine Tw.lp (v := .bool (decide (i < 256))) rfl rfl (run_bin rfl (vx := (.int .i64 ((i : Nat) : Int))) (vy := (.int .i64 ((256 : Nat) : Int))) Tw.kr Tw.kr fun w => bn_lss rfl w) ?_
   refine wpL_done (fun W5 hW5 => ?_)
   change Code.wp ..
   cases hd1 : (decide (i < 256)) with
   | false =>
     have h1 : ¬ (i < 256) := of_decide_eq_false hd1
     clear hd1
     refine wp_cond_false rfl ?_
     refine wp_exit ?_
     change Code.wp ..
     refine wp_seq ?_
     refine wp_region_L _ hW5 ?_
     refine Tw.lv (v := .agg (fa 8 (dg (2 ^ i - 2 ^ f)))) rfl rfl (yb_all rfl Tw.kr Tw.m0 Tryz.underlying23 rfl (by simp only [fa_size]; kernel_rfl)) ?_
     refine wpL_s [(g2, .cells (fa 8 (dg (2 ^ i - 2 ^ f))) 23 (0, 0)), (g1, .cells (fa 8 (dg (2 ^ i - 2 ^ f))) 23 (0, 0))] rfl rfl (st_all (by simp only [fa_size]) (by exact fa_one) rfl Tw.kr Tw.kr Tw.m1 Bg1 (by simp only [fa_size]; kernel_rfl) (List.forall_mem_cons.2 ⟨.inr ⟨Tw.m0, Tw.nee⟩, (List.forall_mem_cons.2 ⟨.inl rfl, (List.forall_mem_nil _)⟩)⟩)) ?_
     refine wpL_done (fun W6 hW6 => ?_)
     change Code.wp ..
     refine wp_ret ?_
     try simp only [inBlock_ret, then_ret]
     refine bodyPost_ret (v := .agg (fa 8 (dg (2 ^ i - 2 ^ f)))) ?_ rfl ?_
     · exact (res_cell (p := 2) rfl rfl (hW6.2 _ Tw.m1) Tryz.underlying23 rfl (by simp only [fa_size]; kernel_rfl))
     · exact ⟨(ret_v (by rw [show i = 256 from by omega])), hW6.1⟩
   | true =>
     have h1 : i < 256 := of_decide_eq_true hd1
     clear hd1
     refine wp_cond_true rfl ?_
     refine wp_skip ?_
     change Code.wp ..
     refine wp_seq ?_
     refine wp_block ?_
     refine wp_region_V _ Tw.kr hW5 ?_
     refine vm (i := 0) (v := .int .i64 ((i : Nat) : Int)) rfl rfl rfl ?_
     refine vp (i := 1) (v := .int .i64 (((i / 32) : Nat) : Int)) rfl rfl rfl (run_bin rfl (vx := (.int .i64 ((i : Nat) : Int))) (vy := (.int .i64 ((32 : Nat) : Int))) Tw.kr Tw.kr fun w => bn_quo (z := (i / 32)) rfl Tw.om (wr_i64 Tw.om) w) ?_
     refine vp (i := 2) (v := .pointer (some ⟨g2, 0 + (i / 32) * 1, none⟩)) rfl rfl rfl (run_idxA (j := .i64) (b := g2) (off := 0) (k := (i / 32)) (sz := 1) rfl Tryz.underlying23 Tw.kr Tw.kr Tw.kr Tw.om) ?_
     refine vv (i := 3) (v := .int .u32 (((dg (2 ^ i - 2 ^ f) (i / 32)) : Nat) : Int)) rfl rfl rfl (yb_cell rfl Tw.kr Tw.m0 Tryz.underlying22 rfl (fa_at Tw.om)) ?_
     refine vm (i := 4) (v := .int .i64 ((i : Nat) : Int)) rfl rfl rfl ?_
     refine vp (i := 5) (v := .int .i64 (((i % 32) : Nat) : Int)) rfl rfl rfl (run_bin rfl (vx := (.int .i64 ((i : Nat) : Int))) (vy := (.int .i64 ((32 : Nat) : Int))) Tw.kr Tw.kr fun w => bn_rem (z := (i % 32)) rfl Tw.om w) ?_
     refine vp (i := 6) (v := .int .u32 (((1 * 2 ^ (i % 32)) : Nat) : Int)) rfl rfl rfl (run_bin rfl (vx := (.int .u32 ((1 : Nat) : Int))) (vy := (.int .i64 (((i % 32) : Nat) : Int))) Tw.kr Tw.kr fun w => bn_shl (z := (1 * 2 ^ (i % 32))) rfl (by first | omega | decide | (simp only [IntKind.bits]; omega)) (wr_u32 (by have hp32 := shl_small (i := i); omega)) w) ?_
     have hdg0 := high_dg (i := i) (f := f) Tw.om hfi
     refine vp (i := 7) (v := .int .u32 (((dg (2 ^ i - 2 ^ f) (i / 32)) + 2 ^ (i % 32) : Nat) : Int)) rfl rfl rfl (run_bin rfl (vx := (.int .u32 (((dg (2 ^ i - 2 ^ f) (i / 32)) : Nat) : Int))) (vy := (.int .u32 (((1 * 2 ^ (i % 32)) : Nat) : Int))) Tw.kr Tw.kr fun w => b_or (or_bit hdg0 Tw.om) w) ?_
     refine vp (i := 8) (v := .pointer (some ⟨g2, 0 + (i / 32) * 1, none⟩)) rfl rfl rfl (run_idxA (j := .i64) (b := g2) (off := 0) (k := (i / 32)) (sz := 1) rfl Tryz.underlying23 Tw.kr Tw.kr Tw.kr Tw.om) ?_
     refine wpV_s [(g2, .cells (fa 8 (dg (2 ^ (i + 1) - 2 ^ f))) 23 (0, 0)), (g1, .cells (fa 8 (dg 0)) 23 (0, 0))] (i := 9) rfl Tw.kr rfl rfl rfl (st_to (off := 0 + (i / 32) * 1) (high_set Tw.om hfi) rfl Tw.kr Tw.kr Tw.m0 Bg2 Tw.kr rfl rfl (by simp only [fa_size]; omega) (.inr rfl) (List.forall_mem_cons.2 ⟨.inl rfl, (List.forall_mem_cons.2 ⟨.inr ⟨Tw.m1, Tw.nee⟩, (List.forall_mem_nil _)⟩)⟩)) ?_
     refine wpV_done Tw.kr (fun W7 hW7 => ?_) _
     change Code.wp ..
     refine wp_region_L _ hW7 ?_
     refine Tw.mm (.int .i64 ((i : Nat) : Int)) ?_
     refine Tw.lp (v := .int .i64 (((i + 1) : Nat) : Int)) rfl rfl (run_bin rfl (vx := (.int .i64 ((i : Nat) : Int))) (vy := (.int .i64 ((1 : Nat) : Int))) Tw.kr Tw.kr fun w => bn_add (z := (i + 1)) rfl (wr_i64 Tw.om) w) ?_
     refine Tw.mm (.int .i64 (((i + 1) : Nat) : Int)) ?_
     refine wpL_done (fun W8 hW8 => ?_)
     go_roundw
     case rel =>
       repeat apply Exists.intro
       exact ⟨⟨(i + 1), Tw.om, Tw.om, rfl, (hW8.sub Tw.sb)⟩, rfl⟩
     case measure => (show 256 - (intOf (.int .i64 (((i + 1) : Nat) : Int))).toNat < 256 - (intOf (.int .i64 ((i : Nat) : Int))).toNat); simp only [intOf]; omega
end Go.Proofs.YtalmflgkbmnghaaGreatDoor
namespace Go.Proofs.YtalmflgkbmnghaaGreatDoor
open Go Go.RowKit Tw
open Tf (dg R R_pos R_le R_succ dg_of_lt setd setd_eq)
variable [ShLZ]
variable [ShSt]
theorem of_ok (n : Int) (h1 : -9223372036854775808 ≤ n) (h2 : n ≤ 9223372036854775807) : ∃ s m d, m < R 8 ∧ d < R 8 ∧ ∀ W, Calls Tryz.prog 39 #[.int .i64 n] W fun e w' => e = .returned (.agg (frcC s m d)) ∧ Below W.heap.size W w' :=
 ⟨_, _, _, cd_R8.1 (cd_le.2 (by omega : n.natAbs < 65536 ^ 16)), lt8 Tw.om, fun W => of_any n h1 h2 W⟩
theorem high_ok (f : Nat) (hf : f ≤ 256) : ∃ X, X < R 8 ∧ ∀ W, Calls Tryz.prog 41 #[.int .i64 ((f : Nat) : Int)] W fun e w' => e = .returned (.agg (fa 8 (dg X))) ∧ Below W.heap.size W w' :=
 ⟨_, by rw [R8_two]; exact Nat.sub_lt (Nat.two_pow_pos _) (Nat.two_pow_pos _), fun W => high_any f hf W⟩
theorem fr_app {L M : List Fr} (h : ∀ x ∈ L, frOk x) (h2 : ∀ x ∈ M, frOk x) : ∀ x ∈ L ++ M, frOk x := fun x hx => (List.mem_append.1 hx).elim (h x) (h2 x)
set_option maxRecDepth 100000 in
set_option maxHeartbeats 40000000 in
theorem great_any (w : World) (hE : Env w) : Calls Tryz.prog 13 #[] w fun e w' => e = .returned (.bool true) ∧ Below w.heap.size w w' := by
 have HE := Lib.hid hE
 clear hE
 go_enter Tryz.func13, Tryz.ntmps13
 refine wp_seq ?_
 refine wp_region_L [] (KS.start w) ?_
 refine Tw.mm (.bool false) ?_
 refine wpL_done (fun W1 hW1 => ?_)
 change Code.wp ..
 refine wp_seq ?_
 refine wp_region_L _ hW1 ?_
 obtain ⟨X1, hX1, eX1⟩ := arr8 1 0 0 0 0 0 0 0 Tw.om Tw.om Tw.om Tw.om Tw.om Tw.om Tw.om Tw.om
 refine Tw.lp (v := .agg (fa 8 (dg X1))) rfl rfl (fun _ => by rw [← eX1]; kernel_rfl) ?_
 obtain ⟨X2, hX2, eX2⟩ := arr8 2 0 0 0 0 0 0 0 Tw.om Tw.om Tw.om Tw.om Tw.om Tw.om Tw.om Tw.om
 refine Tw.lp (v := .agg (fa 8 (dg X2))) rfl rfl (fun _ => by rw [← eX2]; kernel_rfl) ?_
 refine wpL_new (fun g => .pointer (some ⟨g, 0, none⟩)) (obi := .cells (fa 8 (dg 0)) 23 (0, 0)) rfl rfl Tw.kf Tw.pf fun g3 Bg3 Fg3 => ?_
 refine wpL_new (fun g => .pointer (some ⟨g, 0, none⟩)) (obi := .cells (fa 8 (dg 0)) 23 (0, 0)) rfl rfl Tw.kf Tw.pf fun g4 Bg4 Fg4 => ?_
 obtain dj5_0 : g3 ≠ g4 := Tw.dkf Fg4
 refine wpL_s [(g4, .cells (fa 8 (dg 0)) 23 (0, 0)), (g3, .cells (fa 8 (dg X1)) 23 (0, 0))] rfl rfl (st_all (by simp only [fa_size]) (by exact fa_one) rfl Tw.kr Tw.kr Tw.m1 Bg3 (by simp only [fa_size]; kernel_rfl) (List.forall_mem_cons.2 ⟨.inr ⟨Tw.m0, Tw.nee⟩, (List.forall_mem_cons.2 ⟨.inl rfl, (List.forall_mem_nil _)⟩)⟩)) ?_
 refine wpL_s [(g4, .cells (fa 8 (dg X2)) 23 (0, 0)), (g3, .cells (fa 8 (dg X1)) 23 (0, 0))] rfl rfl (st_all (by simp only [fa_size]) (by exact fa_one) rfl Tw.kr Tw.kr Tw.m0 Bg4 (by simp only [fa_size]; kernel_rfl) (List.forall_mem_cons.2 ⟨.inl rfl, (List.forall_mem_cons.2 ⟨.inr ⟨Tw.m1, Tw.nee⟩, (List.forall_mem_nil _)⟩)⟩)) ?_
 refine wpL_done (fun W2 hW2 => ?_)
 change Code.wp ..
 refine wp_seq ?_
 refine wp_region_V _ Tw.kr hW2 ?_
 refine vm (i := 2) (v := .agg (frcC false 0 0)) rfl rfl rfl ?_
 refine vv (i := 3) (v := .agg (fa 8 (dg X1))) rfl rfl rfl (yb_all rfl Tw.kr Tw.m1 Tryz.underlying23 rfl (by simp only [fa_size]; kernel_rfl)) ?_
 refine vm (i := 4) (v := .agg (frcC false 0 X1)) rfl rfl rfl ?_
 refine vv (i := 5) (v := .agg (fa 8 (dg X1))) rfl rfl rfl (yb_all rfl Tw.kr Tw.m1 Tryz.underlying23 rfl (by simp only [fa_size]; kernel_rfl)) ?_
 refine vm (i := 6) (v := .agg (frcC true 0 X1)) rfl rfl rfl ?_
 refine vv (i := 7) (v := .agg (fa 8 (dg X1))) rfl rfl rfl (yb_all rfl Tw.kr Tw.m1 Tryz.underlying23 rfl (by simp only [fa_size]; kernel_rfl)) ?_
 refine vm (i := 8) (v := .agg (frcC false X1 0)) rfl rfl rfl ?_
 refine vv (i := 9) (v := .agg (fa 8 (dg X2))) rfl rfl rfl (yb_all rfl Tw.kr Tw.m0 Tryz.underlying23 rfl (by simp only [fa_size]; kernel_rfl)) ?_
 refine vv (i := 10) (v := .agg (fa 8 (dg X2))) rfl rfl rfl (yb_all rfl Tw.kr Tw.m0 Tryz.underlying23 rfl (by simp only [fa_size]; kernel_rfl)) ?_
 refine vm (i := 11) (v := .agg (frcC false X2 X2)) rfl rfl rfl ?_
 refine vv (i := 12) (v := .agg (fa 8 (dg X2))) rfl rfl rfl (yb_all rfl Tw.kr Tw.m0 Tryz.underlying23 rfl (by simp only [fa_size]; kernel_rfl)) ?_
 refine vm (i := 13) (v := .agg (frcC false 0 X2)) rfl rfl rfl ?_
 refine vv (i := 14) (v := .agg (fa 8 (dg X2))) rfl rfl rfl (yb_all rfl Tw.kr Tw.m0 Tryz.underlying23 rfl (by simp only [fa_size]; kernel_rfl)) ?_
 obtain ⟨X6, hX6, eX6⟩ := arr8 4 0 0 0 0 0 0 0 Tw.om Tw.om Tw.om Tw.om Tw.om Tw.om Tw.om Tw.om
 refine vp (i := 15) (v := .agg (fa 8 (dg X6))) rfl rfl rfl (fun _ => by rw [← eX6]; kernel_rfl) ?_
 refine vm (i := 16) (v := .agg (frcC false X2 X6)) rfl rfl rfl ?_
 refine vv (i := 17) (v := .agg (fa 8 (dg X1))) rfl rfl rfl (yb_all rfl Tw.kr Tw.m1 Tryz.underlying23 rfl (by simp only [fa_size]; kernel_rfl)) ?_
 obtain ⟨os7, on7, od7, ln7, ld7, ho7⟩ := of_ok 0 Tw.om Tw.om
 refine vv (i := 0) (v := .agg (frcC os7 on7 od7)) rfl rfl rfl (yb_call (f := 39) (args := #[.int .i64 0]) Tw.kf fun W hW => ho7 W) ?_
 obtain ⟨os8, on8, od8, ln8, ld8, ho8⟩ := of_ok (-1) Tw.om Tw.om
 refine vv (i := 1) (v := .agg (frcC os8 on8 od8)) rfl rfl rfl (yb_call (f := 39) (args := #[.int .i64 (-1)]) Tw.kf fun W hW => ho8 W) ?_
 obtain ⟨H9, hH9, hh9⟩ := high_ok 255 Tw.om
 refine vv (i := 18) (v := .agg (fa 8 (dg H9))) rfl rfl rfl (yb_call (f := 41) (args := #[.int .i64 255]) Tw.kf fun W hW => hh9 W) ?_
 refine vm (i := 19) (v := .agg (frcC true X1 H9)) rfl rfl rfl ?_
 refine wpV_ns (fun g => .slice (some ⟨g, 0, none⟩) 10 10) (i := 20) (obi := .cells (fcs [(os7, on7, od7), (os8, on8, od8), (false, 0, 0), (false, 0, X1), (true, 0, X1), (false, X1, 0), (false, X2, X2), (false, 0, X2), (false, X2, X6), (true, X1, H9)]).toArray 25 (0, 0)) rfl rfl rfl Tw.kr Tw.kf Tw.pf fun g10 Bg10 Fg10 => ?_
 obtain ⟨dj11_0, dj11_1⟩ : g4 ≠ g10 ∧ g3 ≠ g10 := Tw.dkf Fg10
 refine vm (i := 21) (v := .slice (some ⟨g10, 0, none⟩) 10 10) rfl rfl rfl ?_
 refine wpV_done Tw.kr (fun W3 hW3 => ?_) _
 change Code.wp ..
 refine wp_seq ?_
 refine wp_seq ?_
 refine wp_region_L _ hW3 ?_
 refine wpL_new (fun g => .slice (some ⟨g, 0, none⟩) 6 6) (obi := .cells #[.int .i64 0, .int .i64 1, .int .i64 128, .int .i64 224, .int .i64 254, .int .i64 255] 3 (0, 0)) rfl rfl Tw.kf Tw.pf fun g12 Bg12 Fg12 => ?_
 obtain ⟨dj13_0, dj13_1, dj13_2⟩ : g10 ≠ g12 ∧ g4 ≠ g12 ∧ g3 ≠ g12 := Tw.dkf Fg12
 refine Tw.mm (.int .i64 6) ?_
 refine Tw.mm (.int .i64 0) ?_
 refine wpL_done (fun W4 hW4 => ?_)
 change Code.wp ..
 refine wp_block ?_
 go_loopw [37, 3] (fun u37 u3 wr => ∃ (ka : Nat) (Lka : List Fr) (vka : Value) (Kka : List (Nat × Obj)), (ka ≤ 6) ∧ (OwnL (w : Base) 25 17 vka (Lka.length) (fcs Lka) Kka) ∧ (∀ x ∈ Lka, frOk x) ∧ (Lka.length ≤ 10 + 4 * ka) ∧ (Dk g12 Kka) ∧ (Dk g4 Kka) ∧ (Dk g3 Kka) ∧ u37 = .int .i64 ((ka : Nat) : Int) ∧ vka = u3 ∧ KS w ((g12, .cells #[.int .i64 0, .int .i64 1, .int .i64 128, .int .i64 224, .int .i64 254, .int .i64 255] 3 (0, 0)) :: (g4, .cells (fa 8 (dg X2)) 23 (0, 0)) :: (g3, .cells (fa 8 (dg X1)) 23 (0, 0)) :: Kka) wr) (fun u37 _ _ => 6 - (intOf u37).toNat)
 case atStart => exact ⟨0, [(os7, on7, od7), (os8, on8, od8), (false, 0, 0), (false, 0, X1), (true, 0, X1), (false, X1, 0), (false, X2, X2), (false, 0, X2), (false, X2, X6), (true, X1, H9)], .slice (some ⟨g10, 0, none⟩) 10 10, [(g10, .cells (fcs [(os7, on7, od7), (os8, on8, od8), (false, 0, 0), (false, 0, X1), (true, 0, X1), (false, X1, 0), (false, X2, X2), (false, 0, X2), (false, X2, X6), (true, X1, H9)]).toArray 25 (0, 0))], Tw.om, (own_rowf (l := [(os7, on7, od7), (os8, on8, od8), (false, 0, 0), (false, 0, X1), (true, 0, X1), (false, X1, 0), (false, X2, X2), (false, 0, X2), (false, X2, X6), (true, X1, H9)]) Bg10 rfl (by decide)), (by intro x hx; simp only [List.mem_cons, List.not_mem_nil, or_false] at hx; rcases hx with rfl | rfl | rfl | rfl | rfl | rfl | rfl | rfl | rfl | rfl <;> exact ⟨by first | assumption | exact R_pos 8, by first | assumption | exact R_pos 8⟩), (by simp), (show Dk g12 [(g10, .cells (fcs [(os7, on7, od7), (os8, on8, od8), (false, 0, 0), (false, 0, X1), (true, 0, X1), (false, X1, 0), (false, X2, X2), (false, 0, X2), (false, X2, X6), (true, X1, H9)]).toArray 25 (0, 0))] from Tw.djt), (show Dk g4 [(g10, .cells (fcs [(os7, on7, od7), (os8, on8, od8), (false, 0, 0), (false, 0, X1), (true, 0, X1), (false, X1, 0), (false, X2, X2), (false, 0, X2), (false, X2, X6), (true, X1, H9)]).toArray 25 (0, 0))] from Tw.djt), (show Dk g3 [(g10, .cells (fcs [(os7, on7, od7), (os8, on8, od8), (false, 0, 0), (false, 0, X1), (true, 0, X1), (false, X1, 0), (false, X2, X2), (false, 0, X2), (false, X2, X6), (true, X1, H9)]).toArray 25 (0, 0))] from Tw.djt), rfl, rfl, (hW4.sub Tw.sb)⟩
 case round =>
   obtain ⟨ka, Lka, vka, Kka, hka, hOka, hLka, hnka, dh14_0, dh14_1, dh14_2, rfl, rfl, hL5⟩ := hrel
   refine wp_seq ?_
   refine wp_region_L _ hL5 ?_
   refine Tw.lp (v := .bool (decide (ka < 6))) rfl rfl (run_bin rfl (vx := (.int .i64 ((ka : Nat) : Int))) (vy := (.int .i64 ((6 : Nat) : Int))) Tw.kr Tw.kr fun w => bn_lss rfl w) ?_
   refine wpL_done (fun W6 hW6 => ?_)
   change Code.wp ..
   refine wp_seq ?_
   cases hd1 : (decide (ka < 6)) with
   | false =>
     have h1 : ¬ (ka < 6) := of_decide_eq_false hd1
     clear hd1
     refine wp_cond_false rfl ?_
     refine wp_exit ?_
     change Code.wp ..
     refine wp_seq ?_
     refine wp_seq ?_
     refine wp_region_L _ hW6 ?_
     refine wpL_new (fun g => .slice (some ⟨g, 0, none⟩) 3 3) (obi := .cells #[.int .u32 2147483648, .int .u32 2147483647, .int .u32 4294967295] 22 (0, 0)) rfl rfl Tw.kf Tw.pf fun g15 Bg15 Fg15 => ?_
     obtain ⟨dj16_0, dj16_1, dj16_2, dj16_3⟩ : g12 ≠ g15 ∧ g4 ≠ g15 ∧ g3 ≠ g15 ∧ Dk g15 Kka := Tw.dkf Fg15
     refine Tw.mm (.int .i64 3) ?_
     refine Tw.mm (.int .i64 0) ?_
     refine wpL_done (fun W7 hW7 => ?_)
     change Code.wp ..
     refine wp_block ?_
     go_loopw [63, 3] (fun u63 u3 wr => ∃ (kb : Nat) (Lkb : List Fr) (vkb : Value) (Kkb : List (Nat × Obj)), (kb ≤ 3) ∧ (OwnL (w : Base) 25 17 vkb (Lkb.length) (fcs Lkb) Kkb) ∧ (∀ x ∈ Lkb, frOk x) ∧ (Lkb.length ≤ 34 + 2 * kb) ∧ (Dk g15 Kkb) ∧ (Dk g12 Kkb) ∧ (Dk g4 Kkb) ∧ (Dk g3 Kkb) ∧ u63 = .int .i64 ((kb : Nat) : Int) ∧ vkb = u3 ∧ KS w ((g15, .cells #[.int .u32 2147483648, .int .u32 2147483647, .int .u32 4294967295] 22 (0, 0)) :: (g12, .cells #[.int .i64 0, .int .i64 1, .int .i64 128, .int .i64 224, .int .i64 254, .int .i64 255] 3 (0, 0)) :: (g4, .cells (fa 8 (dg X2)) 23 (0, 0)) :: (g3, .cells (fa 8 (dg X1)) 23 (0, 0)) :: Kkb) wr) (fun u63 _ _ => 3 - (intOf u63).toNat)
     case atStart => exact ⟨0, Lka, vka, Kka, Tw.om, hOka, hLka, Tw.om, (show Dk g15 Kka from Tw.djt), (show Dk g12 Kka from Tw.djt), (show Dk g4 Kka from Tw.djt), (show Dk g3 Kka from Tw.djt), rfl, rfl, (hW7.sub Tw.sb)⟩
     case round =>
       obtain ⟨kb, Lkb, vkb, Kkb, hkb, hOkb, hLkb, hnkb, dh17_0, dh17_1, dh17_2, dh17_3, rfl, rfl, hL8⟩ := hrel
       refine wp_seq ?_
       refine wp_region_L _ hL8 ?_
       refine Tw.lp (v := .bool (decide (kb < 3))) rfl rfl (run_bin rfl (vx := (.int .i64 ((kb : Nat) : Int))) (vy := (.int .i64 ((3 : Nat) : Int))) Tw.kr Tw.kr fun w => bn_lss rfl w) ?_
       refine wpL_done (fun W9 hW9 => ?_)
       change Code.wp ..
       refine wp_seq ?_
       cases hd2 : (decide (kb < 3)) with
       | false =>
         have h2 : ¬ (kb < 3) := of_decide_eq_false hd2
         clear hd2
         refine wp_cond_false rfl ?_
         refine wp_exit ?_
         change Code.wp ..
         refine wp_seq ?_
         refine wp_seq ?_
         have hok := hLkb
         obtain ⟨p18, c18, rfl, hc18, HN18⟩ := own_fs hOkb
         refine wp_region_L _ hW9 ?_
         refine Tw.mm (.slice p18 (Lkb.length) c18) ?_
         refine Tw.lp (v := .int .i64 (((Lkb.length) : Nat) : Int)) rfl rfl (run_lenL (p := p18) (cap := c18) (n := (Lkb.length)) rfl Tryz.underlying29 Tw.kr) ?_
         refine Tw.mm (.int .i64 0) ?_
         refine wpL_done (fun W10 hW10 => ?_)
         change Code.wp ..
         refine wp_block ?_
         go_loopw [83] (fun u83 wr => ∃ (i : Nat), (i ≤ Lkb.length) ∧ u83 = .int .i64 ((i : Nat) : Int) ∧ KS w ((g15, .cells #[.int .u32 2147483648, .int .u32 2147483647, .int .u32 4294967295] 22 (0, 0)) :: (g12, .cells #[.int .i64 0, .int .i64 1, .int .i64 128, .int .i64 224, .int .i64 254, .int .i64 255] 3 (0, 0)) :: (g4, .cells (fa 8 (dg X2)) 23 (0, 0)) :: (g3, .cells (fa 8 (dg X1)) 23 (0, 0)) :: Kkb) wr) (fun u83 _ => Lkb.length - (intOf u83).toNat)
         case atStart => exact ⟨0, (Nat.zero_le _), rfl, (hW10.sub Tw.sb)⟩
         case round =>
           obtain ⟨i, hi, rfl, hL11⟩ := hrel
           refine wp_seq ?_
           refine wp_region_L _ hL11 ?_
           refine Tw.lp (v := .bool (decide (i < (Lkb.length)))) rfl rfl (run_bin rfl (vx := (.int .i64 ((i : Nat) : Int))) (vy := (.int .i64 (((Lkb.length) : Nat) : Int))) Tw.kr Tw.kr fun w => bn_lss rfl w) ?_
           refine wpL_done (fun W12 hW12 => ?_)
           change Code.wp ..
           refine wp_seq ?_
           cases hd3 : (decide (i < (Lkb.length))) with
           | false =>
             have h3 : ¬ (i < (Lkb.length)) := of_decide_eq_false hd3
             clear hd3
             refine wp_cond_false rfl ?_
             refine wp_exit ?_
             change Code.wp ..
             refine wp_seq ?_
             refine wp_region_L _ hW12 ?_
             refine Tw.mm (.bool true) ?_
             refine wpL_done (fun W13 hW13 => ?_)
             change Code.wp ..
             refine wp_ret ?_
             try simp only [inBlock_ret, then_ret]
             refine bodyPost_ret (v := .bool true) ?_ rfl ?_
             · kernel_rfl
             · exact ⟨rfl, hW13.1⟩
           | true =>
             have h3 : i < (Lkb.length) := of_decide_eq_true hd3
             clear hd3
             refine wp_cond_true rfl ?_
             refine wp_skip ?_
             change Code.wp ..
             refine wp_seq ?_
             refine wp_block ?_
             refine wp_seq ?_
             refine wp_region_L _ hW12 ?_
             refine Tw.mm (.int .i64 ((i : Nat) : Int)) ?_
             obtain ⟨b19, f19, hp19, hc19⟩ := (HN18.mono Tw.sb).at hW12 (k := i) (by first | omega | (simp only [List.length_drop, List.length_take]; omega))
             refine Tw.lp (v := .pointer (some ⟨b19, f19 + i * 17, none⟩)) rfl rfl (run_idxQ (p := p18) (cap := c18) (n := (Lkb.length)) (j := .i64) (k := i) (sz := 17) rfl Tryz.underlying29 Tw.kr Tw.kr hp19 Tw.kr Tw.om) ?_
             obtain ⟨⟨es20, en20, ed20⟩, hx20⟩ : ∃ x, (Lkb : List Fr)[i]? = some x := ⟨_, List.getElem?_eq_getElem (by first | omega | (simp only [List.length_drop, List.length_take]; omega))⟩
             have eb20 : en20 < R 8 ∧ ed20 < R 8 := by first | exact hok _ (List.mem_of_getElem? hx20) | exact hok _ (List.mem_of_mem_drop (List.mem_of_getElem? hx20))
             have ebn20 := eb20.1
             have ebd20 := eb20.2
             refine Tw.lv (v := .agg (frcC es20 en20 ed20)) rfl rfl (yb_fr (off := f19 + i * 17) rfl Tw.kr (fun W hW jq vq hv => hc19 W (hW.sub Tw.sb) i _ hx20 jq vq hv) Tryz.underlying25 rfl Tw.kr) ?_
             refine wpL_new (fun g => .pointer (some ⟨g, 0, none⟩)) (obi := .cells (frcC false 0 0) 25 (0, 0)) rfl rfl Tw.kf Tw.pf fun g21 Bg21 Fg21 => ?_
             obtain ⟨dj22_0, dj22_1, dj22_2, dj22_3, dj22_4⟩ : g15 ≠ g21 ∧ g12 ≠ g21 ∧ g4 ≠ g21 ∧ g3 ≠ g21 ∧ Dk g21 Kkb := Tw.dkf Fg21
             refine Tw.mm (.int .i64 ((i : Nat) : Int)) ?_
             refine wpL_s ((g21, .cells (frcC es20 en20 ed20) 25 (0, 0)) :: (g15, .cells #[.int .u32 2147483648, .int .u32 2147483647, .int .u32 4294967295] 22 (0, 0)) :: (g12, .cells #[.int .i64 0, .int .i64 1, .int .i64 128, .int .i64 224, .int .i64 254, .int .i64 255] 3 (0, 0)) :: (g4, .cells (fa 8 (dg X2)) 23 (0, 0)) :: (g3, .cells (fa 8 (dg X1)) 23 (0, 0)) :: Kkb) rfl rfl (st_all zfz (by exact frc_onec) rfl Tw.kr Tw.kr Tw.m0 Bg21 zfs (List.forall_mem_cons.2 ⟨.inl rfl, (List.forall_mem_cons.2 ⟨.inr ⟨Tw.m1, Tw.nee⟩, (List.forall_mem_cons.2 ⟨.inr ⟨Tw.m2, Tw.nee⟩, (List.forall_mem_cons.2 ⟨.inr ⟨Tw.m3, Tw.nee⟩, (List.forall_mem_cons.2 ⟨.inr ⟨Tw.m4, Tw.nee⟩, (fun p hp => .inr ⟨(.tail _ (.tail _ (.tail _ (.tail _ (.tail _ hp))))), ((show Dk g21 Kkb from Tw.djt) _ hp)⟩)⟩)⟩)⟩)⟩)⟩)) ?_
             refine wpL_done (fun W14 hW14 => ?_)
             change Code.wp ..
             refine wp_seq ?_
             refine wp_seq ?_
             refine wp_region_L _ hW14 ?_
             refine Tw.mm (.slice p18 (Lkb.length) c18) ?_
             refine Tw.lp (v := .int .i64 (((Lkb.length) : Nat) : Int)) rfl rfl (run_lenL (p := p18) (cap := c18) (n := (Lkb.length)) rfl Tryz.underlying29 Tw.kr) ?_
             refine Tw.mm (.int .i64 0) ?_
             refine wpL_done (fun W15 hW15 => ?_)
             change Code.wp ..
             refine wp_block ?_
             go_loopw [90] (fun u90 wr => ∃ (j : Nat), (j ≤ Lkb.length) ∧ u90 = .int .i64 ((j : Nat) : Int) ∧ KS w ((g21, .cells (frcC es20 en20 ed20) 25 (0, 0)) :: (g15, .cells #[.int .u32 2147483648, .int .u32 2147483647, .int .u32 4294967295] 22 (0, 0)) :: (g12, .cells #[.int .i64 0, .int .i64 1, .int .i64 128, .int .i64 224, .int .i64 254, .int .i64 255] 3 (0, 0)) :: (g4, .cells (fa 8 (dg X2)) 23 (0, 0)) :: (g3, .cells (fa 8 (dg X1)) 23 (0, 0)) :: Kkb) wr) (fun u90 _ => Lkb.length - (intOf u90).toNat)
             case atStart => exact ⟨0, (Nat.zero_le _), rfl, (hW15.sub Tw.sb)⟩
             case round =>
               obtain ⟨j, hj, rfl, hL16⟩ := hrel
               refine wp_seq ?_
               refine wp_region_L _ hL16 ?_
               refine Tw.lp (v := .bool (decide (j < (Lkb.length)))) rfl rfl (run_bin rfl (vx := (.int .i64 ((j : Nat) : Int))) (vy := (.int .i64 (((Lkb.length) : Nat) : Int))) Tw.kr Tw.kr fun w => bn_lss rfl w) ?_
               refine wpL_done (fun W17 hW17 => ?_)
               change Code.wp ..
               refine wp_seq ?_
               cases hd4 : (decide (j < (Lkb.length))) with
               | false =>
                 have h4 : ¬ (j < (Lkb.length)) := of_decide_eq_false hd4
                 clear hd4
                 refine wp_cond_false rfl ?_
                 refine wp_exit ?_
                 change Code.wp ..
                 refine wp_seq ?_
                 refine wp_region_V _ Tw.kr hW17 ?_
                 refine vv (i := 0) (v := .agg (frcC es20 en20 ed20)) rfl rfl rfl (yb_all rfl Tw.kr Tw.m0 Tryz.underlying25 rfl zfs) ?_
                 refine vv (i := 1) (v := .agg (frcC es20 en20 ed20)) rfl rfl rfl (yb_all rfl Tw.kr Tw.m0 Tryz.underlying25 rfl zfs) ?_
                 refine vv (i := 2) (v := .bool true) rfl rfl rfl (yb_call (f := 7) (args := #[.agg (frcC es20 en20 ed20), .agg (frcC es20 en20 ed20)]) Tw.kf fun W hW => ltells_any es20 es20 en20 ed20 en20 ed20 eb20.1 eb20.2 eb20.1 eb20.2 W (HE.out.keep hW.1)) ?_
                 refine vm (i := 3) (v := .bool false) rfl rfl rfl ?_
                 refine vm (i := 4) (v := .bool false) rfl rfl rfl ?_
                 refine vv (i := 5) (v := .agg (frcC es20 en20 ed20)) rfl rfl rfl (yb_all rfl Tw.kr Tw.m0 Tryz.underlying25 rfl zfs) ?_
                 refine vv (i := 7) (v := .agg (frcC es20 en20 ed20)) rfl rfl rfl (yb_all rfl Tw.kr Tw.m0 Tryz.underlying25 rfl zfs) ?_
                 obtain ⟨os23, on23, od23, ln23, ld23, ho23⟩ := of_ok 1 Tw.om Tw.om
                 refine vv (i := 6) (v := .agg (frcC os23 on23 od23)) rfl rfl rfl (yb_call (f := 39) (args := #[.int .i64 1]) Tw.kf fun W hW => ho23 W) ?_
                 refine wpV_nsg (fun g => .slice (some ⟨g, 0, none⟩) 3 3) (i := 8) (obi := .cells (fcs [(es20, en20, ed20), (os23, on23, od23), (es20, en20, ed20)]).toArray 25 (0, 0)) rfl rfl rfl Tw.kr Tw.kf Tw.pf fun g24 Bg24 Fg24 => ?_
                 obtain ⟨dj25_0, dj25_1, dj25_2, dj25_3, dj25_4, dj25_5⟩ : g21 ≠ g24 ∧ g15 ≠ g24 ∧ g12 ≠ g24 ∧ g4 ≠ g24 ∧ g3 ≠ g24 ∧ Dk g24 Kkb := Tw.dkf Fg24
                 refine vv (i := 9) (v := .bool true) rfl rfl rfl (yb_call (f := 10) (args := #[.slice (some ⟨g24, 0, none⟩) 3 3]) Tw.kf fun W hW => lsums_len [(es20, en20, ed20), (os23, on23, od23), (es20, en20, ed20)] (some ⟨g24, 0, none⟩) 3 3 rfl (by intro x hx; simp only [List.mem_cons, List.not_mem_nil, or_false] at hx; rcases hx with rfl | rfl | rfl <;> exact ⟨by first | assumption | exact R_pos 8, by first | assumption | exact R_pos 8⟩) W (HE.out.keep hW.1) (fs_blk W (hW.sub (fun q hq => by cases List.mem_singleton.1 hq; exact Tw.m0)))) ?_
                 refine vm (i := 10) (v := .bool false) rfl rfl rfl ?_
                 refine vm (i := 11) (v := .bool false) rfl rfl rfl ?_
                 refine vm (i := 12) (v := .bool false) rfl rfl rfl ?_
                 refine vv (i := 14) (v := .agg (frcC es20 en20 ed20)) rfl rfl rfl (yb_all rfl Tw.kr Tw.m1 Tryz.underlying25 rfl zfs) ?_
                 obtain ⟨os26, on26, od26, ln26, ld26, ho26⟩ := of_ok 1 Tw.om Tw.om
                 refine vv (i := 13) (v := .agg (frcC os26 on26 od26)) rfl rfl rfl (yb_call (f := 39) (args := #[.int .i64 1]) Tw.kf fun W hW => ho26 W) ?_
                 refine wpV_nsg (fun g => .slice (some ⟨g, 0, none⟩) 2 2) (i := 15) (obi := .cells (fcs [(os26, on26, od26), (es20, en20, ed20)]).toArray 25 (0, 0)) rfl rfl rfl Tw.kr Tw.kf Tw.pf fun g27 Bg27 Fg27 => ?_
                 obtain ⟨dj28_0, dj28_1, dj28_2, dj28_3, dj28_4, dj28_5, dj28_6⟩ : g24 ≠ g27 ∧ g21 ≠ g27 ∧ g15 ≠ g27 ∧ g12 ≠ g27 ∧ g4 ≠ g27 ∧ g3 ≠ g27 ∧ Dk g27 Kkb := Tw.dkf Fg27
                 refine vv (i := 16) (v := .bool true) rfl rfl rfl (yb_call (f := 10) (args := #[.slice (some ⟨g27, 0, none⟩) 2 2]) Tw.kf fun W hW => lsums_len [(os26, on26, od26), (es20, en20, ed20)] (some ⟨g27, 0, none⟩) 2 2 rfl (by intro x hx; simp only [List.mem_cons, List.not_mem_nil, or_false] at hx; rcases hx with rfl | rfl <;> exact ⟨by first | assumption | exact R_pos 8, by first | assumption | exact R_pos 8⟩) W (HE.out.keep hW.1) (fs_blk W (hW.sub (fun q hq => by cases List.mem_singleton.1 hq; exact Tw.m0)))) ?_
                 refine vm (i := 17) (v := .bool false) rfl rfl rfl ?_
                 refine vm (i := 18) (v := .bool false) rfl rfl rfl ?_
                 refine wpV_done Tw.kr (fun W18 hW18 => ?_) _
                 change Code.wp ..
                 refine wp_cond_false rfl ?_
                 refine wp_skip ?_
                 change Code.wp ..
                 refine wp_region_L _ hW18 ?_
                 refine Tw.lp (v := .int .i64 (((i + 1) : Nat) : Int)) rfl rfl (run_bin rfl (vx := (.int .i64 ((i : Nat) : Int))) (vy := (.int .i64 ((1 : Nat) : Int))) Tw.kr Tw.kr fun w => bn_add (z := (i + 1)) rfl (wr_i64 Tw.om) w) ?_
                 refine Tw.mm (.int .i64 (((i + 1) : Nat) : Int)) ?_
                 refine wpL_done (fun W19 hW19 => ?_)
                 go_roundw
                 case rel =>
                   repeat apply Exists.intro
                   exact ⟨⟨(i + 1), Tw.om, rfl, (hW19.sub Tw.sb)⟩, rfl⟩
                 case measure => (show Lkb.length - (intOf (.int .i64 (((i + 1) : Nat) : Int))).toNat < Lkb.length - (intOf (.int .i64 ((i : Nat) : Int))).toNat); simp only [intOf]; omega
               | true =>
                 have h4 : j < (Lkb.length) := of_decide_eq_true hd4
                 clear hd4
                 refine wp_cond_true rfl ?_
                 refine wp_skip ?_
                 change Code.wp ..
                 refine wp_seq ?_
                 refine wp_block ?_
                 refine wp_seq ?_
                 refine wp_region_L _ hW17 ?_
                 refine Tw.mm (.int .i64 ((j : Nat) : Int)) ?_
                 refine Tw.lp (v := .pointer (some ⟨b19, f19 + j * 17, none⟩)) rfl rfl (run_idxQ (p := p18) (cap := c18) (n := (Lkb.length)) (j := .i64) (k := j) (sz := 17) rfl Tryz.underlying29 Tw.kr Tw.kr hp19 Tw.kr Tw.om) ?_
                 obtain ⟨⟨es29, en29, ed29⟩, hx29⟩ : ∃ x, (Lkb : List Fr)[j]? = some x := ⟨_, List.getElem?_eq_getElem (by first | omega | (simp only [List.length_drop, List.length_take]; omega))⟩
                 have eb29 : en29 < R 8 ∧ ed29 < R 8 := by first | exact hok _ (List.mem_of_getElem? hx29) | exact hok _ (List.mem_of_mem_drop (List.mem_of_getElem? hx29))
                 have ebn29 := eb29.1
                 have ebd29 := eb29.2
                 refine Tw.lv (v := .agg (frcC es29 en29 ed29)) rfl rfl (yb_fr (off := f19 + j * 17) rfl Tw.kr (fun W hW jq vq hv => hc19 W (hW.sub Tw.sb) j _ hx29 jq vq hv) Tryz.underlying25 rfl Tw.kr) ?_
                 refine wpL_new (fun g => .pointer (some ⟨g, 0, none⟩)) (obi := .cells (frcC false 0 0) 25 (0, 0)) rfl rfl Tw.kf Tw.pf fun g30 Bg30 Fg30 => ?_
                 obtain ⟨dj31_0, dj31_1, dj31_2, dj31_3, dj31_4, dj31_5⟩ : g21 ≠ g30 ∧ g15 ≠ g30 ∧ g12 ≠ g30 ∧ g4 ≠ g30 ∧ g3 ≠ g30 ∧ Dk g30 Kkb := Tw.dkf Fg30
                 refine Tw.mm (.int .i64 ((j : Nat) : Int)) ?_
                 refine wpL_s ((g30, .cells (frcC es29 en29 ed29) 25 (0, 0)) :: (g21, .cells (frcC es20 en20 ed20) 25 (0, 0)) :: (g15, .cells #[.int .u32 2147483648, .int .u32 2147483647, .int .u32 4294967295] 22 (0, 0)) :: (g12, .cells #[.int .i64 0, .int .i64 1, .int .i64 128, .int .i64 224, .int .i64 254, .int .i64 255] 3 (0, 0)) :: (g4, .cells (fa 8 (dg X2)) 23 (0, 0)) :: (g3, .cells (fa 8 (dg X1)) 23 (0, 0)) :: Kkb) rfl rfl (st_all zfz (by exact frc_onec) rfl Tw.kr Tw.kr Tw.m0 Bg30 zfs (List.forall_mem_cons.2 ⟨.inl rfl, (List.forall_mem_cons.2 ⟨.inr ⟨Tw.m1, Tw.nee⟩, (List.forall_mem_cons.2 ⟨.inr ⟨Tw.m2, Tw.nee⟩, (List.forall_mem_cons.2 ⟨.inr ⟨Tw.m3, Tw.nee⟩, (List.forall_mem_cons.2 ⟨.inr ⟨Tw.m4, Tw.nee⟩, (List.forall_mem_cons.2 ⟨.inr ⟨Tw.m5, Tw.nee⟩, (fun p hp => .inr ⟨(.tail _ (.tail _ (.tail _ (.tail _ (.tail _ (.tail _ hp)))))), ((show Dk g30 Kkb from Tw.djt) _ hp)⟩)⟩)⟩)⟩)⟩)⟩)⟩)) ?_
                 refine wpL_done (fun W20 hW20 => ?_)
                 change Code.wp ..
                 refine wp_seq ?_
                 refine wp_region_L _ hW20 ?_
                 refine Tw.mm (.int .i64 ((i : Nat) : Int)) ?_
                 refine Tw.mm (.int .i64 ((j : Nat) : Int)) ?_
                 refine Tw.lp (v := .int .i64 (((i + j) : Nat) : Int)) rfl rfl (run_bin rfl (vx := (.int .i64 ((i : Nat) : Int))) (vy := (.int .i64 ((j : Nat) : Int))) Tw.kr Tw.kr fun w => bn_add (z := (i + j)) rfl (wr_i64 Tw.om) w) ?_
                 refine Tw.lp (v := .int .i64 ((((i + j) % 7) : Nat) : Int)) rfl rfl (run_bin rfl (vx := (.int .i64 (((i + j) : Nat) : Int))) (vy := (.int .i64 ((7 : Nat) : Int))) Tw.kr Tw.kr fun w => bn_rem (z := ((i + j) % 7)) rfl Tw.om w) ?_
                 refine Tw.lp (v := .bool (decide (((i + j) % 7) = 0))) rfl rfl (run_bin rfl (vx := (.int .i64 ((((i + j) % 7) : Nat) : Int))) (vy := (.int .i64 ((0 : Nat) : Int))) Tw.kr Tw.kr fun w => bn_eql rfl w) ?_
                 refine Tw.mm (.bool (decide (((i + j) % 7) = 0))) ?_
                 cases hd5 : (decide (((i + j) % 7) = 0)) with
                 | false =>
                   have h5 : ¬ (((i + j) % 7) = 0) := of_decide_eq_false hd5
                   clear hd5
                   refine Tw.ln rfl ?_
                   refine Tw.ln rfl ?_
                   refine Tw.ln rfl ?_
                   refine Tw.ln rfl ?_
                   refine Tw.mm (.bool false) ?_
                   refine wpL_done (fun W21 hW21 => ?_)
                   change Code.wp ..
                   refine wp_cond_false rfl ?_
                   refine wp_skip ?_
                   change Code.wp ..
                   refine wp_region_L _ hW21 ?_
                   refine Tw.lp (v := .int .i64 (((j + 1) : Nat) : Int)) rfl rfl (run_bin rfl (vx := (.int .i64 ((j : Nat) : Int))) (vy := (.int .i64 ((1 : Nat) : Int))) Tw.kr Tw.kr fun w => bn_add (z := (j + 1)) rfl (wr_i64 Tw.om) w) ?_
                   refine Tw.mm (.int .i64 (((j + 1) : Nat) : Int)) ?_
                   refine wpL_done (fun W22 hW22 => ?_)
                   go_roundw
                   case rel =>
                     repeat apply Exists.intro
                     exact ⟨⟨(j + 1), Tw.om, rfl, (hW22.sub Tw.sb)⟩, rfl⟩
                   case measure => (show Lkb.length - (intOf (.int .i64 (((j + 1) : Nat) : Int))).toNat < Lkb.length - (intOf (.int .i64 ((j : Nat) : Int))).toNat); simp only [intOf]; omega
                 | true =>
                   have h5 : ((i + j) % 7) = 0 := of_decide_eq_true hd5
                   clear hd5
                   refine Tw.lv (v := .agg (frcC es20 en20 ed20)) rfl rfl (yb_all rfl Tw.kr Tw.m1 Tryz.underlying25 rfl zfs) ?_
                   refine Tw.lv (v := .agg (frcC es29 en29 ed29)) rfl rfl (yb_all rfl Tw.kr Tw.m0 Tryz.underlying25 rfl zfs) ?_
                   refine Tw.lv (v := .bool true) rfl rfl (yb_call (f := 7) (args := #[.agg (frcC es20 en20 ed20), .agg (frcC es29 en29 ed29)]) Tw.kf fun W hW => ltells_any es20 es29 en20 ed20 en29 ed29 eb20.1 eb20.2 eb29.1 eb29.2 W (HE.out.keep hW.1)) ?_
                   refine Tw.mm (.bool false) ?_
                   refine Tw.mm (.bool false) ?_
                   refine wpL_done (fun W23 hW23 => ?_)
                   change Code.wp ..
                   refine wp_cond_false rfl ?_
                   refine wp_skip ?_
                   change Code.wp ..
                   refine wp_region_L _ hW23 ?_
                   refine Tw.lp (v := .int .i64 (((j + 1) : Nat) : Int)) rfl rfl (run_bin rfl (vx := (.int .i64 ((j : Nat) : Int))) (vy := (.int .i64 ((1 : Nat) : Int))) Tw.kr Tw.kr fun w => bn_add (z := (j + 1)) rfl (wr_i64 Tw.om) w) ?_
                   refine Tw.mm (.int .i64 (((j + 1) : Nat) : Int)) ?_
                   refine wpL_done (fun W24 hW24 => ?_)
                   go_roundw
                   case rel =>
                     repeat apply Exists.intro
                     exact ⟨⟨(j + 1), Tw.om, rfl, (hW24.sub Tw.sb)⟩, rfl⟩
                   case measure => (show Lkb.length - (intOf (.int .i64 (((j + 1) : Nat) : Int))).toNat < Lkb.length - (intOf (.int .i64 ((j : Nat) : Int))).toNat); simp only [intOf]; omega
       | true =>
         have h2 : kb < 3 := of_decide_eq_true hd2
         clear hd2
         refine wp_cond_true rfl ?_
         refine wp_skip ?_
         change Code.wp ..
         refine wp_seq ?_
         refine wp_block ?_
         refine wp_seq ?_
         refine wp_region_L _ hW9 ?_
         refine Tw.lp (v := .pointer (some ⟨g15, 0 + kb * 1, none⟩)) rfl rfl (run_idxL (j := .i64) (n := 3) (cap := 3) (b := g15) (off := 0) (k := kb) (sz := 1) rfl Tryz.underlying65 Tw.kr Tw.kr Tw.kr Tw.om) ?_
         obtain ⟨z32, hz32, lz32⟩ : ∃ z : Nat, (#[.int .u32 2147483648, .int .u32 2147483647, .int .u32 4294967295] : Array Value)[0 + kb * 1]? = some (.int .u32 ((z : Nat) : Int)) ∧ (2147483647 ≤ z ∧ z ≤ 4294967295) := by
           have hk0 : kb < 3 := by omega
           revert hk0; generalize kb = kk; intro hk0; rcases (show kk = 0 ∨ kk = 1 ∨ kk = 2 by omega) with rfl | rfl | rfl <;> first | exact ⟨2147483648, rfl, by omega⟩ | exact ⟨2147483647, rfl, by omega⟩ | exact ⟨4294967295, rfl, by omega⟩
         refine Tw.lv (v := .int .u32 ((z32 : Nat) : Int)) rfl rfl (yb_cell rfl Tw.kr Tw.m0 Tryz.underlying22 rfl hz32) ?_
         refine Tw.mm (.int .u32 ((z32 : Nat) : Int)) ?_
         refine wpL_done (fun W25 hW25 => ?_)
         change Code.wp ..
         refine wp_region_L _ hW25 ?_
         refine Tw.mm vkb ?_
         refine Tw.mm (.int .u32 ((z32 : Nat) : Int)) ?_
         obtain ⟨X33, hX33, eX33⟩ := arr8 0 0 0 z32 2147483648 0 0 0 Tw.om Tw.om Tw.om Tw.om Tw.om Tw.om Tw.om Tw.om
         refine Tw.lp (v := .agg (fa 8 (dg X33))) rfl rfl (fun _ => by rw [← eX33]; kernel_rfl) ?_
         obtain ⟨X34, hX34, eX34⟩ := arr8 1 0 2147483648 0 0 0 0 0 Tw.om Tw.om Tw.om Tw.om Tw.om Tw.om Tw.om Tw.om
         refine Tw.lp (v := .agg (fa 8 (dg X34))) rfl rfl (fun _ => by rw [← eX34]; kernel_rfl) ?_
         refine Tw.mm (.agg (frcC false X33 X34)) ?_
         refine Tw.mm (.int .u32 ((z32 : Nat) : Int)) ?_
         refine Tw.mm (.int .u32 ((z32 : Nat) : Int)) ?_
         obtain ⟨X35, hX35, eX35⟩ := arr8 1 0 z32 z32 2147483647 0 0 0 Tw.om Tw.om Tw.om Tw.om Tw.om Tw.om Tw.om Tw.om
         refine Tw.lp (v := .agg (fa 8 (dg X35))) rfl rfl (fun _ => by rw [← eX35]; kernel_rfl) ?_
         refine Tw.mm (.int .u32 ((z32 : Nat) : Int)) ?_
         obtain ⟨X36, hX36, eX36⟩ := arr8 z32 4294967295 2147483648 0 0 0 0 0 Tw.om Tw.om Tw.om Tw.om Tw.om Tw.om Tw.om Tw.om
         refine Tw.lp (v := .agg (fa 8 (dg X36))) rfl rfl (fun _ => by rw [← eX36]; kernel_rfl) ?_
         refine Tw.mm (.agg (frcC false X35 X36)) ?_
         refine wpL_new (fun g => .slice (some ⟨g, 0, none⟩) 2 2) (obi := .cells (fcs [(false, X33, X34), (false, X35, X36)]).toArray 25 (0, 0)) rfl rfl Tw.kf Tw.pf fun g37 Bg37 Fg37 => ?_
         obtain ⟨dj38_0, dj38_1, dj38_2, dj38_3, dj38_4⟩ : g15 ≠ g37 ∧ g12 ≠ g37 ∧ g4 ≠ g37 ∧ g3 ≠ g37 ∧ Dk g37 Kkb := Tw.dkf Fg37
         refine wpL_g (AppO w 25 17 [(g15, .cells #[.int .u32 2147483648, .int .u32 2147483647, .int .u32 4294967295] 22 (0, 0)), (g12, .cells #[.int .i64 0, .int .i64 1, .int .i64 128, .int .i64 224, .int .i64 254, .int .i64 255] 3 (0, 0)), (g4, .cells (fa 8 (dg X2)) 23 (0, 0)), (g3, .cells (fa 8 (dg X1)) 23 (0, 0))] ((Lkb.length) + 2) ((fcs Lkb) ++ (fcs [(false, X33, X34), (false, X35, X36)]))) rfl rfl (app_own el_frc (m := 2) (c := 2) (news := (fcs [(false, X33, X34), (false, X35, X36)])) rfl Tw.kr Tw.kr Tw.m0 hOkb Tw.sc (fun p hp => ⟨by simp only [List.mem_cons, List.mem_append, List.nil_append, List.not_mem_nil, or_assoc, or_false, false_or] at hp ⊢ <;> grind, (show Dj [(g15, .cells #[.int .u32 2147483648, .int .u32 2147483647, .int .u32 4294967295] 22 (0, 0)), (g12, .cells #[.int .i64 0, .int .i64 1, .int .i64 128, .int .i64 224, .int .i64 254, .int .i64 255] 3 (0, 0)), (g4, .cells (fa 8 (dg X2)) 23 (0, 0)), (g3, .cells (fa 8 (dg X1)) 23 (0, 0))] Kkb from Tw.djt) p hp⟩) (by rw [fcs_len]; rfl) (fcs_one _) Tw.om Tw.om Tw.om) Tw.pf ?_
         rintro v39 K9 ⟨Kl39, O39, N39, rfl⟩
         replace O39 : OwnL w 25 17 v39 ((Lkb.length) + 2) (fcs (Lkb ++ [(false, X33, X34), (false, X35, X36)])) Kl39 := by rw [fcs_app]; exact O39
         obtain ⟨dj40_0, dj40_1, dj40_2, dj40_3⟩ : Dk g15 Kl39 ∧ Dk g12 Kl39 ∧ Dk g4 Kl39 ∧ Dk g3 Kl39 := Tw.djf N39
         refine Tw.mm v39 ?_
         refine wpL_done (fun W26 hW26 => ?_)
         change Code.wp ..
         refine wp_region_L _ hW26 ?_
         refine Tw.lp (v := .int .i64 (((kb + 1) : Nat) : Int)) rfl rfl (run_bin rfl (vx := (.int .i64 ((kb : Nat) : Int))) (vy := (.int .i64 ((1 : Nat) : Int))) Tw.kr Tw.kr fun w => bn_add (z := (kb + 1)) rfl (wr_i64 Tw.om) w) ?_
         refine Tw.mm (.int .i64 (((kb + 1) : Nat) : Int)) ?_
         refine wpL_done (fun W27 hW27 => ?_)
         go_roundw
         case rel =>
           repeat apply Exists.intro
           exact ⟨⟨(kb + 1), (Lkb ++ [(false, X33, X34), (false, X35, X36)]), v39, Kl39, Tw.om, (by have h := O39; rw [show Lkb.length + 2 = (Lkb ++ [(false, X33, X34), (false, X35, X36)]).length from by simp] at h; exact h), (fr_app hLkb (by intro x hx; simp only [List.mem_cons, List.not_mem_nil, or_false] at hx; rcases hx with rfl | rfl <;> exact ⟨by first | assumption | exact R_pos 8, by first | assumption | exact R_pos 8⟩)), (by simp; omega), (show Dk g15 Kl39 from Tw.djt), (show Dk g12 Kl39 from Tw.djt), (show Dk g4 Kl39 from Tw.djt), (show Dk g3 Kl39 from Tw.djt), rfl, rfl, (hW27.sub Tw.sb)⟩, rfl⟩
         case measure => (show 3 - (intOf (.int .i64 (((kb + 1) : Nat) : Int))).toNat < 3 - (intOf (.int .i64 ((kb : Nat) : Int))).toNat); simp only [intOf]; omega
   | true =>
     have h1 : ka < 6 := of_decide_eq_true hd1
     clear hd1
     refine wp_cond_true rfl ?_
     refine wp_skip ?_
     change Code.wp ..
     refine wp_seq ?_
     refine wp_block ?_
     refine wp_seq ?_
     refine wp_region_L _ hW6 ?_
     refine Tw.lp (v := .pointer (some ⟨g12, 0 + ka * 1, none⟩)) rfl rfl (run_idxL (j := .i64) (n := 6) (cap := 6) (b := g12) (off := 0) (k := ka) (sz := 1) rfl Tryz.underlying32 Tw.kr Tw.kr Tw.kr Tw.om) ?_
     obtain ⟨z41, hz41, lz41⟩ : ∃ z : Nat, (#[.int .i64 0, .int .i64 1, .int .i64 128, .int .i64 224, .int .i64 254, .int .i64 255] : Array Value)[0 + ka * 1]? = some (.int .i64 ((z : Nat) : Int)) ∧ (0 ≤ z ∧ z ≤ 255) := by
       have hk0 : ka < 6 := by omega
       revert hk0; generalize ka = kk; intro hk0; rcases (show kk = 0 ∨ kk = 1 ∨ kk = 2 ∨ kk = 3 ∨ kk = 4 ∨ kk = 5 by omega) with rfl | rfl | rfl | rfl | rfl | rfl <;> first | exact ⟨0, rfl, by omega⟩ | exact ⟨1, rfl, by omega⟩ | exact ⟨128, rfl, by omega⟩ | exact ⟨224, rfl, by omega⟩ | exact ⟨254, rfl, by omega⟩ | exact ⟨255, rfl, by omega⟩
     refine Tw.lv (v := .int .i64 ((z41 : Nat) : Int)) rfl rfl (yb_cell rfl Tw.kr Tw.m0 Tryz.underlying3 rfl hz41) ?_
     refine Tw.mm (.int .i64 ((z41 : Nat) : Int)) ?_
     refine wpL_done (fun W28 hW28 => ?_)
     change Code.wp ..
     refine wp_region_V _ Tw.kr hW28 ?_
     refine vm (i := 0) (v := vka) rfl rfl rfl ?_
     refine vm (i := 1) (v := .int .i64 ((z41 : Nat) : Int)) rfl rfl rfl ?_
     refine vv (i := 3) (v := .agg (fa 8 (dg X1))) rfl rfl rfl (yb_all rfl Tw.kr Tw.m2 Tryz.underlying23 rfl (by simp only [fa_size]; kernel_rfl)) ?_
     refine vv (i := 5) (v := .agg (fa 8 (dg X1))) rfl rfl rfl (yb_all rfl Tw.kr Tw.m2 Tryz.underlying23 rfl (by simp only [fa_size]; kernel_rfl)) ?_
     refine vm (i := 6) (v := .int .i64 ((z41 : Nat) : Int)) rfl rfl rfl ?_
     refine vm (i := 9) (v := .int .i64 ((z41 : Nat) : Int)) rfl rfl rfl ?_
     refine vm (i := 13) (v := .int .i64 ((z41 : Nat) : Int)) rfl rfl rfl ?_
     obtain ⟨X42, hX42, eX42⟩ := arr8 3 0 0 0 0 0 0 0 Tw.om Tw.om Tw.om Tw.om Tw.om Tw.om Tw.om Tw.om
     refine vp (i := 15) (v := .agg (fa 8 (dg X42))) rfl rfl rfl (fun _ => by rw [← eX42]; kernel_rfl) ?_
     obtain ⟨H43, hH43, hh43⟩ := high_ok z41 Tw.om
     refine vv (i := 2) (v := .agg (fa 8 (dg H43))) rfl rfl rfl (yb_call (f := 41) (args := #[.int .i64 ((z41 : Nat) : Int)]) Tw.kf fun W hW => hh43 W) ?_
     refine vm (i := 4) (v := .agg (frcC false H43 X1)) rfl rfl rfl ?_
     obtain ⟨H44, hH44, hh44⟩ := high_ok z41 Tw.om
     refine vv (i := 7) (v := .agg (fa 8 (dg H44))) rfl rfl rfl (yb_call (f := 41) (args := #[.int .i64 ((z41 : Nat) : Int)]) Tw.kf fun W hW => hh44 W) ?_
     refine vm (i := 8) (v := .agg (frcC false X1 H44)) rfl rfl rfl ?_
     obtain ⟨H45, hH45, hh45⟩ := high_ok z41 Tw.om
     refine vv (i := 10) (v := .agg (fa 8 (dg H45))) rfl rfl rfl (yb_call (f := 41) (args := #[.int .i64 ((z41 : Nat) : Int)]) Tw.kf fun W hW => hh45 W) ?_
     obtain ⟨H46, hH46, hh46⟩ := high_ok 0 Tw.om
     refine vv (i := 11) (v := .agg (fa 8 (dg H46))) rfl rfl rfl (yb_call (f := 41) (args := #[.int .i64 0]) Tw.kf fun W hW => hh46 W) ?_
     refine vm (i := 12) (v := .agg (frcC true H45 H46)) rfl rfl rfl ?_
     obtain ⟨H47, hH47, hh47⟩ := high_ok z41 Tw.om
     refine vv (i := 14) (v := .agg (fa 8 (dg H47))) rfl rfl rfl (yb_call (f := 41) (args := #[.int .i64 ((z41 : Nat) : Int)]) Tw.kf fun W hW => hh47 W) ?_
     refine vm (i := 16) (v := .agg (frcC false H47 X42)) rfl rfl rfl ?_
     refine wpV_ns (fun g => .slice (some ⟨g, 0, none⟩) 4 4) (i := 17) (obi := .cells (fcs [(false, H43, X1), (false, X1, H44), (true, H45, H46), (false, H47, X42)]).toArray 25 (0, 0)) rfl rfl rfl Tw.kr Tw.kf Tw.pf fun g48 Bg48 Fg48 => ?_
     obtain ⟨dj49_0, dj49_1, dj49_2, dj49_3⟩ : g12 ≠ g48 ∧ g4 ≠ g48 ∧ g3 ≠ g48 ∧ Dk g48 Kka := Tw.dkf Fg48
     refine wpV_g (AppO w 25 17 [(g12, .cells #[.int .i64 0, .int .i64 1, .int .i64 128, .int .i64 224, .int .i64 254, .int .i64 255] 3 (0, 0)), (g4, .cells (fa 8 (dg X2)) 23 (0, 0)), (g3, .cells (fa 8 (dg X1)) 23 (0, 0))] ((Lka.length) + 4) ((fcs Lka) ++ (fcs [(false, H43, X1), (false, X1, H44), (true, H45, H46), (false, H47, X42)]))) (i := 18) rfl rfl rfl Tw.kr rfl (app_own el_frc (m := 4) (c := 4) (news := (fcs [(false, H43, X1), (false, X1, H44), (true, H45, H46), (false, H47, X42)])) rfl Tw.kr Tw.kr Tw.m0 hOka Tw.sc (fun p hp => ⟨by simp only [List.mem_cons, List.mem_append, List.nil_append, List.not_mem_nil, or_assoc, or_false, false_or] at hp ⊢ <;> grind, (show Dj [(g12, .cells #[.int .i64 0, .int .i64 1, .int .i64 128, .int .i64 224, .int .i64 254, .int .i64 255] 3 (0, 0)), (g4, .cells (fa 8 (dg X2)) 23 (0, 0)), (g3, .cells (fa 8 (dg X1)) 23 (0, 0))] Kka from Tw.djt) p hp⟩) (by rw [fcs_len]; rfl) (fcs_one _) Tw.om Tw.om Tw.om) Tw.pf ?_
     rintro v50 K9 ⟨Kl50, O50, N50, rfl⟩
     replace O50 : OwnL w 25 17 v50 ((Lka.length) + 4) (fcs (Lka ++ [(false, H43, X1), (false, X1, H44), (true, H45, H46), (false, H47, X42)])) Kl50 := by rw [fcs_app]; exact O50
     obtain ⟨dj51_0, dj51_1, dj51_2⟩ : Dk g12 Kl50 ∧ Dk g4 Kl50 ∧ Dk g3 Kl50 := Tw.djf N50
     refine vm (i := 19) (v := v50) rfl rfl rfl ?_
     refine wpV_done Tw.kr (fun W29 hW29 => ?_) _
     change Code.wp ..
     refine wp_region_L _ hW29 ?_
     refine Tw.lp (v := .int .i64 (((ka + 1) : Nat) : Int)) rfl rfl (run_bin rfl (vx := (.int .i64 ((ka : Nat) : Int))) (vy := (.int .i64 ((1 : Nat) : Int))) Tw.kr Tw.kr fun w => bn_add (z := (ka + 1)) rfl (wr_i64 Tw.om) w) ?_
     refine Tw.mm (.int .i64 (((ka + 1) : Nat) : Int)) ?_
     refine wpL_done (fun W30 hW30 => ?_)
     go_roundw
     case rel =>
       repeat apply Exists.intro
       exact ⟨⟨(ka + 1), (Lka ++ [(false, H43, X1), (false, X1, H44), (true, H45, H46), (false, H47, X42)]), v50, Kl50, Tw.om, (by have h := O50; rw [show Lka.length + 4 = (Lka ++ [(false, H43, X1), (false, X1, H44), (true, H45, H46), (false, H47, X42)]).length from by simp] at h; exact h), (fr_app hLka (by intro x hx; simp only [List.mem_cons, List.not_mem_nil, or_false] at hx; rcases hx with rfl | rfl | rfl | rfl <;> exact ⟨by first | assumption | exact R_pos 8, by first | assumption | exact R_pos 8⟩)), (by simp; omega), (show Dk g12 Kl50 from Tw.djt), (show Dk g4 Kl50 from Tw.djt), (show Dk g3 Kl50 from Tw.djt), rfl, rfl, (hW30.sub Tw.sb)⟩, rfl⟩
     case measure => (show 6 - (intOf (.int .i64 (((ka + 1) : Nat) : Int))).toNat < 6 - (intOf (.int .i64 ((ka : Nat) : Int))).toNat); simp only [intOf]; omega
end Go.Proofs.YtalmflgkbmnghaaGreatDoor
namespace Go.Proofs.YtalmflgkbmnghaaGreatDoor
open Go Go.RowKit Tw
open Tf (dg R R_pos R_le R_succ dg_of_lt setd setd_eq)
variable [ShLZ]
variable [ShSt]
set_option maxRecDepth 100000 in
set_option maxHeartbeats 40000000 in
theorem FracSmall_any (hA : ∀ W, Env W → Calls Tryz.prog 14 #[] W fun e w' => e = .returned (.bool true) ∧ Below W.heap.size W w') (w : World) (hE : Env w) : Calls Tryz.prog 6 #[] w fun e w' => e = .returned (.bool true) ∧ Below w.heap.size w w' := by
 have HE := Lib.hid hE
 clear hE
 go_enter Tryz.func6, Tryz.ntmps6
 refine wp_seq ?_
 refine wp_region_L [] (KS.start w) ?_
 refine Tw.mm (.bool false) ?_
 refine wpL_done (fun W1 hW1 => ?_)
 change Code.wp ..
 refine wp_seq ?_
 refine wp_region_L _ hW1 ?_
 refine Tw.mm (.slice none 0 0) ?_
 refine wpL_done (fun W2 hW2 => ?_)
 change Code.wp ..
 refine wp_seq ?_
 refine wp_seq ?_
 refine wp_region_L _ hW2 ?_
 refine Tw.mm (.int .i64 1) ?_
 refine wpL_done (fun W3 hW3 => ?_)
 change Code.wp ..
 refine wp_block ?_
 go_loopw [2, 1] (fun u2 u1 wr => ∃ (b : Nat) (L : List Fr) (vo : Value) (Ko : List (Nat × Obj)), (1 ≤ b ∧ b ≤ 7) ∧ (OwnL (w : Base) 25 17 vo (L.length) (fcs L) Ko) ∧ (∀ x ∈ L, frOk x) ∧ (L.length ≤ 13 * (b - 1)) ∧ u2 = .int .i64 ((b : Nat) : Int) ∧ vo = u1 ∧ KS w Ko wr) (fun u2 _ _ => 7 - (intOf u2).toNat)
 case atStart => exact ⟨1, [], (.slice none 0 0), [], Tw.om, (OwnL.nil _ _ _), (fun _ h => by cases h), (by simp), rfl, rfl, (hW3.sub Tw.sb)⟩
 case round =>
   obtain ⟨b, L, vo, Ko, hb, hO, hL, hLn, rfl, rfl, hL4⟩ := hrel
   refine wp_seq ?_
   refine wp_seq ?_
   refine wp_region_L _ hL4 ?_
   refine Tw.mm (.int .i64 ((b : Nat) : Int)) ?_
   refine Tw.lp (v := .bool (!(decide (6 < b)))) rfl rfl (run_bin rfl (vx := (.int .i64 ((b : Nat) : Int))) (vy := (.int .i64 ((6 : Nat) : Int))) Tw.kr Tw.kr fun w => bn_leq rfl w) ?_
   refine wpL_done (fun W5 hW5 => ?_)
   change Code.wp ..
   cases hd1 : (decide (6 < b)) with
   | false =>
     have h1 : ¬ (6 < b) := of_decide_eq_false hd1
     clear hd1
     refine wp_cond_true rfl ?_
     refine wp_skip ?_
     change Code.wp ..
     refine wp_seq ?_
     refine wp_block ?_
     refine wp_seq ?_
     refine wp_region_L _ hW5 ?_
     refine Tw.mm (.int .i64 (-6)) ?_
     refine wpL_done (fun W6 hW6 => ?_)
     change Code.wp ..
     refine wp_block ?_
     go_loopw [3, 1] (fun u3 u1 wr => ∃ (a : Int) (Li : List Fr) (vi : Value) (Ki : List (Nat × Obj)), (-6 ≤ a ∧ a ≤ 7) ∧ (OwnL (w : Base) 25 17 vi (Li.length) (fcs Li) Ki) ∧ (∀ x ∈ Li, frOk x) ∧ ((Li.length : Int) ≤ 13 * (b - 1) + (a + 6)) ∧ u3 = .int .i64 a ∧ vi = u1 ∧ KS w Ki wr) (fun u3 _ _ => (7 - intOf u3).toNat)
     case atStart => exact ⟨(-6), L, vo, Ko, Tw.om, hO, hL, Tw.om, rfl, rfl, (hW6.sub Tw.sb)⟩
     case round =>
       obtain ⟨a, Li, vi, Ki, ha, hOi, hLi, hLin, rfl, rfl, hL7⟩ := hrel
       refine wp_seq ?_
       refine wp_seq ?_
       refine wp_region_L _ hL7 ?_
       refine Tw.mm (.int .i64 a) ?_
       refine Tw.lp (v := .bool (!(decide (6 < a)))) rfl rfl (run_bin rfl (vx := (.int .i64 a)) (vy := (.int .i64 6)) Tw.kr Tw.kr fun w => bi_leq rfl w) ?_
       refine wpL_done (fun W8 hW8 => ?_)
       change Code.wp ..
       cases hd2 : (decide (6 < a)) with
       | false =>
         have h2 : ¬ (6 < a) := of_decide_eq_false hd2
         clear hd2
         refine wp_cond_true rfl ?_
         refine wp_skip ?_
         change Code.wp ..
         refine wp_seq ?_
         refine wp_block ?_
         refine wp_region_L _ hW8 ?_
         refine Tw.mm vi ?_
         refine Tw.mm (.int .i64 a) ?_
         refine Tw.mm (.int .i64 ((b : Nat) : Int)) ?_
         obtain ⟨rs3, rn3, rd3, ln3, ld3, hr3⟩ := ratio_ok a ((b : Nat) : Int) Tw.om Tw.om Tw.om Tw.om
         refine Tw.lv (v := .agg (frcC rs3 rn3 rd3)) rfl rfl (yb_call (f := 11) (args := #[.int .i64 a, .int .i64 ((b : Nat) : Int)]) Tw.kf fun W hW => hr3 W) ?_
         refine wpL_new (fun g => .slice (some ⟨g, 0, none⟩) 1 1) (obi := .cells (frcC rs3 rn3 rd3) 25 (0, 0)) rfl rfl Tw.kf Tw.pf fun g4 Bg4 Fg4 => ?_
         obtain dj5_0 : Dk g4 Ki := Tw.dkf Fg4
         refine wpL_g (AppO w 25 17 [] ((Li.length) + 1) ((fcs Li) ++ (frcC rs3 rn3 rd3).toList)) rfl rfl (app_own el_frc (m := 1) (c := 1) (news := (frcC rs3 rn3 rd3).toList) rfl Tw.kr Tw.kr Tw.m0 hOi Tw.sc (fun _ h => by cases h) (by simp [frcC]) (frc_onec) Tw.om Tw.om Tw.om) Tw.pf ?_
         rintro v6 Kl6 ⟨_, O6, N6, rfl⟩
         replace O6 : OwnL w 25 17 v6 ((Li.length) + 1) (fcs (Li ++ [(rs3, rn3, rd3)])) Kl6 := by rw [fcs_snoc]; exact O6
         refine Tw.mm v6 ?_
         refine wpL_done (fun W9 hW9 => ?_)
         change Code.wp ..
         refine wp_region_L _ hW9 ?_
         refine Tw.mm (.int .i64 a) ?_
         refine Tw.lp (v := .int .i64 (a + 1)) rfl rfl (run_bin rfl (vx := (.int .i64 a)) (vy := (.int .i64 1)) Tw.kr Tw.kr fun w => bi_add (z := (a + 1)) rfl (wi_i64 Tw.om) w) ?_
         refine Tw.mm (.int .i64 (a + 1)) ?_
         refine wpL_done (fun W10 hW10 => ?_)
         go_roundw
         case rel =>
           repeat apply Exists.intro
           exact ⟨⟨(a + 1), (Li ++ [(rs3, rn3, rd3)]), v6, Kl6, Tw.om, (by have h := O6; rw [show Li.length + 1 = (Li ++ [(rs3, rn3, rd3)]).length from by simp] at h; exact h), (fr_snoc hLi ln3 ld3), (by simp; omega), rfl, rfl, (hW10.sub Tw.sb)⟩, rfl⟩
         case measure => (show (7 - intOf (.int .i64 (a + 1))).toNat < (7 - intOf (.int .i64 a)).toNat); simp only [intOf]; omega
       | true =>
         have h2 : 6 < a := of_decide_eq_true hd2
         clear hd2
         refine wp_cond_false rfl ?_
         refine wp_exit ?_
         change Code.wp ..
         refine wp_region_L _ hW8 ?_
         refine Tw.mm (.int .i64 ((b : Nat) : Int)) ?_
         refine Tw.lp (v := .int .i64 (((b + 1) : Nat) : Int)) rfl rfl (run_bin rfl (vx := (.int .i64 ((b : Nat) : Int))) (vy := (.int .i64 ((1 : Nat) : Int))) Tw.kr Tw.kr fun w => bn_add (z := (b + 1)) rfl (wr_i64 Tw.om) w) ?_
         refine Tw.mm (.int .i64 (((b + 1) : Nat) : Int)) ?_
         refine wpL_done (fun W11 hW11 => ?_)
         go_roundw
         case rel =>
           repeat apply Exists.intro
           exact ⟨⟨(b + 1), Li, vi, Ki, Tw.om, hOi, hLi, Tw.om, rfl, rfl, (hW11.sub Tw.sb)⟩, rfl⟩
         case measure => (show 7 - (intOf (.int .i64 (((b + 1) : Nat) : Int))).toNat < 7 - (intOf (.int .i64 ((b : Nat) : Int))).toNat); simp only [intOf]; omega
   | true =>
     have h1 : 6 < b := of_decide_eq_true hd1
     clear hd1
     refine wp_cond_false rfl ?_
     refine wp_exit ?_
     change Code.wp ..
     refine wp_seq ?_
     refine wp_seq ?_
     have hok := hL
     clear hL
     obtain ⟨p7, c7, rfl, hc7, HN7⟩ := own_fs hO
     refine wp_region_L _ hW5 ?_
     refine Tw.mm (.slice p7 (L.length) c7) ?_
     refine Tw.lp (v := .int .i64 (((L.length) : Nat) : Int)) rfl rfl (run_lenL (p := p7) (cap := c7) (n := (L.length)) rfl Tryz.underlying29 Tw.kr) ?_
     refine Tw.mm (.int .i64 0) ?_
     refine wpL_done (fun W12 hW12 => ?_)
     change Code.wp ..
     refine wp_block ?_
     go_loopw [29] (fun u29 wr => ∃ (i : Nat), (i ≤ L.length) ∧ u29 = .int .i64 ((i : Nat) : Int) ∧ KS w Ko wr) (fun u29 _ => L.length - (intOf u29).toNat)
     case atStart => exact ⟨0, (Nat.zero_le _), rfl, (hW12.sub Tw.sb)⟩
     case round =>
       obtain ⟨i, hi, rfl, hL13⟩ := hrel
       refine wp_seq ?_
       refine wp_region_L _ hL13 ?_
       refine Tw.lp (v := .bool (decide (i < (L.length)))) rfl rfl (run_bin rfl (vx := (.int .i64 ((i : Nat) : Int))) (vy := (.int .i64 (((L.length) : Nat) : Int))) Tw.kr Tw.kr fun w => bn_lss rfl w) ?_
       refine wpL_done (fun W14 hW14 => ?_)
       change Code.wp ..
       refine wp_seq ?_
       cases hd3 : (decide (i < (L.length))) with
       | false =>
         have h3 : ¬ (i < (L.length)) := of_decide_eq_false hd3
         clear hd3
         refine wp_cond_false rfl ?_
         refine wp_exit ?_
         change Code.wp ..
         refine wp_seq ?_
         refine wp_region_L _ hW14 ?_
         refine wpL_new (fun g => .slice (some ⟨g, 0, none⟩) 13 13) (obi := .cells #[.int .i64 0, .int .i64 1, .int .i64 (-1), .int .i64 2, .int .i64 3, .int .i64 65535, .int .i64 65536, .int .i64 4294967295, .int .i64 4294967296, .int .i64 (-9223372036854775808), .int .i64 9223372036854775807, .int .i64 (-9223372036854775807), .int .i64 4611686018427387904] 3 (0, 0)) rfl rfl Tw.kf Tw.pf fun g8 Bg8 Fg8 => ?_
         obtain dj9_0 : Dk g8 Ko := Tw.dkf Fg8
         refine Tw.mm (.slice (some ⟨g8, 0, none⟩) 13 13) ?_
         refine wpL_done (fun W15 hW15 => ?_)
         change Code.wp ..
         refine wp_seq ?_
         refine wp_seq ?_
         refine wp_region_L _ hW15 ?_
         refine Tw.mm (.slice (some ⟨g8, 0, none⟩) 13 13) ?_
         refine Tw.mm (.int .i64 13) ?_
         refine Tw.mm (.int .i64 0) ?_
         refine wpL_done (fun W16 hW16 => ?_)
         change Code.wp ..
         refine wp_block ?_
         go_loopw [62] (fun u62 wr => ∃ (pp : Nat), (pp ≤ 13) ∧ u62 = .int .i64 ((pp : Nat) : Int) ∧ KS w ((g8, .cells #[.int .i64 0, .int .i64 1, .int .i64 (-1), .int .i64 2, .int .i64 3, .int .i64 65535, .int .i64 65536, .int .i64 4294967295, .int .i64 4294967296, .int .i64 (-9223372036854775808), .int .i64 9223372036854775807, .int .i64 (-9223372036854775807), .int .i64 4611686018427387904] 3 (0, 0)) :: Ko) wr) (fun u62 _ => 13 - (intOf u62).toNat)
         case atStart => exact ⟨0, (Nat.zero_le _), rfl, (hW16.sub Tw.sb)⟩
         case round =>
           obtain ⟨pp, hpp, rfl, hL17⟩ := hrel
           refine wp_seq ?_
           refine wp_region_L _ hL17 ?_
           refine Tw.lp (v := .bool (decide (pp < 13))) rfl rfl (run_bin rfl (vx := (.int .i64 ((pp : Nat) : Int))) (vy := (.int .i64 ((13 : Nat) : Int))) Tw.kr Tw.kr fun w => bn_lss rfl w) ?_
           refine wpL_done (fun W18 hW18 => ?_)
           change Code.wp ..
           refine wp_seq ?_
           cases hd4 : (decide (pp < 13)) with
           | false =>
             have h4 : ¬ (pp < 13) := of_decide_eq_false hd4
             clear hd4
             refine wp_cond_false rfl ?_
             refine wp_exit ?_
             change Code.wp ..
             refine wp_seq ?_
             refine wp_region_L _ hW18 ?_
             refine Tw.lv (v := .bool true) rfl rfl (yb_call (f := 13) (args := #[]) Tw.kf fun W hW => great_any W (HE.out.keep hW.1)) ?_
             refine Tw.mm (.bool true) ?_
             refine Tw.lv (v := .bool true) rfl rfl (yb_call (f := 14) (args := #[]) Tw.kf fun W hW => hA W (HE.out.keep hW.1)) ?_
             refine Tw.mm (.bool true) ?_
             refine Tw.mm (.bool true) ?_
             refine wpL_done (fun W19 hW19 => ?_)
             change Code.wp ..
             refine wp_ret ?_
             try simp only [inBlock_ret, then_ret]
             refine bodyPost_ret (v := .bool true) ?_ rfl ?_
             · kernel_rfl
             · exact ⟨rfl, hW19.1⟩
           | true =>
             have h4 : pp < 13 := of_decide_eq_true hd4
             clear hd4
             refine wp_cond_true rfl ?_
             refine wp_skip ?_
             change Code.wp ..
             refine wp_seq ?_
             refine wp_block ?_
             refine wp_seq ?_
             refine wp_region_L _ hW18 ?_
             refine Tw.lp (v := .pointer (some ⟨g8, 0 + pp * 1, none⟩)) rfl rfl (run_idxL (j := .i64) (n := 13) (cap := 13) (b := g8) (off := 0) (k := pp) (sz := 1) rfl Tryz.underlying32 Tw.kr Tw.kr Tw.kr Tw.om) ?_
             obtain ⟨z10, hz10, lz10⟩ : ∃ z : Int, (#[.int .i64 0, .int .i64 1, .int .i64 (-1), .int .i64 2, .int .i64 3, .int .i64 65535, .int .i64 65536, .int .i64 4294967295, .int .i64 4294967296, .int .i64 (-9223372036854775808), .int .i64 9223372036854775807, .int .i64 (-9223372036854775807), .int .i64 4611686018427387904] : Array Value)[0 + pp * 1]? = some (.int .i64 z) ∧ (-9223372036854775808 ≤ z ∧ z ≤ 9223372036854775807) := by
               have hk0 : pp < 13 := by omega
               revert hk0; generalize pp = kk; intro hk0; rcases (show kk = 0 ∨ kk = 1 ∨ kk = 2 ∨ kk = 3 ∨ kk = 4 ∨ kk = 5 ∨ kk = 6 ∨ kk = 7 ∨ kk = 8 ∨ kk = 9 ∨ kk = 10 ∨ kk = 11 ∨ kk = 12 by omega) with rfl | rfl | rfl | rfl | rfl | rfl | rfl | rfl | rfl | rfl | rfl | rfl | rfl <;> first | exact ⟨0, rfl, by omega⟩ | exact ⟨1, rfl, by omega⟩ | exact ⟨(-1), rfl, by omega⟩ | exact ⟨2, rfl, by omega⟩ | exact ⟨3, rfl, by omega⟩ | exact ⟨65535, rfl, by omega⟩ | exact ⟨65536, rfl, by omega⟩ | exact ⟨4294967295, rfl, by omega⟩ | exact ⟨4294967296, rfl, by omega⟩ | exact ⟨(-9223372036854775808), rfl, by omega⟩ | exact ⟨9223372036854775807, rfl, by omega⟩ | exact ⟨(-9223372036854775807), rfl, by omega⟩ | exact ⟨4611686018427387904, rfl, by omega⟩
             refine Tw.lv (v := .int .i64 z10) rfl rfl (yb_cell rfl Tw.kr Tw.m0 Tryz.underlying3 rfl hz10) ?_
             refine Tw.mm (.int .i64 z10) ?_
             refine wpL_done (fun W20 hW20 => ?_)
             change Code.wp ..
             refine wp_seq ?_
             refine wp_region_L _ hW20 ?_
             refine Tw.mm (.slice (some ⟨g8, 0, none⟩) 13 13) ?_
             refine Tw.mm (.int .i64 13) ?_
             refine Tw.mm (.int .i64 0) ?_
             refine wpL_done (fun W21 hW21 => ?_)
             change Code.wp ..
             refine wp_block ?_
             go_loopw [68] (fun u68 wr => ∃ (qq : Nat), (qq ≤ 13) ∧ u68 = .int .i64 ((qq : Nat) : Int) ∧ KS w ((g8, .cells #[.int .i64 0, .int .i64 1, .int .i64 (-1), .int .i64 2, .int .i64 3, .int .i64 65535, .int .i64 65536, .int .i64 4294967295, .int .i64 4294967296, .int .i64 (-9223372036854775808), .int .i64 9223372036854775807, .int .i64 (-9223372036854775807), .int .i64 4611686018427387904] 3 (0, 0)) :: Ko) wr) (fun u68 _ => 13 - (intOf u68).toNat)
             case atStart => exact ⟨0, (Nat.zero_le _), rfl, (hW21.sub Tw.sb)⟩
             case round =>
               obtain ⟨qq, hqq, rfl, hL22⟩ := hrel
               refine wp_seq ?_
               refine wp_region_L _ hL22 ?_
               refine Tw.lp (v := .bool (decide (qq < 13))) rfl rfl (run_bin rfl (vx := (.int .i64 ((qq : Nat) : Int))) (vy := (.int .i64 ((13 : Nat) : Int))) Tw.kr Tw.kr fun w => bn_lss rfl w) ?_
               refine wpL_done (fun W23 hW23 => ?_)
               change Code.wp ..
               refine wp_seq ?_
               cases hd5 : (decide (qq < 13)) with
               | false =>
                 have h5 : ¬ (qq < 13) := of_decide_eq_false hd5
                 clear hd5
                 refine wp_cond_false rfl ?_
                 refine wp_exit ?_
                 change Code.wp ..
                 refine wp_region_L _ hW23 ?_
                 refine Tw.lp (v := .int .i64 (((pp + 1) : Nat) : Int)) rfl rfl (run_bin rfl (vx := (.int .i64 ((pp : Nat) : Int))) (vy := (.int .i64 ((1 : Nat) : Int))) Tw.kr Tw.kr fun w => bn_add (z := (pp + 1)) rfl (wr_i64 Tw.om) w) ?_
                 refine Tw.mm (.int .i64 (((pp + 1) : Nat) : Int)) ?_
                 refine wpL_done (fun W24 hW24 => ?_)
                 go_roundw
                 case rel =>
                   repeat apply Exists.intro
                   exact ⟨⟨(pp + 1), Tw.om, rfl, (hW24.sub Tw.sb)⟩, rfl⟩
                 case measure => (show 13 - (intOf (.int .i64 (((pp + 1) : Nat) : Int))).toNat < 13 - (intOf (.int .i64 ((pp : Nat) : Int))).toNat); simp only [intOf]; omega
               | true =>
                 have h5 : qq < 13 := of_decide_eq_true hd5
                 clear hd5
                 refine wp_cond_true rfl ?_
                 refine wp_skip ?_
                 change Code.wp ..
                 refine wp_seq ?_
                 refine wp_block ?_
                 refine wp_seq ?_
                 refine wp_region_L _ hW23 ?_
                 refine Tw.lp (v := .pointer (some ⟨g8, 0 + qq * 1, none⟩)) rfl rfl (run_idxL (j := .i64) (n := 13) (cap := 13) (b := g8) (off := 0) (k := qq) (sz := 1) rfl Tryz.underlying32 Tw.kr Tw.kr Tw.kr Tw.om) ?_
                 obtain ⟨z11, hz11, lz11⟩ : ∃ z : Int, (#[.int .i64 0, .int .i64 1, .int .i64 (-1), .int .i64 2, .int .i64 3, .int .i64 65535, .int .i64 65536, .int .i64 4294967295, .int .i64 4294967296, .int .i64 (-9223372036854775808), .int .i64 9223372036854775807, .int .i64 (-9223372036854775807), .int .i64 4611686018427387904] : Array Value)[0 + qq * 1]? = some (.int .i64 z) ∧ (-9223372036854775808 ≤ z ∧ z ≤ 9223372036854775807) := by
                   have hk0 : qq < 13 := by omega
                   revert hk0; generalize qq = kk; intro hk0; rcases (show kk = 0 ∨ kk = 1 ∨ kk = 2 ∨ kk = 3 ∨ kk = 4 ∨ kk = 5 ∨ kk = 6 ∨ kk = 7 ∨ kk = 8 ∨ kk = 9 ∨ kk = 10 ∨ kk = 11 ∨ kk = 12 by omega) with rfl | rfl | rfl | rfl | rfl | rfl | rfl | rfl | rfl | rfl | rfl | rfl | rfl <;> first | exact ⟨0, rfl, by omega⟩ | exact ⟨1, rfl, by omega⟩ | exact ⟨(-1), rfl, by omega⟩ | exact ⟨2, rfl, by omega⟩ | exact ⟨3, rfl, by omega⟩ | exact ⟨65535, rfl, by omega⟩ | exact ⟨65536, rfl, by omega⟩ | exact ⟨4294967295, rfl, by omega⟩ | exact ⟨4294967296, rfl, by omega⟩ | exact ⟨(-9223372036854775808), rfl, by omega⟩ | exact ⟨9223372036854775807, rfl, by omega⟩ | exact ⟨(-9223372036854775807), rfl, by omega⟩ | exact ⟨4611686018427387904, rfl, by omega⟩
                 refine Tw.lv (v := .int .i64 z11) rfl rfl (yb_cell rfl Tw.kr Tw.m0 Tryz.underlying3 rfl hz11) ?_
                 refine Tw.mm (.int .i64 z11) ?_
                 refine wpL_done (fun W25 hW25 => ?_)
                 change Code.wp ..
                 refine wp_seq ?_
                 refine wp_region_L _ hW25 ?_
                 refine Tw.mm (.int .i64 z10) ?_
                 refine Tw.mm (.int .i64 z11) ?_
                 refine Tw.lv (v := .bool true) rfl rfl (yb_call (f := 12) (args := #[.int .i64 z10, .int .i64 z11]) Tw.kf fun W hW => ratios_any z10 z11 Tw.om Tw.om Tw.om Tw.om W) ?_
                 refine Tw.mm (.bool false) ?_
                 refine Tw.mm (.bool false) ?_
                 refine Tw.mm (.int .i64 z10) ?_
                 obtain ⟨rs12, rn12, rd12, ln12, ld12, hr12⟩ := ratio_ok z10 7 Tw.om Tw.om Tw.om Tw.om
                 refine Tw.lv (v := .agg (frcC rs12 rn12 rd12)) rfl rfl (yb_call (f := 11) (args := #[.int .i64 z10, .int .i64 7]) Tw.kf fun W hW => hr12 W) ?_
                 refine Tw.mm (.int .i64 z11) ?_
                 obtain ⟨rs13, rn13, rd13, ln13, ld13, hr13⟩ := ratio_ok z11 8589934592 Tw.om Tw.om Tw.om Tw.om
                 refine Tw.lv (v := .agg (frcC rs13 rn13 rd13)) rfl rfl (yb_call (f := 11) (args := #[.int .i64 z11, .int .i64 8589934592]) Tw.kf fun W hW => hr13 W) ?_
                 refine Tw.lv (v := .bool true) rfl rfl (yb_call (f := 7) (args := #[.agg (frcC rs12 rn12 rd12), .agg (frcC rs13 rn13 rd13)]) Tw.kf fun W hW => ltells_any rs12 rs13 rn12 rd12 rn13 rd13 ln12 ld12 ln13 ld13 W (HE.out.keep hW.1)) ?_
                 refine Tw.mm (.bool false) ?_
                 refine Tw.mm (.bool false) ?_
                 refine wpL_done (fun W26 hW26 => ?_)
                 change Code.wp ..
                 refine wp_cond_false rfl ?_
                 refine wp_skip ?_
                 change Code.wp ..
                 refine wp_region_L _ hW26 ?_
                 refine Tw.lp (v := .int .i64 (((qq + 1) : Nat) : Int)) rfl rfl (run_bin rfl (vx := (.int .i64 ((qq : Nat) : Int))) (vy := (.int .i64 ((1 : Nat) : Int))) Tw.kr Tw.kr fun w => bn_add (z := (qq + 1)) rfl (wr_i64 Tw.om) w) ?_
                 refine Tw.mm (.int .i64 (((qq + 1) : Nat) : Int)) ?_
                 refine wpL_done (fun W27 hW27 => ?_)
                 go_roundw
                 case rel =>
                   repeat apply Exists.intro
                   exact ⟨⟨(qq + 1), Tw.om, rfl, (hW27.sub Tw.sb)⟩, rfl⟩
                 case measure => (show 13 - (intOf (.int .i64 (((qq + 1) : Nat) : Int))).toNat < 13 - (intOf (.int .i64 ((qq : Nat) : Int))).toNat); simp only [intOf]; omega
       | true =>
         have h3 : i < (L.length) := of_decide_eq_true hd3
         clear hd3
         refine wp_cond_true rfl ?_
         refine wp_skip ?_
         change Code.wp ..
         refine wp_seq ?_
         refine wp_block ?_
         refine wp_seq ?_
         refine wp_region_L _ hW14 ?_
         refine Tw.mm (.int .i64 ((i : Nat) : Int)) ?_
         obtain ⟨b14, f14, hp14, hc14⟩ := (HN7.mono Tw.sb).at hW14 (k := i) (by first | omega | (simp only [List.length_drop, List.length_take]; omega))
         refine Tw.lp (v := .pointer (some ⟨b14, f14 + i * 17, none⟩)) rfl rfl (run_idxQ (p := p7) (cap := c7) (n := (L.length)) (j := .i64) (k := i) (sz := 17) rfl Tryz.underlying29 Tw.kr Tw.kr hp14 Tw.kr Tw.om) ?_
         obtain ⟨⟨es15, en15, ed15⟩, hx15⟩ : ∃ x, (L : List Fr)[i]? = some x := ⟨_, List.getElem?_eq_getElem (by first | omega | (simp only [List.length_drop, List.length_take]; omega))⟩
         have eb15 : en15 < R 8 ∧ ed15 < R 8 := by first | exact hok _ (List.mem_of_getElem? hx15) | exact hok _ (List.mem_of_mem_drop (List.mem_of_getElem? hx15))
         have ebn15 := eb15.1
         have ebd15 := eb15.2
         refine Tw.lv (v := .agg (frcC es15 en15 ed15)) rfl rfl (yb_fr (off := f14 + i * 17) rfl Tw.kr (fun W hW jq vq hv => hc14 W (hW.sub Tw.sb) i _ hx15 jq vq hv) Tryz.underlying25 rfl Tw.kr) ?_
         refine wpL_new (fun g => .pointer (some ⟨g, 0, none⟩)) (obi := .cells (frcC false 0 0) 25 (0, 0)) rfl rfl Tw.kf Tw.pf fun g16 Bg16 Fg16 => ?_
         obtain dj17_0 : Dk g16 Ko := Tw.dkf Fg16
         refine Tw.mm (.int .i64 ((i : Nat) : Int)) ?_
         refine wpL_s ((g16, .cells (frcC es15 en15 ed15) 25 (0, 0)) :: Ko) rfl rfl (st_all zfz (by exact frc_onec) rfl Tw.kr Tw.kr Tw.m0 Bg16 zfs (List.forall_mem_cons.2 ⟨.inl rfl, (fun p hp => .inr ⟨(.tail _ hp), ((show Dk g16 Ko from Tw.djt) _ hp)⟩)⟩)) ?_
         refine wpL_done (fun W28 hW28 => ?_)
         change Code.wp ..
         refine wp_seq ?_
         refine wp_seq ?_
         refine wp_region_L _ hW28 ?_
         refine Tw.mm (.slice p7 (L.length) c7) ?_
         refine Tw.mm (.int .i64 ((i : Nat) : Int)) ?_
         refine Tw.lp (v := .int .i64 (((i % 3) : Nat) : Int)) rfl rfl (run_bin rfl (vx := (.int .i64 ((i : Nat) : Int))) (vy := (.int .i64 ((3 : Nat) : Int))) Tw.kr Tw.kr fun w => bn_rem (z := (i % 3)) rfl Tw.om w) ?_
         refine Tw.lp (v := .slice (if c7 = (i % 3) then p7 else p7.map (·.add ((i % 3) * 17))) ((L.length) - (i % 3)) (c7 - (i % 3))) rfl rfl (run_cut17 (p := p7) (n := (L.length)) (c := c7) (i := (i % 3)) (k1 := .i64) rfl Tryz.underlying29 Tw.kr Tw.kr Tw.kr Tw.om) ?_
         refine Tw.lp (v := .int .i64 ((((L.length) - (i % 3)) : Nat) : Int)) rfl rfl (run_lenL (p := (if c7 = (i % 3) then p7 else p7.map (·.add ((i % 3) * 17)))) (cap := (c7 - (i % 3))) (n := ((L.length) - (i % 3))) rfl Tryz.underlying29 Tw.kr) ?_
         refine Tw.mm (.int .i64 0) ?_
         refine wpL_done (fun W29 hW29 => ?_)
         change Code.wp ..
         refine wp_block ?_
         go_loopw [39] (fun u39 wr => ∃ (j : Nat), (j ≤ L.length - i % 3) ∧ u39 = .int .i64 ((j : Nat) : Int) ∧ KS w ((g16, .cells (frcC es15 en15 ed15) 25 (0, 0)) :: Ko) wr) (fun u39 _ => L.length - (intOf u39).toNat)
         case atStart => exact ⟨0, (Nat.zero_le _), rfl, (hW29.sub Tw.sb)⟩
         case round =>
           obtain ⟨j, hj, rfl, hL30⟩ := hrel
           refine wp_seq ?_
           refine wp_region_L _ hL30 ?_
           refine Tw.lp (v := .bool (decide (j < ((L.length) - (i % 3))))) rfl rfl (run_bin rfl (vx := (.int .i64 ((j : Nat) : Int))) (vy := (.int .i64 ((((L.length) - (i % 3)) : Nat) : Int))) Tw.kr Tw.kr fun w => bn_lss rfl w) ?_
           refine wpL_done (fun W31 hW31 => ?_)
           change Code.wp ..
           refine wp_seq ?_
           cases hd6 : (decide (j < ((L.length) - (i % 3)))) with
           | false =>
             have h6 : ¬ (j < ((L.length) - (i % 3))) := of_decide_eq_false hd6
             clear hd6
             refine wp_cond_false rfl ?_
             refine wp_exit ?_
             change Code.wp ..
             refine wp_seq ?_
             refine wp_region_L _ hW31 ?_
             refine Tw.mm (.slice p7 (L.length) c7) ?_
             refine Tw.mm (.int .i64 ((i : Nat) : Int)) ?_
             refine Tw.mm (.int .i64 ((i : Nat) : Int)) ?_
             refine Tw.lp (v := .int .i64 (((i + 9) : Nat) : Int)) rfl rfl (run_bin rfl (vx := (.int .i64 ((i : Nat) : Int))) (vy := (.int .i64 ((9 : Nat) : Int))) Tw.kr Tw.kr fun w => bn_add (z := (i + 9)) rfl (wr_i64 Tw.om) w) ?_
             refine Tw.mm (.slice p7 (L.length) c7) ?_
             refine Tw.lp (v := .int .i64 (((L.length) : Nat) : Int)) rfl rfl (run_lenL (p := p7) (cap := c7) (n := (L.length)) rfl Tryz.underlying29 Tw.kr) ?_
             refine Tw.lp (v := .int .i64 (((min (i + 9) (L.length)) : Nat) : Int)) rfl rfl (run_minN rfl (x := (i + 9)) (y := (L.length)) Tw.kr Tw.kr) ?_
             refine Tw.lp (v := .slice (if c7 = i then p7 else p7.map (·.add (i * 17))) ((min (i + 9) (L.length)) - i) (c7 - i)) rfl rfl (run_cut17b (p := p7) (n := (L.length)) (c := c7) (i := i) (j := (min (i + 9) (L.length))) (k1 := .i64) (k2 := .i64) rfl Tryz.underlying29 Tw.kr Tw.kr Tw.kr Tw.kr Tw.om Tw.om) ?_
             refine Tw.lv (v := .bool true) rfl rfl (yb_call (f := 10) (args := #[.slice (if c7 = i then p7 else p7.map (·.add (i * 17))) ((min (i + 9) (L.length)) - i) (c7 - i)]) Tw.kf fun W hW => lsums_len ((L.take (min (i + 9) (L.length))).drop i) (if c7 = i then p7 else p7.map (·.add (i * 17))) ((min (i + 9) (L.length)) - i) (c7 - i) (by simp <;> omega) (fun x hx => hok x (List.mem_of_mem_take (List.mem_of_mem_drop hx))) W (HE.out.keep hW.1) (((FS.drop (k := i) ((HN7.mono Tw.sb).take (min (i + 9) (L.length))) hW31 (by rw [List.length_take]; omega)).mono Tw.sb) W hW)) ?_
             refine Tw.mm (.bool false) ?_
             refine wpL_done (fun W32 hW32 => ?_)
             change Code.wp ..
             refine wp_cond_false rfl ?_
             refine wp_skip ?_
             change Code.wp ..
             refine wp_region_L _ hW32 ?_
             refine Tw.lp (v := .int .i64 (((i + 1) : Nat) : Int)) rfl rfl (run_bin rfl (vx := (.int .i64 ((i : Nat) : Int))) (vy := (.int .i64 ((1 : Nat) : Int))) Tw.kr Tw.kr fun w => bn_add (z := (i + 1)) rfl (wr_i64 Tw.om) w) ?_
             refine Tw.mm (.int .i64 (((i + 1) : Nat) : Int)) ?_
             refine wpL_done (fun W33 hW33 => ?_)
             go_roundw
             case rel =>
               repeat apply Exists.intro
               exact ⟨⟨(i + 1), Tw.om, rfl, (hW33.sub Tw.sb)⟩, rfl⟩
             case measure => (show L.length - (intOf (.int .i64 (((i + 1) : Nat) : Int))).toNat < L.length - (intOf (.int .i64 ((i : Nat) : Int))).toNat); simp only [intOf]; omega
           | true =>
             have h6 : j < ((L.length) - (i % 3)) := of_decide_eq_true hd6
             clear hd6
             refine wp_cond_true rfl ?_
             refine wp_skip ?_
             change Code.wp ..
             refine wp_seq ?_
             refine wp_block ?_
             refine wp_seq ?_
             refine wp_region_L _ hW31 ?_
             obtain ⟨b18, f18, hp18, hc18⟩ := ((FS.drop (k := (i % 3)) (HN7.mono Tw.sb) hW28 hc7).mono Tw.sb).at hW31 (k := j) (by first | omega | (simp only [List.length_drop, List.length_take]; omega))
             refine Tw.lp (v := .pointer (some ⟨b18, f18 + j * 17, none⟩)) rfl rfl (run_idxQ (p := (if c7 = (i % 3) then p7 else p7.map (·.add ((i % 3) * 17)))) (cap := (c7 - (i % 3))) (n := ((L.length) - (i % 3))) (j := .i64) (k := j) (sz := 17) rfl Tryz.underlying29 Tw.kr Tw.kr hp18 Tw.kr Tw.om) ?_
             obtain ⟨⟨es19, en19, ed19⟩, hx19⟩ : ∃ x, ((L.drop (i % 3)) : List Fr)[j]? = some x := ⟨_, List.getElem?_eq_getElem (by first | omega | (simp only [List.length_drop, List.length_take]; omega))⟩
             have eb19 : en19 < R 8 ∧ ed19 < R 8 := by first | exact hok _ (List.mem_of_getElem? hx19) | exact hok _ (List.mem_of_mem_drop (List.mem_of_getElem? hx19))
             have ebn19 := eb19.1
             have ebd19 := eb19.2
             refine Tw.lv (v := .agg (frcC es19 en19 ed19)) rfl rfl (yb_fr (off := f18 + j * 17) rfl Tw.kr (fun W hW jq vq hv => hc18 W (hW.sub Tw.sb) j _ hx19 jq vq hv) Tryz.underlying25 rfl Tw.kr) ?_
             refine wpL_new (fun g => .pointer (some ⟨g, 0, none⟩)) (obi := .cells (frcC false 0 0) 25 (0, 0)) rfl rfl Tw.kf Tw.pf fun g20 Bg20 Fg20 => ?_
             obtain ⟨dj21_0, dj21_1⟩ : g16 ≠ g20 ∧ Dk g20 Ko := Tw.dkf Fg20
             refine wpL_s ((g20, .cells (frcC es19 en19 ed19) 25 (0, 0)) :: (g16, .cells (frcC es15 en15 ed15) 25 (0, 0)) :: Ko) rfl rfl (st_all zfz (by exact frc_onec) rfl Tw.kr Tw.kr Tw.m0 Bg20 zfs (List.forall_mem_cons.2 ⟨.inl rfl, (List.forall_mem_cons.2 ⟨.inr ⟨Tw.m1, Tw.nee⟩, (fun p hp => .inr ⟨(.tail _ (.tail _ hp)), ((show Dk g20 Ko from Tw.djt) _ hp)⟩)⟩)⟩)) ?_
             refine wpL_done (fun W34 hW34 => ?_)
             change Code.wp ..
             refine wp_seq ?_
             refine wp_region_L _ hW34 ?_
             refine Tw.lv (v := .agg (frcC es15 en15 ed15)) rfl rfl (yb_all rfl Tw.kr Tw.m1 Tryz.underlying25 rfl zfs) ?_
             refine Tw.lv (v := .agg (frcC es19 en19 ed19)) rfl rfl (yb_all rfl Tw.kr Tw.m0 Tryz.underlying25 rfl zfs) ?_
             refine Tw.lv (v := .bool true) rfl rfl (yb_call (f := 7) (args := #[.agg (frcC es15 en15 ed15), .agg (frcC es19 en19 ed19)]) Tw.kf fun W hW => ltells_any es15 es19 en15 ed15 en19 ed19 eb15.1 eb15.2 eb19.1 eb19.2 W (HE.out.keep hW.1)) ?_
             refine Tw.mm (.bool false) ?_
             refine wpL_done (fun W35 hW35 => ?_)
             change Code.wp ..
             refine wp_cond_false rfl ?_
             refine wp_skip ?_
             change Code.wp ..
             refine wp_region_L _ hW35 ?_
             refine Tw.lp (v := .int .i64 (((j + 1) : Nat) : Int)) rfl rfl (run_bin rfl (vx := (.int .i64 ((j : Nat) : Int))) (vy := (.int .i64 ((1 : Nat) : Int))) Tw.kr Tw.kr fun w => bn_add (z := (j + 1)) rfl (wr_i64 Tw.om) w) ?_
             refine Tw.mm (.int .i64 (((j + 1) : Nat) : Int)) ?_
             refine wpL_done (fun W36 hW36 => ?_)
             go_roundw
             case rel =>
               repeat apply Exists.intro
               exact ⟨⟨(j + 1), Tw.om, rfl, (hW36.sub Tw.sb)⟩, rfl⟩
             case measure => (show L.length - (intOf (.int .i64 (((j + 1) : Nat) : Int))).toNat < L.length - (intOf (.int .i64 ((j : Nat) : Int))).toNat); simp only [intOf]; omega
end Go.Proofs.YtalmflgkbmnghaaGreatDoor
