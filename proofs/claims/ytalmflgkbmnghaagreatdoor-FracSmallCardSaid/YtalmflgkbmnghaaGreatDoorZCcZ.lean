import Derived.Test.YtalmflgkbmnghaaGreatDoorRM00
import Derived.Test.YtalmflgkbmnghaaGreatDoorZCc08
import Derived.Test.YtalmflgkbmnghaaGreatDoorRM04
import Derived.Test.YtalmflgkbmnghaaGreatDoorRM05
import Derived.Test.YtalmflgkbmnghaaGreatDoorZCc01
/- FracSmall: the law holds for every input; no condition but the row's own. -/
set_option linter.unusedVariables false
set_option linter.unusedSimpArgs false
set_option linter.unusedSectionVars false
namespace Go.Proofs.YtalmflgkbmnghaaGreatDoor
open Go Go.RowKit Tw
open Tf (dg R R_pos R_le R_succ dg_of_lt setd setd_eq)
variable [ShLZ]
variable [ShSt]
theorem right_one (M : Nat) : rightB false M 1 = true := by
 unfold rightB
 split <;> simp
theorem top_text (M : Nat) : textL false M 1 = Lib.decDigits M := by simp [textL]
theorem top_ok : ∃ M, (∀ W, Calls Tryz.prog 41 #[.int .i64 0] W fun e w' => e = .returned (.agg (fa 8 (dg M))) ∧ Below W.heap.size W w') ∧ M < R 8 ∧ ∃ top, Lib.decDigits M = top ∧ top.length = 78 :=
 ⟨2 ^ 256 - 1, fun W => high_any 0 Tw.om W, by rw [R8_two]; exact Nat.sub_lt (Nat.two_pow_pos _) Tw.om, _, rfl, top_len⟩
set_option maxRecDepth 100000 in
set_option maxHeartbeats 40000000 in
theorem texts_any (hRp : ∃ rp : List UInt8, rp.length ≤ 77 ∧ ∀ W, Calls Tryz.prog 32 #[.string ⟨#[48]⟩, .int .i64 77] W fun e w' => e = .returned (strV rp) ∧ Below W.heap.size W w') (hA : ∀ W, Env W → Calls Tryz.prog 8 #[] W fun e w' => e = .returned (.bool true) ∧ Below W.heap.size W w') (w : World) (hE : Env w) : Calls Tryz.prog 14 #[] w fun e w' => e = .returned (.bool true) ∧ Below w.heap.size w w' := by
 have HE := Lib.hid hE
 clear hE
 obtain ⟨M, hM, hMR, top, htop, hlt⟩ := top_ok
 go_enter Tryz.func14, Tryz.ntmps14
 refine wp_seq ?_
 refine wp_region_L [] (KS.start w) ?_
 refine Tw.mm (.bool false) ?_
 refine wpL_done (fun W1 hW1 => ?_)
 change Code.wp ..
 refine wp_seq ?_
 refine wp_seq ?_
 refine wp_region_L _ hW1 ?_
 refine wpL_new (fun g => .slice (some ⟨g, 0, none⟩) 3 3) (obi := .cells #[strV [45, 49, 50, 48, 47, 55], strV [48], strV [49, 47, 49, 48]] 9 (0, 0)) rfl rfl Tw.kf Tw.pf fun g1 Bg1 Fg1 => ?_
 refine Tw.mm (.int .i64 3) ?_
 refine Tw.mm (.int .i64 0) ?_
 refine wpL_done (fun W2 hW2 => ?_)
 change Code.wp ..
 refine wp_block ?_
 go_loopw [14] (fun u14 wr => ∃ (ka : Nat), (ka ≤ 3) ∧ u14 = .int .i64 ((ka : Nat) : Int) ∧ KS w [(g1, .cells #[strV [45, 49, 50, 48, 47, 55], strV [48], strV [49, 47, 49, 48]] 9 (0, 0))] wr) (fun u14 _ => 3 - (intOf u14).toNat)
 case atStart => exact ⟨0, (Nat.zero_le _), rfl, (hW2.sub Tw.sb)⟩
 case round =>
   obtain ⟨ka, hka, rfl, hL3⟩ := hrel
   refine wp_seq ?_
   refine wp_region_L _ hL3 ?_
   refine Tw.lp (v := .bool (decide (ka < 3))) rfl rfl (run_bin rfl (vx := (.int .i64 ((ka : Nat) : Int))) (vy := (.int .i64 ((3 : Nat) : Int))) Tw.kr Tw.kr fun w => bn_lss rfl w) ?_
   refine wpL_done (fun W4 hW4 => ?_)
   change Code.wp ..
   refine wp_seq ?_
   cases hd1 : (decide (ka < 3)) with
   | false =>
     have h1 : ¬ (ka < 3) := of_decide_eq_false hd1
     clear hd1
     refine wp_cond_false rfl ?_
     refine wp_exit ?_
     change Code.wp ..
     refine wp_seq ?_
     refine wp_region_L _ hW4 ?_
     refine Tw.lv (v := .agg (fa 8 (dg M))) rfl rfl (yb_call (f := 41) (args := #[.int .i64 0]) Tw.kf fun W hW => hM W) ?_
     refine Tw.mm (.agg (fa 8 (dg 1))) ?_
     refine Tw.mm (.agg (frcC false M 1)) ?_
     refine Tw.lv (v := .tuple #[strV top, .int .i64 0]) rfl rfl (yb_call (f := 31) (args := #[.agg (frcC false M 1)]) Tw.kf fun W hW => (by have h := RText_any false M 1 hMR (lt8 Tw.om) W; rw [if_pos (right_one M), top_text, htop] at h; exact h)) ?_
     refine Tw.mm (.tuple #[strV top, .int .i64 0]) ?_
     refine Tw.mm (strV top) ?_
     refine Tw.mm (.int .i64 0) ?_
     refine Tw.mm (strV top) ?_
     refine Tw.mm (.int .i64 0) ?_
     refine wpL_done (fun W5 hW5 => ?_)
     change Code.wp ..
     refine wp_seq ?_
     refine wp_seq ?_
     refine wp_region_L _ hW5 ?_
     refine Tw.mm (strV top) ?_
     refine Tw.lp (v := .int .i64 ((top.length : Nat) : Int)) rfl rfl (run_lenS (l := top) rfl Tryz.underlying9 Tw.kr) ?_
     refine Tw.lp (v := .bool false) rfl rfl (run_bin rfl (vx := (.int .i64 ((top.length : Nat) : Int))) (vy := (.int .i64 ((78 : Nat) : Int))) Tw.kr Tw.kr fun w => bn_neq (decide_eq_true hlt) w) ?_
     refine wpL_done (fun W6 hW6 => ?_)
     change Code.wp ..
     refine wp_cond_false rfl ?_
     refine wp_skip ?_
     change Code.wp ..
     refine wp_seq ?_
     refine wp_seq ?_
     refine wp_region_V _ Tw.kr hW6 ?_
     refine vm (i := 0) (v := strV top) rfl rfl rfl ?_
     refine vm (i := 1) (v := strV top) rfl rfl rfl ?_
     refine vp (i := 2) (v := strV (top.take 77)) rfl rfl rfl (run_slH (k2 := .i64) (l := top) (r := (top.take 77)) (j := 77) rfl Tryz.underlying9 Tw.kr Tw.kr (by first | omega | (simp; omega)) rfl) ?_
     refine vp (i := 3) (v := strV ((top.take 77) ++ [54])) rfl rfl rfl (run_bin rfl (vx := strV (top.take 77)) (vy := strV [54]) Tw.kr Tw.kr fun w => bs_add (c := ((top.take 77) ++ [54])) rfl (by first | omega | (simp; omega)) w) ?_
     refine vm (i := 4) (v := strV top) rfl rfl rfl ?_
     refine vp (i := 5) (v := strV (top ++ [48])) rfl rfl rfl (run_bin rfl (vx := strV top) (vy := strV [48]) Tw.kr Tw.kr fun w => bs_add (c := (top ++ [48])) rfl (by first | omega | (simp; omega)) w) ?_
     refine vm (i := 6) (v := strV top) rfl rfl rfl ?_
     refine vp (i := 7) (v := strV (top.take 77)) rfl rfl rfl (run_slH (k2 := .i64) (l := top) (r := (top.take 77)) (j := 77) rfl Tryz.underlying9 Tw.kr Tw.kr (by first | omega | (simp; omega)) rfl) ?_
     refine vm (i := 8) (v := strV top) rfl rfl rfl ?_
     refine vp (i := 9) (v := strV (top.drop 1)) rfl rfl rfl (run_slL (k1 := .i64) (l := top) (r := (top.drop 1)) (i := 1) rfl Tryz.underlying9 Tw.kr Tw.kr (by first | omega | (simp; omega)) rfl) ?_
     refine vp (i := 10) (v := strV ([57] ++ (top.drop 1))) rfl rfl rfl (run_bin rfl (vx := strV [57]) (vy := strV (top.drop 1)) Tw.kr Tw.kr fun w => bs_add (c := ([57] ++ (top.drop 1))) rfl (by first | omega | (simp; omega)) w) ?_
     refine vm (i := 15) (v := .int .i64 0) rfl rfl rfl ?_
     obtain ⟨rp, hrp⟩ : ∃ rp : List UInt8, rp.length ≤ 77 ∧ ∀ W, Calls Tryz.prog 32 #[.string ⟨#[48]⟩, .int .i64 77] W fun e w' => e = .returned (strV rp) ∧ Below W.heap.size W w' := hRp
     refine vv (i := 11) (v := strV rp) rfl rfl rfl (yb_call (f := 32) (args := #[strV [48], .int .i64 77]) Tw.kf fun W hW => hrp.2 W) ?_
     refine vp (i := 12) (v := strV ([49] ++ rp)) rfl rfl rfl (run_bin rfl (vx := strV [49]) (vy := strV rp) Tw.kr Tw.kr fun w => bs_add (c := ([49] ++ rp)) rfl (by first | omega | (simp; omega)) w) ?_
     refine wpV_ns (fun g => .slice (some ⟨g, 0, none⟩) 6 6) (i := 13) (obi := .cells #[strV top, strV ((top.take 77) ++ [54]), strV (top ++ [48]), strV (top.take 77), strV ([57] ++ (top.drop 1)), strV ([49] ++ rp)] 9 (0, 0)) rfl rfl rfl Tw.kr Tw.kf Tw.pf fun g2 Bg2 Fg2 => ?_
     obtain dj3_0 : g1 ≠ g2 := Tw.dkf Fg2
     refine vm (i := 14) (v := .int .i64 6) rfl rfl rfl ?_
     refine wpV_done Tw.kr (fun W7 hW7 => ?_) _
     change Code.wp ..
     refine wp_block ?_
     go_loopw [101] (fun u101 wr => ∃ (kb : Nat), (kb ≤ 6) ∧ u101 = .int .i64 ((kb : Nat) : Int) ∧ KS w [(g2, .cells #[strV top, strV ((top.take 77) ++ [54]), strV (top ++ [48]), strV (top.take 77), strV ([57] ++ (top.drop 1)), strV ([49] ++ rp)] 9 (0, 0)), (g1, .cells #[strV [45, 49, 50, 48, 47, 55], strV [48], strV [49, 47, 49, 48]] 9 (0, 0))] wr) (fun u101 _ => 6 - (intOf u101).toNat)
     case atStart => exact ⟨0, (Nat.zero_le _), rfl, (hW7.sub Tw.sb)⟩
     case round =>
       obtain ⟨kb, hkb, rfl, hL8⟩ := hrel
       refine wp_seq ?_
       refine wp_region_L _ hL8 ?_
       refine Tw.lp (v := .bool (decide (kb < 6))) rfl rfl (run_bin rfl (vx := (.int .i64 ((kb : Nat) : Int))) (vy := (.int .i64 ((6 : Nat) : Int))) Tw.kr Tw.kr fun w => bn_lss rfl w) ?_
       refine wpL_done (fun W9 hW9 => ?_)
       change Code.wp ..
       refine wp_seq ?_
       cases hd2 : (decide (kb < 6)) with
       | false =>
         have h2 : ¬ (kb < 6) := of_decide_eq_false hd2
         clear hd2
         refine wp_cond_false rfl ?_
         refine wp_exit ?_
         change Code.wp ..
         refine wp_seq ?_
         refine wp_region_L _ hW9 ?_
         refine Tw.lv (v := .bool true) rfl rfl (yb_call (f := 8) (args := #[]) Tw.kf fun W hW => hA W (HE.out.keep hW.1)) ?_
         refine Tw.mm (.bool true) ?_
         refine wpL_done (fun W10 hW10 => ?_)
         change Code.wp ..
         refine wp_ret ?_
         try simp only [inBlock_ret, then_ret]
         refine bodyPost_ret (v := .bool true) ?_ rfl ?_
         · kernel_rfl
         · exact ⟨rfl, hW10.1⟩
       | true =>
         have h2 : kb < 6 := of_decide_eq_true hd2
         clear hd2
         refine wp_cond_true rfl ?_
         refine wp_skip ?_
         change Code.wp ..
         refine wp_seq ?_
         refine wp_block ?_
         refine wp_seq ?_
         refine wp_region_L _ hW9 ?_
         refine Tw.lp (v := .pointer (some ⟨g2, 0 + kb * 1, none⟩)) rfl rfl (run_idxL (j := .i64) (n := 6) (cap := 6) (b := g2) (off := 0) (k := kb) (sz := 1) rfl Tryz.underlying66 Tw.kr Tw.kr Tw.kr Tw.om) ?_
         obtain ⟨z4, hz4, lz4⟩ : ∃ z : List UInt8, (#[strV top, strV ((top.take 77) ++ [54]), strV (top ++ [48]), strV (top.take 77), strV ([57] ++ (top.drop 1)), strV ([49] ++ rp)] : Array Value)[0 + kb * 1]? = some (strV z) ∧ z.length ≤ 200 := by
           have hk0 : kb < 6 := by omega
           revert hk0; generalize kb = kk; intro hk0; rcases (show kk = 0 ∨ kk = 1 ∨ kk = 2 ∨ kk = 3 ∨ kk = 4 ∨ kk = 5 by omega) with rfl | rfl | rfl | rfl | rfl | rfl <;> first | exact ⟨top, rfl, by first | omega | decide | (simp <;> omega)⟩ | exact ⟨((top.take 77) ++ [54]), rfl, by first | omega | decide | (simp <;> omega)⟩ | exact ⟨(top ++ [48]), rfl, by first | omega | decide | (simp <;> omega)⟩ | exact ⟨(top.take 77), rfl, by first | omega | decide | (simp <;> omega)⟩ | exact ⟨([57] ++ (top.drop 1)), rfl, by first | omega | decide | (simp <;> omega)⟩ | exact ⟨([49] ++ rp), rfl, by first | omega | decide | (simp <;> omega)⟩
         refine Tw.lv (v := strV z4) rfl rfl (yb_cell rfl Tw.kr Tw.m0 Tryz.underlying9 rfl hz4) ?_
         refine Tw.mm (strV z4) ?_
         refine wpL_done (fun W11 hW11 => ?_)
         change Code.wp ..
         refine wp_seq ?_
         refine wp_region_L _ hW11 ?_
         refine Tw.mm (strV top) ?_
         refine Tw.lp (v := strV ([47] ++ top)) rfl rfl (run_bin rfl (vx := strV [47]) (vy := strV top) Tw.kr Tw.kr fun w => bs_add (c := ([47] ++ top)) rfl (by first | omega | (simp; omega)) w) ?_
         refine Tw.mm (strV top) ?_
         refine Tw.lp (v := strV (top.take 77)) rfl rfl (run_slH (k2 := .i64) (l := top) (r := (top.take 77)) (j := 77) rfl Tryz.underlying9 Tw.kr Tw.kr (by first | omega | (simp; omega)) rfl) ?_
         refine Tw.lp (v := strV ([47] ++ (top.take 77))) rfl rfl (run_bin rfl (vx := strV [47]) (vy := strV (top.take 77)) Tw.kr Tw.kr fun w => bs_add (c := ([47] ++ (top.take 77))) rfl (by first | omega | (simp; omega)) w) ?_
         refine Tw.lp (v := strV (([47] ++ (top.take 77)) ++ [54])) rfl rfl (run_bin rfl (vx := strV ([47] ++ (top.take 77))) (vy := strV [54]) Tw.kr Tw.kr fun w => bs_add (c := (([47] ++ (top.take 77)) ++ [54])) rfl (by first | omega | (simp; omega)) w) ?_
         refine Tw.mm (strV top) ?_
         refine Tw.lp (v := strV ([47] ++ top)) rfl rfl (run_bin rfl (vx := strV [47]) (vy := strV top) Tw.kr Tw.kr fun w => bs_add (c := ([47] ++ top)) rfl (by first | omega | (simp; omega)) w) ?_
         refine Tw.lp (v := strV (([47] ++ top) ++ [49])) rfl rfl (run_bin rfl (vx := strV ([47] ++ top)) (vy := strV [49]) Tw.kr Tw.kr fun w => bs_add (c := (([47] ++ top) ++ [49])) rfl (by first | omega | (simp; omega)) w) ?_
         refine wpL_new (fun g => .slice (some ⟨g, 0, none⟩) 7 7) (obi := .cells #[strV [], strV ([47] ++ top), strV [47, 49], strV [47, 51], strV (([47] ++ (top.take 77)) ++ [54]), strV (([47] ++ top) ++ [49]), strV [47, 120]] 9 (0, 0)) rfl rfl Tw.kf Tw.pf fun g5 Bg5 Fg5 => ?_
         obtain ⟨dj6_0, dj6_1⟩ : g2 ≠ g5 ∧ g1 ≠ g5 := Tw.dkf Fg5
         refine Tw.mm (.int .i64 7) ?_
         refine Tw.mm (.int .i64 0) ?_
         refine wpL_done (fun W12 hW12 => ?_)
         change Code.wp ..
         refine wp_block ?_
         go_loopw [116] (fun u116 wr => ∃ (kc : Nat), (kc ≤ 7) ∧ u116 = .int .i64 ((kc : Nat) : Int) ∧ KS w [(g5, .cells #[strV [], strV ([47] ++ top), strV [47, 49], strV [47, 51], strV (([47] ++ (top.take 77)) ++ [54]), strV (([47] ++ top) ++ [49]), strV [47, 120]] 9 (0, 0)), (g2, .cells #[strV top, strV ((top.take 77) ++ [54]), strV (top ++ [48]), strV (top.take 77), strV ([57] ++ (top.drop 1)), strV ([49] ++ rp)] 9 (0, 0)), (g1, .cells #[strV [45, 49, 50, 48, 47, 55], strV [48], strV [49, 47, 49, 48]] 9 (0, 0))] wr) (fun u116 _ => 7 - (intOf u116).toNat)
         case atStart => exact ⟨0, (Nat.zero_le _), rfl, (hW12.sub Tw.sb)⟩
         case round =>
           obtain ⟨kc, hkc, rfl, hL13⟩ := hrel
           refine wp_seq ?_
           refine wp_region_L _ hL13 ?_
           refine Tw.lp (v := .bool (decide (kc < 7))) rfl rfl (run_bin rfl (vx := (.int .i64 ((kc : Nat) : Int))) (vy := (.int .i64 ((7 : Nat) : Int))) Tw.kr Tw.kr fun w => bn_lss rfl w) ?_
           refine wpL_done (fun W14 hW14 => ?_)
           change Code.wp ..
           refine wp_seq ?_
           cases hd3 : (decide (kc < 7)) with
           | false =>
             have h3 : ¬ (kc < 7) := of_decide_eq_false hd3
             clear hd3
             refine wp_cond_false rfl ?_
             refine wp_exit ?_
             change Code.wp ..
             refine wp_region_L _ hW14 ?_
             refine Tw.lp (v := .int .i64 (((kb + 1) : Nat) : Int)) rfl rfl (run_bin rfl (vx := (.int .i64 ((kb : Nat) : Int))) (vy := (.int .i64 ((1 : Nat) : Int))) Tw.kr Tw.kr fun w => bn_add (z := (kb + 1)) rfl (wr_i64 Tw.om) w) ?_
             refine Tw.mm (.int .i64 (((kb + 1) : Nat) : Int)) ?_
             refine wpL_done (fun W15 hW15 => ?_)
             go_roundw
             case rel =>
               repeat apply Exists.intro
               exact ⟨⟨(kb + 1), Tw.om, rfl, (hW15.sub Tw.sb)⟩, rfl⟩
             case measure => (show 6 - (intOf (.int .i64 (((kb + 1) : Nat) : Int))).toNat < 6 - (intOf (.int .i64 ((kb : Nat) : Int))).toNat); simp only [intOf]; omega
           | true =>
             have h3 : kc < 7 := of_decide_eq_true hd3
             clear hd3
             refine wp_cond_true rfl ?_
             refine wp_skip ?_
             change Code.wp ..
             refine wp_seq ?_
             refine wp_block ?_
             refine wp_seq ?_
             refine wp_region_L _ hW14 ?_
             refine Tw.lp (v := .pointer (some ⟨g5, 0 + kc * 1, none⟩)) rfl rfl (run_idxL (j := .i64) (n := 7) (cap := 7) (b := g5) (off := 0) (k := kc) (sz := 1) rfl Tryz.underlying66 Tw.kr Tw.kr Tw.kr Tw.om) ?_
             obtain ⟨z7, hz7, lz7⟩ : ∃ z : List UInt8, (#[strV [], strV ([47] ++ top), strV [47, 49], strV [47, 51], strV (([47] ++ (top.take 77)) ++ [54]), strV (([47] ++ top) ++ [49]), strV [47, 120]] : Array Value)[0 + kc * 1]? = some (strV z) ∧ z.length ≤ 200 := by
               have hk0 : kc < 7 := by omega
               revert hk0; generalize kc = kk; intro hk0; rcases (show kk = 0 ∨ kk = 1 ∨ kk = 2 ∨ kk = 3 ∨ kk = 4 ∨ kk = 5 ∨ kk = 6 by omega) with rfl | rfl | rfl | rfl | rfl | rfl | rfl <;> first | exact ⟨[], rfl, by first | omega | decide | (simp <;> omega)⟩ | exact ⟨([47] ++ top), rfl, by first | omega | decide | (simp <;> omega)⟩ | exact ⟨[47, 49], rfl, by first | omega | decide | (simp <;> omega)⟩ | exact ⟨[47, 51], rfl, by first | omega | decide | (simp <;> omega)⟩ | exact ⟨(([47] ++ (top.take 77)) ++ [54]), rfl, by first | omega | decide | (simp <;> omega)⟩ | exact ⟨(([47] ++ top) ++ [49]), rfl, by first | omega | decide | (simp <;> omega)⟩ | exact ⟨[47, 120], rfl, by first | omega | decide | (simp <;> omega)⟩
             refine Tw.lv (v := strV z7) rfl rfl (yb_cell rfl Tw.kr Tw.m0 Tryz.underlying9 rfl hz7) ?_
             refine Tw.mm (strV z7) ?_
             refine wpL_done (fun W16 hW16 => ?_)
             change Code.wp ..
             refine wp_seq ?_
             refine wp_region_L _ hW16 ?_
             refine Tw.mm (strV z4) ?_
             refine Tw.mm (strV z7) ?_
             refine Tw.lp (v := strV (z4 ++ z7)) rfl rfl (run_bin rfl (vx := strV z4) (vy := strV z7) Tw.kr Tw.kr fun w => bs_add (c := (z4 ++ z7)) rfl (by first | omega | (simp; omega)) w) ?_
             refine Tw.lv (v := .bool true) rfl rfl (yb_call (f := 9) (args := #[strV (z4 ++ z7)]) Tw.kf fun W hW => lreads_any (z4 ++ z7) W (HE.out.keep hW.1)) ?_
             refine Tw.mm (.bool false) ?_
             refine Tw.mm (.bool false) ?_
             refine Tw.mm (strV z4) ?_
             refine Tw.lp (v := strV ([45] ++ z4)) rfl rfl (run_bin rfl (vx := strV [45]) (vy := strV z4) Tw.kr Tw.kr fun w => bs_add (c := ([45] ++ z4)) rfl (by first | omega | (simp; omega)) w) ?_
             refine Tw.mm (strV z7) ?_
             refine Tw.lp (v := strV (([45] ++ z4) ++ z7)) rfl rfl (run_bin rfl (vx := strV ([45] ++ z4)) (vy := strV z7) Tw.kr Tw.kr fun w => bs_add (c := (([45] ++ z4) ++ z7)) rfl (by first | omega | (simp; omega)) w) ?_
             refine Tw.lv (v := .bool true) rfl rfl (yb_call (f := 9) (args := #[strV (([45] ++ z4) ++ z7)]) Tw.kf fun W hW => lreads_any (([45] ++ z4) ++ z7) W (HE.out.keep hW.1)) ?_
             refine Tw.mm (.bool false) ?_
             refine Tw.mm (.bool false) ?_
             refine Tw.mm (.bool false) ?_
             refine Tw.mm (strV z7) ?_
             refine Tw.lp (v := strV ([49] ++ z7)) rfl rfl (run_bin rfl (vx := strV [49]) (vy := strV z7) Tw.kr Tw.kr fun w => bs_add (c := ([49] ++ z7)) rfl (by first | omega | (simp; omega)) w) ?_
             refine Tw.lv (v := .bool true) rfl rfl (yb_call (f := 9) (args := #[strV ([49] ++ z7)]) Tw.kf fun W hW => lreads_any ([49] ++ z7) W (HE.out.keep hW.1)) ?_
             refine Tw.mm (.bool false) ?_
             refine Tw.mm (.bool false) ?_
             refine wpL_done (fun W17 hW17 => ?_)
             change Code.wp ..
             refine wp_cond_false rfl ?_
             refine wp_skip ?_
             change Code.wp ..
             refine wp_region_L _ hW17 ?_
             refine Tw.lp (v := .int .i64 (((kc + 1) : Nat) : Int)) rfl rfl (run_bin rfl (vx := (.int .i64 ((kc : Nat) : Int))) (vy := (.int .i64 ((1 : Nat) : Int))) Tw.kr Tw.kr fun w => bn_add (z := (kc + 1)) rfl (wr_i64 Tw.om) w) ?_
             refine Tw.mm (.int .i64 (((kc + 1) : Nat) : Int)) ?_
             refine wpL_done (fun W18 hW18 => ?_)
             go_roundw
             case rel =>
               repeat apply Exists.intro
               exact ⟨⟨(kc + 1), Tw.om, rfl, (hW18.sub Tw.sb)⟩, rfl⟩
             case measure => (show 7 - (intOf (.int .i64 (((kc + 1) : Nat) : Int))).toNat < 7 - (intOf (.int .i64 ((kc : Nat) : Int))).toNat); simp only [intOf]; omega
   | true =>
     have h1 : ka < 3 := of_decide_eq_true hd1
     clear hd1
     refine wp_cond_true rfl ?_
     refine wp_skip ?_
     change Code.wp ..
     refine wp_seq ?_
     refine wp_block ?_
     refine wp_seq ?_
     refine wp_region_L _ hW4 ?_
     refine Tw.lp (v := .pointer (some ⟨g1, 0 + ka * 1, none⟩)) rfl rfl (run_idxL (j := .i64) (n := 3) (cap := 3) (b := g1) (off := 0) (k := ka) (sz := 1) rfl Tryz.underlying66 Tw.kr Tw.kr Tw.kr Tw.om) ?_
     obtain ⟨z8, hz8, lz8⟩ : ∃ z : List UInt8, (#[strV [45, 49, 50, 48, 47, 55], strV [48], strV [49, 47, 49, 48]] : Array Value)[0 + ka * 1]? = some (strV z) ∧ z.length ≤ 200 := by
       have hk0 : ka < 3 := by omega
       revert hk0; generalize ka = kk; intro hk0; rcases (show kk = 0 ∨ kk = 1 ∨ kk = 2 by omega) with rfl | rfl | rfl <;> first | exact ⟨[45, 49, 50, 48, 47, 55], rfl, by first | omega | decide | (simp <;> omega)⟩ | exact ⟨[48], rfl, by first | omega | decide | (simp <;> omega)⟩ | exact ⟨[49, 47, 49, 48], rfl, by first | omega | decide | (simp <;> omega)⟩
     refine Tw.lv (v := strV z8) rfl rfl (yb_cell rfl Tw.kr Tw.m0 Tryz.underlying9 rfl hz8) ?_
     refine Tw.mm (strV z8) ?_
     refine wpL_done (fun W19 hW19 => ?_)
     change Code.wp ..
     refine wp_seq ?_
     refine wp_region_L _ hW19 ?_
     refine Tw.mm (.int .i64 0) ?_
     refine wpL_done (fun W20 hW20 => ?_)
     change Code.wp ..
     refine wp_block ?_
     go_loopw [3] (fun u3 wr => ∃ (i : Nat), (i ≤ z8.length + 1) ∧ u3 = .int .i64 ((i : Nat) : Int) ∧ KS w [(g1, .cells #[strV [45, 49, 50, 48, 47, 55], strV [48], strV [49, 47, 49, 48]] 9 (0, 0))] wr) (fun u3 _ => z8.length + 1 - (intOf u3).toNat)
     case atStart => exact ⟨0, (Nat.zero_le _), rfl, (hW20.sub Tw.sb)⟩
     case round =>
       obtain ⟨i, hi, rfl, hL21⟩ := hrel
       refine wp_seq ?_
       refine wp_seq ?_
       refine wp_region_L _ hL21 ?_
       refine Tw.mm (.int .i64 ((i : Nat) : Int)) ?_
       refine Tw.mm (strV z8) ?_
       refine Tw.lp (v := .int .i64 ((z8.length : Nat) : Int)) rfl rfl (run_lenS (l := z8) rfl Tryz.underlying9 Tw.kr) ?_
       refine Tw.lp (v := .bool (!(decide (z8.length < i)))) rfl rfl (run_bin rfl (vx := (.int .i64 ((i : Nat) : Int))) (vy := (.int .i64 ((z8.length : Nat) : Int))) Tw.kr Tw.kr fun w => bn_leq rfl w) ?_
       refine wpL_done (fun W22 hW22 => ?_)
       change Code.wp ..
       cases hd4 : (decide (z8.length < i)) with
       | false =>
         have h4 : ¬ (z8.length < i) := of_decide_eq_false hd4
         clear hd4
         refine wp_cond_true rfl ?_
         refine wp_skip ?_
         change Code.wp ..
         refine wp_seq ?_
         refine wp_block ?_
         refine wp_seq ?_
         refine wp_seq ?_
         refine wp_region_L _ hW22 ?_
         refine Tw.mm (.int .i64 0) ?_
         refine wpL_done (fun W23 hW23 => ?_)
         change Code.wp ..
         refine wp_block ?_
         go_loopw [4] (fun u4 wr => ∃ (c : Nat), (c ≤ 256) ∧ u4 = .int .i64 ((c : Nat) : Int) ∧ KS w [(g1, .cells #[strV [45, 49, 50, 48, 47, 55], strV [48], strV [49, 47, 49, 48]] 9 (0, 0))] wr) (fun u4 _ => 256 - (intOf u4).toNat)
         case atStart => exact ⟨0, (Nat.zero_le _), rfl, (hW23.sub Tw.sb)⟩
         case round =>
           obtain ⟨c, hc, rfl, hL24⟩ := hrel
           refine wp_seq ?_
           refine wp_seq ?_
           refine wp_region_L _ hL24 ?_
           refine Tw.mm (.int .i64 ((c : Nat) : Int)) ?_
           refine Tw.lp (v := .bool (decide (c < 256))) rfl rfl (run_bin rfl (vx := (.int .i64 ((c : Nat) : Int))) (vy := (.int .i64 ((256 : Nat) : Int))) Tw.kr Tw.kr fun w => bn_lss rfl w) ?_
           refine wpL_done (fun W25 hW25 => ?_)
           change Code.wp ..
           cases hd5 : (decide (c < 256)) with
           | false =>
             have h5 : ¬ (c < 256) := of_decide_eq_false hd5
             clear hd5
             refine wp_cond_false rfl ?_
             refine wp_exit ?_
             change Code.wp ..
             refine wp_seq ?_
             refine wp_region_L _ hW25 ?_
             refine Tw.mm (strV z8) ?_
             refine Tw.mm (.int .i64 ((i : Nat) : Int)) ?_
             refine Tw.lp (v := strV (z8.take i)) rfl rfl (run_slH (k2 := .i64) (l := z8) (r := (z8.take i)) (j := i) rfl Tryz.underlying9 Tw.kr Tw.kr (by first | omega | (simp; omega)) rfl) ?_
             refine Tw.lv (v := .bool true) rfl rfl (yb_call (f := 9) (args := #[strV (z8.take i)]) Tw.kf fun W hW => lreads_any (z8.take i) W (HE.out.keep hW.1)) ?_
             refine Tw.mm (.bool false) ?_
             refine Tw.mm (.bool false) ?_
             refine Tw.mm (strV z8) ?_
             refine Tw.mm (.int .i64 ((i : Nat) : Int)) ?_
             refine Tw.lp (v := strV (z8.drop i)) rfl rfl (run_slL (k1 := .i64) (l := z8) (r := (z8.drop i)) (i := i) rfl Tryz.underlying9 Tw.kr Tw.kr (by first | omega | (simp; omega)) rfl) ?_
             refine Tw.lv (v := .bool true) rfl rfl (yb_call (f := 9) (args := #[strV (z8.drop i)]) Tw.kf fun W hW => lreads_any (z8.drop i) W (HE.out.keep hW.1)) ?_
             refine Tw.mm (.bool false) ?_
             refine Tw.mm (.bool false) ?_
             refine wpL_done (fun W26 hW26 => ?_)
             change Code.wp ..
             refine wp_cond_false rfl ?_
             refine wp_skip ?_
             change Code.wp ..
             refine wp_region_L _ hW26 ?_
             refine Tw.mm (.int .i64 ((i : Nat) : Int)) ?_
             refine Tw.lp (v := .int .i64 (((i + 1) : Nat) : Int)) rfl rfl (run_bin rfl (vx := (.int .i64 ((i : Nat) : Int))) (vy := (.int .i64 ((1 : Nat) : Int))) Tw.kr Tw.kr fun w => bn_add (z := (i + 1)) rfl (wr_i64 Tw.om) w) ?_
             refine Tw.mm (.int .i64 (((i + 1) : Nat) : Int)) ?_
             refine wpL_done (fun W27 hW27 => ?_)
             go_roundw
             case rel =>
               repeat apply Exists.intro
               exact ⟨⟨(i + 1), Tw.om, rfl, (hW27.sub Tw.sb)⟩, rfl⟩
             case measure => (show z8.length + 1 - (intOf (.int .i64 (((i + 1) : Nat) : Int))).toNat < z8.length + 1 - (intOf (.int .i64 ((i : Nat) : Int))).toNat); simp only [intOf]; omega
           | true =>
             have h5 : c < 256 := of_decide_eq_true hd5
             clear hd5
             refine wp_cond_true rfl ?_
             refine wp_skip ?_
             change Code.wp ..
             refine wp_seq ?_
             refine wp_block ?_
             refine wp_seq ?_
             refine wp_region_L _ hW25 ?_
             refine Tw.mm (.int .i64 ((c : Nat) : Int)) ?_
             refine Tw.lp (v := .int .u8 ((c : Nat) : Int)) rfl rfl (run_conv rfl (vx := (.int .i64 ((c : Nat) : Int))) Tw.kr fun w => cv_int Tryz.underlying3 Tryz.underlying5 (wr_u8 Tw.om) w) ?_
             refine wpL_new (fun g => .slice (some ⟨g, 0, none⟩) 1 1) (obi := .cells #[.int .u8 ((c : Nat) : Int)] 5 (0, 0)) rfl rfl Tw.kf Tw.pf fun g9 Bg9 Fg9 => ?_
             obtain dj10_0 : g1 ≠ g9 := Tw.dkf Fg9
             refine Tw.lv (v := strV [UInt8.ofNat c]) rfl rfl (yb_str (n := 1) (cap := 1) (l := [UInt8.ofNat c]) rfl Tryz.underlying67 Tryz.underlying5 Tryz.underlying9 Tw.kr rfl Tw.m0 (by first | rfl | (simp [RowB, u8s]; omega))) ?_
             refine Tw.mm (strV [UInt8.ofNat c]) ?_
             refine wpL_done (fun W28 hW28 => ?_)
             change Code.wp ..
             refine wp_seq ?_
             refine wp_region_V _ Tw.kr hW28 ?_
             refine vm (i := 0) (v := strV z8) rfl rfl rfl ?_
             refine vm (i := 1) (v := .int .i64 ((i : Nat) : Int)) rfl rfl rfl ?_
             refine vp (i := 2) (v := strV (z8.take i)) rfl rfl rfl (run_slH (k2 := .i64) (l := z8) (r := (z8.take i)) (j := i) rfl Tryz.underlying9 Tw.kr Tw.kr (by first | omega | (simp; omega)) rfl) ?_
             refine vm (i := 3) (v := strV [UInt8.ofNat c]) rfl rfl rfl ?_
             refine vp (i := 4) (v := strV ((z8.take i) ++ [UInt8.ofNat c])) rfl rfl rfl (run_bin rfl (vx := strV (z8.take i)) (vy := strV [UInt8.ofNat c]) Tw.kr Tw.kr fun w => bs_add (c := ((z8.take i) ++ [UInt8.ofNat c])) rfl (by first | omega | (simp; omega)) w) ?_
             refine vm (i := 5) (v := strV z8) rfl rfl rfl ?_
             refine vm (i := 6) (v := .int .i64 ((i : Nat) : Int)) rfl rfl rfl ?_
             refine vp (i := 7) (v := strV (z8.drop i)) rfl rfl rfl (run_slL (k1 := .i64) (l := z8) (r := (z8.drop i)) (i := i) rfl Tryz.underlying9 Tw.kr Tw.kr (by first | omega | (simp; omega)) rfl) ?_
             refine vp (i := 8) (v := strV (((z8.take i) ++ [UInt8.ofNat c]) ++ (z8.drop i))) rfl rfl rfl (run_bin rfl (vx := strV ((z8.take i) ++ [UInt8.ofNat c])) (vy := strV (z8.drop i)) Tw.kr Tw.kr fun w => bs_add (c := (((z8.take i) ++ [UInt8.ofNat c]) ++ (z8.drop i))) rfl (by first | omega | (simp; omega)) w) ?_
             refine vv (i := 9) (v := .bool true) rfl rfl rfl (yb_call (f := 9) (args := #[strV (((z8.take i) ++ [UInt8.ofNat c]) ++ (z8.drop i))]) Tw.kf fun W hW => lreads_any (((z8.take i) ++ [UInt8.ofNat c]) ++ (z8.drop i)) W (HE.out.keep hW.1)) ?_
             refine vm (i := 10) (v := .bool false) rfl rfl rfl ?_
             refine vm (i := 11) (v := .bool false) rfl rfl rfl ?_
             refine vm (i := 12) (v := .int .i64 ((i : Nat) : Int)) rfl rfl rfl ?_
             refine vm (i := 13) (v := strV z8) rfl rfl rfl ?_
             refine vp (i := 14) (v := .int .i64 ((z8.length : Nat) : Int)) rfl rfl rfl (run_lenS (l := z8) rfl Tryz.underlying9 Tw.kr) ?_
             refine vp (i := 15) (v := .bool (decide (i < z8.length))) rfl rfl rfl (run_bin rfl (vx := (.int .i64 ((i : Nat) : Int))) (vy := (.int .i64 ((z8.length : Nat) : Int))) Tw.kr Tw.kr fun w => bn_lss rfl w) ?_
             refine vm (i := 16) (v := .bool (decide (i < z8.length))) rfl rfl rfl ?_
             cases hd6 : (decide (i < z8.length)) with
             | false =>
               have h6 : ¬ (i < z8.length) := of_decide_eq_false hd6
               clear hd6
               refine vn (i := 17) rfl rfl ?_
               refine vn (i := 18) rfl rfl ?_
               refine vn (i := 19) rfl rfl ?_
               refine vn (i := 20) rfl rfl ?_
               refine vn (i := 21) rfl rfl ?_
               refine vn (i := 22) rfl rfl ?_
               refine vn (i := 23) rfl rfl ?_
               refine vn (i := 24) rfl rfl ?_
               refine vn (i := 25) rfl rfl ?_
               refine vn (i := 26) rfl rfl ?_
               refine vn (i := 27) rfl rfl ?_
               refine vn (i := 28) rfl rfl ?_
               refine vm (i := 29) (v := .bool false) rfl rfl rfl ?_
               refine vm (i := 30) (v := .bool false) rfl rfl rfl ?_
               refine wpV_done Tw.kr (fun W29 hW29 => ?_) _
               change Code.wp ..
               refine wp_cond_false rfl ?_
               refine wp_skip ?_
               change Code.wp ..
               refine wp_region_L _ hW29 ?_
               refine Tw.mm (.int .i64 ((c : Nat) : Int)) ?_
               refine Tw.lp (v := .int .i64 (((c + 1) : Nat) : Int)) rfl rfl (run_bin rfl (vx := (.int .i64 ((c : Nat) : Int))) (vy := (.int .i64 ((1 : Nat) : Int))) Tw.kr Tw.kr fun w => bn_add (z := (c + 1)) rfl (wr_i64 Tw.om) w) ?_
               refine Tw.mm (.int .i64 (((c + 1) : Nat) : Int)) ?_
               refine wpL_done (fun W30 hW30 => ?_)
               go_roundw
               case rel =>
                 repeat apply Exists.intro
                 exact ⟨⟨(c + 1), Tw.om, rfl, (hW30.sub Tw.sb)⟩, rfl⟩
               case measure => (show 256 - (intOf (.int .i64 (((c + 1) : Nat) : Int))).toNat < 256 - (intOf (.int .i64 ((c : Nat) : Int))).toNat); simp only [intOf]; omega
             | true =>
               have h6 : i < z8.length := of_decide_eq_true hd6
               clear hd6
               refine vm (i := 17) (v := strV z8) rfl rfl rfl ?_
               refine vm (i := 18) (v := .int .i64 ((i : Nat) : Int)) rfl rfl rfl ?_
               refine vp (i := 19) (v := strV (z8.take i)) rfl rfl rfl (run_slH (k2 := .i64) (l := z8) (r := (z8.take i)) (j := i) rfl Tryz.underlying9 Tw.kr Tw.kr (by first | omega | (simp; omega)) rfl) ?_
               refine vm (i := 20) (v := strV [UInt8.ofNat c]) rfl rfl rfl ?_
               refine vp (i := 21) (v := strV ((z8.take i) ++ [UInt8.ofNat c])) rfl rfl rfl (run_bin rfl (vx := strV (z8.take i)) (vy := strV [UInt8.ofNat c]) Tw.kr Tw.kr fun w => bs_add (c := ((z8.take i) ++ [UInt8.ofNat c])) rfl (by first | omega | (simp; omega)) w) ?_
               refine vm (i := 22) (v := strV z8) rfl rfl rfl ?_
               refine vm (i := 23) (v := .int .i64 ((i : Nat) : Int)) rfl rfl rfl ?_
               refine vp (i := 24) (v := .int .i64 (((i + 1) : Nat) : Int)) rfl rfl rfl (run_bin rfl (vx := (.int .i64 ((i : Nat) : Int))) (vy := (.int .i64 ((1 : Nat) : Int))) Tw.kr Tw.kr fun w => bn_add (z := (i + 1)) rfl (wr_i64 Tw.om) w) ?_
               refine vp (i := 25) (v := strV (z8.drop (i + 1))) rfl rfl rfl (run_slL (k1 := .i64) (l := z8) (r := (z8.drop (i + 1))) (i := (i + 1)) rfl Tryz.underlying9 Tw.kr Tw.kr (by first | omega | (simp; omega)) rfl) ?_
               refine vp (i := 26) (v := strV (((z8.take i) ++ [UInt8.ofNat c]) ++ (z8.drop (i + 1)))) rfl rfl rfl (run_bin rfl (vx := strV ((z8.take i) ++ [UInt8.ofNat c])) (vy := strV (z8.drop (i + 1))) Tw.kr Tw.kr fun w => bs_add (c := (((z8.take i) ++ [UInt8.ofNat c]) ++ (z8.drop (i + 1)))) rfl (by first | omega | (simp; omega)) w) ?_
               refine vv (i := 27) (v := .bool true) rfl rfl rfl (yb_call (f := 9) (args := #[strV (((z8.take i) ++ [UInt8.ofNat c]) ++ (z8.drop (i + 1)))]) Tw.kf fun W hW => lreads_any (((z8.take i) ++ [UInt8.ofNat c]) ++ (z8.drop (i + 1))) W (HE.out.keep hW.1)) ?_
               refine vm (i := 28) (v := .bool false) rfl rfl rfl ?_
               refine vm (i := 29) (v := .bool false) rfl rfl rfl ?_
               refine vm (i := 30) (v := .bool false) rfl rfl rfl ?_
               refine wpV_done Tw.kr (fun W31 hW31 => ?_) _
               change Code.wp ..
               refine wp_cond_false rfl ?_
               refine wp_skip ?_
               change Code.wp ..
               refine wp_region_L _ hW31 ?_
               refine Tw.mm (.int .i64 ((c : Nat) : Int)) ?_
               refine Tw.lp (v := .int .i64 (((c + 1) : Nat) : Int)) rfl rfl (run_bin rfl (vx := (.int .i64 ((c : Nat) : Int))) (vy := (.int .i64 ((1 : Nat) : Int))) Tw.kr Tw.kr fun w => bn_add (z := (c + 1)) rfl (wr_i64 Tw.om) w) ?_
               refine Tw.mm (.int .i64 (((c + 1) : Nat) : Int)) ?_
               refine wpL_done (fun W32 hW32 => ?_)
               go_roundw
               case rel =>
                 repeat apply Exists.intro
                 exact ⟨⟨(c + 1), Tw.om, rfl, (hW32.sub Tw.sb)⟩, rfl⟩
               case measure => (show 256 - (intOf (.int .i64 (((c + 1) : Nat) : Int))).toNat < 256 - (intOf (.int .i64 ((c : Nat) : Int))).toNat); simp only [intOf]; omega
       | true =>
         have h4 : z8.length < i := of_decide_eq_true hd4
         clear hd4
         refine wp_cond_false rfl ?_
         refine wp_exit ?_
         change Code.wp ..
         refine wp_region_L _ hW22 ?_
         refine Tw.lp (v := .int .i64 (((ka + 1) : Nat) : Int)) rfl rfl (run_bin rfl (vx := (.int .i64 ((ka : Nat) : Int))) (vy := (.int .i64 ((1 : Nat) : Int))) Tw.kr Tw.kr fun w => bn_add (z := (ka + 1)) rfl (wr_i64 Tw.om) w) ?_
         refine Tw.mm (.int .i64 (((ka + 1) : Nat) : Int)) ?_
         refine wpL_done (fun W33 hW33 => ?_)
         go_roundw
         case rel =>
           repeat apply Exists.intro
           exact ⟨⟨(ka + 1), Tw.om, rfl, (hW33.sub Tw.sb)⟩, rfl⟩
         case measure => (show 3 - (intOf (.int .i64 (((ka + 1) : Nat) : Int))).toNat < 3 - (intOf (.int .i64 ((ka : Nat) : Int))).toNat); simp only [intOf]; omega
end Go.Proofs.YtalmflgkbmnghaaGreatDoor
namespace Go.Proofs.YtalmflgkbmnghaaGreatDoor
open Go Go.RowKit Tw
theorem rep77 : ∃ rp : List UInt8, rp.length ≤ 77 ∧ ∀ W, Calls Tryz.prog 32 #[.string ⟨#[48]⟩, .int .i64 77] W fun e w' => e = .returned (strV rp) ∧ Below W.heap.size W w' :=
 ⟨Lib.repeatL [48] 77, by decide, fun W => Tryz.strings_Repeat ⟨#[48]⟩ 77 W Tw.om (by decide)⟩
theorem FracSmall_law (w : World) (hE : Env w) : Calls Tryz.prog 6 #[] w fun e w' => e = .returned (.bool true) ∧ Below w.heap.size w w' :=
 FracSmall_any (fun W hW => texts_any rep77 (fun W hW => awake_any rep_any W hW) W hW) w hE
end Go.Proofs.YtalmflgkbmnghaaGreatDoor
/- FracSmall holds for every input: the program's own answer is true, wherever the listed variables are as the program's text lays them; each argument reads afterwards as it read before. -/
namespace Go.Proofs.YtalmflgkbmnghaaGreatDoor
open Go.ChangeShapes Go.WideShapes Go.ChangeAt Go.RowKit Tw
open Go
set_option maxRecDepth 100000 in
theorem fracSmall_lifted (os : Os) (started : os.Started) (H : Type) (enc : TypeId × Value → H) :
   ReturnsInHanded {} Tryz.checked os 6 .any (fun w args => (Rows.fracSmallSpec.pre enc Tryz.prog Tryz.f6 Rows.fracSmallRow.domain false w args ∧ laidMetH Tryz.prog laid3 w) ∧ sizedMet enc Tryz.prog Tryz.f6 (OpenSpec.ofChange Rows.fracSmallSpec) false w args) (Rows.fracSmallSpec.post enc Tryz.prog Tryz.f6 false true false false) := by
 refine handed_and_sized (C := Tryz.checked) (X := fun w => laidMetH Tryz.prog laid3 w) (fun _ _ hh h => h.of_heap hh) own started Tw.kr Tryz.func6
   (ChangeSpec.witness_shaped (enc := enc) (C := Tryz.checked) (os := os) (X := fun w _ => laidMetH Tryz.prog laid3 w) false (World.doorLaid Tryz.prog 1000 os) #[] 8 rfl (World.shaped_of_RefB Tw.kr Tw.kr) Tw.kr Tw.kr Tw.kr (door_met os _)) ?_
 intro W base args ds gs before hval0 hW hL hsh hsz
 have hval : ∀ (j : Nat) t v, Tryz.f6.params[j]? = some t → args[j]? = some v → Value.okWide Tryz.prog W .any base t v := hval0
 have hW2 := hW
 obtain ⟨p, q, hA0, hV, rfl, hfz, hnd⟩ := hW2
 have hA : DataW.TrodAll enc Tryz.prog W 0 (fun _ => true) true Tryz.f6.params.toList args.toList ds p := hA0
 rw [Tryz.params6] at hA hval
 obtain ⟨hargs, rfl, rfl⟩ := trodAll_nil hA
 obtain rfl : args = #[] := by cases args; simp_all
 obtain ⟨rfl, rfl⟩ := trodVars_none hV
 clear hA0 hval0
 simp only [List.append_nil] at hW
 refine (FracSmall_law W (env_of hL hsh) ).mono fun e W' ⟨he, bel⟩ => ?_
 subst he
 exact ⟨_, rfl, _, _, _, [], [], [], hW, (trodAll_cons_mk (shut_bool Tryz.underlying4 _) trodAll_mk0), trodAll_mk0, rfl, bel.frame _, fun h => by cases h⟩
theorem fracSmall_said : Rows.FracSmallSaid :=
 OpenClaim.holds_of_wide 6 Tryz.f6 rfl rfl rfl rfl rfl rfl rfl ⟨rfl, rfl, rfl, rfl, rfl⟩ rfl rfl rfl rfl rfl Tw.kr Tryz.func6 Tw.kr
   (of_decide_eq_true Tw.kr) (by unfold Func.isWrapper; first | (rw [if_pos (by decide +kernel)]; kernel_rfl) | (rw [if_neg (by decide +kernel)]; exact ⟨rfl, rfl⟩))
   (fun os started H enc _ => fracSmall_lifted os started H enc)
theorem fracSmall_proved : Rows.FracSmallCardSaid :=
 Claim7.holds_tied_plain_at .later [] [.data, .data, .data] true Rows.fracSmallCard.stood.harness Rows.fracSmallCard.stood.looks
   fracSmall_said (fun _ h => by cases h) Tw.kr (fun _ h => by cases h) fracSmall_row_tie rfl ⟨rfl, rfl⟩ Tw.kr rfl
   (fun f fn hf hfn => by
     obtain rfl : f = 6 := Option.some.inj ((show Tryz.prog.funcNamed "twistlock/twistlocklaw01.FracSmall" = some 6 by kernel_rfl).symm.trans hf) |>.symm
     obtain rfl : fn = Tryz.f6 := (Option.some.inj (Tryz.func6.symm.trans hfn)).symm
     exact ⟨by kernel_rfl, fun j t ht => by
       rw [Tryz.params6] at ht
       simp at ht⟩)
   Tw.kr
#print axioms fracSmall_proved
end Go.Proofs.YtalmflgkbmnghaaGreatDoor
