import Derived.Test.YtalmflgkbmnghaaGreatDoorRM00
import Derived.Test.YtalmflgkbmnghaaGreatDoorZCc05
import Derived.Test.YtalmflgkbmnghaaGreatDoorZCc03
import Derived.Test.YtalmflgkbmnghaaGreatDoorRM03
import Derived.Test.YtalmflgkbmnghaaGreatDoorRM01
import Derived.Test.YtalmflgkbmnghaaGreatDoorZCc04
/- Part of the proof: YQ, YB, YC, YR, YM. -/
set_option linter.unusedVariables false
set_option linter.unusedSimpArgs false
set_option linter.unusedSectionVars false
namespace Go.Proofs.YtalmflgkbmnghaaGreatDoor
open Go Go.RowKit Tw
open Tf (dg R R_pos R_le R_succ dg_of_lt setd setd_eq)
variable [ShLZ]
variable [ShSt]
set_option maxRecDepth 100000 in
set_option maxHeartbeats 40000000 in
theorem RRead_any (l : List UInt8) (ll : l.length ≤ 3900) (w : World) : Calls Tryz.prog 34 #[strV l] w fun e w' => e = .returned (readV l) ∧ Below w.heap.size w w' := by
 obtain ⟨V, hV⟩ : ∃ V : Value, V = readV l := ⟨_, rfl⟩
 rw [← hV]
 go_enter Tryz.func34, Tryz.ntmps34
 refine wp_seq ?_
 refine wp_region_L [] (KS.start w) ?_
 refine wpL_new (fun g => .pointer (some ⟨g, 0, none⟩)) (obi := .cells (frcC false 0 0) 34 (0, 0)) rfl rfl Tw.kf Tw.pf fun g1 Bg1 Fg1 => ?_
 refine Tw.mm (.int .i64 0) ?_
 refine wpL_done (fun W1 hW1 => ?_)
 change Code.wp ..
 refine wp_seq ?_
 refine wp_region_L _ hW1 ?_
 refine Tw.mm (strV l) ?_
 refine Tw.mm (strV l) ?_
 refine Tw.mm (.int .i64 (-1)) ?_
 refine wpL_done (fun W2 hW2 => ?_)
 change Code.wp ..
 refine wp_joins (fun az wz => ∃ (u : List UInt8), (u = Lib.trimPrefix l [45]) ∧ (u.length ≤ l.length) ∧ JoinR (fun zq => List.toArray ((strV l) :: undef :: (.pointer (some ⟨g1, 0, none⟩)) :: (.int .i64 0) :: (strV u) :: (.int .i64 (-1)) :: undef :: undef :: undef :: undef :: undef :: undef :: undef :: undef :: undef :: undef :: (strV l) :: zq 17 :: zq 18 :: zq 19 :: zq 20 :: zq 21 :: zq 22 :: zq 23 :: zq 24 :: zq 25 :: zq 26 :: undef :: undef :: undef :: undef :: undef :: undef :: undef :: undef :: undef :: undef :: undef :: undef :: undef :: undef :: undef :: undef :: undef :: undef :: undef :: undef :: undef :: undef :: undef :: undef :: undef :: undef :: undef :: undef :: undef :: undef :: undef :: undef :: undef :: undef :: undef :: undef :: undef :: undef :: undef :: undef :: undef :: undef :: undef :: undef :: undef :: undef :: undef :: undef :: undef :: undef :: undef :: undef :: undef :: undef :: undef :: undef :: undef :: undef :: undef :: undef :: undef :: undef :: undef :: undef :: undef :: undef :: undef :: undef :: undef :: undef :: undef :: undef :: undef :: [])) w [(g1, .cells (frcC false 0 0) 34 (0, 0))] az wz) 1 ?_ ?_
 · change Code.wp ..
   refine wp_seq ?_
   refine wp_region_L _ hW2 ?_
   refine Tw.mm (strV l) ?_
   refine Tw.lp (v := .int .i64 ((l.length : Nat) : Int)) rfl rfl (run_lenS (l := l) rfl Tryz.underlying9 Tw.kr) ?_
   refine Tw.lp (v := .bool (decide (0 < l.length))) rfl rfl (run_bin rfl (vx := (.int .i64 ((l.length : Nat) : Int))) (vy := (.int .i64 ((0 : Nat) : Int))) Tw.kr Tw.kr fun w => bn_gtr rfl w) ?_
   refine Tw.mm (.bool (decide (0 < l.length))) ?_
   cases hd1 : (decide (0 < l.length)) with
   | false =>
     have h1 : ¬ (0 < l.length) := of_decide_eq_false hd1
     clear hd1
     refine Tw.ln rfl ?_
     refine Tw.ln rfl ?_
     refine Tw.ln rfl ?_
     refine Tw.mm (.bool false) ?_
     refine wpL_done (fun W3 hW3 => ?_)
     change Code.wp ..
     refine wp_cond_false rfl ?_
     refine wp_skip ?_
     exact ⟨l, (trim_empty h1), Tw.om, join_mk Tw.kr (hW3.sub Tw.sb)⟩
   | true =>
     have h1 : 0 < l.length := of_decide_eq_true hd1
     clear hd1
     refine Tw.mm (strV l) ?_
     obtain ⟨b2, hb2⟩ : ∃ b, (l : List UInt8)[0]? = some b := ⟨_, List.getElem?_eq_getElem Tw.om⟩
     have lb2 := b2.toNat_lt
     refine Tw.lp (v := .int .u8 ((b2.toNat : Nat) : Int)) rfl rfl (run_idxS (j := .i64) (l := l) (k := 0) (b := b2) rfl Tryz.underlying9 Tw.kr Tw.kr hb2) ?_
     refine Tw.lp (v := .bool (decide (b2.toNat = 45))) rfl rfl (run_bin rfl (vx := (.int .u8 ((b2.toNat : Nat) : Int))) (vy := (.int .u8 ((45 : Nat) : Int))) Tw.kr Tw.kr fun w => bn_eql rfl w) ?_
     refine Tw.mm (.bool (decide (b2.toNat = 45))) ?_
     refine wpL_done (fun W4 hW4 => ?_)
     change Code.wp ..
     cases hd2 : (decide (b2.toNat = 45)) with
     | false =>
       have h2 : ¬ (b2.toNat = 45) := of_decide_eq_false hd2
       clear hd2
       refine wp_cond_false rfl ?_
       refine wp_skip ?_
       exact ⟨l, (trim_other hb2 h2).1, Tw.om, join_mk Tw.kr (hW4.sub Tw.sb)⟩
     | true =>
       have h2 : b2.toNat = 45 := of_decide_eq_true hd2
       clear hd2
       refine wp_cond_true rfl ?_
       refine wp_region_L _ hW4 ?_
       refine Tw.mm (strV l) ?_
       refine Tw.lp (v := strV (l.drop 1)) rfl rfl (run_slL (k1 := .i64) (l := l) (r := (l.drop 1)) (i := 1) rfl Tryz.underlying9 Tw.kr Tw.kr (by first | omega | (simp; omega)) rfl) ?_
       refine Tw.mm (strV (l.drop 1)) ?_
       refine wpL_done (fun W5 hW5 => ?_)
       exact ⟨(l.drop 1), (trim_minus hb2 h2).1, (by simp), join_mk Tw.kr (hW5.sub Tw.sb)⟩
 · rintro a1 W1j ⟨u, hu, lu, ⟨zx1, rfl⟩, hW1j⟩
   dsimp only [cutT]
   refine wp_seq ?_
   refine wp_seq ?_
   refine wp_region_L _ hW1j ?_
   refine Tw.mm (strV u) ?_
   refine Tw.lp (v := .int .i64 ((u.length : Nat) : Int)) rfl rfl (run_lenS (l := u) rfl Tryz.underlying9 Tw.kr) ?_
   refine Tw.lp (v := .int .i64 (((u.length : Nat) : Int) - 1)) rfl rfl (run_bin rfl (vx := (.int .i64 ((u.length : Nat) : Int))) (vy := (.int .i64 ((1 : Nat) : Int))) Tw.kr Tw.kr fun w => bi_sub (z := (((u.length : Nat) : Int) - 1)) rfl (wi_i64 Tw.om) w) ?_
   refine Tw.mm (.int .i64 (((u.length : Nat) : Int) - 1)) ?_
   refine wpL_done (fun W6 hW6 => ?_)
   change Code.wp ..
   refine wp_block ?_
   go_loopw [6, 5] (fun u6 u5 wr => ∃ (z : Int) (aa : Int) (k : Nat), (z = (k : Int) - 1) ∧ (k ≤ u.length) ∧ (FirstAt u k aa) ∧ u6 = .int .i64 z ∧ u5 = .int .i64 aa ∧ KS w [(g1, .cells (frcC false 0 0) 34 (0, 0))] wr) (fun u6 _ _ => (intOf u6 + 1).toNat)
   case atStart => exact ⟨(((u.length : Nat) : Int) - 1), (-1), u.length, rfl, (Nat.le_refl _), (FirstAt.start u), rfl, rfl, (hW6.sub Tw.sb)⟩
   case round =>
     obtain ⟨z, aa, k, hz, hk, hF, rfl, rfl, hL7⟩ := hrel
     refine wp_seq ?_
     refine wp_seq ?_
     refine wp_region_L _ hL7 ?_
     refine Tw.mm (.int .i64 z) ?_
     refine Tw.lp (v := .bool (!(decide (z < 0)))) rfl rfl (run_bin rfl (vx := (.int .i64 z)) (vy := (.int .i64 0)) Tw.kr Tw.kr fun w => bi_geq rfl w) ?_
     refine wpL_done (fun W8 hW8 => ?_)
     change Code.wp ..
     cases hd3 : (decide (z < 0)) with
     | false =>
       have h3 : ¬ (z < 0) := of_decide_eq_false hd3
       clear hd3
       obtain ⟨j, rfl⟩ := Int.eq_ofNat_of_zero_le (show 0 ≤ z by omega)
       obtain rfl : k = j + 1 := by omega
       refine wp_cond_true rfl ?_
       refine wp_skip ?_
       change Code.wp ..
       refine wp_seq ?_
       refine wp_block ?_
       refine wp_seq ?_
       refine wp_region_L _ hW8 ?_
       refine Tw.mm (strV u) ?_
       refine Tw.mm (.int .i64 ((j : Nat) : Int)) ?_
       obtain ⟨b3, hb3⟩ : ∃ b, (u : List UInt8)[j]? = some b := ⟨_, List.getElem?_eq_getElem Tw.om⟩
       have lb3 := b3.toNat_lt
       refine Tw.lp (v := .int .u8 ((b3.toNat : Nat) : Int)) rfl rfl (run_idxS (j := .i64) (l := u) (k := j) (b := b3) rfl Tryz.underlying9 Tw.kr Tw.kr hb3) ?_
       refine Tw.lp (v := .bool (decide (b3.toNat = 47))) rfl rfl (run_bin rfl (vx := (.int .u8 ((b3.toNat : Nat) : Int))) (vy := (.int .u8 ((47 : Nat) : Int))) Tw.kr Tw.kr fun w => bn_eql rfl w) ?_
       refine wpL_done (fun W9 hW9 => ?_)
       change Code.wp ..
       cases hd4 : (decide (b3.toNat = 47)) with
       | false =>
         have h4 : ¬ (b3.toNat = 47) := of_decide_eq_false hd4
         clear hd4
         refine wp_cond_false rfl ?_
         refine wp_skip ?_
         change Code.wp ..
         refine wp_region_L _ hW9 ?_
         refine Tw.mm (.int .i64 ((j : Nat) : Int)) ?_
         refine Tw.lp (v := .int .i64 (((j : Nat) : Int) - 1)) rfl rfl (run_bin rfl (vx := (.int .i64 ((j : Nat) : Int))) (vy := (.int .i64 ((1 : Nat) : Int))) Tw.kr Tw.kr fun w => bi_sub (z := (((j : Nat) : Int) - 1)) rfl (wi_i64 Tw.om) w) ?_
         refine Tw.mm (.int .i64 (((j : Nat) : Int) - 1)) ?_
         refine wpL_done (fun W10 hW10 => ?_)
         go_roundw
         case rel =>
           repeat apply Exists.intro
           exact ⟨⟨(((j : Nat) : Int) - 1), aa, j, Tw.om, Tw.om, (hF.miss hb3 h4), rfl, rfl, (hW10.sub Tw.sb)⟩, rfl⟩
         case measure => (show (intOf (.int .i64 (((j : Nat) : Int) - 1)) + 1).toNat < (intOf (.int .i64 ((j : Nat) : Int)) + 1).toNat); simp only [intOf]; omega
       | true =>
         have h4 : b3.toNat = 47 := of_decide_eq_true hd4
         clear hd4
         refine wp_cond_true rfl ?_
         refine wp_region_L _ hW9 ?_
         refine Tw.mm (.int .i64 ((j : Nat) : Int)) ?_
         refine Tw.mm (.int .i64 ((j : Nat) : Int)) ?_
         refine wpL_done (fun W11 hW11 => ?_)
         change Code.wp ..
         refine wp_region_L _ hW11 ?_
         refine Tw.mm (.int .i64 ((j : Nat) : Int)) ?_
         refine Tw.lp (v := .int .i64 (((j : Nat) : Int) - 1)) rfl rfl (run_bin rfl (vx := (.int .i64 ((j : Nat) : Int))) (vy := (.int .i64 ((1 : Nat) : Int))) Tw.kr Tw.kr fun w => bi_sub (z := (((j : Nat) : Int) - 1)) rfl (wi_i64 Tw.om) w) ?_
         refine Tw.mm (.int .i64 (((j : Nat) : Int) - 1)) ?_
         refine wpL_done (fun W12 hW12 => ?_)
         go_roundw
         case rel =>
           repeat apply Exists.intro
           exact ⟨⟨(((j : Nat) : Int) - 1), ((j : Nat) : Int), j, Tw.om, Tw.om, (FirstAt.hit hb3 h4), rfl, rfl, (hW12.sub Tw.sb)⟩, rfl⟩
         case measure => (show (intOf (.int .i64 (((j : Nat) : Int) - 1)) + 1).toNat < (intOf (.int .i64 ((j : Nat) : Int)) + 1).toNat); simp only [intOf]; omega
     | true =>
       have h3 : z < 0 := of_decide_eq_true hd3
       clear hd3
       refine wp_cond_false rfl ?_
       refine wp_exit ?_
       change Code.wp ..
       refine wp_seq ?_
       refine wp_region_L _ hW8 ?_
       refine Tw.mm (strV [49]) ?_
       refine wpL_done (fun W13 hW13 => ?_)
       change Code.wp ..
       have hF0 : FirstAt u 0 aa := by rw [show (0 : Nat) = k from by omega]; exact hF
       refine wp_joins (fun az wz => ∃ (top bel : List UInt8), (top = (rCut l).1) ∧ (bel = rBelow l) ∧ JoinR (fun zq => List.toArray ((strV l) :: undef :: (.pointer (some ⟨g1, 0, none⟩)) :: (.int .i64 0) :: (strV top) :: (.int .i64 aa) :: (.int .i64 z) :: (strV bel) :: undef :: undef :: undef :: undef :: undef :: undef :: undef :: undef :: (strV l) :: (zx1 17) :: (zx1 18) :: (zx1 19) :: (zx1 20) :: (zx1 21) :: (zx1 22) :: (zx1 23) :: (zx1 24) :: (zx1 25) :: (zx1 26) :: (strV u) :: (.int .i64 ((u.length : Nat) : Int)) :: (.int .i64 (((u.length : Nat) : Int) - 1)) :: (.int .i64 z) :: (.bool false) :: zq 32 :: zq 33 :: zq 34 :: zq 35 :: zq 36 :: zq 37 :: zq 38 :: zq 39 :: zq 40 :: zq 41 :: zq 42 :: zq 43 :: zq 44 :: zq 45 :: zq 46 :: zq 47 :: undef :: undef :: undef :: undef :: undef :: undef :: undef :: undef :: undef :: undef :: undef :: undef :: undef :: undef :: undef :: undef :: undef :: undef :: undef :: undef :: undef :: undef :: undef :: undef :: undef :: undef :: undef :: undef :: undef :: undef :: undef :: undef :: undef :: undef :: undef :: undef :: undef :: undef :: undef :: undef :: undef :: undef :: undef :: undef :: undef :: undef :: undef :: undef :: undef :: undef :: undef :: undef :: [])) w [(g1, .cells (frcC false 0 0) 34 (0, 0))] az wz) 1 ?_ ?_
       · change Code.wp ..
         refine wp_seq ?_
         refine wp_region_L _ hW13 ?_
         refine Tw.mm (.int .i64 aa) ?_
         refine Tw.lp (v := .bool (!(decide (aa < 0)))) rfl rfl (run_bin rfl (vx := (.int .i64 aa)) (vy := (.int .i64 0)) Tw.kr Tw.kr fun w => bi_geq rfl w) ?_
         refine wpL_done (fun W14 hW14 => ?_)
         change Code.wp ..
         cases hd5 : (decide (aa < 0)) with
         | false =>
           have h5 : ¬ (aa < 0) := of_decide_eq_false hd5
           clear hd5
           obtain ⟨ai, rfl, lai, hFi⟩ := first_nat hF0 h5
           refine wp_cond_true rfl ?_
           refine wp_region_V _ Tw.kr hW14 ?_
           refine vm (i := 0) (v := strV u) rfl rfl rfl ?_
           refine vm (i := 1) (v := .int .i64 ((ai : Nat) : Int)) rfl rfl rfl ?_
           refine vp (i := 2) (v := strV (u.take ai)) rfl rfl rfl (run_slH (k2 := .i64) (l := u) (r := (u.take ai)) (j := ai) rfl Tryz.underlying9 Tw.kr Tw.kr (by first | omega | (simp; omega)) rfl) ?_
           refine vm (i := 3) (v := strV u) rfl rfl rfl ?_
           refine vm (i := 4) (v := .int .i64 ((ai : Nat) : Int)) rfl rfl rfl ?_
           refine vp (i := 5) (v := .int .i64 (((ai + 1) : Nat) : Int)) rfl rfl rfl (run_bin rfl (vx := (.int .i64 ((ai : Nat) : Int))) (vy := (.int .i64 ((1 : Nat) : Int))) Tw.kr Tw.kr fun w => bn_add (z := (ai + 1)) rfl (wr_i64 Tw.om) w) ?_
           refine vp (i := 6) (v := strV (u.drop (ai + 1))) rfl rfl rfl (run_slL (k1 := .i64) (l := u) (r := (u.drop (ai + 1))) (i := (ai + 1)) rfl Tryz.underlying9 Tw.kr Tw.kr (by first | omega | (simp; omega)) rfl) ?_
           refine vm (i := 7) (v := strV (u.take ai)) rfl rfl rfl ?_
           refine vm (i := 8) (v := strV (u.drop (ai + 1))) rfl rfl rfl ?_
           refine wpV_done Tw.kr (fun W15 hW15 => ?_) _
           exact ⟨(u.take ai), (u.drop (ai + 1)), (first_some hu hFi).1, (first_some hu hFi).2, join_mk Tw.kr (hW15.sub Tw.sb)⟩
         | true =>
           have h5 : aa < 0 := of_decide_eq_true hd5
           clear hd5
           refine wp_cond_false rfl ?_
           refine wp_skip ?_
           exact ⟨u, [49], (first_none hu hF0 h5).1, (first_none hu hF0 h5).2, join_mk Tw.kr (hW14.sub Tw.sb)⟩
       · rintro a2 W2j ⟨top, bel, htop, hbel, ⟨zx2, rfl⟩, hW2j⟩
         dsimp only [cutT]
         have hcl := cut_lens l
         rw [← htop, ← hbel] at hcl
         refine wp_seq ?_
         refine wp_region_L _ hW2j ?_
         refine Tw.mm (strV top) ?_
         refine wpL_c (f := 74) (args := #[strV top]) (AnsNW w [(g1, .cells (frcC false 0 0) 34 (0, 0))] (numN top) (numC top)) rfl Tw.kr Tw.kf (fun W hW => (rnumber_any top Tw.om W).mono fun e w2 h => AnsNF.g h hW) Tw.pf ?_
         rintro v4 _ ⟨q4, d4, T4, rfl, C4, H4, J4, rfl⟩
         obtain dj5_0 : Dk g1 T4 := Tw.djf J4
         refine Tw.mm (.tuple #[.slice q4 ((cd (numN top)).length) d4, .int .i64 (numC top)]) ?_
         refine Tw.mm (.slice q4 ((cd (numN top)).length) d4) ?_
         refine Tw.mm (.int .i64 (numC top)) ?_
         refine Tw.mm (.slice q4 ((cd (numN top)).length) d4) ?_
         refine Tw.mm (.int .i64 (numC top)) ?_
         refine wpL_done (fun W16 hW16 => ?_)
         change Code.wp ..
         refine wp_seq ?_
         refine wp_region_L _ hW16 ?_
         refine Tw.mm (strV bel) ?_
         refine wpL_c (f := 74) (args := #[strV bel]) (AnsNW w ((g1, .cells (frcC false 0 0) 34 (0, 0)) :: T4) (numN bel) (numC bel)) rfl Tw.kr Tw.kf (fun W hW => (rnumber_any bel Tw.om W).mono fun e w2 h => AnsNF.g h hW) Tw.pf ?_
         rintro v6 _ ⟨q6, d6, T6, rfl, C6, H6, J6, rfl⟩
         obtain ⟨dj7_0, dj7_1⟩ : Dk g1 T6 ∧ Dj T4 T6 := Tw.djf J6
         refine Tw.mm (.tuple #[.slice q6 ((cd (numN bel)).length) d6, .int .i64 (numC bel)]) ?_
         refine Tw.mm (.slice q6 ((cd (numN bel)).length) d6) ?_
         refine Tw.mm (.int .i64 (numC bel)) ?_
         refine Tw.mm (.slice q6 ((cd (numN bel)).length) d6) ?_
         refine Tw.mm (.int .i64 (numC bel)) ?_
         refine wpL_done (fun W17 hW17 => ?_)
         change Code.wp ..
         refine wp_seq ?_
         refine wp_seq ?_
         refine wp_region_L _ hW17 ?_
         refine Tw.mm (.int .i64 (numC top)) ?_
         refine Tw.lp (v := .bool (decide ((numC top) = 1))) rfl rfl (run_bin rfl (vx := (.int .i64 (numC top))) (vy := (.int .i64 1)) Tw.kr Tw.kr fun w => bi_eql rfl w) ?_
         refine Tw.mm (.bool (decide ((numC top) = 1))) ?_
         cases hd6 : (decide ((numC top) = 1)) with
         | false =>
           have h6 : ¬ ((numC top) = 1) := of_decide_eq_false hd6
           clear hd6
           refine Tw.mm (.int .i64 (numC bel)) ?_
           refine Tw.lp (v := .bool (decide ((numC bel) = 1))) rfl rfl (run_bin rfl (vx := (.int .i64 (numC bel))) (vy := (.int .i64 1)) Tw.kr Tw.kr fun w => bi_eql rfl w) ?_
           refine Tw.mm (.bool (decide ((numC bel) = 1))) ?_
           refine Tw.mm (.bool (decide ((numC bel) = 1))) ?_
           cases hd7 : (decide ((numC bel) = 1)) with
           | false =>
             have h7 : ¬ ((numC bel) = 1) := of_decide_eq_false hd7
             clear hd7
             refine Tw.mm (.int .i64 (numC bel)) ?_
             refine Tw.lp (v := .bool (decide ((numC bel) = 0))) rfl rfl (run_bin rfl (vx := (.int .i64 (numC bel))) (vy := (.int .i64 0)) Tw.kr Tw.kr fun w => bi_eql rfl w) ?_
             refine Tw.mm (.bool (decide ((numC bel) = 0))) ?_
             cases hd8 : (decide ((numC bel) = 0)) with
             | false =>
               have h8 : ¬ ((numC bel) = 0) := of_decide_eq_false hd8
               clear hd8
               refine Tw.ln rfl ?_
               refine Tw.ln rfl ?_
               refine Tw.ln rfl ?_
               refine Tw.mm (.bool false) ?_
               refine Tw.mm (.bool false) ?_
               refine wpL_done (fun W18 hW18 => ?_)
               change Code.wp ..
               refine wp_cond_false rfl ?_
               refine wp_skip ?_
               change Code.wp ..
               refine wp_seq ?_
               refine wp_seq ?_
               refine wp_region_L _ hW18 ?_
               refine Tw.mm (.int .i64 (numC top)) ?_
               refine Tw.lp (v := .bool (decide ((numC top) = 2))) rfl rfl (run_bin rfl (vx := (.int .i64 (numC top))) (vy := (.int .i64 2)) Tw.kr Tw.kr fun w => bi_eql rfl w) ?_
               refine Tw.mm (.bool (decide ((numC top) = 2))) ?_
               cases hd9 : (decide ((numC top) = 2)) with
               | false =>
                 have h9 : ¬ ((numC top) = 2) := of_decide_eq_false hd9
                 clear hd9
                 refine Tw.mm (.int .i64 (numC bel)) ?_
                 refine Tw.lp (v := .bool (decide ((numC bel) = 2))) rfl rfl (run_bin rfl (vx := (.int .i64 (numC bel))) (vy := (.int .i64 2)) Tw.kr Tw.kr fun w => bi_eql rfl w) ?_
                 refine Tw.mm (.bool (decide ((numC bel) = 2))) ?_
                 refine wpL_done (fun W19 hW19 => ?_)
                 change Code.wp ..
                 cases hd10 : (decide ((numC bel) = 2)) with
                 | false =>
                   have h10 : ¬ ((numC bel) = 2) := of_decide_eq_false hd10
                   clear hd10
                   exact absurd (numC_three bel) Tw.om
                 | true =>
                   have h10 : (numC bel) = 2 := of_decide_eq_true hd10
                   clear hd10
                   refine wp_cond_true rfl ?_
                   refine wp_seq ?_
                   refine wp_region_L _ hW19 ?_
                   refine Tw.mm (.agg (frcC false 0 0)) ?_
                   refine wpL_s ((g1, .cells (frcC false 0 0) 34 (0, 0)) :: (T4 ++ T6)) rfl rfl (st_all zfz (by exact frc_onec) rfl Tw.kr Tw.kr Tw.m0 Bg1 zfs (List.forall_mem_cons.2 ⟨.inl rfl, (fun p hp => .inr ⟨(.tail _ hp), ((show Dk g1 (T4 ++ T6) from Tw.djt) _ hp)⟩)⟩)) ?_
                   refine Tw.mm (.int .i64 3) ?_
                   refine wpL_done (fun W20 hW20 => ?_)
                   change Code.wp ..
                   refine wp_ret ?_
                   try simp only [inBlock_ret, then_ret]
                   refine bodyPost_ret (v := .tuple #[.agg (frcC false 0 0), .int .i64 3]) ?_ rfl ?_
                   · exact (res_cell_tmp (p := 2) (q := 3) rfl rfl (hW20.2 _ Tw.m0) Tryz.underlying34 rfl zfs)
                   · exact ⟨(ret_v (by rw [hV]; subst htop hbel; exact read3 h6 h7 (.inl h8) (.inr h10))), hW20.1⟩
               | true =>
                 have h9 : (numC top) = 2 := of_decide_eq_true hd9
                 clear hd9
                 refine Tw.ln rfl ?_
                 refine Tw.ln rfl ?_
                 refine Tw.mm (.bool true) ?_
                 refine wpL_done (fun W21 hW21 => ?_)
                 change Code.wp ..
                 refine wp_cond_true rfl ?_
                 refine wp_seq ?_
                 refine wp_region_L _ hW21 ?_
                 refine Tw.mm (.agg (frcC false 0 0)) ?_
                 refine wpL_s ((g1, .cells (frcC false 0 0) 34 (0, 0)) :: (T4 ++ T6)) rfl rfl (st_all zfz (by exact frc_onec) rfl Tw.kr Tw.kr Tw.m0 Bg1 zfs (List.forall_mem_cons.2 ⟨.inl rfl, (fun p hp => .inr ⟨(.tail _ hp), ((show Dk g1 (T4 ++ T6) from Tw.djt) _ hp)⟩)⟩)) ?_
                 refine Tw.mm (.int .i64 3) ?_
                 refine wpL_done (fun W22 hW22 => ?_)
                 change Code.wp ..
                 refine wp_ret ?_
                 try simp only [inBlock_ret, then_ret]
                 refine bodyPost_ret (v := .tuple #[.agg (frcC false 0 0), .int .i64 3]) ?_ rfl ?_
                 · exact (res_cell_tmp (p := 2) (q := 3) rfl rfl (hW22.2 _ Tw.m0) Tryz.underlying34 rfl zfs)
                 · exact ⟨(ret_v (by rw [hV]; subst htop hbel; exact read3 h6 h7 (.inl h8) (.inl h9))), hW22.1⟩
             | true =>
               have h8 : (numC bel) = 0 := of_decide_eq_true hd8
               clear hd8
               refine Tw.mm (.slice q6 ((cd (numN bel)).length) d6) ?_
               refine Tw.lp (v := .int .i64 ((((cd (numN bel)).length) : Nat) : Int)) rfl rfl (run_lenL (p := q6) (cap := d6) (n := ((cd (numN bel)).length)) rfl Tryz.underlying32 Tw.kr) ?_
               refine Tw.lp (v := .bool (decide (((cd (numN bel)).length) = 0))) rfl rfl (run_bin rfl (vx := (.int .i64 ((((cd (numN bel)).length) : Nat) : Int))) (vy := (.int .i64 ((0 : Nat) : Int))) Tw.kr Tw.kr fun w => bn_eql rfl w) ?_
               refine Tw.mm (.bool (decide (((cd (numN bel)).length) = 0))) ?_
               refine Tw.mm (.bool (decide (((cd (numN bel)).length) = 0))) ?_
               refine wpL_done (fun W23 hW23 => ?_)
               change Code.wp ..
               cases hd11 : (decide (((cd (numN bel)).length) = 0)) with
               | false =>
                 have h11 : ¬ (((cd (numN bel)).length) = 0) := of_decide_eq_false hd11
                 clear hd11
                 refine wp_cond_false rfl ?_
                 refine wp_skip ?_
                 change Code.wp ..
                 refine wp_seq ?_
                 refine wp_seq ?_
                 refine wp_region_L _ hW23 ?_
                 refine Tw.mm (.int .i64 (numC top)) ?_
                 refine Tw.lp (v := .bool (decide ((numC top) = 2))) rfl rfl (run_bin rfl (vx := (.int .i64 (numC top))) (vy := (.int .i64 2)) Tw.kr Tw.kr fun w => bi_eql rfl w) ?_
                 refine Tw.mm (.bool (decide ((numC top) = 2))) ?_
                 cases hd12 : (decide ((numC top) = 2)) with
                 | false =>
                   have h12 : ¬ ((numC top) = 2) := of_decide_eq_false hd12
                   clear hd12
                   refine Tw.mm (.int .i64 (numC bel)) ?_
                   refine Tw.lp (v := .bool false) rfl rfl (run_bin rfl (vx := (.int .i64 (numC bel))) (vy := (.int .i64 2)) Tw.kr Tw.kr fun w => bi_eql (decide_eq_false Tw.om) w) ?_
                   refine Tw.mm (.bool false) ?_
                   refine wpL_done (fun W24 hW24 => ?_)
                   change Code.wp ..
                   refine wp_cond_false rfl ?_
                   refine wp_skip ?_
                   change Code.wp ..
                   refine wp_seq ?_
                   have hx0 : numC top = 0 := by rcases numC_three top with h | h | h <;> omega
                   have hM : 0 < numN bel := Nat.pos_of_ne_zero (fun h => h11 (cd_len0.2 h))
                   have l0 : 0 < l.length := by
                     have hd := (numC_0 hx0).1
                     rcases Nat.eq_zero_or_pos top.length with h | h
                     · rw [List.eq_nil_of_length_eq_zero h, dig_empty] at hd; cases hd
                     · omega
                   refine wp_region_L _ hW24 ?_
                   refine Tw.mm (strV l) ?_
                   obtain ⟨b8, hb8⟩ : ∃ b, (l : List UInt8)[0]? = some b := ⟨_, List.getElem?_eq_getElem Tw.om⟩
                   have lb8 := b8.toNat_lt
                   refine Tw.lp (v := .int .u8 ((b8.toNat : Nat) : Int)) rfl rfl (run_idxS (j := .i64) (l := l) (k := 0) (b := b8) rfl Tryz.underlying9 Tw.kr Tw.kr hb8) ?_
                   refine Tw.lp (v := .bool (decide (b8.toNat = 45))) rfl rfl (run_bin rfl (vx := (.int .u8 ((b8.toNat : Nat) : Int))) (vy := (.int .u8 ((45 : Nat) : Int))) Tw.kr Tw.kr fun w => bn_eql rfl w) ?_
                   refine Tw.mm (.slice q4 ((cd (numN top)).length) d4) ?_
                   refine Tw.mm (.slice q6 ((cd (numN bel)).length) d6) ?_
                   have hX : ((numN top) / Nat.gcd (numN top) (numN bel)) < R 8 := Nat.lt_of_le_of_lt (Nat.div_le_self _ _) (numN_lt _)
                   have hY : ((numN bel) / Nat.gcd (numN top) (numN bel)) < R 8 := Nat.lt_of_le_of_lt (Nat.div_le_self _ _) (numN_lt _)
                   have lN := cd_16 (numN_lt top)
                   have lM := cd_16 (numN_lt bel)
                   refine Tw.lv (v := .tuple #[.agg (frcC ((decide (b8.toNat = 45)) && decide (((numN top) / Nat.gcd (numN top) (numN bel)) ≠ 0)) ((numN top) / Nat.gcd (numN top) (numN bel)) ((numN bel) / Nat.gcd (numN top) (numN bel))), .int .i64 0]) rfl rfl (yb_call (f := 45) (args := #[.bool (decide (b8.toNat = 45)), .slice q4 ((cd (numN top)).length) d4, .slice q6 ((cd (numN bel)).length) d6]) Tw.kf fun W hW => packV_yes (neg := (decide (b8.toNat = 45))) hX hY ▸ make0_any (decide (b8.toNat = 45)) (numN top) (numN bel) q4 q6 d4 d6 hM Tw.om Tw.om C4 C6 W ((H4.mono Tw.sb) W hW) ((H6.mono Tw.sb) W hW)) ?_
                   refine Tw.mm (.tuple #[.agg (frcC ((decide (b8.toNat = 45)) && decide (((numN top) / Nat.gcd (numN top) (numN bel)) ≠ 0)) ((numN top) / Nat.gcd (numN top) (numN bel)) ((numN bel) / Nat.gcd (numN top) (numN bel))), .int .i64 0]) ?_
                   refine Tw.mm (.agg (frcC ((decide (b8.toNat = 45)) && decide (((numN top) / Nat.gcd (numN top) (numN bel)) ≠ 0)) ((numN top) / Nat.gcd (numN top) (numN bel)) ((numN bel) / Nat.gcd (numN top) (numN bel)))) ?_
                   refine Tw.mm (.int .i64 0) ?_
                   refine wpL_new (fun g => .pointer (some ⟨g, 0, none⟩)) (obi := .cells (frcC false 0 0) 34 (0, 0)) rfl rfl Tw.kf Tw.pf fun g9 Bg9 Fg9 => ?_
                   obtain ⟨dj10_0, dj10_1, dj10_2⟩ : g1 ≠ g9 ∧ Dk g9 T4 ∧ Dk g9 T6 := Tw.dkf Fg9
                   refine wpL_s ((g9, .cells (frcC ((decide (b8.toNat = 45)) && decide (((numN top) / Nat.gcd (numN top) (numN bel)) ≠ 0)) ((numN top) / Nat.gcd (numN top) (numN bel)) ((numN bel) / Nat.gcd (numN top) (numN bel))) 34 (0, 0)) :: (g1, .cells (frcC false 0 0) 34 (0, 0)) :: (T4 ++ T6)) rfl rfl (st_all zfz (by exact frc_onec) rfl Tw.kr Tw.kr Tw.m0 Bg9 zfs (List.forall_mem_cons.2 ⟨.inl rfl, (List.forall_mem_cons.2 ⟨.inr ⟨Tw.m1, Tw.nee⟩, (fun p hp => .inr ⟨(.tail _ (.tail _ hp)), ((show Dk g9 (T4 ++ T6) from Tw.djt) _ hp)⟩)⟩)⟩)) ?_
                   refine Tw.mm (.int .i64 0) ?_
                   refine wpL_done (fun W25 hW25 => ?_)
                   change Code.wp ..
                   refine wp_seq ?_
                   refine wp_seq ?_
                   refine wp_region_L _ hW25 ?_
                   refine Tw.lv (v := .agg (frcC ((decide (b8.toNat = 45)) && decide (((numN top) / Nat.gcd (numN top) (numN bel)) ≠ 0)) ((numN top) / Nat.gcd (numN top) (numN bel)) ((numN bel) / Nat.gcd (numN top) (numN bel)))) rfl rfl (yb_all rfl Tw.kr Tw.m0 Tryz.underlying34 rfl zfs) ?_
                   have hR : rightB ((decide (b8.toNat = 45)) && decide (((numN top) / Nat.gcd (numN top) (numN bel)) ≠ 0)) ((numN top) / Nat.gcd (numN top) (numN bel)) ((numN bel) / Nat.gcd (numN top) (numN bel)) = true := red_right hM
                   refine Tw.lv (v := .tuple #[strV (textL ((decide (b8.toNat = 45)) && decide (((numN top) / Nat.gcd (numN top) (numN bel)) ≠ 0)) ((numN top) / Nat.gcd (numN top) (numN bel)) ((numN bel) / Nat.gcd (numN top) (numN bel))), .int .i64 0]) rfl rfl (yb_call (f := 31) (args := #[.agg (frcC ((decide (b8.toNat = 45)) && decide (((numN top) / Nat.gcd (numN top) (numN bel)) ≠ 0)) ((numN top) / Nat.gcd (numN top) (numN bel)) ((numN bel) / Nat.gcd (numN top) (numN bel)))]) Tw.kf fun W hW => (by have h := RText_any ((decide (b8.toNat = 45)) && decide (((numN top) / Nat.gcd (numN top) (numN bel)) ≠ 0)) ((numN top) / Nat.gcd (numN top) (numN bel)) ((numN bel) / Nat.gcd (numN top) (numN bel)) hX hY W; rw [if_pos hR] at h; exact h)) ?_
                   refine Tw.mm (.tuple #[strV (textL ((decide (b8.toNat = 45)) && decide (((numN top) / Nat.gcd (numN top) (numN bel)) ≠ 0)) ((numN top) / Nat.gcd (numN top) (numN bel)) ((numN bel) / Nat.gcd (numN top) (numN bel))), .int .i64 0]) ?_
                   refine Tw.mm (strV (textL ((decide (b8.toNat = 45)) && decide (((numN top) / Nat.gcd (numN top) (numN bel)) ≠ 0)) ((numN top) / Nat.gcd (numN top) (numN bel)) ((numN bel) / Nat.gcd (numN top) (numN bel)))) ?_
                   refine Tw.mm (.int .i64 0) ?_
                   refine Tw.mm (strV (textL ((decide (b8.toNat = 45)) && decide (((numN top) / Nat.gcd (numN top) (numN bel)) ≠ 0)) ((numN top) / Nat.gcd (numN top) (numN bel)) ((numN bel) / Nat.gcd (numN top) (numN bel)))) ?_
                   refine Tw.mm (.int .i64 0) ?_
                   refine wpL_done (fun W26 hW26 => ?_)
                   change Code.wp ..
                   refine wp_seq ?_
                   refine wp_region_L _ hW26 ?_
                   refine Tw.mm (strV (textL ((decide (b8.toNat = 45)) && decide (((numN top) / Nat.gcd (numN top) (numN bel)) ≠ 0)) ((numN top) / Nat.gcd (numN top) (numN bel)) ((numN bel) / Nat.gcd (numN top) (numN bel)))) ?_
                   refine Tw.mm (strV l) ?_
                   refine Tw.lp (v := .bool (!(decide ((textL ((decide (b8.toNat = 45)) && decide (((numN top) / Nat.gcd (numN top) (numN bel)) ≠ 0)) ((numN top) / Nat.gcd (numN top) (numN bel)) ((numN bel) / Nat.gcd (numN top) (numN bel))) = l)))) rfl rfl (run_bin rfl (vx := strV (textL ((decide (b8.toNat = 45)) && decide (((numN top) / Nat.gcd (numN top) (numN bel)) ≠ 0)) ((numN top) / Nat.gcd (numN top) (numN bel)) ((numN bel) / Nat.gcd (numN top) (numN bel)))) (vy := strV l) Tw.kr Tw.kr fun w => bs_neq rfl w) ?_
                   refine wpL_done (fun W27 hW27 => ?_)
                   change Code.wp ..
                   cases hd13 : (decide ((textL ((decide (b8.toNat = 45)) && decide (((numN top) / Nat.gcd (numN top) (numN bel)) ≠ 0)) ((numN top) / Nat.gcd (numN top) (numN bel)) ((numN bel) / Nat.gcd (numN top) (numN bel))) = l)) with
                   | false =>
                     have h13 : ¬ ((textL ((decide (b8.toNat = 45)) && decide (((numN top) / Nat.gcd (numN top) (numN bel)) ≠ 0)) ((numN top) / Nat.gcd (numN top) (numN bel)) ((numN bel) / Nat.gcd (numN top) (numN bel))) = l) := of_decide_eq_false hd13
                     clear hd13
                     refine wp_cond_true rfl ?_
                     refine wp_seq ?_
                     refine wp_region_L _ hW27 ?_
                     refine Tw.mm (.agg (frcC false 0 0)) ?_
                     refine wpL_s ((g9, .cells (frcC ((decide (b8.toNat = 45)) && decide (((numN top) / Nat.gcd (numN top) (numN bel)) ≠ 0)) ((numN top) / Nat.gcd (numN top) (numN bel)) ((numN bel) / Nat.gcd (numN top) (numN bel))) 34 (0, 0)) :: (g1, .cells (frcC false 0 0) 34 (0, 0)) :: (T4 ++ T6)) rfl rfl (st_all zfz (by exact frc_onec) rfl Tw.kr Tw.kr Tw.m1 Bg1 zfs (List.forall_mem_cons.2 ⟨.inr ⟨Tw.m0, Tw.nee⟩, (List.forall_mem_cons.2 ⟨.inl rfl, (fun p hp => .inr ⟨(.tail _ (.tail _ hp)), ((show Dk g1 (T4 ++ T6) from Tw.djt) _ hp)⟩)⟩)⟩)) ?_
                     refine Tw.mm (.int .i64 11) ?_
                     refine wpL_done (fun W28 hW28 => ?_)
                     change Code.wp ..
                     refine wp_ret ?_
                     try simp only [inBlock_ret, then_ret]
                     refine bodyPost_ret (v := .tuple #[.agg (frcC false 0 0), .int .i64 11]) ?_ rfl ?_
                     · exact (res_cell_tmp (p := 2) (q := 3) rfl rfl (hW28.2 _ Tw.m1) Tryz.underlying34 rfl zfs)
                     · exact ⟨(ret_v (by rw [hV]; subst htop hbel; rw [read_end (neg := decide (b8.toNat = 45)) hx0 h8 h11 (neg_of hb8), if_neg h13])), hW28.1⟩
                   | true =>
                     have h13 : (textL ((decide (b8.toNat = 45)) && decide (((numN top) / Nat.gcd (numN top) (numN bel)) ≠ 0)) ((numN top) / Nat.gcd (numN top) (numN bel)) ((numN bel) / Nat.gcd (numN top) (numN bel))) = l := of_decide_eq_true hd13
                     clear hd13
                     refine wp_cond_false rfl ?_
                     refine wp_skip ?_
                     change Code.wp ..
                     refine wp_seq ?_
                     refine wp_region_L _ hW27 ?_
                     refine Tw.lv (v := .agg (frcC ((decide (b8.toNat = 45)) && decide (((numN top) / Nat.gcd (numN top) (numN bel)) ≠ 0)) ((numN top) / Nat.gcd (numN top) (numN bel)) ((numN bel) / Nat.gcd (numN top) (numN bel)))) rfl rfl (yb_all rfl Tw.kr Tw.m0 Tryz.underlying34 rfl zfs) ?_
                     refine wpL_s ((g9, .cells (frcC ((decide (b8.toNat = 45)) && decide (((numN top) / Nat.gcd (numN top) (numN bel)) ≠ 0)) ((numN top) / Nat.gcd (numN top) (numN bel)) ((numN bel) / Nat.gcd (numN top) (numN bel))) 34 (0, 0)) :: (g1, .cells (frcC ((decide (b8.toNat = 45)) && decide (((numN top) / Nat.gcd (numN top) (numN bel)) ≠ 0)) ((numN top) / Nat.gcd (numN top) (numN bel)) ((numN bel) / Nat.gcd (numN top) (numN bel))) 34 (0, 0)) :: (T4 ++ T6)) rfl rfl (st_all zfz (by exact frc_onec) rfl Tw.kr Tw.kr Tw.m1 Bg1 zfs (List.forall_mem_cons.2 ⟨.inr ⟨Tw.m0, Tw.nee⟩, (List.forall_mem_cons.2 ⟨.inl rfl, (fun p hp => .inr ⟨(.tail _ (.tail _ hp)), ((show Dk g1 (T4 ++ T6) from Tw.djt) _ hp)⟩)⟩)⟩)) ?_
                     refine Tw.mm (.int .i64 0) ?_
                     refine wpL_done (fun W29 hW29 => ?_)
                     change Code.wp ..
                     refine wp_ret ?_
                     try simp only [inBlock_ret, then_ret]
                     refine bodyPost_ret (v := .tuple #[.agg (frcC ((decide (b8.toNat = 45)) && decide (((numN top) / Nat.gcd (numN top) (numN bel)) ≠ 0)) ((numN top) / Nat.gcd (numN top) (numN bel)) ((numN bel) / Nat.gcd (numN top) (numN bel))), .int .i64 0]) ?_ rfl ?_
                     · exact (res_cell_tmp (p := 2) (q := 3) rfl rfl (hW29.2 _ Tw.m1) Tryz.underlying34 rfl zfs)
                     · exact ⟨(ret_v (by rw [hV]; subst htop hbel; rw [read_end (neg := decide (b8.toNat = 45)) hx0 h8 h11 (neg_of hb8), if_pos h13])), hW29.1⟩
                 | true =>
                   have h12 : (numC top) = 2 := of_decide_eq_true hd12
                   clear hd12
                   refine Tw.ln rfl ?_
                   refine Tw.ln rfl ?_
                   refine Tw.mm (.bool true) ?_
                   refine wpL_done (fun W30 hW30 => ?_)
                   change Code.wp ..
                   refine wp_cond_true rfl ?_
                   refine wp_seq ?_
                   refine wp_region_L _ hW30 ?_
                   refine Tw.mm (.agg (frcC false 0 0)) ?_
                   refine wpL_s ((g1, .cells (frcC false 0 0) 34 (0, 0)) :: (T4 ++ T6)) rfl rfl (st_all zfz (by exact frc_onec) rfl Tw.kr Tw.kr Tw.m0 Bg1 zfs (List.forall_mem_cons.2 ⟨.inl rfl, (fun p hp => .inr ⟨(.tail _ hp), ((show Dk g1 (T4 ++ T6) from Tw.djt) _ hp)⟩)⟩)) ?_
                   refine Tw.mm (.int .i64 3) ?_
                   refine wpL_done (fun W31 hW31 => ?_)
                   change Code.wp ..
                   refine wp_ret ?_
                   try simp only [inBlock_ret, then_ret]
                   refine bodyPost_ret (v := .tuple #[.agg (frcC false 0 0), .int .i64 3]) ?_ rfl ?_
                   · exact (res_cell_tmp (p := 2) (q := 3) rfl rfl (hW31.2 _ Tw.m0) Tryz.underlying34 rfl zfs)
                   · exact ⟨(ret_v (by rw [hV]; subst htop hbel; exact read3 h6 h7 (.inr h11) (.inl h12))), hW31.1⟩
               | true =>
                 have h11 : ((cd (numN bel)).length) = 0 := of_decide_eq_true hd11
                 clear hd11
                 refine wp_cond_true rfl ?_
                 refine wp_seq ?_
                 refine wp_region_L _ hW23 ?_
                 refine Tw.mm (.agg (frcC false 0 0)) ?_
                 refine wpL_s ((g1, .cells (frcC false 0 0) 34 (0, 0)) :: (T4 ++ T6)) rfl rfl (st_all zfz (by exact frc_onec) rfl Tw.kr Tw.kr Tw.m0 Bg1 zfs (List.forall_mem_cons.2 ⟨.inl rfl, (fun p hp => .inr ⟨(.tail _ hp), ((show Dk g1 (T4 ++ T6) from Tw.djt) _ hp)⟩)⟩)) ?_
                 refine Tw.mm (.int .i64 10) ?_
                 refine wpL_done (fun W32 hW32 => ?_)
                 change Code.wp ..
                 refine wp_ret ?_
                 try simp only [inBlock_ret, then_ret]
                 refine bodyPost_ret (v := .tuple #[.agg (frcC false 0 0), .int .i64 10]) ?_ rfl ?_
                 · exact (res_cell_tmp (p := 2) (q := 3) rfl rfl (hW32.2 _ Tw.m0) Tryz.underlying34 rfl zfs)
                 · exact ⟨(ret_v (by rw [hV]; subst htop hbel; exact read10 (.inr (.inr ⟨h8, h11⟩)))), hW32.1⟩
           | true =>
             have h7 : (numC bel) = 1 := of_decide_eq_true hd7
             clear hd7
             refine Tw.ln rfl ?_
             refine Tw.ln rfl ?_
             refine Tw.ln rfl ?_
             refine Tw.ln rfl ?_
             refine Tw.ln rfl ?_
             refine Tw.ln rfl ?_
             refine Tw.ln rfl ?_
             refine Tw.mm (.bool true) ?_
             refine wpL_done (fun W33 hW33 => ?_)
             change Code.wp ..
             refine wp_cond_true rfl ?_
             refine wp_seq ?_
             refine wp_region_L _ hW33 ?_
             refine Tw.mm (.agg (frcC false 0 0)) ?_
             refine wpL_s ((g1, .cells (frcC false 0 0) 34 (0, 0)) :: (T4 ++ T6)) rfl rfl (st_all zfz (by exact frc_onec) rfl Tw.kr Tw.kr Tw.m0 Bg1 zfs (List.forall_mem_cons.2 ⟨.inl rfl, (fun p hp => .inr ⟨(.tail _ hp), ((show Dk g1 (T4 ++ T6) from Tw.djt) _ hp)⟩)⟩)) ?_
             refine Tw.mm (.int .i64 10) ?_
             refine wpL_done (fun W34 hW34 => ?_)
             change Code.wp ..
             refine wp_ret ?_
             try simp only [inBlock_ret, then_ret]
             refine bodyPost_ret (v := .tuple #[.agg (frcC false 0 0), .int .i64 10]) ?_ rfl ?_
             · exact (res_cell_tmp (p := 2) (q := 3) rfl rfl (hW34.2 _ Tw.m0) Tryz.underlying34 rfl zfs)
             · exact ⟨(ret_v (by rw [hV]; subst htop hbel; exact read10 (.inr (.inl h7)))), hW34.1⟩
         | true =>
           have h6 : (numC top) = 1 := of_decide_eq_true hd6
           clear hd6
           refine Tw.ln rfl ?_
           refine Tw.ln rfl ?_
           refine Tw.mm (.bool true) ?_
           refine Tw.mm (.bool true) ?_
           refine Tw.ln rfl ?_
           refine Tw.ln rfl ?_
           refine Tw.ln rfl ?_
           refine Tw.ln rfl ?_
           refine Tw.ln rfl ?_
           refine Tw.ln rfl ?_
           refine Tw.ln rfl ?_
           refine Tw.mm (.bool true) ?_
           refine wpL_done (fun W35 hW35 => ?_)
           change Code.wp ..
           refine wp_cond_true rfl ?_
           refine wp_seq ?_
           refine wp_region_L _ hW35 ?_
           refine Tw.mm (.agg (frcC false 0 0)) ?_
           refine wpL_s ((g1, .cells (frcC false 0 0) 34 (0, 0)) :: (T4 ++ T6)) rfl rfl (st_all zfz (by exact frc_onec) rfl Tw.kr Tw.kr Tw.m0 Bg1 zfs (List.forall_mem_cons.2 ⟨.inl rfl, (fun p hp => .inr ⟨(.tail _ hp), ((show Dk g1 (T4 ++ T6) from Tw.djt) _ hp)⟩)⟩)) ?_
           refine Tw.mm (.int .i64 10) ?_
           refine wpL_done (fun W36 hW36 => ?_)
           change Code.wp ..
           refine wp_ret ?_
           try simp only [inBlock_ret, then_ret]
           refine bodyPost_ret (v := .tuple #[.agg (frcC false 0 0), .int .i64 10]) ?_ rfl ?_
           · exact (res_cell_tmp (p := 2) (q := 3) rfl rfl (hW36.2 _ Tw.m0) Tryz.underlying34 rfl zfs)
           · exact ⟨(ret_v (by rw [hV]; subst htop hbel; exact read10 (.inl h6))), hW36.1⟩
end Go.Proofs.YtalmflgkbmnghaaGreatDoor
namespace Go.Proofs.YtalmflgkbmnghaaGreatDoor
open Go Go.RowKit Tw
open Tf (dg R R_pos R_le R_succ dg_of_lt setd setd_eq)
theorem div_lt8 {x y : Nat} (h : (cd x).length ≤ 4) : x / y < R 8 := cd_R8.1 (Nat.le_trans (cd_div_len h) Tw.om)
theorem frc_same {s s' : Bool} {n d : Nat} (h : s = s') : (Value.tuple #[.agg (frcC s n d), .int .i64 0]) = .tuple #[.agg (frcC s' n d), .int .i64 0] := by rw [h]
theorem quo0 {a b : Int} (hb : b ≠ 0) : (a.natAbs / Nat.gcd a.natAbs b.natAbs ≠ 0) ↔ a ≠ 0 := by
 have hg : 0 < Nat.gcd a.natAbs b.natAbs := Nat.gcd_pos_of_pos_right _ Tw.om
 constructor
 · rintro h rfl
   simp at h
 · intro h
   have := Nat.div_pos (Nat.le_of_dvd Tw.om (Nat.gcd_dvd_left a.natAbs b.natAbs)) hg
   omega
theorem sgn_true {a b : Int} (h : (a < 0 ∧ 0 < b) ∨ (0 < a ∧ b < 0)) (hb : b ≠ 0) : (true && decide (a.natAbs / Nat.gcd a.natAbs b.natAbs ≠ 0)) = (decide (a ≠ 0) && (decide (a < 0) != decide (b < 0))) := by
 have e : decide (a.natAbs / Nat.gcd a.natAbs b.natAbs ≠ 0) = decide (a ≠ 0) := decide_eq_decide.2 (quo0 (a := a) hb)
 rw [Bool.true_and, e]
 rcases h with ⟨h1, h2⟩ | ⟨h1, h2⟩
 · have h3 : ¬ b < 0 := by omega
   simp [h1, h3]
 · have h3 : ¬ a < 0 := by omega
   simp [h2, h3]
theorem sgn_false {a b : Int} (h : ¬ (a < 0 ∧ 0 < b) ∧ ¬ (0 < a ∧ b < 0)) (hb : b ≠ 0) : (false && decide (a.natAbs / Nat.gcd a.natAbs b.natAbs ≠ 0)) = (decide (a ≠ 0) && (decide (a < 0) != decide (b < 0))) := by
 rw [Bool.false_and]
 by_cases h0 : a = 0
 · simp [h0]
 · by_cases h1 : a < 0
   · have h2 : b < 0 := by omega
     simp [h1, h2]
   · have h2 : ¬ b < 0 := by omega
     simp [h1, h2]
theorem of_ratio (n : Int) : (Value.tuple #[.agg (frcC (decide (n ≠ 0) && (decide (n < 0) != decide ((1 : Int) < 0))) (n.natAbs / Nat.gcd n.natAbs (1 : Int).natAbs) ((1 : Int).natAbs / Nat.gcd n.natAbs (1 : Int).natAbs)), .int .i64 0]) = .tuple #[.agg (frcC (decide (n < 0)) n.natAbs 1), .int .i64 0] := by
 have e : (1 : Int).natAbs = 1 := rfl
 rw [e, Nat.gcd_one_right, Nat.div_one, Nat.div_one]
 have : (decide (n ≠ 0) && (decide (n < 0) != decide ((1 : Int) < 0))) = decide (n < 0) := by
   by_cases h : n < 0
   · have : n ≠ 0 := by omega
     simp [h, this]
   · simp [h]
 rw [this]
set_option maxRecDepth 100000 in
set_option maxHeartbeats 20000000 in
theorem RRatio_any (a b : Int) (a1 : -9223372036854775808 ≤ a) (a2 : a ≤ 9223372036854775807) (b1 : -9223372036854775808 ≤ b) (b2 : b ≤ 9223372036854775807) (hb : b ≠ 0) (w : World) : Calls Tryz.prog 38 #[.int .i64 a, .int .i64 b] w fun e w' => e = .returned (.tuple #[.agg (frcC (decide (a ≠ 0) && (decide (a < 0) != decide (b < 0))) (a.natAbs / Nat.gcd a.natAbs b.natAbs) (b.natAbs / Nat.gcd a.natAbs b.natAbs)), .int .i64 0]) ∧ Below w.heap.size w w' := by
 have la : (cd a.natAbs).length ≤ 4 := cd_le.2 Tw.om
 have lb : (cd b.natAbs).length ≤ 4 := cd_le.2 Tw.om
 have hb0 : 0 < b.natAbs := by omega
 obtain ⟨S, hS⟩ : ∃ S, S = (decide (a ≠ 0) && (decide (a < 0) != decide (b < 0))) := ⟨_, rfl⟩
 rw [← hS]
 go_enter Tryz.func38, Tryz.ntmps38
 refine wp_seq ?_
 refine wp_region_L [] (KS.start w) ?_
 refine wpL_new (fun g => .pointer (some ⟨g, 0, none⟩)) (obi := .cells (frcC false 0 0) 34 (0, 0)) rfl rfl Tw.kf Tw.pf fun g1 Bg1 Fg1 => ?_
 refine Tw.mm (.int .i64 0) ?_
 refine wpL_done (fun W1 hW1 => ?_)
 change Code.wp ..
 refine wp_seq ?_
 refine wp_seq ?_
 refine wp_region_L _ hW1 ?_
 refine Tw.mm (.int .i64 b) ?_
 refine Tw.lp (v := .bool (decide (b = 0))) rfl rfl (run_bin rfl (vx := (.int .i64 b)) (vy := (.int .i64 0)) Tw.kr Tw.kr fun w => bi_eql rfl w) ?_
 refine wpL_done (fun W2 hW2 => ?_)
 change Code.wp ..
 cases hd1 : (decide (b = 0)) with
 | false =>
   have h1 : ¬ (b = 0) := of_decide_eq_false hd1
   clear hd1
   refine wp_cond_false rfl ?_
   refine wp_skip ?_
   change Code.wp ..
   refine wp_seq ?_
   refine wp_region_L _ hW2 ?_
   refine Tw.mm (.int .i64 a) ?_
   refine Tw.lp (v := .bool (decide (a < 0))) rfl rfl (run_bin rfl (vx := (.int .i64 a)) (vy := (.int .i64 0)) Tw.kr Tw.kr fun w => bi_lss rfl w) ?_
   refine Tw.mm (.bool (decide (a < 0))) ?_
   cases hd2 : (decide (a < 0)) with
   | false =>
     have h2 : ¬ (a < 0) := of_decide_eq_false hd2
     clear hd2
     refine Tw.ln rfl ?_
     refine Tw.ln rfl ?_
     refine Tw.mm (.bool false) ?_
     refine Tw.mm (.bool false) ?_
     refine Tw.mm (.int .i64 a) ?_
     refine Tw.lp (v := .bool (decide (0 < a))) rfl rfl (run_bin rfl (vx := (.int .i64 a)) (vy := (.int .i64 0)) Tw.kr Tw.kr fun w => bi_gtr rfl w) ?_
     refine Tw.mm (.bool (decide (0 < a))) ?_
     cases hd3 : (decide (0 < a)) with
     | false =>
       have h3 : ¬ (0 < a) := of_decide_eq_false hd3
       clear hd3
       refine Tw.ln rfl ?_
       refine Tw.ln rfl ?_
       refine Tw.mm (.bool false) ?_
       refine Tw.mm (.bool false) ?_
       refine Tw.mm (.int .i64 a) ?_
       refine wpL_c (f := 78) (args := #[.int .i64 a]) (AnsG w [(g1, .cells (frcC false 0 0) 34 (0, 0))] (cd a.natAbs)) rfl Tw.kr Tw.kf (fun W hW => (size_any a Tw.om Tw.om W).mono fun e w2 h => Ans.g h hW) Tw.pf ?_
       rintro v2 _ ⟨q2, d2, T2, rfl, C2, H2, F2, J2, rfl⟩
       obtain dj3_0 : Dk g1 T2 := Tw.djf J2
       refine Tw.mm (.int .i64 b) ?_
       refine wpL_c (f := 78) (args := #[.int .i64 b]) (AnsG w ((g1, .cells (frcC false 0 0) 34 (0, 0)) :: T2) (cd b.natAbs)) rfl Tw.kr Tw.kf (fun W hW => (size_any b Tw.om Tw.om W).mono fun e w2 h => Ans.g h hW) Tw.pf ?_
       rintro v4 _ ⟨q4, d4, T4, rfl, C4, H4, F4, J4, rfl⟩
       obtain ⟨dj5_0, dj5_1⟩ : Dk g1 T4 ∧ Dj T2 T4 := Tw.djf J4
       refine Tw.lv (v := .tuple #[.agg (frcC (false && decide ((a.natAbs / Nat.gcd a.natAbs b.natAbs) ≠ 0)) (a.natAbs / Nat.gcd a.natAbs b.natAbs) (b.natAbs / Nat.gcd a.natAbs b.natAbs)), .int .i64 0]) rfl rfl (yb_call (f := 45) (args := #[.bool false, .slice q2 ((cd a.natAbs).length) d2, .slice q4 ((cd b.natAbs).length) d4]) Tw.kf fun W hW => packV_yes (neg := false) (div_lt8 (y := Nat.gcd a.natAbs b.natAbs) la) (div_lt8 (y := Nat.gcd a.natAbs b.natAbs) lb) ▸ make0_any false a.natAbs b.natAbs q2 q4 d2 d4 hb0 Tw.om Tw.om C2 C4 W ((H2.mono Tw.sb) W hW) ((H4.mono Tw.sb) W hW)) ?_
       refine Tw.mm (.agg (frcC (false && decide ((a.natAbs / Nat.gcd a.natAbs b.natAbs) ≠ 0)) (a.natAbs / Nat.gcd a.natAbs b.natAbs) (b.natAbs / Nat.gcd a.natAbs b.natAbs))) ?_
       refine Tw.mm (.int .i64 0) ?_
       refine wpL_s ((g1, .cells (frcC (false && decide ((a.natAbs / Nat.gcd a.natAbs b.natAbs) ≠ 0)) (a.natAbs / Nat.gcd a.natAbs b.natAbs) (b.natAbs / Nat.gcd a.natAbs b.natAbs)) 34 (0, 0)) :: (T2 ++ T4)) rfl rfl (st_all zfz (by exact frc_onec) rfl Tw.kr Tw.kr Tw.m0 Bg1 zfs (List.forall_mem_cons.2 ⟨.inl rfl, (fun p hp => .inr ⟨(.tail _ hp), ((show Dk g1 (T2 ++ T4) from Tw.djt) _ hp)⟩)⟩)) ?_
       refine Tw.mm (.int .i64 0) ?_
       refine wpL_done (fun W3 hW3 => ?_)
       change Code.wp ..
       refine wp_ret ?_
       try simp only [inBlock_ret, then_ret]
       refine bodyPost_ret (v := .tuple #[.agg (frcC (false && decide ((a.natAbs / Nat.gcd a.natAbs b.natAbs) ≠ 0)) (a.natAbs / Nat.gcd a.natAbs b.natAbs) (b.natAbs / Nat.gcd a.natAbs b.natAbs)), .int .i64 0]) ?_ rfl ?_
       · exact (res_cell_tmp (p := 4) (q := 5) rfl rfl (hW3.2 _ Tw.m0) Tryz.underlying34 rfl zfs)
       · exact ⟨(ret_v (frc_same ((sgn_false (a := a) (b := b) Tw.om hb).trans hS.symm))), hW3.1⟩
     | true =>
       have h3 : 0 < a := of_decide_eq_true hd3
       clear hd3
       refine Tw.mm (.int .i64 b) ?_
       refine Tw.lp (v := .bool (decide (b < 0))) rfl rfl (run_bin rfl (vx := (.int .i64 b)) (vy := (.int .i64 0)) Tw.kr Tw.kr fun w => bi_lss rfl w) ?_
       refine Tw.mm (.bool (decide (b < 0))) ?_
       refine Tw.mm (.bool (decide (b < 0))) ?_
       refine Tw.mm (.int .i64 a) ?_
       refine wpL_c (f := 78) (args := #[.int .i64 a]) (AnsG w [(g1, .cells (frcC false 0 0) 34 (0, 0))] (cd a.natAbs)) rfl Tw.kr Tw.kf (fun W hW => (size_any a Tw.om Tw.om W).mono fun e w2 h => Ans.g h hW) Tw.pf ?_
       rintro v6 _ ⟨q6, d6, T6, rfl, C6, H6, F6, J6, rfl⟩
       obtain dj7_0 : Dk g1 T6 := Tw.djf J6
       refine Tw.mm (.int .i64 b) ?_
       refine wpL_c (f := 78) (args := #[.int .i64 b]) (AnsG w ((g1, .cells (frcC false 0 0) 34 (0, 0)) :: T6) (cd b.natAbs)) rfl Tw.kr Tw.kf (fun W hW => (size_any b Tw.om Tw.om W).mono fun e w2 h => Ans.g h hW) Tw.pf ?_
       rintro v8 _ ⟨q8, d8, T8, rfl, C8, H8, F8, J8, rfl⟩
       obtain ⟨dj9_0, dj9_1⟩ : Dk g1 T8 ∧ Dj T6 T8 := Tw.djf J8
       cases hd4 : (decide (b < 0)) with
       | false =>
         have h4 : ¬ (b < 0) := of_decide_eq_false hd4
         clear hd4
         refine Tw.lv (v := .tuple #[.agg (frcC (false && decide ((a.natAbs / Nat.gcd a.natAbs b.natAbs) ≠ 0)) (a.natAbs / Nat.gcd a.natAbs b.natAbs) (b.natAbs / Nat.gcd a.natAbs b.natAbs)), .int .i64 0]) rfl rfl (yb_call (f := 45) (args := #[.bool false, .slice q6 ((cd a.natAbs).length) d6, .slice q8 ((cd b.natAbs).length) d8]) Tw.kf fun W hW => packV_yes (neg := false) (div_lt8 (y := Nat.gcd a.natAbs b.natAbs) la) (div_lt8 (y := Nat.gcd a.natAbs b.natAbs) lb) ▸ make0_any false a.natAbs b.natAbs q6 q8 d6 d8 hb0 Tw.om Tw.om C6 C8 W ((H6.mono Tw.sb) W hW) ((H8.mono Tw.sb) W hW)) ?_
         refine Tw.mm (.agg (frcC (false && decide ((a.natAbs / Nat.gcd a.natAbs b.natAbs) ≠ 0)) (a.natAbs / Nat.gcd a.natAbs b.natAbs) (b.natAbs / Nat.gcd a.natAbs b.natAbs))) ?_
         refine Tw.mm (.int .i64 0) ?_
         refine wpL_s ((g1, .cells (frcC (false && decide ((a.natAbs / Nat.gcd a.natAbs b.natAbs) ≠ 0)) (a.natAbs / Nat.gcd a.natAbs b.natAbs) (b.natAbs / Nat.gcd a.natAbs b.natAbs)) 34 (0, 0)) :: (T6 ++ T8)) rfl rfl (st_all zfz (by exact frc_onec) rfl Tw.kr Tw.kr Tw.m0 Bg1 zfs (List.forall_mem_cons.2 ⟨.inl rfl, (fun p hp => .inr ⟨(.tail _ hp), ((show Dk g1 (T6 ++ T8) from Tw.djt) _ hp)⟩)⟩)) ?_
         refine Tw.mm (.int .i64 0) ?_
         refine wpL_done (fun W4 hW4 => ?_)
         change Code.wp ..
         refine wp_ret ?_
         try simp only [inBlock_ret, then_ret]
         refine bodyPost_ret (v := .tuple #[.agg (frcC (false && decide ((a.natAbs / Nat.gcd a.natAbs b.natAbs) ≠ 0)) (a.natAbs / Nat.gcd a.natAbs b.natAbs) (b.natAbs / Nat.gcd a.natAbs b.natAbs)), .int .i64 0]) ?_ rfl ?_
         · exact (res_cell_tmp (p := 4) (q := 5) rfl rfl (hW4.2 _ Tw.m0) Tryz.underlying34 rfl zfs)
         · exact ⟨(ret_v (frc_same ((sgn_false (a := a) (b := b) Tw.om hb).trans hS.symm))), hW4.1⟩
       | true =>
         have h4 : b < 0 := of_decide_eq_true hd4
         clear hd4
         refine Tw.lv (v := .tuple #[.agg (frcC (true && decide ((a.natAbs / Nat.gcd a.natAbs b.natAbs) ≠ 0)) (a.natAbs / Nat.gcd a.natAbs b.natAbs) (b.natAbs / Nat.gcd a.natAbs b.natAbs)), .int .i64 0]) rfl rfl (yb_call (f := 45) (args := #[.bool true, .slice q6 ((cd a.natAbs).length) d6, .slice q8 ((cd b.natAbs).length) d8]) Tw.kf fun W hW => packV_yes (neg := true) (div_lt8 (y := Nat.gcd a.natAbs b.natAbs) la) (div_lt8 (y := Nat.gcd a.natAbs b.natAbs) lb) ▸ make0_any true a.natAbs b.natAbs q6 q8 d6 d8 hb0 Tw.om Tw.om C6 C8 W ((H6.mono Tw.sb) W hW) ((H8.mono Tw.sb) W hW)) ?_
         refine Tw.mm (.agg (frcC (true && decide ((a.natAbs / Nat.gcd a.natAbs b.natAbs) ≠ 0)) (a.natAbs / Nat.gcd a.natAbs b.natAbs) (b.natAbs / Nat.gcd a.natAbs b.natAbs))) ?_
         refine Tw.mm (.int .i64 0) ?_
         refine wpL_s ((g1, .cells (frcC (true && decide ((a.natAbs / Nat.gcd a.natAbs b.natAbs) ≠ 0)) (a.natAbs / Nat.gcd a.natAbs b.natAbs) (b.natAbs / Nat.gcd a.natAbs b.natAbs)) 34 (0, 0)) :: (T6 ++ T8)) rfl rfl (st_all zfz (by exact frc_onec) rfl Tw.kr Tw.kr Tw.m0 Bg1 zfs (List.forall_mem_cons.2 ⟨.inl rfl, (fun p hp => .inr ⟨(.tail _ hp), ((show Dk g1 (T6 ++ T8) from Tw.djt) _ hp)⟩)⟩)) ?_
         refine Tw.mm (.int .i64 0) ?_
         refine wpL_done (fun W5 hW5 => ?_)
         change Code.wp ..
         refine wp_ret ?_
         try simp only [inBlock_ret, then_ret]
         refine bodyPost_ret (v := .tuple #[.agg (frcC (true && decide ((a.natAbs / Nat.gcd a.natAbs b.natAbs) ≠ 0)) (a.natAbs / Nat.gcd a.natAbs b.natAbs) (b.natAbs / Nat.gcd a.natAbs b.natAbs)), .int .i64 0]) ?_ rfl ?_
         · exact (res_cell_tmp (p := 4) (q := 5) rfl rfl (hW5.2 _ Tw.m0) Tryz.underlying34 rfl zfs)
         · exact ⟨(ret_v (frc_same ((sgn_true (a := a) (b := b) Tw.om hb).trans hS.symm))), hW5.1⟩
   | true =>
     have h2 : a < 0 := of_decide_eq_true hd2
     clear hd2
     refine Tw.mm (.int .i64 b) ?_
     refine Tw.lp (v := .bool (decide (0 < b))) rfl rfl (run_bin rfl (vx := (.int .i64 b)) (vy := (.int .i64 0)) Tw.kr Tw.kr fun w => bi_gtr rfl w) ?_
     refine Tw.mm (.bool (decide (0 < b))) ?_
     refine Tw.mm (.bool (decide (0 < b))) ?_
     cases hd5 : (decide (0 < b)) with
     | false =>
       have h5 : ¬ (0 < b) := of_decide_eq_false hd5
       clear hd5
       refine Tw.mm (.int .i64 a) ?_
       refine Tw.lp (v := .bool (decide (0 < a))) rfl rfl (run_bin rfl (vx := (.int .i64 a)) (vy := (.int .i64 0)) Tw.kr Tw.kr fun w => bi_gtr rfl w) ?_
       refine Tw.mm (.bool (decide (0 < a))) ?_
       cases hd6 : (decide (0 < a)) with
       | false =>
         have h6 : ¬ (0 < a) := of_decide_eq_false hd6
         clear hd6
         refine Tw.ln rfl ?_
         refine Tw.ln rfl ?_
         refine Tw.mm (.bool false) ?_
         refine Tw.mm (.bool false) ?_
         refine Tw.mm (.int .i64 a) ?_
         refine wpL_c (f := 78) (args := #[.int .i64 a]) (AnsG w [(g1, .cells (frcC false 0 0) 34 (0, 0))] (cd a.natAbs)) rfl Tw.kr Tw.kf (fun W hW => (size_any a Tw.om Tw.om W).mono fun e w2 h => Ans.g h hW) Tw.pf ?_
         rintro v10 _ ⟨q10, d10, T10, rfl, C10, H10, F10, J10, rfl⟩
         obtain dj11_0 : Dk g1 T10 := Tw.djf J10
         refine Tw.mm (.int .i64 b) ?_
         refine wpL_c (f := 78) (args := #[.int .i64 b]) (AnsG w ((g1, .cells (frcC false 0 0) 34 (0, 0)) :: T10) (cd b.natAbs)) rfl Tw.kr Tw.kf (fun W hW => (size_any b Tw.om Tw.om W).mono fun e w2 h => Ans.g h hW) Tw.pf ?_
         rintro v12 _ ⟨q12, d12, T12, rfl, C12, H12, F12, J12, rfl⟩
         obtain ⟨dj13_0, dj13_1⟩ : Dk g1 T12 ∧ Dj T10 T12 := Tw.djf J12
         refine Tw.lv (v := .tuple #[.agg (frcC (false && decide ((a.natAbs / Nat.gcd a.natAbs b.natAbs) ≠ 0)) (a.natAbs / Nat.gcd a.natAbs b.natAbs) (b.natAbs / Nat.gcd a.natAbs b.natAbs)), .int .i64 0]) rfl rfl (yb_call (f := 45) (args := #[.bool false, .slice q10 ((cd a.natAbs).length) d10, .slice q12 ((cd b.natAbs).length) d12]) Tw.kf fun W hW => packV_yes (neg := false) (div_lt8 (y := Nat.gcd a.natAbs b.natAbs) la) (div_lt8 (y := Nat.gcd a.natAbs b.natAbs) lb) ▸ make0_any false a.natAbs b.natAbs q10 q12 d10 d12 hb0 Tw.om Tw.om C10 C12 W ((H10.mono Tw.sb) W hW) ((H12.mono Tw.sb) W hW)) ?_
         refine Tw.mm (.agg (frcC (false && decide ((a.natAbs / Nat.gcd a.natAbs b.natAbs) ≠ 0)) (a.natAbs / Nat.gcd a.natAbs b.natAbs) (b.natAbs / Nat.gcd a.natAbs b.natAbs))) ?_
         refine Tw.mm (.int .i64 0) ?_
         refine wpL_s ((g1, .cells (frcC (false && decide ((a.natAbs / Nat.gcd a.natAbs b.natAbs) ≠ 0)) (a.natAbs / Nat.gcd a.natAbs b.natAbs) (b.natAbs / Nat.gcd a.natAbs b.natAbs)) 34 (0, 0)) :: (T10 ++ T12)) rfl rfl (st_all zfz (by exact frc_onec) rfl Tw.kr Tw.kr Tw.m0 Bg1 zfs (List.forall_mem_cons.2 ⟨.inl rfl, (fun p hp => .inr ⟨(.tail _ hp), ((show Dk g1 (T10 ++ T12) from Tw.djt) _ hp)⟩)⟩)) ?_
         refine Tw.mm (.int .i64 0) ?_
         refine wpL_done (fun W6 hW6 => ?_)
         change Code.wp ..
         refine wp_ret ?_
         try simp only [inBlock_ret, then_ret]
         refine bodyPost_ret (v := .tuple #[.agg (frcC (false && decide ((a.natAbs / Nat.gcd a.natAbs b.natAbs) ≠ 0)) (a.natAbs / Nat.gcd a.natAbs b.natAbs) (b.natAbs / Nat.gcd a.natAbs b.natAbs)), .int .i64 0]) ?_ rfl ?_
         · exact (res_cell_tmp (p := 4) (q := 5) rfl rfl (hW6.2 _ Tw.m0) Tryz.underlying34 rfl zfs)
         · exact ⟨(ret_v (frc_same ((sgn_false (a := a) (b := b) Tw.om hb).trans hS.symm))), hW6.1⟩
       | true =>
         have h6 : 0 < a := of_decide_eq_true hd6
         clear hd6
         refine Tw.mm (.int .i64 b) ?_
         refine Tw.lp (v := .bool (decide (b < 0))) rfl rfl (run_bin rfl (vx := (.int .i64 b)) (vy := (.int .i64 0)) Tw.kr Tw.kr fun w => bi_lss rfl w) ?_
         refine Tw.mm (.bool (decide (b < 0))) ?_
         refine Tw.mm (.bool (decide (b < 0))) ?_
         refine Tw.mm (.int .i64 a) ?_
         refine wpL_c (f := 78) (args := #[.int .i64 a]) (AnsG w [(g1, .cells (frcC false 0 0) 34 (0, 0))] (cd a.natAbs)) rfl Tw.kr Tw.kf (fun W hW => (size_any a Tw.om Tw.om W).mono fun e w2 h => Ans.g h hW) Tw.pf ?_
         rintro v14 _ ⟨q14, d14, T14, rfl, C14, H14, F14, J14, rfl⟩
         obtain dj15_0 : Dk g1 T14 := Tw.djf J14
         refine Tw.mm (.int .i64 b) ?_
         refine wpL_c (f := 78) (args := #[.int .i64 b]) (AnsG w ((g1, .cells (frcC false 0 0) 34 (0, 0)) :: T14) (cd b.natAbs)) rfl Tw.kr Tw.kf (fun W hW => (size_any b Tw.om Tw.om W).mono fun e w2 h => Ans.g h hW) Tw.pf ?_
         rintro v16 _ ⟨q16, d16, T16, rfl, C16, H16, F16, J16, rfl⟩
         obtain ⟨dj17_0, dj17_1⟩ : Dk g1 T16 ∧ Dj T14 T16 := Tw.djf J16
         cases hd7 : (decide (b < 0)) with
         | false =>
           have h7 : ¬ (b < 0) := of_decide_eq_false hd7
           clear hd7
           refine Tw.lv (v := .tuple #[.agg (frcC (false && decide ((a.natAbs / Nat.gcd a.natAbs b.natAbs) ≠ 0)) (a.natAbs / Nat.gcd a.natAbs b.natAbs) (b.natAbs / Nat.gcd a.natAbs b.natAbs)), .int .i64 0]) rfl rfl (yb_call (f := 45) (args := #[.bool false, .slice q14 ((cd a.natAbs).length) d14, .slice q16 ((cd b.natAbs).length) d16]) Tw.kf fun W hW => packV_yes (neg := false) (div_lt8 (y := Nat.gcd a.natAbs b.natAbs) la) (div_lt8 (y := Nat.gcd a.natAbs b.natAbs) lb) ▸ make0_any false a.natAbs b.natAbs q14 q16 d14 d16 hb0 Tw.om Tw.om C14 C16 W ((H14.mono Tw.sb) W hW) ((H16.mono Tw.sb) W hW)) ?_
           refine Tw.mm (.agg (frcC (false && decide ((a.natAbs / Nat.gcd a.natAbs b.natAbs) ≠ 0)) (a.natAbs / Nat.gcd a.natAbs b.natAbs) (b.natAbs / Nat.gcd a.natAbs b.natAbs))) ?_
           refine Tw.mm (.int .i64 0) ?_
           refine wpL_s ((g1, .cells (frcC (false && decide ((a.natAbs / Nat.gcd a.natAbs b.natAbs) ≠ 0)) (a.natAbs / Nat.gcd a.natAbs b.natAbs) (b.natAbs / Nat.gcd a.natAbs b.natAbs)) 34 (0, 0)) :: (T14 ++ T16)) rfl rfl (st_all zfz (by exact frc_onec) rfl Tw.kr Tw.kr Tw.m0 Bg1 zfs (List.forall_mem_cons.2 ⟨.inl rfl, (fun p hp => .inr ⟨(.tail _ hp), ((show Dk g1 (T14 ++ T16) from Tw.djt) _ hp)⟩)⟩)) ?_
           refine Tw.mm (.int .i64 0) ?_
           refine wpL_done (fun W7 hW7 => ?_)
           change Code.wp ..
           refine wp_ret ?_
           try simp only [inBlock_ret, then_ret]
           refine bodyPost_ret (v := .tuple #[.agg (frcC (false && decide ((a.natAbs / Nat.gcd a.natAbs b.natAbs) ≠ 0)) (a.natAbs / Nat.gcd a.natAbs b.natAbs) (b.natAbs / Nat.gcd a.natAbs b.natAbs)), .int .i64 0]) ?_ rfl ?_
           · exact (res_cell_tmp (p := 4) (q := 5) rfl rfl (hW7.2 _ Tw.m0) Tryz.underlying34 rfl zfs)
           · exact ⟨(ret_v (frc_same ((sgn_false (a := a) (b := b) Tw.om hb).trans hS.symm))), hW7.1⟩
         | true =>
           have h7 : b < 0 := of_decide_eq_true hd7
           clear hd7
           refine Tw.lv (v := .tuple #[.agg (frcC (true && decide ((a.natAbs / Nat.gcd a.natAbs b.natAbs) ≠ 0)) (a.natAbs / Nat.gcd a.natAbs b.natAbs) (b.natAbs / Nat.gcd a.natAbs b.natAbs)), .int .i64 0]) rfl rfl (yb_call (f := 45) (args := #[.bool true, .slice q14 ((cd a.natAbs).length) d14, .slice q16 ((cd b.natAbs).length) d16]) Tw.kf fun W hW => packV_yes (neg := true) (div_lt8 (y := Nat.gcd a.natAbs b.natAbs) la) (div_lt8 (y := Nat.gcd a.natAbs b.natAbs) lb) ▸ make0_any true a.natAbs b.natAbs q14 q16 d14 d16 hb0 Tw.om Tw.om C14 C16 W ((H14.mono Tw.sb) W hW) ((H16.mono Tw.sb) W hW)) ?_
           refine Tw.mm (.agg (frcC (true && decide ((a.natAbs / Nat.gcd a.natAbs b.natAbs) ≠ 0)) (a.natAbs / Nat.gcd a.natAbs b.natAbs) (b.natAbs / Nat.gcd a.natAbs b.natAbs))) ?_
           refine Tw.mm (.int .i64 0) ?_
           refine wpL_s ((g1, .cells (frcC (true && decide ((a.natAbs / Nat.gcd a.natAbs b.natAbs) ≠ 0)) (a.natAbs / Nat.gcd a.natAbs b.natAbs) (b.natAbs / Nat.gcd a.natAbs b.natAbs)) 34 (0, 0)) :: (T14 ++ T16)) rfl rfl (st_all zfz (by exact frc_onec) rfl Tw.kr Tw.kr Tw.m0 Bg1 zfs (List.forall_mem_cons.2 ⟨.inl rfl, (fun p hp => .inr ⟨(.tail _ hp), ((show Dk g1 (T14 ++ T16) from Tw.djt) _ hp)⟩)⟩)) ?_
           refine Tw.mm (.int .i64 0) ?_
           refine wpL_done (fun W8 hW8 => ?_)
           change Code.wp ..
           refine wp_ret ?_
           try simp only [inBlock_ret, then_ret]
           refine bodyPost_ret (v := .tuple #[.agg (frcC (true && decide ((a.natAbs / Nat.gcd a.natAbs b.natAbs) ≠ 0)) (a.natAbs / Nat.gcd a.natAbs b.natAbs) (b.natAbs / Nat.gcd a.natAbs b.natAbs)), .int .i64 0]) ?_ rfl ?_
           · exact (res_cell_tmp (p := 4) (q := 5) rfl rfl (hW8.2 _ Tw.m0) Tryz.underlying34 rfl zfs)
           · exact ⟨(ret_v (frc_same ((sgn_true (a := a) (b := b) Tw.om hb).trans hS.symm))), hW8.1⟩
     | true =>
       have h5 : 0 < b := of_decide_eq_true hd5
       clear hd5
       refine Tw.ln rfl ?_
       refine Tw.ln rfl ?_
       refine Tw.ln rfl ?_
       refine Tw.ln rfl ?_
       refine Tw.ln rfl ?_
       refine Tw.ln rfl ?_
       refine Tw.mm (.bool true) ?_
       refine Tw.mm (.int .i64 a) ?_
       refine wpL_c (f := 78) (args := #[.int .i64 a]) (AnsG w [(g1, .cells (frcC false 0 0) 34 (0, 0))] (cd a.natAbs)) rfl Tw.kr Tw.kf (fun W hW => (size_any a Tw.om Tw.om W).mono fun e w2 h => Ans.g h hW) Tw.pf ?_
       rintro v18 _ ⟨q18, d18, T18, rfl, C18, H18, F18, J18, rfl⟩
       obtain dj19_0 : Dk g1 T18 := Tw.djf J18
       refine Tw.mm (.int .i64 b) ?_
       refine wpL_c (f := 78) (args := #[.int .i64 b]) (AnsG w ((g1, .cells (frcC false 0 0) 34 (0, 0)) :: T18) (cd b.natAbs)) rfl Tw.kr Tw.kf (fun W hW => (size_any b Tw.om Tw.om W).mono fun e w2 h => Ans.g h hW) Tw.pf ?_
       rintro v20 _ ⟨q20, d20, T20, rfl, C20, H20, F20, J20, rfl⟩
       obtain ⟨dj21_0, dj21_1⟩ : Dk g1 T20 ∧ Dj T18 T20 := Tw.djf J20
       refine Tw.lv (v := .tuple #[.agg (frcC (true && decide ((a.natAbs / Nat.gcd a.natAbs b.natAbs) ≠ 0)) (a.natAbs / Nat.gcd a.natAbs b.natAbs) (b.natAbs / Nat.gcd a.natAbs b.natAbs)), .int .i64 0]) rfl rfl (yb_call (f := 45) (args := #[.bool true, .slice q18 ((cd a.natAbs).length) d18, .slice q20 ((cd b.natAbs).length) d20]) Tw.kf fun W hW => packV_yes (neg := true) (div_lt8 (y := Nat.gcd a.natAbs b.natAbs) la) (div_lt8 (y := Nat.gcd a.natAbs b.natAbs) lb) ▸ make0_any true a.natAbs b.natAbs q18 q20 d18 d20 hb0 Tw.om Tw.om C18 C20 W ((H18.mono Tw.sb) W hW) ((H20.mono Tw.sb) W hW)) ?_
       refine Tw.mm (.agg (frcC (true && decide ((a.natAbs / Nat.gcd a.natAbs b.natAbs) ≠ 0)) (a.natAbs / Nat.gcd a.natAbs b.natAbs) (b.natAbs / Nat.gcd a.natAbs b.natAbs))) ?_
       refine Tw.mm (.int .i64 0) ?_
       refine wpL_s ((g1, .cells (frcC (true && decide ((a.natAbs / Nat.gcd a.natAbs b.natAbs) ≠ 0)) (a.natAbs / Nat.gcd a.natAbs b.natAbs) (b.natAbs / Nat.gcd a.natAbs b.natAbs)) 34 (0, 0)) :: (T18 ++ T20)) rfl rfl (st_all zfz (by exact frc_onec) rfl Tw.kr Tw.kr Tw.m0 Bg1 zfs (List.forall_mem_cons.2 ⟨.inl rfl, (fun p hp => .inr ⟨(.tail _ hp), ((show Dk g1 (T18 ++ T20) from Tw.djt) _ hp)⟩)⟩)) ?_
       refine Tw.mm (.int .i64 0) ?_
       refine wpL_done (fun W9 hW9 => ?_)
       change Code.wp ..
       refine wp_ret ?_
       try simp only [inBlock_ret, then_ret]
       refine bodyPost_ret (v := .tuple #[.agg (frcC (true && decide ((a.natAbs / Nat.gcd a.natAbs b.natAbs) ≠ 0)) (a.natAbs / Nat.gcd a.natAbs b.natAbs) (b.natAbs / Nat.gcd a.natAbs b.natAbs)), .int .i64 0]) ?_ rfl ?_
       · exact (res_cell_tmp (p := 4) (q := 5) rfl rfl (hW9.2 _ Tw.m0) Tryz.underlying34 rfl zfs)
       · exact ⟨(ret_v (frc_same ((sgn_true (a := a) (b := b) Tw.om hb).trans hS.symm))), hW9.1⟩
 | true =>
   have h1 : b = 0 := of_decide_eq_true hd1
   clear hd1
   exact absurd h1 hb
set_option maxRecDepth 100000 in
set_option maxHeartbeats 4000000 in
theorem RRatio_zero (a b : Int) (hb : b = 0) (w : World) : Calls Tryz.prog 38 #[.int .i64 a, .int .i64 b] w fun e w' => e = .returned (.tuple #[.agg (frcC false 0 0), .int .i64 2]) ∧ Below w.heap.size w w' := by
 go_enter Tryz.func38, Tryz.ntmps38
 refine wp_seq ?_
 refine wp_region_L [] (KS.start w) ?_
 refine wpL_new (fun g => .pointer (some ⟨g, 0, none⟩)) (obi := .cells (frcC false 0 0) 34 (0, 0)) rfl rfl Tw.kf Tw.pf fun g1 Bg1 Fg1 => ?_
 refine Tw.mm (.int .i64 0) ?_
 refine wpL_done (fun W1 hW1 => ?_)
 change Code.wp ..
 refine wp_seq ?_
 refine wp_seq ?_
 refine wp_region_L _ hW1 ?_
 refine Tw.mm (.int .i64 b) ?_
 refine Tw.lp (v := .bool (decide (b = 0))) rfl rfl (run_bin rfl (vx := (.int .i64 b)) (vy := (.int .i64 0)) Tw.kr Tw.kr fun w => bi_eql rfl w) ?_
 refine wpL_done (fun W2 hW2 => ?_)
 change Code.wp ..
 cases hd1 : (decide (b = 0)) with
 | false =>
   have h1 : ¬ (b = 0) := of_decide_eq_false hd1
   clear hd1
   exact absurd hb h1
 | true =>
   have h1 : b = 0 := of_decide_eq_true hd1
   clear hd1
   refine wp_cond_true rfl ?_
   refine wp_seq ?_
   refine wp_region_L _ hW2 ?_
   refine Tw.mm (.agg (frcC false 0 0)) ?_
   refine wpL_s [(g1, .cells (frcC false 0 0) 34 (0, 0))] rfl rfl (st_all zfz (by exact frc_onec) rfl Tw.kr Tw.kr Tw.m0 Bg1 zfs (List.forall_mem_cons.2 ⟨.inl rfl, (List.forall_mem_nil _)⟩)) ?_
   refine Tw.mm (.int .i64 2) ?_
   refine wpL_done (fun W3 hW3 => ?_)
   change Code.wp ..
   refine wp_ret ?_
   try simp only [inBlock_ret, then_ret]
   refine bodyPost_ret (v := .tuple #[.agg (frcC false 0 0), .int .i64 2]) ?_ rfl ?_
   · exact (res_cell_tmp (p := 4) (q := 5) rfl rfl (hW3.2 _ Tw.m0) Tryz.underlying34 rfl zfs)
   · exact ⟨rfl, hW3.1⟩
set_option maxRecDepth 100000 in
set_option maxHeartbeats 4000000 in
theorem ROf_any (n : Int) (h1 : -9223372036854775808 ≤ n) (h2 : n ≤ 9223372036854775807) (w : World) : Calls Tryz.prog 40 #[.int .i64 n] w fun e w' => e = .returned (.agg (frcC (decide (n < 0)) n.natAbs 1)) ∧ Below w.heap.size w w' := by
 go_enter Tryz.func40, Tryz.ntmps40
 refine wp_seq ?_
 refine wp_region_L [] (KS.start w) ?_
 refine wpL_new (fun g => .pointer (some ⟨g, 0, none⟩)) (obi := .cells (frcC false 0 0) 34 (0, 0)) rfl rfl Tw.kf Tw.pf fun g1 Bg1 Fg1 => ?_
 refine wpL_done (fun W1 hW1 => ?_)
 change Code.wp ..
 refine wp_seq ?_
 refine wp_region_L _ hW1 ?_
 refine Tw.mm (.int .i64 n) ?_
 refine Tw.lv (v := .tuple #[.agg (frcC (decide (n < 0)) n.natAbs 1), .int .i64 0]) rfl rfl (yb_call (f := 38) (args := #[.int .i64 n, .int .i64 1]) Tw.kf fun W hW => of_ratio n ▸ RRatio_any n 1 h1 h2 Tw.om Tw.om Tw.om W) ?_
 refine Tw.mm (.tuple #[.agg (frcC (decide (n < 0)) n.natAbs 1), .int .i64 0]) ?_
 refine Tw.mm (.agg (frcC (decide (n < 0)) n.natAbs 1)) ?_
 refine Tw.mm (.int .i64 0) ?_
 refine wpL_new (fun g => .pointer (some ⟨g, 0, none⟩)) (obi := .cells (frcC false 0 0) 34 (0, 0)) rfl rfl Tw.kf Tw.pf fun g2 Bg2 Fg2 => ?_
 obtain dj3_0 : g1 ≠ g2 := Tw.dkf Fg2
 refine wpL_s [(g2, .cells (frcC (decide (n < 0)) n.natAbs 1) 34 (0, 0)), (g1, .cells (frcC false 0 0) 34 (0, 0))] rfl rfl (st_all zfz (by exact frc_onec) rfl Tw.kr Tw.kr Tw.m0 Bg2 zfs (List.forall_mem_cons.2 ⟨.inl rfl, (List.forall_mem_cons.2 ⟨.inr ⟨Tw.m1, Tw.nee⟩, (List.forall_mem_nil _)⟩)⟩)) ?_
 refine Tw.mm (.int .i64 0) ?_
 refine wpL_done (fun W2 hW2 => ?_)
 change Code.wp ..
 refine wp_seq ?_
 refine wp_region_L _ hW2 ?_
 refine Tw.lv (v := .agg (frcC (decide (n < 0)) n.natAbs 1)) rfl rfl (yb_all rfl Tw.kr Tw.m0 Tryz.underlying34 rfl zfs) ?_
 refine wpL_s [(g2, .cells (frcC (decide (n < 0)) n.natAbs 1) 34 (0, 0)), (g1, .cells (frcC (decide (n < 0)) n.natAbs 1) 34 (0, 0))] rfl rfl (st_all zfz (by exact frc_onec) rfl Tw.kr Tw.kr Tw.m1 Bg1 zfs (List.forall_mem_cons.2 ⟨.inr ⟨Tw.m0, Tw.nee⟩, (List.forall_mem_cons.2 ⟨.inl rfl, (List.forall_mem_nil _)⟩)⟩)) ?_
 refine wpL_done (fun W3 hW3 => ?_)
 change Code.wp ..
 refine wp_ret ?_
 try simp only [inBlock_ret, then_ret]
 refine bodyPost_ret (v := .agg (frcC (decide (n < 0)) n.natAbs 1)) ?_ rfl ?_
 · exact (res_cell (p := 2) rfl rfl (hW3.2 _ Tw.m1) Tryz.underlying34 rfl zfs)
 · exact ⟨rfl, hW3.1⟩
end Go.Proofs.YtalmflgkbmnghaaGreatDoor
namespace Go.Proofs.YtalmflgkbmnghaaGreatDoor
open Go Go.RowKit Tw
open Tf (dg R R_pos R_le R_succ dg_of_lt setd setd_eq)
variable [ShLZ]
theorem ratio_zero2 (a b : Int) (hb : b = 0) (w : World) : Calls Tryz.prog 37 #[.int .i64 a, .int .i64 b] w fun e w' => e = .returned (.tuple #[.agg (frcC false 0 0), .int .i64 2]) ∧ Below w.heap.size w w' := by
 subst hb
 exact ratio_zero a w
set_option maxRecDepth 100000 in
set_option maxHeartbeats 4000000 in
theorem pair_same (s : Bool) (n d : Nat) (k : Int) (hn : n < R 8) (hd : d < R 8) (w : World) : Calls Tryz.prog 19 #[.agg (frcC s n d), .int .i64 k, .agg (frcC s n d), .int .i64 k] w fun e w' => e = .returned (.bool true) ∧ Below w.heap.size w w' := by
 go_enter Tryz.func19, Tryz.ntmps19
 refine wp_seq ?_
 refine wp_region_L [] (KS.start w) ?_
 refine wpL_new (fun g => .pointer (some ⟨g, 0, none⟩)) (obi := .cells (frcC s n d) 25 (0, 0)) rfl rfl Tw.kf Tw.pf fun g1 Bg1 Fg1 => ?_
 refine wpL_new (fun g => .pointer (some ⟨g, 0, none⟩)) (obi := .cells (frcC s n d) 34 (0, 0)) rfl rfl Tw.kf Tw.pf fun g2 Bg2 Fg2 => ?_
 obtain dj3_0 : g1 ≠ g2 := Tw.dkf Fg2
 refine Tw.mm (.bool false) ?_
 refine wpL_done (fun W1 hW1 => ?_)
 change Code.wp ..
 refine wp_seq ?_
 refine wp_region_L _ hW1 ?_
 refine Tw.lv (v := .agg (frcC s n d)) rfl rfl (yb_all rfl Tw.kr Tw.m1 Tryz.underlying25 rfl zfs) ?_
 refine Tw.lv (v := .agg (frcC s n d)) rfl rfl (yb_all rfl Tw.kr Tw.m0 Tryz.underlying34 rfl zfs) ?_
 refine Tw.lp (v := .bool true) rfl rfl (run_bin rfl (vx := .agg (frcC s n d)) (vy := .agg (frcC s n d)) Tw.kr Tw.kr fun w => run_eql27s hn hd w) ?_
 refine Tw.mm (.bool true) ?_
 refine Tw.mm (.int .i64 k) ?_
 refine Tw.mm (.int .i64 k) ?_
 refine Tw.lp (v := .bool true) rfl rfl (run_bin rfl (vx := (.int .i64 k)) (vy := (.int .i64 k)) Tw.kr Tw.kr fun w => bi_eql (decide_eq_true rfl) w) ?_
 refine Tw.mm (.bool true) ?_
 refine Tw.mm (.bool true) ?_
 refine wpL_done (fun W2 hW2 => ?_)
 change Code.wp ..
 refine wp_ret ?_
 try simp only [inBlock_ret, then_ret]
 refine bodyPost_ret (v := .bool true) ?_ rfl ?_
 · kernel_rfl
 · exact ⟨rfl, hW2.1⟩
set_option maxRecDepth 100000 in
set_option maxHeartbeats 20000000 in
theorem ratios_any (a b : Int) (a1 : -9223372036854775808 ≤ a) (a2 : a ≤ 9223372036854775807) (b1 : -9223372036854775808 ≤ b) (b2 : b ≤ 9223372036854775807) (w : World) : Calls Tryz.prog 12 #[.int .i64 a, .int .i64 b] w fun e w' => e = .returned (.bool true) ∧ Below w.heap.size w w' := by
 have la : (cd a.natAbs).length ≤ 4 := cd_le.2 Tw.om
 have lb : (cd b.natAbs).length ≤ 4 := cd_le.2 Tw.om
 go_enter Tryz.func12, Tryz.ntmps12
 refine wp_seq ?_
 refine wp_region_L [] (KS.start w) ?_
 refine Tw.mm (.bool false) ?_
 refine wpL_done (fun W1 hW1 => ?_)
 change Code.wp ..
 refine wp_seq ?_
 refine wp_region_L _ hW1 ?_
 refine Tw.mm (.int .i64 a) ?_
 refine Tw.mm (.int .i64 b) ?_
 cases hd1 : (decide (b = 0)) with
 | false =>
   have h1 : ¬ (b = 0) := of_decide_eq_false hd1
   clear hd1
   refine Tw.lv (v := .tuple #[.agg (frcC (decide (a ≠ 0) && (decide (a < 0) != decide (b < 0))) (a.natAbs / Nat.gcd a.natAbs b.natAbs) (b.natAbs / Nat.gcd a.natAbs b.natAbs)), .int .i64 0]) rfl rfl (yb_call (f := 37) (args := #[.int .i64 a, .int .i64 b]) Tw.kf fun W hW => ratio_any a b a1 a2 b1 b2 h1 W) ?_
   refine Tw.mm (.tuple #[.agg (frcC (decide (a ≠ 0) && (decide (a < 0) != decide (b < 0))) (a.natAbs / Nat.gcd a.natAbs b.natAbs) (b.natAbs / Nat.gcd a.natAbs b.natAbs)), .int .i64 0]) ?_
   refine Tw.mm (.agg (frcC (decide (a ≠ 0) && (decide (a < 0) != decide (b < 0))) (a.natAbs / Nat.gcd a.natAbs b.natAbs) (b.natAbs / Nat.gcd a.natAbs b.natAbs))) ?_
   refine Tw.mm (.int .i64 0) ?_
   refine wpL_new (fun g => .pointer (some ⟨g, 0, none⟩)) (obi := .cells (frcC false 0 0) 25 (0, 0)) rfl rfl Tw.kf Tw.pf fun g1 Bg1 Fg1 => ?_
   refine wpL_s [(g1, .cells (frcC (decide (a ≠ 0) && (decide (a < 0) != decide (b < 0))) (a.natAbs / Nat.gcd a.natAbs b.natAbs) (b.natAbs / Nat.gcd a.natAbs b.natAbs)) 25 (0, 0))] rfl rfl (st_all zfz (by exact frc_onec) rfl Tw.kr Tw.kr Tw.m0 Bg1 zfs (List.forall_mem_cons.2 ⟨.inl rfl, (List.forall_mem_nil _)⟩)) ?_
   refine Tw.mm (.int .i64 0) ?_
   refine wpL_done (fun W2 hW2 => ?_)
   change Code.wp ..
   refine wp_seq ?_
   refine wp_region_L _ hW2 ?_
   refine Tw.mm (.int .i64 a) ?_
   refine Tw.mm (.int .i64 b) ?_
   refine Tw.lv (v := .tuple #[.agg (frcC (decide (a ≠ 0) && (decide (a < 0) != decide (b < 0))) (a.natAbs / Nat.gcd a.natAbs b.natAbs) (b.natAbs / Nat.gcd a.natAbs b.natAbs)), .int .i64 0]) rfl rfl (yb_call (f := 38) (args := #[.int .i64 a, .int .i64 b]) Tw.kf fun W hW => RRatio_any a b a1 a2 b1 b2 h1 W) ?_
   refine Tw.mm (.tuple #[.agg (frcC (decide (a ≠ 0) && (decide (a < 0) != decide (b < 0))) (a.natAbs / Nat.gcd a.natAbs b.natAbs) (b.natAbs / Nat.gcd a.natAbs b.natAbs)), .int .i64 0]) ?_
   refine Tw.mm (.agg (frcC (decide (a ≠ 0) && (decide (a < 0) != decide (b < 0))) (a.natAbs / Nat.gcd a.natAbs b.natAbs) (b.natAbs / Nat.gcd a.natAbs b.natAbs))) ?_
   refine Tw.mm (.int .i64 0) ?_
   refine wpL_new (fun g => .pointer (some ⟨g, 0, none⟩)) (obi := .cells (frcC false 0 0) 34 (0, 0)) rfl rfl Tw.kf Tw.pf fun g2 Bg2 Fg2 => ?_
   obtain dj3_0 : g1 ≠ g2 := Tw.dkf Fg2
   refine wpL_s [(g2, .cells (frcC (decide (a ≠ 0) && (decide (a < 0) != decide (b < 0))) (a.natAbs / Nat.gcd a.natAbs b.natAbs) (b.natAbs / Nat.gcd a.natAbs b.natAbs)) 34 (0, 0)), (g1, .cells (frcC (decide (a ≠ 0) && (decide (a < 0) != decide (b < 0))) (a.natAbs / Nat.gcd a.natAbs b.natAbs) (b.natAbs / Nat.gcd a.natAbs b.natAbs)) 25 (0, 0))] rfl rfl (st_all zfz (by exact frc_onec) rfl Tw.kr Tw.kr Tw.m0 Bg2 zfs (List.forall_mem_cons.2 ⟨.inl rfl, (List.forall_mem_cons.2 ⟨.inr ⟨Tw.m1, Tw.nee⟩, (List.forall_mem_nil _)⟩)⟩)) ?_
   refine Tw.mm (.int .i64 0) ?_
   refine wpL_done (fun W3 hW3 => ?_)
   change Code.wp ..
   refine wp_seq ?_
   refine wp_region_L _ hW3 ?_
   refine Tw.lv (v := .agg (frcC (decide (a ≠ 0) && (decide (a < 0) != decide (b < 0))) (a.natAbs / Nat.gcd a.natAbs b.natAbs) (b.natAbs / Nat.gcd a.natAbs b.natAbs))) rfl rfl (yb_all rfl Tw.kr Tw.m1 Tryz.underlying25 rfl zfs) ?_
   refine Tw.mm (.int .i64 0) ?_
   refine Tw.lv (v := .agg (frcC (decide (a ≠ 0) && (decide (a < 0) != decide (b < 0))) (a.natAbs / Nat.gcd a.natAbs b.natAbs) (b.natAbs / Nat.gcd a.natAbs b.natAbs))) rfl rfl (yb_all rfl Tw.kr Tw.m0 Tryz.underlying34 rfl zfs) ?_
   refine Tw.mm (.int .i64 0) ?_
   refine Tw.lv (v := .bool true) rfl rfl (yb_call (f := 19) (args := #[.agg (frcC (decide (a ≠ 0) && (decide (a < 0) != decide (b < 0))) (a.natAbs / Nat.gcd a.natAbs b.natAbs) (b.natAbs / Nat.gcd a.natAbs b.natAbs)), .int .i64 0, .agg (frcC (decide (a ≠ 0) && (decide (a < 0) != decide (b < 0))) (a.natAbs / Nat.gcd a.natAbs b.natAbs) (b.natAbs / Nat.gcd a.natAbs b.natAbs)), .int .i64 0]) Tw.kf fun W hW => pair_same (decide (a ≠ 0) && (decide (a < 0) != decide (b < 0))) (a.natAbs / Nat.gcd a.natAbs b.natAbs) (b.natAbs / Nat.gcd a.natAbs b.natAbs) 0 (div_lt8 la) (div_lt8 lb) W) ?_
   refine Tw.mm (.bool true) ?_
   refine Tw.mm (.int .i64 a) ?_
   refine Tw.lv (v := .agg (frcC (decide (a < 0)) a.natAbs 1)) rfl rfl (yb_call (f := 39) (args := #[.int .i64 a]) Tw.kf fun W hW => of_any a a1 a2 W) ?_
   refine Tw.mm (.int .i64 a) ?_
   refine Tw.lv (v := .agg (frcC (decide (a < 0)) a.natAbs 1)) rfl rfl (yb_call (f := 40) (args := #[.int .i64 a]) Tw.kf fun W hW => ROf_any a a1 a2 W) ?_
   refine Tw.lp (v := .bool true) rfl rfl (run_bin rfl (vx := .agg (frcC (decide (a < 0)) a.natAbs 1)) (vy := .agg (frcC (decide (a < 0)) a.natAbs 1)) Tw.kr Tw.kr fun w => run_eql27s (cd_R8.1 Tw.om) (one_lt8) w) ?_
   refine Tw.mm (.bool true) ?_
   refine Tw.mm (.bool true) ?_
   refine wpL_done (fun W4 hW4 => ?_)
   change Code.wp ..
   refine wp_ret ?_
   try simp only [inBlock_ret, then_ret]
   refine bodyPost_ret (v := .bool true) ?_ rfl ?_
   · kernel_rfl
   · exact ⟨rfl, hW4.1⟩
 | true =>
   have h1 : b = 0 := of_decide_eq_true hd1
   clear hd1
   refine Tw.lv (v := .tuple #[.agg (frcC false 0 0), .int .i64 2]) rfl rfl (yb_call (f := 37) (args := #[.int .i64 a, .int .i64 b]) Tw.kf fun W hW => ratio_zero2 a b h1 W) ?_
   refine Tw.mm (.tuple #[.agg (frcC false 0 0), .int .i64 2]) ?_
   refine Tw.mm (.agg (frcC false 0 0)) ?_
   refine Tw.mm (.int .i64 2) ?_
   refine wpL_new (fun g => .pointer (some ⟨g, 0, none⟩)) (obi := .cells (frcC false 0 0) 25 (0, 0)) rfl rfl Tw.kf Tw.pf fun g4 Bg4 Fg4 => ?_
   refine wpL_s [(g4, .cells (frcC false 0 0) 25 (0, 0))] rfl rfl (st_all zfz (by exact frc_onec) rfl Tw.kr Tw.kr Tw.m0 Bg4 zfs (List.forall_mem_cons.2 ⟨.inl rfl, (List.forall_mem_nil _)⟩)) ?_
   refine Tw.mm (.int .i64 2) ?_
   refine wpL_done (fun W5 hW5 => ?_)
   change Code.wp ..
   refine wp_seq ?_
   refine wp_region_L _ hW5 ?_
   refine Tw.mm (.int .i64 a) ?_
   refine Tw.mm (.int .i64 b) ?_
   refine Tw.lv (v := .tuple #[.agg (frcC false 0 0), .int .i64 2]) rfl rfl (yb_call (f := 38) (args := #[.int .i64 a, .int .i64 b]) Tw.kf fun W hW => RRatio_zero a b h1 W) ?_
   refine Tw.mm (.tuple #[.agg (frcC false 0 0), .int .i64 2]) ?_
   refine Tw.mm (.agg (frcC false 0 0)) ?_
   refine Tw.mm (.int .i64 2) ?_
   refine wpL_new (fun g => .pointer (some ⟨g, 0, none⟩)) (obi := .cells (frcC false 0 0) 34 (0, 0)) rfl rfl Tw.kf Tw.pf fun g5 Bg5 Fg5 => ?_
   obtain dj6_0 : g4 ≠ g5 := Tw.dkf Fg5
   refine wpL_s [(g5, .cells (frcC false 0 0) 34 (0, 0)), (g4, .cells (frcC false 0 0) 25 (0, 0))] rfl rfl (st_all zfz (by exact frc_onec) rfl Tw.kr Tw.kr Tw.m0 Bg5 zfs (List.forall_mem_cons.2 ⟨.inl rfl, (List.forall_mem_cons.2 ⟨.inr ⟨Tw.m1, Tw.nee⟩, (List.forall_mem_nil _)⟩)⟩)) ?_
   refine Tw.mm (.int .i64 2) ?_
   refine wpL_done (fun W6 hW6 => ?_)
   change Code.wp ..
   refine wp_seq ?_
   refine wp_region_L _ hW6 ?_
   refine Tw.lv (v := .agg (frcC false 0 0)) rfl rfl (yb_all rfl Tw.kr Tw.m1 Tryz.underlying25 rfl zfs) ?_
   refine Tw.mm (.int .i64 2) ?_
   refine Tw.lv (v := .agg (frcC false 0 0)) rfl rfl (yb_all rfl Tw.kr Tw.m0 Tryz.underlying34 rfl zfs) ?_
   refine Tw.mm (.int .i64 2) ?_
   refine Tw.lv (v := .bool true) rfl rfl (yb_call (f := 19) (args := #[.agg (frcC false 0 0), .int .i64 2, .agg (frcC false 0 0), .int .i64 2]) Tw.kf fun W hW => pair_same false 0 0 2 (R_pos 8) (R_pos 8) W) ?_
   refine Tw.mm (.bool true) ?_
   refine Tw.mm (.int .i64 a) ?_
   refine Tw.lv (v := .agg (frcC (decide (a < 0)) a.natAbs 1)) rfl rfl (yb_call (f := 39) (args := #[.int .i64 a]) Tw.kf fun W hW => of_any a a1 a2 W) ?_
   refine Tw.mm (.int .i64 a) ?_
   refine Tw.lv (v := .agg (frcC (decide (a < 0)) a.natAbs 1)) rfl rfl (yb_call (f := 40) (args := #[.int .i64 a]) Tw.kf fun W hW => ROf_any a a1 a2 W) ?_
   refine Tw.lp (v := .bool true) rfl rfl (run_bin rfl (vx := .agg (frcC (decide (a < 0)) a.natAbs 1)) (vy := .agg (frcC (decide (a < 0)) a.natAbs 1)) Tw.kr Tw.kr fun w => run_eql27s (cd_R8.1 Tw.om) (one_lt8) w) ?_
   refine Tw.mm (.bool true) ?_
   refine Tw.mm (.bool true) ?_
   refine wpL_done (fun W7 hW7 => ?_)
   change Code.wp ..
   refine wp_ret ?_
   try simp only [inBlock_ret, then_ret]
   refine bodyPost_ret (v := .bool true) ?_ rfl ?_
   · kernel_rfl
   · exact ⟨rfl, hW7.1⟩
end Go.Proofs.YtalmflgkbmnghaaGreatDoor
namespace Go.Proofs.YtalmflgkbmnghaaGreatDoor
open Go Go.RowKit Tw
open Tf (dg R R_pos R_le R_succ dg_of_lt setd setd_eq)
variable [ShLZ]
variable [ShSt]
theorem bb_neq {x y : Operand} {b : Bool} (w : World) : (do eqGuard .neq 4 x y (.bool b) (.bool b); binOp .neq 4 (.bool b) (.bool b) : Sem Value).run Tryz.prog w = .ok (.bool false) w := by
 cases b <;> kernel_rfl
theorem readV_shape8 (l : List UInt8) : ∃ s n d e, readV l = .tuple #[.agg (frcC s n d), .int .i64 e] ∧ n < R 8 ∧ d < R 8 := by
 unfold readV
 split
 · split
   · split
     · exact ⟨_, _, _, _, rfl, pVal_lt _, pVal_lt _⟩
     · exact ⟨_, _, _, _, rfl, R_pos 8, R_pos 8⟩
   · exact ⟨_, _, _, _, rfl, R_pos 8, R_pos 8⟩
 · exact ⟨_, _, _, _, rfl, R_pos 8, R_pos 8⟩
theorem cmp_shape {c : Prop} [Decidable c] {a : Int} : ∃ x e, (if c then (Value.tuple #[.int .i64 a, .int .i64 0]) else .tuple #[.int .i64 0, .int .i64 2]) = .tuple #[.int .i64 x, .int .i64 e] := by
 split
 · exact ⟨_, _, rfl⟩
 · exact ⟨_, _, rfl⟩
theorem floor_shape {s : Bool} {n d : Nat} : ∃ x e, (if rightB s n d = true then floorV s n d else .tuple #[.int .i64 0, .int .i64 2]) = .tuple #[.int .i64 x, .int .i64 e] := by
 unfold floorV
 split
 · split
   · exact ⟨_, _, rfl⟩
   · exact ⟨_, _, rfl⟩
 · exact ⟨_, _, rfl⟩
theorem text_shape {s : Bool} {n d : Nat} : ∃ x e, (if rightB s n d = true then .tuple #[strV (textL s n d), .int .i64 0] else .tuple #[strV [], .int .i64 2]) = Value.tuple #[strV x, .int .i64 e] := by
 split
 · exact ⟨_, _, rfl⟩
 · exact ⟨_, _, rfl⟩
set_option maxRecDepth 100000 in
set_option maxHeartbeats 20000000 in
theorem lreads_any (l : List UInt8) (w : World) (hE : Env w) : Calls Tryz.prog 9 #[strV l] w fun e w' => e = .returned (.bool true) ∧ Below w.heap.size w w' := by
 have HE := Lib.hid hE
 clear hE
 go_enter Tryz.func9, Tryz.ntmps9
 refine wp_seq ?_
 refine wp_region_L [] (KS.start w) ?_
 refine Tw.mm (.bool false) ?_
 refine wpL_done (fun W1 hW1 => ?_)
 change Code.wp ..
 refine wp_seq ?_
 refine wp_seq ?_
 refine wp_region_L _ hW1 ?_
 refine Tw.mm (strV l) ?_
 refine Tw.lp (v := .int .i64 ((l.length : Nat) : Int)) rfl rfl (run_lenS (l := l) rfl Tryz.underlying9 Tw.kr) ?_
 refine Tw.lp (v := .bool (decide (2000 < l.length))) rfl rfl (run_bin rfl (vx := (.int .i64 ((l.length : Nat) : Int))) (vy := (.int .i64 ((2000 : Nat) : Int))) Tw.kr Tw.kr fun w => bn_gtr rfl w) ?_
 refine wpL_done (fun W2 hW2 => ?_)
 change Code.wp ..
 cases hd1 : (decide (2000 < l.length)) with
 | false =>
   have h1 : ¬ (2000 < l.length) := of_decide_eq_false hd1
   clear hd1
   refine wp_cond_false rfl ?_
   refine wp_skip ?_
   change Code.wp ..
   refine wp_seq ?_
   refine wp_region_L _ hW2 ?_
   refine Tw.mm (strV l) ?_
   obtain ⟨sv, nv, dv, ev, hpv, lnv, ldv⟩ := readV_shape8 l
   refine Tw.lv (v := .tuple #[.agg (frcC sv nv dv), .int .i64 ev]) rfl rfl (yb_call (f := 33) (args := #[strV l]) Tw.kf fun W hW => (by have h := read_any l Tw.om W (HE.out.keep hW.1); rw [hpv] at h; exact h)) ?_
   refine Tw.mm (.tuple #[.agg (frcC sv nv dv), .int .i64 ev]) ?_
   refine Tw.mm (.agg (frcC sv nv dv)) ?_
   refine Tw.mm (.int .i64 ev) ?_
   refine wpL_new (fun g => .pointer (some ⟨g, 0, none⟩)) (obi := .cells (frcC false 0 0) 25 (0, 0)) rfl rfl Tw.kf Tw.pf fun g1 Bg1 Fg1 => ?_
   refine wpL_s [(g1, .cells (frcC sv nv dv) 25 (0, 0))] rfl rfl (st_all zfz (by exact frc_onec) rfl Tw.kr Tw.kr Tw.m0 Bg1 zfs (List.forall_mem_cons.2 ⟨.inl rfl, (List.forall_mem_nil _)⟩)) ?_
   refine Tw.mm (.int .i64 ev) ?_
   refine wpL_done (fun W3 hW3 => ?_)
   change Code.wp ..
   refine wp_seq ?_
   refine wp_region_L _ hW3 ?_
   refine Tw.mm (strV l) ?_
   refine Tw.lv (v := .tuple #[.agg (frcC sv nv dv), .int .i64 ev]) rfl rfl (yb_call (f := 34) (args := #[strV l]) Tw.kf fun W hW => (by have h := RRead_any l Tw.om W; rw [hpv] at h; exact h)) ?_
   refine Tw.mm (.tuple #[.agg (frcC sv nv dv), .int .i64 ev]) ?_
   refine Tw.mm (.agg (frcC sv nv dv)) ?_
   refine Tw.mm (.int .i64 ev) ?_
   refine wpL_new (fun g => .pointer (some ⟨g, 0, none⟩)) (obi := .cells (frcC false 0 0) 34 (0, 0)) rfl rfl Tw.kf Tw.pf fun g2 Bg2 Fg2 => ?_
   obtain dj3_0 : g1 ≠ g2 := Tw.dkf Fg2
   refine wpL_s [(g2, .cells (frcC sv nv dv) 34 (0, 0)), (g1, .cells (frcC sv nv dv) 25 (0, 0))] rfl rfl (st_all zfz (by exact frc_onec) rfl Tw.kr Tw.kr Tw.m0 Bg2 zfs (List.forall_mem_cons.2 ⟨.inl rfl, (List.forall_mem_cons.2 ⟨.inr ⟨Tw.m1, Tw.nee⟩, (List.forall_mem_nil _)⟩)⟩)) ?_
   refine Tw.mm (.int .i64 ev) ?_
   refine wpL_done (fun W4 hW4 => ?_)
   change Code.wp ..
   refine wp_seq ?_
   refine wp_region_L _ hW4 ?_
   refine Tw.lv (v := .agg (frcC sv nv dv)) rfl rfl (yb_all rfl Tw.kr Tw.m1 Tryz.underlying25 rfl zfs) ?_
   refine Tw.mm (.int .i64 ev) ?_
   refine Tw.lv (v := .agg (frcC sv nv dv)) rfl rfl (yb_all rfl Tw.kr Tw.m0 Tryz.underlying34 rfl zfs) ?_
   refine Tw.mm (.int .i64 ev) ?_
   refine Tw.lv (v := .bool true) rfl rfl (yb_call (f := 19) (args := #[.agg (frcC sv nv dv), .int .i64 ev, .agg (frcC sv nv dv), .int .i64 ev]) Tw.kf fun W hW => pair_same sv nv dv ev lnv ldv W) ?_
   refine Tw.mm (.bool true) ?_
   refine wpL_done (fun W5 hW5 => ?_)
   change Code.wp ..
   refine wp_ret ?_
   try simp only [inBlock_ret, then_ret]
   refine bodyPost_ret (v := .bool true) ?_ rfl ?_
   · kernel_rfl
   · exact ⟨rfl, hW5.1⟩
 | true =>
   have h1 : 2000 < l.length := of_decide_eq_true hd1
   clear hd1
   refine wp_cond_true rfl ?_
   refine wp_seq ?_
   refine wp_region_L _ hW2 ?_
   refine Tw.mm (.bool true) ?_
   refine wpL_done (fun W6 hW6 => ?_)
   change Code.wp ..
   refine wp_ret ?_
   try simp only [inBlock_ret, then_ret]
   refine bodyPost_ret (v := .bool true) ?_ rfl ?_
   · kernel_rfl
   · exact ⟨rfl, hW6.1⟩
end Go.Proofs.YtalmflgkbmnghaaGreatDoor
namespace Go.Proofs.YtalmflgkbmnghaaGreatDoor
open Go Go.RowKit Tw
open Tf (dg R R_pos R_le R_succ dg_of_lt setd setd_eq)
variable [ShLZ]
theorem cmp_np {n1 d1 n2 d2 : Nat} : cmpI true n1 d1 false n2 d2 = -1 := by unfold cmpI psS; simp
theorem cmp_pn {n1 d1 n2 d2 : Nat} : cmpI false n1 d1 true n2 d2 = 1 := by unfold cmpI psS; simp
theorem cmp_lt {s : Bool} {n1 d1 n2 d2 : Nat} (h : n1 * d2 < n2 * d1) : cmpI s n1 d1 s n2 d2 = if s = true then 1 else -1 := by
 have hne : ¬ (s = s ∧ n1 = n2 ∧ d1 = d2) := by rintro ⟨_, rfl, rfl⟩; omega
 unfold cmpI psS
 rw [if_neg hne]
 cases s <;> simp [h]
theorem cmp_gt {s : Bool} {n1 d1 n2 d2 : Nat} (h : n2 * d1 < n1 * d2) : cmpI s n1 d1 s n2 d2 = if s = true then -1 else 1 := by
 have hne : ¬ (s = s ∧ n1 = n2 ∧ d1 = d2) := by rintro ⟨_, rfl, rfl⟩; omega
 have h2 : ¬ n1 * d2 < n2 * d1 := by omega
 unfold cmpI psS
 rw [if_neg hne]
 cases s <;> simp [h2]
theorem cmp_eq {s : Bool} {n1 d1 n2 d2 : Nat} (h1 : rightB s n1 d1 = true) (h2 : rightB s n2 d2 = true) (h : ¬ n1 * d2 < n2 * d1) (h' : ¬ n2 * d1 < n1 * d2) : cmpI s n1 d1 s n2 d2 = 0 := by
 obtain ⟨e1, e2⟩ := cross_eq h1 h2 Tw.om
 unfold cmpI
 rw [if_pos ⟨rfl, e1, e2⟩]
set_option maxRecDepth 100000 in
set_option maxHeartbeats 20000000 in
theorem RCmp_any (s1 s2 : Bool) (n1 d1 n2 d2 : Nat) (hn1 : n1 < R 8) (hd1 : d1 < R 8) (hn2 : n2 < R 8) (hd2 : d2 < R 8) (w : World) : Calls Tryz.prog 27 #[.agg (frcC s1 n1 d1), .agg (frcC s2 n2 d2)] w fun e w' => e = .returned (if rightB s1 n1 d1 = true ∧ rightB s2 n2 d2 = true then .tuple #[.int .i64 (cmpI s1 n1 d1 s2 n2 d2), .int .i64 0] else .tuple #[.int .i64 0, .int .i64 2]) ∧ Below w.heap.size w w' := by
 obtain ⟨V, hV⟩ : ∃ V : Value, V = (if rightB s1 n1 d1 = true ∧ rightB s2 n2 d2 = true then .tuple #[.int .i64 (cmpI s1 n1 d1 s2 n2 d2), .int .i64 0] else .tuple #[.int .i64 0, .int .i64 2]) := ⟨_, rfl⟩
 rw [← hV]
 go_enter Tryz.func27, Tryz.ntmps27
 refine wp_seq ?_
 refine wp_region_L [] (KS.start w) ?_
 refine wpL_new (fun g => .pointer (some ⟨g, 0, none⟩)) (obi := .cells (frcC s1 n1 d1) 34 (0, 0)) rfl rfl Tw.kf Tw.pf fun g1 Bg1 Fg1 => ?_
 refine wpL_new (fun g => .pointer (some ⟨g, 0, none⟩)) (obi := .cells (frcC s2 n2 d2) 34 (0, 0)) rfl rfl Tw.kf Tw.pf fun g2 Bg2 Fg2 => ?_
 obtain dj3_0 : g1 ≠ g2 := Tw.dkf Fg2
 refine Tw.mm (.int .i64 0) ?_
 refine Tw.mm (.int .i64 0) ?_
 refine wpL_done (fun W1 hW1 => ?_)
 change Code.wp ..
 refine wp_seq ?_
 refine wp_seq ?_
 refine wp_region_L _ hW1 ?_
 refine Tw.lv (v := .agg (frcC s1 n1 d1)) rfl rfl (yb_all rfl Tw.kr Tw.m1 Tryz.underlying34 rfl zfs) ?_
 refine Tw.lv (v := .bool (rightB s1 n1 d1)) rfl rfl (yb_call (f := 18) (args := #[.agg (frcC s1 n1 d1)]) Tw.kf fun W hW => rright_any s1 n1 d1 hn1 hd1 W) ?_
 refine Tw.lp (v := .bool (!(rightB s1 n1 d1))) rfl rfl (run_un rfl Tw.kr fun w => un_not w) ?_
 refine Tw.mm (.bool (!(rightB s1 n1 d1))) ?_
 cases h1 : (rightB s1 n1 d1) with
 | false =>
   refine Tw.ln rfl ?_
   refine Tw.ln rfl ?_
   refine Tw.ln rfl ?_
   refine Tw.mm (.bool true) ?_
   refine wpL_done (fun W2 hW2 => ?_)
   change Code.wp ..
   refine wp_cond_true rfl ?_
   refine wp_seq ?_
   refine wp_region_L _ hW2 ?_
   refine Tw.mm (.int .i64 0) ?_
   refine Tw.mm (.int .i64 2) ?_
   refine wpL_done (fun W3 hW3 => ?_)
   change Code.wp ..
   refine wp_ret ?_
   try simp only [inBlock_ret, then_ret]
   refine bodyPost_ret (v := .tuple #[.int .i64 0, .int .i64 2]) ?_ rfl ?_
   · kernel_rfl
   · exact ⟨(ret_v (by rw [hV, if_neg (fun h => by rw [h1] at h; cases h.1)])), hW3.1⟩
 | true =>
   refine Tw.lv (v := .agg (frcC s2 n2 d2)) rfl rfl (yb_all rfl Tw.kr Tw.m0 Tryz.underlying34 rfl zfs) ?_
   refine Tw.lv (v := .bool (rightB s2 n2 d2)) rfl rfl (yb_call (f := 18) (args := #[.agg (frcC s2 n2 d2)]) Tw.kf fun W hW => rright_any s2 n2 d2 hn2 hd2 W) ?_
   refine Tw.lp (v := .bool (!(rightB s2 n2 d2))) rfl rfl (run_un rfl Tw.kr fun w => un_not w) ?_
   refine Tw.mm (.bool (!(rightB s2 n2 d2))) ?_
   refine wpL_done (fun W4 hW4 => ?_)
   change Code.wp ..
   cases h2 : (rightB s2 n2 d2) with
   | false =>
     refine wp_cond_true rfl ?_
     refine wp_seq ?_
     refine wp_region_L _ hW4 ?_
     refine Tw.mm (.int .i64 0) ?_
     refine Tw.mm (.int .i64 2) ?_
     refine wpL_done (fun W5 hW5 => ?_)
     change Code.wp ..
     refine wp_ret ?_
     try simp only [inBlock_ret, then_ret]
     refine bodyPost_ret (v := .tuple #[.int .i64 0, .int .i64 2]) ?_ rfl ?_
     · kernel_rfl
     · exact ⟨(ret_v (by rw [hV, if_neg (fun h => by rw [h2] at h; cases h.2)])), hW5.1⟩
   | true =>
     refine wp_cond_false rfl ?_
     refine wp_skip ?_
     change Code.wp ..
     refine wp_seq ?_
     refine wp_region_V _ Tw.kr hW4 ?_
     refine vm (i := 0) (v := .pointer (some ⟨g1, 1, none⟩)) rfl rfl rfl ?_
     refine vv (i := 1) (v := .agg (fa 8 (dg n1))) rfl rfl rfl (yb_fnum (s := s1) (n := n1) (d := d1) rfl Tw.kr Tw.m1 Tryz.underlying23 rfl Tw.kr) ?_
     refine vm (i := 3) (v := .pointer (some ⟨g2, 9, none⟩)) rfl rfl rfl ?_
     refine vv (i := 4) (v := .agg (fa 8 (dg d2))) rfl rfl rfl (yb_fden (s := s2) (n := n2) (d := d2) rfl Tw.kr Tw.m0 Tryz.underlying23 rfl Tw.kr) ?_
     refine vm (i := 7) (v := .pointer (some ⟨g2, 1, none⟩)) rfl rfl rfl ?_
     refine vv (i := 8) (v := .agg (fa 8 (dg n2))) rfl rfl rfl (yb_fnum (s := s2) (n := n2) (d := d2) rfl Tw.kr Tw.m0 Tryz.underlying23 rfl Tw.kr) ?_
     refine vm (i := 10) (v := .pointer (some ⟨g1, 9, none⟩)) rfl rfl rfl ?_
     refine vv (i := 11) (v := .agg (fa 8 (dg d1))) rfl rfl rfl (yb_fden (s := s1) (n := n1) (d := d1) rfl Tw.kr Tw.m1 Tryz.underlying23 rfl Tw.kr) ?_
     refine wpV_c (i := 2) (AnsG w [(g2, .cells (frcC s2 n2 d2) 34 (0, 0)), (g1, .cells (frcC s1 n1 d1) 34 (0, 0))] (cd n1)) rfl rfl Tw.kr Tw.kr Tw.kf (fun W hW => (rdigits_any n1 hn1 W).mono fun e w2 h => Ans.g h hW) (fun _ _ h => ansG_sub h) Tw.pf ?_
     rintro v4 _ ⟨q4, d4, T4, rfl, C4, H4, F4, J4, rfl⟩
     obtain ⟨dj5_0, dj5_1⟩ : Dk g2 T4 ∧ Dk g1 T4 := Tw.djf J4
     refine wpV_c (i := 5) (AnsG w ((g2, .cells (frcC s2 n2 d2) 34 (0, 0)) :: (g1, .cells (frcC s1 n1 d1) 34 (0, 0)) :: T4) (cd d2)) rfl rfl Tw.kr Tw.kr Tw.kf (fun W hW => (rdigits_any d2 hd2 W).mono fun e w2 h => Ans.g h hW) (fun _ _ h => ansG_sub h) Tw.pf ?_
     rintro v6 _ ⟨q6, d6, T6, rfl, C6, H6, F6, J6, rfl⟩
     obtain ⟨dj7_0, dj7_1, dj7_2⟩ : Dk g2 T6 ∧ Dk g1 T6 ∧ Dj T4 T6 := Tw.djf J6
     have ln8 : (cd n1).length ≤ 16 := cd_16 hn1
     have ln9 : (cd d2).length ≤ 16 := cd_16 hd2
     refine wpV_c (i := 6) (AnsG w ((g2, .cells (frcC s2 n2 d2) 34 (0, 0)) :: (g1, .cells (frcC s1 n1 d1) 34 (0, 0)) :: (T4 ++ T6)) (cd (n1 * d2))) rfl rfl Tw.kr Tw.kr Tw.kf (fun W hW => (rmul_any n1 d2 q4 q6 d4 d6 Tw.om Tw.om W ((H4.mono Tw.sb) W hW) ((H6.mono Tw.sb) W hW)).mono fun e w2 h => Ans.g h hW) (fun _ _ h => ansG_sub h) Tw.pf ?_
     rintro v10 _ ⟨q10, d10, T10, rfl, C10, H10, F10, J10, rfl⟩
     obtain ⟨dj11_0, dj11_1, dj11_2, dj11_3⟩ : Dk g2 T10 ∧ Dk g1 T10 ∧ Dj T4 T10 ∧ Dj T6 T10 := Tw.djf J10
     have ln12 : (cd (n1 * d2)).length ≤ 32 := Nat.le_trans (cd_mul_len n1 d2) (by have := cd_16 hn1; have := cd_16 hd2; omega)
     refine wpV_c (i := 9) (AnsG w ((g2, .cells (frcC s2 n2 d2) 34 (0, 0)) :: (g1, .cells (frcC s1 n1 d1) 34 (0, 0)) :: ((T4 ++ T6) ++ T10)) (cd n2)) rfl rfl Tw.kr Tw.kr Tw.kf (fun W hW => (rdigits_any n2 hn2 W).mono fun e w2 h => Ans.g h hW) (fun _ _ h => ansG_sub h) Tw.pf ?_
     rintro v13 _ ⟨q13, d13, T13, rfl, C13, H13, F13, J13, rfl⟩
     obtain ⟨dj14_0, dj14_1, dj14_2, dj14_3, dj14_4⟩ : Dk g2 T13 ∧ Dk g1 T13 ∧ Dj T4 T13 ∧ Dj T6 T13 ∧ Dj T10 T13 := Tw.djf J13
     refine wpV_c (i := 12) (AnsG w ((g2, .cells (frcC s2 n2 d2) 34 (0, 0)) :: (g1, .cells (frcC s1 n1 d1) 34 (0, 0)) :: (((T4 ++ T6) ++ T10) ++ T13)) (cd d1)) rfl rfl Tw.kr Tw.kr Tw.kf (fun W hW => (rdigits_any d1 hd1 W).mono fun e w2 h => Ans.g h hW) (fun _ _ h => ansG_sub h) Tw.pf ?_
     rintro v15 _ ⟨q15, d15, T15, rfl, C15, H15, F15, J15, rfl⟩
     obtain ⟨dj16_0, dj16_1, dj16_2, dj16_3, dj16_4, dj16_5⟩ : Dk g2 T15 ∧ Dk g1 T15 ∧ Dj T4 T15 ∧ Dj T6 T15 ∧ Dj T10 T15 ∧ Dj T13 T15 := Tw.djf J15
     have ln17 : (cd n2).length ≤ 16 := cd_16 hn2
     have ln18 : (cd d1).length ≤ 16 := cd_16 hd1
     refine wpV_c (i := 13) (AnsG w ((g2, .cells (frcC s2 n2 d2) 34 (0, 0)) :: (g1, .cells (frcC s1 n1 d1) 34 (0, 0)) :: ((((T4 ++ T6) ++ T10) ++ T13) ++ T15)) (cd (n2 * d1))) rfl rfl Tw.kr Tw.kr Tw.kf (fun W hW => (rmul_any n2 d1 q13 q15 d13 d15 Tw.om Tw.om W ((H13.mono Tw.sb) W hW) ((H15.mono Tw.sb) W hW)).mono fun e w2 h => Ans.g h hW) (fun _ _ h => ansG_sub h) Tw.pf ?_
     rintro v19 _ ⟨q19, d19, T19, rfl, C19, H19, F19, J19, rfl⟩
     obtain ⟨dj20_0, dj20_1, dj20_2, dj20_3, dj20_4, dj20_5, dj20_6⟩ : Dk g2 T19 ∧ Dk g1 T19 ∧ Dj T4 T19 ∧ Dj T6 T19 ∧ Dj T10 T19 ∧ Dj T13 T19 ∧ Dj T15 T19 := Tw.djf J19
     have ln21 : (cd (n2 * d1)).length ≤ 32 := Nat.le_trans (cd_mul_len n2 d1) (by have := cd_16 hn2; have := cd_16 hd1; omega)
     refine vm (i := 14) (v := .slice q10 ((cd (n1 * d2)).length) d10) rfl rfl rfl ?_
     refine vm (i := 15) (v := .slice q19 ((cd (n2 * d1)).length) d19) rfl rfl rfl ?_
     refine wpV_done Tw.kr (fun W6 hW6 => ?_) _
     change Code.wp ..
     refine wp_seq ?_
     refine wp_seq ?_
     refine wp_region_L _ hW6 ?_
     refine Tw.mm (.pointer (some ⟨g1, 0, none⟩)) ?_
     obtain ⟨qs1, hqs1⟩ : ∃ b, b = s1 := ⟨_, rfl⟩
     refine Tw.lv (v := .bool qs1) rfl rfl (yb_cell (off := 0) rfl Tw.kr Tw.m1 Tryz.underlying4 rfl (frc_negq hqs1)) ?_
     refine Tw.mm (.bool qs1) ?_
     cases h3 : qs1 with
     | false =>
       refine Tw.ln rfl ?_
       refine Tw.ln rfl ?_
       refine Tw.ln rfl ?_
       refine Tw.mm (.bool false) ?_
       refine wpL_done (fun W7 hW7 => ?_)
       change Code.wp ..
       refine wp_cond_false rfl ?_
       refine wp_skip ?_
       change Code.wp ..
       refine wp_seq ?_
       refine wp_seq ?_
       refine wp_region_L _ hW7 ?_
       refine Tw.mm (.pointer (some ⟨g2, 0, none⟩)) ?_
       obtain ⟨qs2, hqs2⟩ : ∃ b, b = s2 := ⟨_, rfl⟩
       refine Tw.lv (v := .bool qs2) rfl rfl (yb_cell (off := 0) rfl Tw.kr Tw.m0 Tryz.underlying4 rfl (frc_negq hqs2)) ?_
       refine Tw.mm (.bool qs2) ?_
       cases h4 : qs2 with
       | false =>
         refine Tw.ln rfl ?_
         refine Tw.ln rfl ?_
         refine Tw.ln rfl ?_
         refine Tw.mm (.bool false) ?_
         refine wpL_done (fun W8 hW8 => ?_)
         change Code.wp ..
         refine wp_cond_false rfl ?_
         refine wp_skip ?_
         change Code.wp ..
         refine wp_seq ?_
         refine wp_seq ?_
         refine wp_region_L _ hW8 ?_
         refine Tw.mm (.pointer (some ⟨g1, 0, none⟩)) ?_
         refine Tw.lv (v := .bool false) rfl rfl (yb_cell (off := 0) rfl Tw.kr Tw.m1 Tryz.underlying4 rfl (frc_negq (h3.symm.trans hqs1))) ?_
         refine wpL_done (fun W9 hW9 => ?_)
         change Code.wp ..
         refine wp_cond_false rfl ?_
         refine wp_skip ?_
         change Code.wp ..
         refine wp_seq ?_
         refine wp_seq ?_
         refine wp_region_L _ hW9 ?_
         refine Tw.mm (.slice q10 ((cd (n1 * d2)).length) d10) ?_
         refine Tw.mm (.slice q19 ((cd (n2 * d1)).length) d19) ?_
         refine Tw.lv (v := .bool (decide ((n1 * d2) < (n2 * d1)))) rfl rfl (yb_call (f := 47) (args := #[.slice q10 ((cd (n1 * d2)).length) d10, .slice q19 ((cd (n2 * d1)).length) d19]) Tw.kf fun W hW => less_any (n1 * d2) (n2 * d1) q10 q19 d10 d19 Tw.om W ((H10.mono Tw.sb) W hW) ((H19.mono Tw.sb) W hW)) ?_
         refine wpL_done (fun W10 hW10 => ?_)
         change Code.wp ..
         cases hd5 : (decide ((n1 * d2) < (n2 * d1))) with
         | false =>
           have h5 : ¬ ((n1 * d2) < (n2 * d1)) := of_decide_eq_false hd5
           clear hd5
           refine wp_cond_false rfl ?_
           refine wp_skip ?_
           change Code.wp ..
           refine wp_seq ?_
           refine wp_seq ?_
           refine wp_region_L _ hW10 ?_
           refine Tw.mm (.slice q19 ((cd (n2 * d1)).length) d19) ?_
           refine Tw.mm (.slice q10 ((cd (n1 * d2)).length) d10) ?_
           refine Tw.lv (v := .bool (decide ((n2 * d1) < (n1 * d2)))) rfl rfl (yb_call (f := 47) (args := #[.slice q19 ((cd (n2 * d1)).length) d19, .slice q10 ((cd (n1 * d2)).length) d10]) Tw.kf fun W hW => less_any (n2 * d1) (n1 * d2) q19 q10 d19 d10 Tw.om W ((H19.mono Tw.sb) W hW) ((H10.mono Tw.sb) W hW)) ?_
           refine wpL_done (fun W11 hW11 => ?_)
           change Code.wp ..
           cases hd6 : (decide ((n2 * d1) < (n1 * d2))) with
           | false =>
             have h6 : ¬ ((n2 * d1) < (n1 * d2)) := of_decide_eq_false hd6
             clear hd6
             refine wp_cond_false rfl ?_
             refine wp_skip ?_
             change Code.wp ..
             refine wp_seq ?_
             refine wp_region_L _ hW11 ?_
             refine Tw.mm (.int .i64 0) ?_
             refine Tw.mm (.int .i64 0) ?_
             refine wpL_done (fun W12 hW12 => ?_)
             change Code.wp ..
             refine wp_ret ?_
             try simp only [inBlock_ret, then_ret]
             refine bodyPost_ret (v := .tuple #[.int .i64 0, .int .i64 0]) ?_ rfl ?_
             · kernel_rfl
             · exact ⟨(ret_v (by have e1 : s1 = false := hqs1.symm.trans h3; have e2 : s2 = false := hqs2.symm.trans h4; subst e1 e2; rw [hV, if_pos ⟨h1, h2⟩, (cmp_eq h1 h2 h5 h6)] <;> rfl)), hW12.1⟩
           | true =>
             have h6 : (n2 * d1) < (n1 * d2) := of_decide_eq_true hd6
             clear hd6
             refine wp_cond_true rfl ?_
             refine wp_seq ?_
             refine wp_region_L _ hW11 ?_
             refine Tw.mm (.int .i64 1) ?_
             refine Tw.mm (.int .i64 0) ?_
             refine wpL_done (fun W13 hW13 => ?_)
             change Code.wp ..
             refine wp_ret ?_
             try simp only [inBlock_ret, then_ret]
             refine bodyPost_ret (v := .tuple #[.int .i64 1, .int .i64 0]) ?_ rfl ?_
             · kernel_rfl
             · exact ⟨(ret_v (by have e1 : s1 = false := hqs1.symm.trans h3; have e2 : s2 = false := hqs2.symm.trans h4; subst e1 e2; rw [hV, if_pos ⟨h1, h2⟩, (cmp_gt h6)] <;> rfl)), hW13.1⟩
         | true =>
           have h5 : (n1 * d2) < (n2 * d1) := of_decide_eq_true hd5
           clear hd5
           refine wp_cond_true rfl ?_
           refine wp_seq ?_
           refine wp_region_L _ hW10 ?_
           refine Tw.mm (.int .i64 (-1)) ?_
           refine Tw.mm (.int .i64 0) ?_
           refine wpL_done (fun W14 hW14 => ?_)
           change Code.wp ..
           refine wp_ret ?_
           try simp only [inBlock_ret, then_ret]
           refine bodyPost_ret (v := .tuple #[.int .i64 (-1), .int .i64 0]) ?_ rfl ?_
           · kernel_rfl
           · exact ⟨(ret_v (by have e1 : s1 = false := hqs1.symm.trans h3; have e2 : s2 = false := hqs2.symm.trans h4; subst e1 e2; rw [hV, if_pos ⟨h1, h2⟩, (cmp_lt h5)] <;> rfl)), hW14.1⟩
       | true =>
         refine Tw.mm (.pointer (some ⟨g1, 0, none⟩)) ?_
         refine Tw.lv (v := .bool false) rfl rfl (yb_cell (off := 0) rfl Tw.kr Tw.m1 Tryz.underlying4 rfl (frc_negq (h3.symm.trans hqs1))) ?_
         refine Tw.mm (.bool true) ?_
         refine Tw.mm (.bool true) ?_
         refine wpL_done (fun W15 hW15 => ?_)
         change Code.wp ..
         refine wp_cond_true rfl ?_
         refine wp_seq ?_
         refine wp_region_L _ hW15 ?_
         refine Tw.mm (.int .i64 1) ?_
         refine Tw.mm (.int .i64 0) ?_
         refine wpL_done (fun W16 hW16 => ?_)
         change Code.wp ..
         refine wp_ret ?_
         try simp only [inBlock_ret, then_ret]
         refine bodyPost_ret (v := .tuple #[.int .i64 1, .int .i64 0]) ?_ rfl ?_
         · kernel_rfl
         · exact ⟨(ret_v (by have e1 : s1 = false := hqs1.symm.trans h3; have e2 : s2 = true := hqs2.symm.trans h4; subst e1 e2; rw [hV, if_pos ⟨h1, h2⟩, cmp_pn] <;> rfl)), hW16.1⟩
     | true =>
       refine Tw.mm (.pointer (some ⟨g2, 0, none⟩)) ?_
       obtain ⟨qs2, hqs2⟩ : ∃ b, b = s2 := ⟨_, rfl⟩
       refine Tw.lv (v := .bool qs2) rfl rfl (yb_cell (off := 0) rfl Tw.kr Tw.m0 Tryz.underlying4 rfl (frc_negq hqs2)) ?_
       refine Tw.lp (v := .bool (!qs2)) rfl rfl (run_un rfl Tw.kr fun w => un_not w) ?_
       refine Tw.mm (.bool (!qs2)) ?_
       refine wpL_done (fun W17 hW17 => ?_)
       change Code.wp ..
       cases h7 : qs2 with
       | false =>
         refine wp_cond_true rfl ?_
         refine wp_seq ?_
         refine wp_region_L _ hW17 ?_
         refine Tw.mm (.int .i64 (-1)) ?_
         refine Tw.mm (.int .i64 0) ?_
         refine wpL_done (fun W18 hW18 => ?_)
         change Code.wp ..
         refine wp_ret ?_
         try simp only [inBlock_ret, then_ret]
         refine bodyPost_ret (v := .tuple #[.int .i64 (-1), .int .i64 0]) ?_ rfl ?_
         · kernel_rfl
         · exact ⟨(ret_v (by have e1 : s1 = true := hqs1.symm.trans h3; have e2 : s2 = false := hqs2.symm.trans h7; subst e1 e2; rw [hV, if_pos ⟨h1, h2⟩, cmp_np] <;> rfl)), hW18.1⟩
       | true =>
         refine wp_cond_false rfl ?_
         refine wp_skip ?_
         change Code.wp ..
         refine wp_seq ?_
         refine wp_seq ?_
         refine wp_region_L _ hW17 ?_
         refine Tw.mm (.pointer (some ⟨g2, 0, none⟩)) ?_
         refine Tw.lv (v := .bool true) rfl rfl (yb_cell (off := 0) rfl Tw.kr Tw.m0 Tryz.underlying4 rfl (frc_negq (h7.symm.trans hqs2))) ?_
         refine Tw.mm (.bool true) ?_
         refine Tw.mm (.pointer (some ⟨g1, 0, none⟩)) ?_
         refine Tw.lv (v := .bool true) rfl rfl (yb_cell (off := 0) rfl Tw.kr Tw.m1 Tryz.underlying4 rfl (frc_negq (h3.symm.trans hqs1))) ?_
         refine Tw.mm (.bool false) ?_
         refine Tw.mm (.bool false) ?_
         refine wpL_done (fun W19 hW19 => ?_)
         change Code.wp ..
         refine wp_cond_false rfl ?_
         refine wp_skip ?_
         change Code.wp ..
         refine wp_seq ?_
         refine wp_seq ?_
         refine wp_region_L _ hW19 ?_
         refine Tw.mm (.pointer (some ⟨g1, 0, none⟩)) ?_
         refine Tw.lv (v := .bool true) rfl rfl (yb_cell (off := 0) rfl Tw.kr Tw.m1 Tryz.underlying4 rfl (frc_negq (h3.symm.trans hqs1))) ?_
         refine wpL_done (fun W20 hW20 => ?_)
         change Code.wp ..
         refine wp_cond_true rfl ?_
         refine wp_region_L _ hW20 ?_
         refine Tw.mm (.slice q19 ((cd (n2 * d1)).length) d19) ?_
         refine Tw.mm (.slice q10 ((cd (n1 * d2)).length) d10) ?_
         refine Tw.mm (.slice q19 ((cd (n2 * d1)).length) d19) ?_
         refine Tw.mm (.slice q10 ((cd (n1 * d2)).length) d10) ?_
         refine wpL_done (fun W21 hW21 => ?_)
         change Code.wp ..
         refine wp_seq ?_
         refine wp_seq ?_
         refine wp_region_L _ hW21 ?_
         refine Tw.mm (.slice q19 ((cd (n2 * d1)).length) d19) ?_
         refine Tw.mm (.slice q10 ((cd (n1 * d2)).length) d10) ?_
         refine Tw.lv (v := .bool (decide ((n2 * d1) < (n1 * d2)))) rfl rfl (yb_call (f := 47) (args := #[.slice q19 ((cd (n2 * d1)).length) d19, .slice q10 ((cd (n1 * d2)).length) d10]) Tw.kf fun W hW => less_any (n2 * d1) (n1 * d2) q19 q10 d19 d10 Tw.om W ((H19.mono Tw.sb) W hW) ((H10.mono Tw.sb) W hW)) ?_
         refine wpL_done (fun W22 hW22 => ?_)
         change Code.wp ..
         cases hd8 : (decide ((n2 * d1) < (n1 * d2))) with
         | false =>
           have h8 : ¬ ((n2 * d1) < (n1 * d2)) := of_decide_eq_false hd8
           clear hd8
           refine wp_cond_false rfl ?_
           refine wp_skip ?_
           change Code.wp ..
           refine wp_seq ?_
           refine wp_seq ?_
           refine wp_region_L _ hW22 ?_
           refine Tw.mm (.slice q10 ((cd (n1 * d2)).length) d10) ?_
           refine Tw.mm (.slice q19 ((cd (n2 * d1)).length) d19) ?_
           refine Tw.lv (v := .bool (decide ((n1 * d2) < (n2 * d1)))) rfl rfl (yb_call (f := 47) (args := #[.slice q10 ((cd (n1 * d2)).length) d10, .slice q19 ((cd (n2 * d1)).length) d19]) Tw.kf fun W hW => less_any (n1 * d2) (n2 * d1) q10 q19 d10 d19 Tw.om W ((H10.mono Tw.sb) W hW) ((H19.mono Tw.sb) W hW)) ?_
           refine wpL_done (fun W23 hW23 => ?_)
           change Code.wp ..
           cases hd9 : (decide ((n1 * d2) < (n2 * d1))) with
           | false =>
             have h9 : ¬ ((n1 * d2) < (n2 * d1)) := of_decide_eq_false hd9
             clear hd9
             refine wp_cond_false rfl ?_
             refine wp_skip ?_
             change Code.wp ..
             refine wp_seq ?_
             refine wp_region_L _ hW23 ?_
             refine Tw.mm (.int .i64 0) ?_
             refine Tw.mm (.int .i64 0) ?_
             refine wpL_done (fun W24 hW24 => ?_)
             change Code.wp ..
             refine wp_ret ?_
             try simp only [inBlock_ret, then_ret]
             refine bodyPost_ret (v := .tuple #[.int .i64 0, .int .i64 0]) ?_ rfl ?_
             · kernel_rfl
             · exact ⟨(ret_v (by have e1 : s1 = true := hqs1.symm.trans h3; have e2 : s2 = true := hqs2.symm.trans h7; subst e1 e2; rw [hV, if_pos ⟨h1, h2⟩, (cmp_eq h1 h2 h9 h8)] <;> rfl)), hW24.1⟩
           | true =>
             have h9 : (n1 * d2) < (n2 * d1) := of_decide_eq_true hd9
             clear hd9
             refine wp_cond_true rfl ?_
             refine wp_seq ?_
             refine wp_region_L _ hW23 ?_
             refine Tw.mm (.int .i64 1) ?_
             refine Tw.mm (.int .i64 0) ?_
             refine wpL_done (fun W25 hW25 => ?_)
             change Code.wp ..
             refine wp_ret ?_
             try simp only [inBlock_ret, then_ret]
             refine bodyPost_ret (v := .tuple #[.int .i64 1, .int .i64 0]) ?_ rfl ?_
             · kernel_rfl
             · exact ⟨(ret_v (by have e1 : s1 = true := hqs1.symm.trans h3; have e2 : s2 = true := hqs2.symm.trans h7; subst e1 e2; rw [hV, if_pos ⟨h1, h2⟩, (cmp_lt h9)] <;> rfl)), hW25.1⟩
         | true =>
           have h8 : (n2 * d1) < (n1 * d2) := of_decide_eq_true hd8
           clear hd8
           refine wp_cond_true rfl ?_
           refine wp_seq ?_
           refine wp_region_L _ hW22 ?_
           refine Tw.mm (.int .i64 (-1)) ?_
           refine Tw.mm (.int .i64 0) ?_
           refine wpL_done (fun W26 hW26 => ?_)
           change Code.wp ..
           refine wp_ret ?_
           try simp only [inBlock_ret, then_ret]
           refine bodyPost_ret (v := .tuple #[.int .i64 (-1), .int .i64 0]) ?_ rfl ?_
           · kernel_rfl
           · exact ⟨(ret_v (by have e1 : s1 = true := hqs1.symm.trans h3; have e2 : s2 = true := hqs2.symm.trans h7; subst e1 e2; rw [hV, if_pos ⟨h1, h2⟩, (cmp_gt h8)] <;> rfl)), hW26.1⟩
end Go.Proofs.YtalmflgkbmnghaaGreatDoor
