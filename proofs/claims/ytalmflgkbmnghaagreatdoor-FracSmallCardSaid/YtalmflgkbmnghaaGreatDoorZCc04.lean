import Derived.Test.YtalmflgkbmnghaaGreatDoorRM00
import Derived.Test.YtalmflgkbmnghaaGreatDoorZCc03
import Derived.Test.YtalmflgkbmnghaaGreatDoorRM03
import Derived.Test.YtalmflgkbmnghaaGreatDoorRM04
/- Part of the proof: YK, YL, YN, Te. -/
set_option linter.unusedVariables false
set_option linter.unusedSimpArgs false
set_option linter.unusedSectionVars false
namespace Go.Proofs.YtalmflgkbmnghaaGreatDoor
open Go Go.RowKit Tw
open Tf (dg R R_pos R_le R_succ dg_of_lt setd setd_eq)
variable [ShLZ]
theorem ps_eq {x y : Bool} {u v : Nat} (h : x = y) : psS x y u v = x ∧ psN x y u v = u + v := ⟨if_pos h, if_pos h⟩
theorem ps_lt {x y : Bool} {u v : Nat} (h : x ≠ y) (hl : u < v) : psS x y u v = y ∧ psN x y u v = v - u := by
 unfold psS psN
 rw [if_neg h, if_pos hl, if_neg h, if_pos hl]
 exact ⟨rfl, rfl⟩
theorem ps_ge {x y : Bool} {u v : Nat} (h : x ≠ y) (hl : ¬ u < v) : psS x y u v = x ∧ psN x y u v = u - v := by
 unfold psS psN
 rw [if_neg h, if_neg hl, if_neg h, if_neg hl]
 exact ⟨rfl, rfl⟩
set_option maxRecDepth 100000 in
set_option maxHeartbeats 20000000 in
theorem RAdd_any (s1 s2 : Bool) (n1 d1 n2 d2 : Nat) (hn1 : n1 < R 8) (hd1 : d1 < R 8) (hn2 : n2 < R 8) (hd2 : d2 < R 8) (w : World) : Calls Tryz.prog 16 #[.agg (frcC s1 n1 d1), .agg (frcC s2 n2 d2)] w fun e w' => e = .returned (if (rightB s1 n1 d1 && rightB s2 n2 d2) = true then addV s1 n1 d1 s2 n2 d2 else argV) ∧ Below w.heap.size w w' := by
 obtain ⟨V, hV⟩ : ∃ V : Value, V = (if (rightB s1 n1 d1 && rightB s2 n2 d2) = true then addV s1 n1 d1 s2 n2 d2 else argV) := ⟨_, rfl⟩
 rw [← hV]
 go_enter Tryz.func16, Tryz.ntmps16
 refine wp_seq ?_
 refine wp_region_L [] (KS.start w) ?_
 refine wpL_new (fun g => .pointer (some ⟨g, 0, none⟩)) (obi := .cells (frcC s1 n1 d1) 34 (0, 0)) rfl rfl Tw.kf Tw.pf fun g1 Bg1 Fg1 => ?_
 refine wpL_new (fun g => .pointer (some ⟨g, 0, none⟩)) (obi := .cells (frcC s2 n2 d2) 34 (0, 0)) rfl rfl Tw.kf Tw.pf fun g2 Bg2 Fg2 => ?_
 obtain dj3_0 : g1 ≠ g2 := Tw.dkf Fg2
 refine wpL_new (fun g => .pointer (some ⟨g, 0, none⟩)) (obi := .cells (frcC false 0 0) 34 (0, 0)) rfl rfl Tw.kf Tw.pf fun g4 Bg4 Fg4 => ?_
 obtain ⟨dj5_0, dj5_1⟩ : g2 ≠ g4 ∧ g1 ≠ g4 := Tw.dkf Fg4
 refine Tw.mm (.int .i64 0) ?_
 refine wpL_done (fun W1 hW1 => ?_)
 change Code.wp ..
 refine wp_seq ?_
 refine wp_seq ?_
 refine wp_region_L _ hW1 ?_
 refine Tw.lv (v := .agg (frcC s1 n1 d1)) rfl rfl (yb_all rfl Tw.kr Tw.m2 Tryz.underlying34 rfl zfs) ?_
 refine Tw.lv (v := .bool (rightB s1 n1 d1)) rfl rfl (yb_call (f := 18) (args := #[.agg (frcC s1 n1 d1)]) Tw.kf fun W hW => rright_any s1 n1 d1 hn1 hd1 W) ?_
 refine Tw.lp (v := .bool (!(rightB s1 n1 d1))) rfl rfl (run_un rfl Tw.kr fun w => un_not w) ?_
 refine Tw.mm (.bool (!(rightB s1 n1 d1))) ?_
 cases h1 : (rightB s1 n1 d1) with
 | false =>
   refine Tw.ln rfl ?_
   refine Tw.ln rfl ?_
   refine Tw.ln rfl ?_
   refine Tw.mm (.bool true) ?_
   refine wpL_done (fun W2 hW2 => ?_)
   change Code.wp ..
   refine wp_cond_true rfl ?_
   refine wp_seq ?_
   refine wp_region_L _ hW2 ?_
   refine Tw.mm (.agg (frcC false 0 0)) ?_
   refine wpL_s [(g4, .cells (frcC false 0 0) 34 (0, 0)), (g2, .cells (frcC s2 n2 d2) 34 (0, 0)), (g1, .cells (frcC s1 n1 d1) 34 (0, 0))] rfl rfl (st_all zfz (by exact frc_onec) rfl Tw.kr Tw.kr Tw.m0 Bg4 zfs (List.forall_mem_cons.2 ⟨.inl rfl, (List.forall_mem_cons.2 ⟨.inr ⟨Tw.m1, Tw.nee⟩, (List.forall_mem_cons.2 ⟨.inr ⟨Tw.m2, Tw.nee⟩, (List.forall_mem_nil _)⟩)⟩)⟩)) ?_
   refine Tw.mm (.int .i64 2) ?_
   refine wpL_done (fun W3 hW3 => ?_)
   change Code.wp ..
   refine wp_ret ?_
   try simp only [inBlock_ret, then_ret]
   refine bodyPost_ret (v := .tuple #[.agg (frcC false 0 0), .int .i64 2]) ?_ rfl ?_
   · exact (res_cell_tmp (p := 4) (q := 5) rfl rfl (hW3.2 _ Tw.m0) Tryz.underlying34 rfl zfs)
   · exact ⟨(ret_v (by rw [hV, h1]; rfl)), hW3.1⟩
 | true =>
   refine Tw.lv (v := .agg (frcC s2 n2 d2)) rfl rfl (yb_all rfl Tw.kr Tw.m1 Tryz.underlying34 rfl zfs) ?_
   refine Tw.lv (v := .bool (rightB s2 n2 d2)) rfl rfl (yb_call (f := 18) (args := #[.agg (frcC s2 n2 d2)]) Tw.kf fun W hW => rright_any s2 n2 d2 hn2 hd2 W) ?_
   refine Tw.lp (v := .bool (!(rightB s2 n2 d2))) rfl rfl (run_un rfl Tw.kr fun w => un_not w) ?_
   refine Tw.mm (.bool (!(rightB s2 n2 d2))) ?_
   refine wpL_done (fun W4 hW4 => ?_)
   change Code.wp ..
   cases h2 : (rightB s2 n2 d2) with
   | false =>
     refine wp_cond_true rfl ?_
     refine wp_seq ?_
     refine wp_region_L _ hW4 ?_
     refine Tw.mm (.agg (frcC false 0 0)) ?_
     refine wpL_s [(g4, .cells (frcC false 0 0) 34 (0, 0)), (g2, .cells (frcC s2 n2 d2) 34 (0, 0)), (g1, .cells (frcC s1 n1 d1) 34 (0, 0))] rfl rfl (st_all zfz (by exact frc_onec) rfl Tw.kr Tw.kr Tw.m0 Bg4 zfs (List.forall_mem_cons.2 ⟨.inl rfl, (List.forall_mem_cons.2 ⟨.inr ⟨Tw.m1, Tw.nee⟩, (List.forall_mem_cons.2 ⟨.inr ⟨Tw.m2, Tw.nee⟩, (List.forall_mem_nil _)⟩)⟩)⟩)) ?_
     refine Tw.mm (.int .i64 2) ?_
     refine wpL_done (fun W5 hW5 => ?_)
     change Code.wp ..
     refine wp_ret ?_
     try simp only [inBlock_ret, then_ret]
     refine bodyPost_ret (v := .tuple #[.agg (frcC false 0 0), .int .i64 2]) ?_ rfl ?_
     · exact (res_cell_tmp (p := 4) (q := 5) rfl rfl (hW5.2 _ Tw.m0) Tryz.underlying34 rfl zfs)
     · exact ⟨(ret_v (by rw [hV, h1, h2]; rfl)), hW5.1⟩
   | true =>
     refine wp_cond_false rfl ?_
     refine wp_skip ?_
     change Code.wp ..
     refine wp_seq ?_
     refine wp_region_V _ Tw.kr hW4 ?_
     refine vm (i := 0) (v := .pointer (some ⟨g1, 1, none⟩)) rfl rfl rfl ?_
     refine vv (i := 1) (v := .agg (fa 8 (dg n1))) rfl rfl rfl (yb_fnum (s := s1) (n := n1) (d := d1) rfl Tw.kr Tw.m2 Tryz.underlying23 rfl Tw.kr) ?_
     refine vm (i := 3) (v := .pointer (some ⟨g1, 9, none⟩)) rfl rfl rfl ?_
     refine vv (i := 4) (v := .agg (fa 8 (dg d1))) rfl rfl rfl (yb_fden (s := s1) (n := n1) (d := d1) rfl Tw.kr Tw.m2 Tryz.underlying23 rfl Tw.kr) ?_
     refine vm (i := 6) (v := .pointer (some ⟨g2, 1, none⟩)) rfl rfl rfl ?_
     refine vv (i := 7) (v := .agg (fa 8 (dg n2))) rfl rfl rfl (yb_fnum (s := s2) (n := n2) (d := d2) rfl Tw.kr Tw.m1 Tryz.underlying23 rfl Tw.kr) ?_
     refine vm (i := 9) (v := .pointer (some ⟨g2, 9, none⟩)) rfl rfl rfl ?_
     refine vv (i := 10) (v := .agg (fa 8 (dg d2))) rfl rfl rfl (yb_fden (s := s2) (n := n2) (d := d2) rfl Tw.kr Tw.m1 Tryz.underlying23 rfl Tw.kr) ?_
     refine wpV_c (i := 2) (AnsG w [(g4, .cells (frcC false 0 0) 34 (0, 0)), (g2, .cells (frcC s2 n2 d2) 34 (0, 0)), (g1, .cells (frcC s1 n1 d1) 34 (0, 0))] (cd n1)) rfl rfl Tw.kr Tw.kr Tw.kf (fun W hW => (rdigits_any n1 hn1 W).mono fun e w2 h => Ans.g h hW) (fun _ _ h => ansG_sub h) Tw.pf ?_
     rintro v6 _ ⟨q6, d6, T6, rfl, C6, H6, F6, J6, rfl⟩
     obtain ⟨dj7_0, dj7_1, dj7_2⟩ : Dk g4 T6 ∧ Dk g2 T6 ∧ Dk g1 T6 := Tw.djf J6
     refine wpV_c (i := 5) (AnsG w ((g4, .cells (frcC false 0 0) 34 (0, 0)) :: (g2, .cells (frcC s2 n2 d2) 34 (0, 0)) :: (g1, .cells (frcC s1 n1 d1) 34 (0, 0)) :: T6) (cd d1)) rfl rfl Tw.kr Tw.kr Tw.kf (fun W hW => (rdigits_any d1 hd1 W).mono fun e w2 h => Ans.g h hW) (fun _ _ h => ansG_sub h) Tw.pf ?_
     rintro v8 _ ⟨q8, d8, T8, rfl, C8, H8, F8, J8, rfl⟩
     obtain ⟨dj9_0, dj9_1, dj9_2, dj9_3⟩ : Dk g4 T8 ∧ Dk g2 T8 ∧ Dk g1 T8 ∧ Dj T6 T8 := Tw.djf J8
     refine wpV_c (i := 8) (AnsG w ((g4, .cells (frcC false 0 0) 34 (0, 0)) :: (g2, .cells (frcC s2 n2 d2) 34 (0, 0)) :: (g1, .cells (frcC s1 n1 d1) 34 (0, 0)) :: (T6 ++ T8)) (cd n2)) rfl rfl Tw.kr Tw.kr Tw.kf (fun W hW => (rdigits_any n2 hn2 W).mono fun e w2 h => Ans.g h hW) (fun _ _ h => ansG_sub h) Tw.pf ?_
     rintro v10 _ ⟨q10, d10, T10, rfl, C10, H10, F10, J10, rfl⟩
     obtain ⟨dj11_0, dj11_1, dj11_2, dj11_3, dj11_4⟩ : Dk g4 T10 ∧ Dk g2 T10 ∧ Dk g1 T10 ∧ Dj T6 T10 ∧ Dj T8 T10 := Tw.djf J10
     refine wpV_c (i := 11) (AnsG w ((g4, .cells (frcC false 0 0) 34 (0, 0)) :: (g2, .cells (frcC s2 n2 d2) 34 (0, 0)) :: (g1, .cells (frcC s1 n1 d1) 34 (0, 0)) :: ((T6 ++ T8) ++ T10)) (cd d2)) rfl rfl Tw.kr Tw.kr Tw.kf (fun W hW => (rdigits_any d2 hd2 W).mono fun e w2 h => Ans.g h hW) (fun _ _ h => ansG_sub h) Tw.pf ?_
     rintro v12 _ ⟨q12, d12, T12, rfl, C12, H12, F12, J12, rfl⟩
     obtain ⟨dj13_0, dj13_1, dj13_2, dj13_3, dj13_4, dj13_5⟩ : Dk g4 T12 ∧ Dk g2 T12 ∧ Dk g1 T12 ∧ Dj T6 T12 ∧ Dj T8 T12 ∧ Dj T10 T12 := Tw.djf J12
     refine vm (i := 12) (v := .slice q6 ((cd n1).length) d6) rfl rfl rfl ?_
     refine vm (i := 13) (v := .slice q8 ((cd d1).length) d8) rfl rfl rfl ?_
     refine vm (i := 14) (v := .slice q10 ((cd n2).length) d10) rfl rfl rfl ?_
     refine vm (i := 15) (v := .slice q12 ((cd d2).length) d12) rfl rfl rfl ?_
     refine wpV_done Tw.kr (fun W6 hW6 => ?_) _
     change Code.wp ..
     refine wp_seq ?_
     refine wp_region_L _ hW6 ?_
     refine Tw.mm (.slice q6 ((cd n1).length) d6) ?_
     refine Tw.mm (.slice q12 ((cd d2).length) d12) ?_
     have ln14 : (cd n1).length ≤ 16 := cd_16 hn1
     have ln15 : (cd d2).length ≤ 16 := cd_16 hd2
     refine wpL_c (f := 44) (args := #[.slice q6 ((cd n1).length) d6, .slice q12 ((cd d2).length) d12]) (AnsG w ((g4, .cells (frcC false 0 0) 34 (0, 0)) :: (g2, .cells (frcC s2 n2 d2) 34 (0, 0)) :: (g1, .cells (frcC s1 n1 d1) 34 (0, 0)) :: (((T6 ++ T8) ++ T10) ++ T12)) (cd (n1 * d2))) rfl Tw.kr Tw.kf (fun W hW => (rmul_any n1 d2 q6 q12 d6 d12 Tw.om Tw.om W ((H6.mono Tw.sb) W hW) ((H12.mono Tw.sb) W hW)).mono fun e w2 h => Ans.g h hW) Tw.pf ?_
     rintro v16 _ ⟨q16, d16, T16, rfl, C16, H16, F16, J16, rfl⟩
     obtain ⟨dj17_0, dj17_1, dj17_2, dj17_3, dj17_4, dj17_5, dj17_6⟩ : Dk g4 T16 ∧ Dk g2 T16 ∧ Dk g1 T16 ∧ Dj T6 T16 ∧ Dj T8 T16 ∧ Dj T10 T16 ∧ Dj T12 T16 := Tw.djf J16
     have ln18 : (cd (n1 * d2)).length ≤ 32 := Nat.le_trans (cd_mul_len n1 d2) (by have := cd_16 hn1; have := cd_16 hd2; omega)
     refine Tw.mm (.slice q10 ((cd n2).length) d10) ?_
     refine Tw.mm (.slice q8 ((cd d1).length) d8) ?_
     have ln19 : (cd n2).length ≤ 16 := cd_16 hn2
     have ln20 : (cd d1).length ≤ 16 := cd_16 hd1
     refine wpL_c (f := 44) (args := #[.slice q10 ((cd n2).length) d10, .slice q8 ((cd d1).length) d8]) (AnsG w ((g4, .cells (frcC false 0 0) 34 (0, 0)) :: (g2, .cells (frcC s2 n2 d2) 34 (0, 0)) :: (g1, .cells (frcC s1 n1 d1) 34 (0, 0)) :: ((((T6 ++ T8) ++ T10) ++ T12) ++ T16)) (cd (n2 * d1))) rfl Tw.kr Tw.kf (fun W hW => (rmul_any n2 d1 q10 q8 d10 d8 Tw.om Tw.om W ((H10.mono Tw.sb) W hW) ((H8.mono Tw.sb) W hW)).mono fun e w2 h => Ans.g h hW) Tw.pf ?_
     rintro v21 _ ⟨q21, d21, T21, rfl, C21, H21, F21, J21, rfl⟩
     obtain ⟨dj22_0, dj22_1, dj22_2, dj22_3, dj22_4, dj22_5, dj22_6, dj22_7⟩ : Dk g4 T21 ∧ Dk g2 T21 ∧ Dk g1 T21 ∧ Dj T6 T21 ∧ Dj T8 T21 ∧ Dj T10 T21 ∧ Dj T12 T21 ∧ Dj T16 T21 := Tw.djf J21
     have ln23 : (cd (n2 * d1)).length ≤ 32 := Nat.le_trans (cd_mul_len n2 d1) (by have := cd_16 hn2; have := cd_16 hd1; omega)
     refine Tw.mm (.slice q8 ((cd d1).length) d8) ?_
     refine Tw.mm (.slice q12 ((cd d2).length) d12) ?_
     refine wpL_c (f := 44) (args := #[.slice q8 ((cd d1).length) d8, .slice q12 ((cd d2).length) d12]) (AnsG w ((g4, .cells (frcC false 0 0) 34 (0, 0)) :: (g2, .cells (frcC s2 n2 d2) 34 (0, 0)) :: (g1, .cells (frcC s1 n1 d1) 34 (0, 0)) :: (((((T6 ++ T8) ++ T10) ++ T12) ++ T16) ++ T21)) (cd (d1 * d2))) rfl Tw.kr Tw.kf (fun W hW => (rmul_any d1 d2 q8 q12 d8 d12 Tw.om Tw.om W ((H8.mono Tw.sb) W hW) ((H12.mono Tw.sb) W hW)).mono fun e w2 h => Ans.g h hW) Tw.pf ?_
     rintro v24 _ ⟨q24, d24, T24, rfl, C24, H24, F24, J24, rfl⟩
     obtain ⟨dj25_0, dj25_1, dj25_2, dj25_3, dj25_4, dj25_5, dj25_6, dj25_7, dj25_8⟩ : Dk g4 T24 ∧ Dk g2 T24 ∧ Dk g1 T24 ∧ Dj T6 T24 ∧ Dj T8 T24 ∧ Dj T10 T24 ∧ Dj T12 T24 ∧ Dj T16 T24 ∧ Dj T21 T24 := Tw.djf J24
     have ln26 : (cd (d1 * d2)).length ≤ 32 := Nat.le_trans (cd_mul_len d1 d2) (by have := cd_16 hd1; have := cd_16 hd2; omega)
     refine Tw.mm (.slice q16 ((cd (n1 * d2)).length) d16) ?_
     refine Tw.mm (.slice q21 ((cd (n2 * d1)).length) d21) ?_
     refine Tw.mm (.slice q24 ((cd (d1 * d2)).length) d24) ?_
     refine wpL_done (fun W7 hW7 => ?_)
     change Code.wp ..
     refine wp_seq ?_
     refine wp_seq ?_
     refine wp_region_L _ hW7 ?_
     refine Tw.mm (.pointer (some ⟨g1, 0, none⟩)) ?_
     obtain ⟨qs1, hqs1⟩ : ∃ b, b = s1 := ⟨_, rfl⟩
     refine Tw.lv (v := .bool qs1) rfl rfl (yb_cell (off := 0) rfl Tw.kr Tw.m2 Tryz.underlying4 rfl (frc_negq hqs1)) ?_
     refine Tw.mm (.pointer (some ⟨g2, 0, none⟩)) ?_
     obtain ⟨qs2, hqs2⟩ : ∃ b, b = s2 := ⟨_, rfl⟩
     refine Tw.lv (v := .bool qs2) rfl rfl (yb_cell (off := 0) rfl Tw.kr Tw.m1 Tryz.underlying4 rfl (frc_negq hqs2)) ?_
     refine Tw.lp (v := .bool (qs1 == qs2)) rfl rfl (run_bin rfl (vx := .bool qs1) (vy := .bool qs2) Tw.kr Tw.kr fun w => bb_eql2 w) ?_
     refine wpL_done (fun W8 hW8 => ?_)
     change Code.wp ..
     cases h3 : (qs1 == qs2) with
     | false =>
       refine wp_cond_false rfl ?_
       refine wp_skip ?_
       change Code.wp ..
       refine wp_seq ?_
       refine wp_seq ?_
       refine wp_region_L _ hW8 ?_
       refine Tw.mm (.slice q16 ((cd (n1 * d2)).length) d16) ?_
       refine Tw.mm (.slice q21 ((cd (n2 * d1)).length) d21) ?_
       refine Tw.lv (v := .bool (decide ((n1 * d2) < (n2 * d1)))) rfl rfl (yb_call (f := 47) (args := #[.slice q16 ((cd (n1 * d2)).length) d16, .slice q21 ((cd (n2 * d1)).length) d21]) Tw.kf fun W hW => less_any (n1 * d2) (n2 * d1) q16 q21 d16 d21 Tw.om W ((H16.mono Tw.sb) W hW) ((H21.mono Tw.sb) W hW)) ?_
       refine wpL_done (fun W9 hW9 => ?_)
       change Code.wp ..
       cases hd4 : (decide ((n1 * d2) < (n2 * d1))) with
       | false =>
         have h4 : ¬ ((n1 * d2) < (n2 * d1)) := of_decide_eq_false hd4
         clear hd4
         refine wp_cond_false rfl ?_
         refine wp_skip ?_
         change Code.wp ..
         refine wp_seq ?_
         refine wp_region_V _ Tw.kr hW9 ?_
         refine vm (i := 0) (v := .pointer (some ⟨g1, 0, none⟩)) rfl rfl rfl ?_
         refine vv (i := 1) (v := .bool qs1) rfl rfl rfl (yb_cell (off := 0) rfl Tw.kr Tw.m2 Tryz.underlying4 rfl (frc_negq hqs1)) ?_
         refine vm (i := 2) (v := .slice q16 ((cd (n1 * d2)).length) d16) rfl rfl rfl ?_
         refine vm (i := 3) (v := .slice q21 ((cd (n2 * d1)).length) d21) rfl rfl rfl ?_
         refine vm (i := 5) (v := .slice q24 ((cd (d1 * d2)).length) d24) rfl rfl rfl ?_
         refine wpV_c (i := 4) (AnsG w ((g4, .cells (frcC false 0 0) 34 (0, 0)) :: (g2, .cells (frcC s2 n2 d2) 34 (0, 0)) :: (g1, .cells (frcC s1 n1 d1) 34 (0, 0)) :: ((((((T6 ++ T8) ++ T10) ++ T12) ++ T16) ++ T21) ++ T24)) (cd ((n1 * d2) - (n2 * d1)))) rfl rfl Tw.kr Tw.kr Tw.kf (fun W hW => (sub_any (n1 * d2) (n2 * d1) q16 q21 d16 d21 Tw.om Tw.om W ((H16.mono Tw.sb) W hW) ((H21.mono Tw.sb) W hW)).mono fun e w2 h => Ans.g h hW) (fun _ _ h => ansG_sub h) Tw.pf ?_
         rintro v27 _ ⟨q27, d27, T27, rfl, C27, H27, F27, J27, rfl⟩
         obtain ⟨dj28_0, dj28_1, dj28_2, dj28_3, dj28_4, dj28_5, dj28_6, dj28_7, dj28_8, dj28_9⟩ : Dk g4 T27 ∧ Dk g2 T27 ∧ Dk g1 T27 ∧ Dj T6 T27 ∧ Dj T8 T27 ∧ Dj T10 T27 ∧ Dj T12 T27 ∧ Dj T16 T27 ∧ Dj T21 T27 ∧ Dj T24 T27 := Tw.djf J27
         have ln29 : (cd ((n1 * d2) - (n2 * d1))).length ≤ 32 := cd_le.2 (Nat.lt_of_le_of_lt (Nat.sub_le _ _) (cd_le.1 ln18))
         obtain ⟨sv30, nv30, dv30, ev30, hpv30⟩ := packV_shape qs1 (((n1 * d2) - (n2 * d1)) / Nat.gcd ((n1 * d2) - (n2 * d1)) (d1 * d2)) ((d1 * d2) / Nat.gcd ((n1 * d2) - (n2 * d1)) (d1 * d2))
         refine vv (i := 6) (v := .tuple #[.agg (frcC sv30 nv30 dv30), .int .i64 ev30]) rfl rfl rfl (yb_call (f := 45) (args := #[.bool qs1, .slice q27 ((cd ((n1 * d2) - (n2 * d1))).length) d27, .slice q24 ((cd (d1 * d2)).length) d24]) Tw.kf fun W hW => hpv30 ▸ make0_any qs1 ((n1 * d2) - (n2 * d1)) (d1 * d2) q27 q24 d27 d24 (Nat.mul_pos (right_den h1) (right_den h2)) Tw.om Tw.om C27 C24 W ((H27.mono Tw.sb) W hW) ((H24.mono Tw.sb) W hW)) ?_
         refine vm (i := 7) (v := .agg (frcC sv30 nv30 dv30)) rfl rfl rfl ?_
         refine vm (i := 8) (v := .int .i64 ev30) rfl rfl rfl ?_
         refine wpV_s ((g4, .cells (frcC sv30 nv30 dv30) 34 (0, 0)) :: (g2, .cells (frcC s2 n2 d2) 34 (0, 0)) :: (g1, .cells (frcC s1 n1 d1) 34 (0, 0)) :: (((((((T6 ++ T8) ++ T10) ++ T12) ++ T16) ++ T21) ++ T24) ++ T27)) (i := 9) rfl Tw.kr rfl rfl rfl (st_all zfz (by exact frc_onec) rfl Tw.kr Tw.kr Tw.m0 Bg4 zfs (List.forall_mem_cons.2 ⟨.inl rfl, (List.forall_mem_cons.2 ⟨.inr ⟨Tw.m1, Tw.nee⟩, (List.forall_mem_cons.2 ⟨.inr ⟨Tw.m2, Tw.nee⟩, (fun p hp => .inr ⟨(.tail _ (.tail _ (.tail _ hp))), ((show Dk g4 (((((((T6 ++ T8) ++ T10) ++ T12) ++ T16) ++ T21) ++ T24) ++ T27) from Tw.djt) _ hp)⟩)⟩)⟩)⟩)) ?_
         refine vm (i := 10) (v := .int .i64 ev30) rfl rfl rfl ?_
         refine wpV_done Tw.kr (fun W10 hW10 => ?_) _
         change Code.wp ..
         refine wp_ret ?_
         try simp only [inBlock_ret, then_ret]
         refine bodyPost_ret (v := .tuple #[.agg (frcC sv30 nv30 dv30), .int .i64 ev30]) ?_ rfl ?_
         · exact (res_cell_tmp (p := 4) (q := 5) rfl rfl (hW10.2 _ Tw.m0) Tryz.underlying34 rfl zfs)
         · exact ⟨(ret_v (hpv30.symm.trans (by rw [hV, if_pos (by rw [h1, h2]; rfl), ← add_norm h1 h2, (ps_ge (by rw [← hqs1, ← hqs2]; exact ne_of_beq_false h3) h4).1, (ps_ge (by rw [← hqs1, ← hqs2]; exact ne_of_beq_false h3) h4).2, hqs1]))), hW10.1⟩
       | true =>
         have h4 : (n1 * d2) < (n2 * d1) := of_decide_eq_true hd4
         clear hd4
         refine wp_cond_true rfl ?_
         refine wp_seq ?_
         refine wp_region_V _ Tw.kr hW9 ?_
         refine vm (i := 0) (v := .pointer (some ⟨g2, 0, none⟩)) rfl rfl rfl ?_
         refine vv (i := 1) (v := .bool qs2) rfl rfl rfl (yb_cell (off := 0) rfl Tw.kr Tw.m1 Tryz.underlying4 rfl (frc_negq hqs2)) ?_
         refine vm (i := 2) (v := .slice q21 ((cd (n2 * d1)).length) d21) rfl rfl rfl ?_
         refine vm (i := 3) (v := .slice q16 ((cd (n1 * d2)).length) d16) rfl rfl rfl ?_
         refine vm (i := 5) (v := .slice q24 ((cd (d1 * d2)).length) d24) rfl rfl rfl ?_
         refine wpV_c (i := 4) (AnsG w ((g4, .cells (frcC false 0 0) 34 (0, 0)) :: (g2, .cells (frcC s2 n2 d2) 34 (0, 0)) :: (g1, .cells (frcC s1 n1 d1) 34 (0, 0)) :: ((((((T6 ++ T8) ++ T10) ++ T12) ++ T16) ++ T21) ++ T24)) (cd ((n2 * d1) - (n1 * d2)))) rfl rfl Tw.kr Tw.kr Tw.kf (fun W hW => (sub_any (n2 * d1) (n1 * d2) q21 q16 d21 d16 Tw.om Tw.om W ((H21.mono Tw.sb) W hW) ((H16.mono Tw.sb) W hW)).mono fun e w2 h => Ans.g h hW) (fun _ _ h => ansG_sub h) Tw.pf ?_
         rintro v31 _ ⟨q31, d31, T31, rfl, C31, H31, F31, J31, rfl⟩
         obtain ⟨dj32_0, dj32_1, dj32_2, dj32_3, dj32_4, dj32_5, dj32_6, dj32_7, dj32_8, dj32_9⟩ : Dk g4 T31 ∧ Dk g2 T31 ∧ Dk g1 T31 ∧ Dj T6 T31 ∧ Dj T8 T31 ∧ Dj T10 T31 ∧ Dj T12 T31 ∧ Dj T16 T31 ∧ Dj T21 T31 ∧ Dj T24 T31 := Tw.djf J31
         have ln33 : (cd ((n2 * d1) - (n1 * d2))).length ≤ 32 := cd_le.2 (Nat.lt_of_le_of_lt (Nat.sub_le _ _) (cd_le.1 ln23))
         obtain ⟨sv34, nv34, dv34, ev34, hpv34⟩ := packV_shape qs2 (((n2 * d1) - (n1 * d2)) / Nat.gcd ((n2 * d1) - (n1 * d2)) (d1 * d2)) ((d1 * d2) / Nat.gcd ((n2 * d1) - (n1 * d2)) (d1 * d2))
         refine vv (i := 6) (v := .tuple #[.agg (frcC sv34 nv34 dv34), .int .i64 ev34]) rfl rfl rfl (yb_call (f := 45) (args := #[.bool qs2, .slice q31 ((cd ((n2 * d1) - (n1 * d2))).length) d31, .slice q24 ((cd (d1 * d2)).length) d24]) Tw.kf fun W hW => hpv34 ▸ make0_any qs2 ((n2 * d1) - (n1 * d2)) (d1 * d2) q31 q24 d31 d24 (Nat.mul_pos (right_den h1) (right_den h2)) Tw.om Tw.om C31 C24 W ((H31.mono Tw.sb) W hW) ((H24.mono Tw.sb) W hW)) ?_
         refine vm (i := 7) (v := .agg (frcC sv34 nv34 dv34)) rfl rfl rfl ?_
         refine vm (i := 8) (v := .int .i64 ev34) rfl rfl rfl ?_
         refine wpV_s ((g4, .cells (frcC sv34 nv34 dv34) 34 (0, 0)) :: (g2, .cells (frcC s2 n2 d2) 34 (0, 0)) :: (g1, .cells (frcC s1 n1 d1) 34 (0, 0)) :: (((((((T6 ++ T8) ++ T10) ++ T12) ++ T16) ++ T21) ++ T24) ++ T31)) (i := 9) rfl Tw.kr rfl rfl rfl (st_all zfz (by exact frc_onec) rfl Tw.kr Tw.kr Tw.m0 Bg4 zfs (List.forall_mem_cons.2 ⟨.inl rfl, (List.forall_mem_cons.2 ⟨.inr ⟨Tw.m1, Tw.nee⟩, (List.forall_mem_cons.2 ⟨.inr ⟨Tw.m2, Tw.nee⟩, (fun p hp => .inr ⟨(.tail _ (.tail _ (.tail _ hp))), ((show Dk g4 (((((((T6 ++ T8) ++ T10) ++ T12) ++ T16) ++ T21) ++ T24) ++ T31) from Tw.djt) _ hp)⟩)⟩)⟩)⟩)) ?_
         refine vm (i := 10) (v := .int .i64 ev34) rfl rfl rfl ?_
         refine wpV_done Tw.kr (fun W11 hW11 => ?_) _
         change Code.wp ..
         refine wp_ret ?_
         try simp only [inBlock_ret, then_ret]
         refine bodyPost_ret (v := .tuple #[.agg (frcC sv34 nv34 dv34), .int .i64 ev34]) ?_ rfl ?_
         · exact (res_cell_tmp (p := 4) (q := 5) rfl rfl (hW11.2 _ Tw.m0) Tryz.underlying34 rfl zfs)
         · exact ⟨(ret_v (hpv34.symm.trans (by rw [hV, if_pos (by rw [h1, h2]; rfl), ← add_norm h1 h2, (ps_lt (by rw [← hqs1, ← hqs2]; exact ne_of_beq_false h3) h4).1, (ps_lt (by rw [← hqs1, ← hqs2]; exact ne_of_beq_false h3) h4).2, hqs2]))), hW11.1⟩
     | true =>
       refine wp_cond_true rfl ?_
       refine wp_seq ?_
       refine wp_region_V _ Tw.kr hW8 ?_
       refine vm (i := 0) (v := .pointer (some ⟨g1, 0, none⟩)) rfl rfl rfl ?_
       refine vv (i := 1) (v := .bool qs1) rfl rfl rfl (yb_cell (off := 0) rfl Tw.kr Tw.m2 Tryz.underlying4 rfl (frc_negq hqs1)) ?_
       refine vm (i := 2) (v := .slice q16 ((cd (n1 * d2)).length) d16) rfl rfl rfl ?_
       refine vm (i := 3) (v := .slice q21 ((cd (n2 * d1)).length) d21) rfl rfl rfl ?_
       refine vm (i := 5) (v := .slice q24 ((cd (d1 * d2)).length) d24) rfl rfl rfl ?_
       refine wpV_c (i := 4) (AnsG w ((g4, .cells (frcC false 0 0) 34 (0, 0)) :: (g2, .cells (frcC s2 n2 d2) 34 (0, 0)) :: (g1, .cells (frcC s1 n1 d1) 34 (0, 0)) :: ((((((T6 ++ T8) ++ T10) ++ T12) ++ T16) ++ T21) ++ T24)) (cd ((n1 * d2) + (n2 * d1)))) rfl rfl Tw.kr Tw.kr Tw.kf (fun W hW => (radd_any (n1 * d2) (n2 * d1) q16 q21 d16 d21 Tw.om Tw.om W ((H16.mono Tw.sb) W hW) ((H21.mono Tw.sb) W hW)).mono fun e w2 h => Ans.g h hW) (fun _ _ h => ansG_sub h) Tw.pf ?_
       rintro v35 _ ⟨q35, d35, T35, rfl, C35, H35, F35, J35, rfl⟩
       obtain ⟨dj36_0, dj36_1, dj36_2, dj36_3, dj36_4, dj36_5, dj36_6, dj36_7, dj36_8, dj36_9⟩ : Dk g4 T35 ∧ Dk g2 T35 ∧ Dk g1 T35 ∧ Dj T6 T35 ∧ Dj T8 T35 ∧ Dj T10 T35 ∧ Dj T12 T35 ∧ Dj T16 T35 ∧ Dj T21 T35 ∧ Dj T24 T35 := Tw.djf J35
       have ln37 : (cd ((n1 * d2) + (n2 * d1))).length ≤ 33 := cd_add_len ln18 ln23
       obtain ⟨sv38, nv38, dv38, ev38, hpv38⟩ := packV_shape qs1 (((n1 * d2) + (n2 * d1)) / Nat.gcd ((n1 * d2) + (n2 * d1)) (d1 * d2)) ((d1 * d2) / Nat.gcd ((n1 * d2) + (n2 * d1)) (d1 * d2))
       refine vv (i := 6) (v := .tuple #[.agg (frcC sv38 nv38 dv38), .int .i64 ev38]) rfl rfl rfl (yb_call (f := 45) (args := #[.bool qs1, .slice q35 ((cd ((n1 * d2) + (n2 * d1))).length) d35, .slice q24 ((cd (d1 * d2)).length) d24]) Tw.kf fun W hW => hpv38 ▸ make0_any qs1 ((n1 * d2) + (n2 * d1)) (d1 * d2) q35 q24 d35 d24 (Nat.mul_pos (right_den h1) (right_den h2)) Tw.om Tw.om C35 C24 W ((H35.mono Tw.sb) W hW) ((H24.mono Tw.sb) W hW)) ?_
       refine vm (i := 7) (v := .agg (frcC sv38 nv38 dv38)) rfl rfl rfl ?_
       refine vm (i := 8) (v := .int .i64 ev38) rfl rfl rfl ?_
       refine wpV_s ((g4, .cells (frcC sv38 nv38 dv38) 34 (0, 0)) :: (g2, .cells (frcC s2 n2 d2) 34 (0, 0)) :: (g1, .cells (frcC s1 n1 d1) 34 (0, 0)) :: (((((((T6 ++ T8) ++ T10) ++ T12) ++ T16) ++ T21) ++ T24) ++ T35)) (i := 9) rfl Tw.kr rfl rfl rfl (st_all zfz (by exact frc_onec) rfl Tw.kr Tw.kr Tw.m0 Bg4 zfs (List.forall_mem_cons.2 ⟨.inl rfl, (List.forall_mem_cons.2 ⟨.inr ⟨Tw.m1, Tw.nee⟩, (List.forall_mem_cons.2 ⟨.inr ⟨Tw.m2, Tw.nee⟩, (fun p hp => .inr ⟨(.tail _ (.tail _ (.tail _ hp))), ((show Dk g4 (((((((T6 ++ T8) ++ T10) ++ T12) ++ T16) ++ T21) ++ T24) ++ T35) from Tw.djt) _ hp)⟩)⟩)⟩)⟩)) ?_
       refine vm (i := 10) (v := .int .i64 ev38) rfl rfl rfl ?_
       refine wpV_done Tw.kr (fun W12 hW12 => ?_) _
       change Code.wp ..
       refine wp_ret ?_
       try simp only [inBlock_ret, then_ret]
       refine bodyPost_ret (v := .tuple #[.agg (frcC sv38 nv38 dv38), .int .i64 ev38]) ?_ rfl ?_
       · exact (res_cell_tmp (p := 4) (q := 5) rfl rfl (hW12.2 _ Tw.m0) Tryz.underlying34 rfl zfs)
       · exact ⟨(ret_v (hpv38.symm.trans (by rw [hV, if_pos (by rw [h1, h2]; rfl), ← add_norm h1 h2, (ps_eq (by rw [← hqs1, ← hqs2]; exact eq_of_beq h3)).1, (ps_eq (by rw [← hqs1, ← hqs2]; exact eq_of_beq h3)).2, hqs1]))), hW12.1⟩
end Go.Proofs.YtalmflgkbmnghaaGreatDoor
namespace Go.Proofs.YtalmflgkbmnghaaGreatDoor
open Go Go.RowKit Tw
open Tf (dg R R_pos R_le R_succ dg_of_lt setd setd_eq)
variable [ShLZ]
theorem packV_shape8 (s : Bool) (n d : Nat) : ∃ s' n' d' e, packV s n d = .tuple #[.agg (frcC s' n' d'), .int .i64 e] ∧ n' < R 8 ∧ d' < R 8 := by
 unfold packV; split
 · rename_i h; exact ⟨_, _, _, _, rfl, h.1, h.2⟩
 · exact ⟨_, _, _, _, rfl, R_pos 8, R_pos 8⟩
theorem if_shape8 {c : Prop} [Decidable c] {s : Bool} {n d : Nat} : ∃ s' n' d' e, (if c then packV s n d else argV) = .tuple #[.agg (frcC s' n' d'), .int .i64 e] ∧ n' < R 8 ∧ d' < R 8 := by
 split
 · exact packV_shape8 s n d
 · exact ⟨false, 0, 0, 2, rfl, R_pos 8, R_pos 8⟩
theorem sub_same {s1 s2 : Bool} {n1 d1 n2 d2 : Nat} : (if (rightB s1 n1 d1 && rightB (if n2 = 0 then s2 else !s2) n2 d2) = true then addV s1 n1 d1 (if n2 = 0 then s2 else !s2) n2 d2 else argV) = (if (rightB s1 n1 d1 && rightB s2 n2 d2) = true then addV s1 n1 d1 (!s2) n2 d2 else argV) := by
 by_cases h : n2 = 0
 · subst h
   rw [if_pos rfl, addV_zero s1 n1 d1 s2 (!s2) d2]
 · rw [if_neg h, right_flip h]
theorem cross_eq {s1 s2 : Bool} {n1 d1 n2 d2 : Nat} (h1 : rightB s1 n1 d1 = true) (h2 : rightB s2 n2 d2 = true) (h : n1 * d2 = n2 * d1) : n1 = n2 ∧ d1 = d2 := by
 obtain ⟨x, _, e2, e3, e4⟩ := right_rat h1
 obtain ⟨y, _, f2, f3, f4⟩ := right_rat h2
 have hx : Nat.gcd n1 d1 = 1 := by rw [← e3, ← e2]; exact x.reduced
 have hy : Nat.gcd n2 d2 = 1 := by rw [← f3, ← f2]; exact y.reduced
 have p1 := right_den h1
 have p2 := right_den h2
 have a1 : d1 ∣ d2 := Nat.Coprime.dvd_of_dvd_mul_left (Nat.Coprime.symm hx) ⟨n2, by rw [h, Nat.mul_comm]⟩
 have a2 : d2 ∣ d1 := Nat.Coprime.dvd_of_dvd_mul_left (Nat.Coprime.symm hy) ⟨n1, by rw [← h, Nat.mul_comm]⟩
 have e : d1 = d2 := Nat.dvd_antisymm a1 a2
 subst e
 exact ⟨Nat.eq_of_mul_eq_mul_right p1 h, rfl⟩
set_option maxRecDepth 100000 in
set_option maxHeartbeats 20000000 in
theorem RSub_any (s1 s2 : Bool) (n1 d1 n2 d2 : Nat) (hn1 : n1 < R 8) (hd1 : d1 < R 8) (hn2 : n2 < R 8) (hd2 : d2 < R 8) (w : World) : Calls Tryz.prog 21 #[.agg (frcC s1 n1 d1), .agg (frcC s2 n2 d2)] w fun e w' => e = .returned (if (rightB s1 n1 d1 && rightB s2 n2 d2) = true then addV s1 n1 d1 (!s2) n2 d2 else argV) ∧ Below w.heap.size w w' := by
 obtain ⟨V, hV⟩ : ∃ V : Value, V = (if (rightB s1 n1 d1 && rightB s2 n2 d2) = true then addV s1 n1 d1 (!s2) n2 d2 else argV) := ⟨_, rfl⟩
 rw [← hV]
 go_enter Tryz.func21, Tryz.ntmps21
 refine wp_seq ?_
 refine wp_region_L [] (KS.start w) ?_
 refine wpL_new (fun g => .pointer (some ⟨g, 0, none⟩)) (obi := .cells (frcC s1 n1 d1) 34 (0, 0)) rfl rfl Tw.kf Tw.pf fun g1 Bg1 Fg1 => ?_
 refine wpL_new (fun g => .pointer (some ⟨g, 0, none⟩)) (obi := .cells (frcC s2 n2 d2) 34 (0, 0)) rfl rfl Tw.kf Tw.pf fun g2 Bg2 Fg2 => ?_
 obtain dj3_0 : g1 ≠ g2 := Tw.dkf Fg2
 refine wpL_new (fun g => .pointer (some ⟨g, 0, none⟩)) (obi := .cells (frcC false 0 0) 34 (0, 0)) rfl rfl Tw.kf Tw.pf fun g4 Bg4 Fg4 => ?_
 obtain ⟨dj5_0, dj5_1⟩ : g2 ≠ g4 ∧ g1 ≠ g4 := Tw.dkf Fg4
 refine Tw.mm (.int .i64 0) ?_
 refine wpL_done (fun W1 hW1 => ?_)
 change Code.wp ..
 refine wp_seq ?_
 refine wp_region_V _ Tw.kr hW1 ?_
 refine vv (i := 0) (v := .agg (frcC s1 n1 d1)) rfl rfl rfl (yb_all rfl Tw.kr Tw.m2 Tryz.underlying34 rfl zfs) ?_
 refine vv (i := 1) (v := .agg (frcC s2 n2 d2)) rfl rfl rfl (yb_all rfl Tw.kr Tw.m1 Tryz.underlying34 rfl zfs) ?_
 refine vv (i := 2) (v := .agg (frcC (if n2 = 0 then s2 else !s2) n2 d2)) rfl rfl rfl (yb_call (f := 52) (args := #[.agg (frcC s2 n2 d2)]) Tw.kf fun W hW => rneg_any s2 n2 d2 hn2 W) ?_
 obtain ⟨sv6, nv6, dv6, ev6, hpv6, ln6, ld6⟩ : ∃ s2 n2 d2 e, V = .tuple #[.agg (frcC s2 n2 d2), .int .i64 e] ∧ n2 < R 8 ∧ d2 < R 8 := by rw [hV]; exact if_shape8
 refine vv (i := 3) (v := .tuple #[.agg (frcC sv6 nv6 dv6), .int .i64 ev6]) rfl rfl rfl (yb_call (f := 16) (args := #[.agg (frcC s1 n1 d1), .agg (frcC (if n2 = 0 then s2 else !s2) n2 d2)]) Tw.kf fun W hW => (by have h := RAdd_any s1 (if n2 = 0 then s2 else !s2) n1 d1 n2 d2 hn1 hd1 hn2 hd2 W; rw [sub_same, ← hV, hpv6] at h; exact h)) ?_
 refine vm (i := 4) (v := .agg (frcC sv6 nv6 dv6)) rfl rfl rfl ?_
 refine vm (i := 5) (v := .int .i64 ev6) rfl rfl rfl ?_
 refine wpV_s [(g4, .cells (frcC sv6 nv6 dv6) 34 (0, 0)), (g2, .cells (frcC s2 n2 d2) 34 (0, 0)), (g1, .cells (frcC s1 n1 d1) 34 (0, 0))] (i := 6) rfl Tw.kr rfl rfl rfl (st_all zfz (by exact frc_onec) rfl Tw.kr Tw.kr Tw.m0 Bg4 zfs (List.forall_mem_cons.2 ⟨.inl rfl, (List.forall_mem_cons.2 ⟨.inr ⟨Tw.m1, Tw.nee⟩, (List.forall_mem_cons.2 ⟨.inr ⟨Tw.m2, Tw.nee⟩, (List.forall_mem_nil _)⟩)⟩)⟩)) ?_
 refine vm (i := 7) (v := .int .i64 ev6) rfl rfl rfl ?_
 refine wpV_done Tw.kr (fun W2 hW2 => ?_) _
 change Code.wp ..
 refine wp_ret ?_
 try simp only [inBlock_ret, then_ret]
 refine bodyPost_ret (v := .tuple #[.agg (frcC sv6 nv6 dv6), .int .i64 ev6]) ?_ rfl ?_
 · exact (res_cell_tmp (p := 4) (q := 5) rfl rfl (hW2.2 _ Tw.m0) Tryz.underlying34 rfl zfs)
 · exact ⟨(ret_v hpv6.symm), hW2.1⟩
set_option maxRecDepth 100000 in
set_option maxHeartbeats 20000000 in
theorem RMul_any (s1 s2 : Bool) (n1 d1 n2 d2 : Nat) (hn1 : n1 < R 8) (hd1 : d1 < R 8) (hn2 : n2 < R 8) (hd2 : d2 < R 8) (w : World) : Calls Tryz.prog 23 #[.agg (frcC s1 n1 d1), .agg (frcC s2 n2 d2)] w fun e w' => e = .returned (if (rightB s1 n1 d1 && rightB s2 n2 d2) = true then mulV s1 n1 d1 s2 n2 d2 else argV) ∧ Below w.heap.size w w' := by
 obtain ⟨V, hV⟩ : ∃ V : Value, V = (if (rightB s1 n1 d1 && rightB s2 n2 d2) = true then mulV s1 n1 d1 s2 n2 d2 else argV) := ⟨_, rfl⟩
 rw [← hV]
 go_enter Tryz.func23, Tryz.ntmps23
 refine wp_seq ?_
 refine wp_region_L [] (KS.start w) ?_
 refine wpL_new (fun g => .pointer (some ⟨g, 0, none⟩)) (obi := .cells (frcC s1 n1 d1) 34 (0, 0)) rfl rfl Tw.kf Tw.pf fun g1 Bg1 Fg1 => ?_
 refine wpL_new (fun g => .pointer (some ⟨g, 0, none⟩)) (obi := .cells (frcC s2 n2 d2) 34 (0, 0)) rfl rfl Tw.kf Tw.pf fun g2 Bg2 Fg2 => ?_
 obtain dj3_0 : g1 ≠ g2 := Tw.dkf Fg2
 refine wpL_new (fun g => .pointer (some ⟨g, 0, none⟩)) (obi := .cells (frcC false 0 0) 34 (0, 0)) rfl rfl Tw.kf Tw.pf fun g4 Bg4 Fg4 => ?_
 obtain ⟨dj5_0, dj5_1⟩ : g2 ≠ g4 ∧ g1 ≠ g4 := Tw.dkf Fg4
 refine Tw.mm (.int .i64 0) ?_
 refine wpL_done (fun W1 hW1 => ?_)
 change Code.wp ..
 refine wp_seq ?_
 refine wp_seq ?_
 refine wp_region_L _ hW1 ?_
 refine Tw.lv (v := .agg (frcC s1 n1 d1)) rfl rfl (yb_all rfl Tw.kr Tw.m2 Tryz.underlying34 rfl zfs) ?_
 refine Tw.lv (v := .bool (rightB s1 n1 d1)) rfl rfl (yb_call (f := 18) (args := #[.agg (frcC s1 n1 d1)]) Tw.kf fun W hW => rright_any s1 n1 d1 hn1 hd1 W) ?_
 refine Tw.lp (v := .bool (!(rightB s1 n1 d1))) rfl rfl (run_un rfl Tw.kr fun w => un_not w) ?_
 refine Tw.mm (.bool (!(rightB s1 n1 d1))) ?_
 cases h1 : (rightB s1 n1 d1) with
 | false =>
   refine Tw.ln rfl ?_
   refine Tw.ln rfl ?_
   refine Tw.ln rfl ?_
   refine Tw.mm (.bool true) ?_
   refine wpL_done (fun W2 hW2 => ?_)
   change Code.wp ..
   refine wp_cond_true rfl ?_
   refine wp_seq ?_
   refine wp_region_L _ hW2 ?_
   refine Tw.mm (.agg (frcC false 0 0)) ?_
   refine wpL_s [(g4, .cells (frcC false 0 0) 34 (0, 0)), (g2, .cells (frcC s2 n2 d2) 34 (0, 0)), (g1, .cells (frcC s1 n1 d1) 34 (0, 0))] rfl rfl (st_all zfz (by exact frc_onec) rfl Tw.kr Tw.kr Tw.m0 Bg4 zfs (List.forall_mem_cons.2 ⟨.inl rfl, (List.forall_mem_cons.2 ⟨.inr ⟨Tw.m1, Tw.nee⟩, (List.forall_mem_cons.2 ⟨.inr ⟨Tw.m2, Tw.nee⟩, (List.forall_mem_nil _)⟩)⟩)⟩)) ?_
   refine Tw.mm (.int .i64 2) ?_
   refine wpL_done (fun W3 hW3 => ?_)
   change Code.wp ..
   refine wp_ret ?_
   try simp only [inBlock_ret, then_ret]
   refine bodyPost_ret (v := .tuple #[.agg (frcC false 0 0), .int .i64 2]) ?_ rfl ?_
   · exact (res_cell_tmp (p := 4) (q := 5) rfl rfl (hW3.2 _ Tw.m0) Tryz.underlying34 rfl zfs)
   · exact ⟨(ret_v (by rw [hV, h1]; rfl)), hW3.1⟩
 | true =>
   refine Tw.lv (v := .agg (frcC s2 n2 d2)) rfl rfl (yb_all rfl Tw.kr Tw.m1 Tryz.underlying34 rfl zfs) ?_
   refine Tw.lv (v := .bool (rightB s2 n2 d2)) rfl rfl (yb_call (f := 18) (args := #[.agg (frcC s2 n2 d2)]) Tw.kf fun W hW => rright_any s2 n2 d2 hn2 hd2 W) ?_
   refine Tw.lp (v := .bool (!(rightB s2 n2 d2))) rfl rfl (run_un rfl Tw.kr fun w => un_not w) ?_
   refine Tw.mm (.bool (!(rightB s2 n2 d2))) ?_
   refine wpL_done (fun W4 hW4 => ?_)
   change Code.wp ..
   cases h2 : (rightB s2 n2 d2) with
   | false =>
     refine wp_cond_true rfl ?_
     refine wp_seq ?_
     refine wp_region_L _ hW4 ?_
     refine Tw.mm (.agg (frcC false 0 0)) ?_
     refine wpL_s [(g4, .cells (frcC false 0 0) 34 (0, 0)), (g2, .cells (frcC s2 n2 d2) 34 (0, 0)), (g1, .cells (frcC s1 n1 d1) 34 (0, 0))] rfl rfl (st_all zfz (by exact frc_onec) rfl Tw.kr Tw.kr Tw.m0 Bg4 zfs (List.forall_mem_cons.2 ⟨.inl rfl, (List.forall_mem_cons.2 ⟨.inr ⟨Tw.m1, Tw.nee⟩, (List.forall_mem_cons.2 ⟨.inr ⟨Tw.m2, Tw.nee⟩, (List.forall_mem_nil _)⟩)⟩)⟩)) ?_
     refine Tw.mm (.int .i64 2) ?_
     refine wpL_done (fun W5 hW5 => ?_)
     change Code.wp ..
     refine wp_ret ?_
     try simp only [inBlock_ret, then_ret]
     refine bodyPost_ret (v := .tuple #[.agg (frcC false 0 0), .int .i64 2]) ?_ rfl ?_
     · exact (res_cell_tmp (p := 4) (q := 5) rfl rfl (hW5.2 _ Tw.m0) Tryz.underlying34 rfl zfs)
     · exact ⟨(ret_v (by rw [hV, h1, h2]; rfl)), hW5.1⟩
   | true =>
     refine wp_cond_false rfl ?_
     refine wp_skip ?_
     change Code.wp ..
     refine wp_seq ?_
     refine wp_region_V _ Tw.kr hW4 ?_
     refine vm (i := 0) (v := .pointer (some ⟨g1, 0, none⟩)) rfl rfl rfl ?_
     obtain ⟨qs1, hqs1⟩ : ∃ b, b = s1 := ⟨_, rfl⟩
     refine vv (i := 1) (v := .bool qs1) rfl rfl rfl (yb_cell (off := 0) rfl Tw.kr Tw.m2 Tryz.underlying4 rfl (frc_negq hqs1)) ?_
     refine vm (i := 2) (v := .pointer (some ⟨g2, 0, none⟩)) rfl rfl rfl ?_
     obtain ⟨qs2, hqs2⟩ : ∃ b, b = s2 := ⟨_, rfl⟩
     refine vv (i := 3) (v := .bool qs2) rfl rfl rfl (yb_cell (off := 0) rfl Tw.kr Tw.m1 Tryz.underlying4 rfl (frc_negq hqs2)) ?_
     refine vp (i := 4) (v := .bool (qs1 != qs2)) rfl rfl rfl (run_bin rfl (vx := .bool qs1) (vy := .bool qs2) Tw.kr Tw.kr fun w => bb_neq2 w) ?_
     refine vm (i := 5) (v := .pointer (some ⟨g1, 1, none⟩)) rfl rfl rfl ?_
     refine vv (i := 6) (v := .agg (fa 8 (dg n1))) rfl rfl rfl (yb_fnum (s := s1) (n := n1) (d := d1) rfl Tw.kr Tw.m2 Tryz.underlying23 rfl Tw.kr) ?_
     refine vm (i := 8) (v := .pointer (some ⟨g2, 1, none⟩)) rfl rfl rfl ?_
     refine vv (i := 9) (v := .agg (fa 8 (dg n2))) rfl rfl rfl (yb_fnum (s := s2) (n := n2) (d := d2) rfl Tw.kr Tw.m1 Tryz.underlying23 rfl Tw.kr) ?_
     refine vm (i := 12) (v := .pointer (some ⟨g1, 9, none⟩)) rfl rfl rfl ?_
     refine vv (i := 13) (v := .agg (fa 8 (dg d1))) rfl rfl rfl (yb_fden (s := s1) (n := n1) (d := d1) rfl Tw.kr Tw.m2 Tryz.underlying23 rfl Tw.kr) ?_
     refine vm (i := 15) (v := .pointer (some ⟨g2, 9, none⟩)) rfl rfl rfl ?_
     refine vv (i := 16) (v := .agg (fa 8 (dg d2))) rfl rfl rfl (yb_fden (s := s2) (n := n2) (d := d2) rfl Tw.kr Tw.m1 Tryz.underlying23 rfl Tw.kr) ?_
     refine wpV_c (i := 7) (AnsG w [(g4, .cells (frcC false 0 0) 34 (0, 0)), (g2, .cells (frcC s2 n2 d2) 34 (0, 0)), (g1, .cells (frcC s1 n1 d1) 34 (0, 0))] (cd n1)) rfl rfl Tw.kr Tw.kr Tw.kf (fun W hW => (rdigits_any n1 hn1 W).mono fun e w2 h => Ans.g h hW) (fun _ _ h => ansG_sub h) Tw.pf ?_
     rintro v6 _ ⟨q6, d6, T6, rfl, C6, H6, F6, J6, rfl⟩
     obtain ⟨dj7_0, dj7_1, dj7_2⟩ : Dk g4 T6 ∧ Dk g2 T6 ∧ Dk g1 T6 := Tw.djf J6
     refine wpV_c (i := 10) (AnsG w ((g4, .cells (frcC false 0 0) 34 (0, 0)) :: (g2, .cells (frcC s2 n2 d2) 34 (0, 0)) :: (g1, .cells (frcC s1 n1 d1) 34 (0, 0)) :: T6) (cd n2)) rfl rfl Tw.kr Tw.kr Tw.kf (fun W hW => (rdigits_any n2 hn2 W).mono fun e w2 h => Ans.g h hW) (fun _ _ h => ansG_sub h) Tw.pf ?_
     rintro v8 _ ⟨q8, d8, T8, rfl, C8, H8, F8, J8, rfl⟩
     obtain ⟨dj9_0, dj9_1, dj9_2, dj9_3⟩ : Dk g4 T8 ∧ Dk g2 T8 ∧ Dk g1 T8 ∧ Dj T6 T8 := Tw.djf J8
     have ln10 : (cd n1).length ≤ 16 := cd_16 hn1
     have ln11 : (cd n2).length ≤ 16 := cd_16 hn2
     refine wpV_c (i := 11) (AnsG w ((g4, .cells (frcC false 0 0) 34 (0, 0)) :: (g2, .cells (frcC s2 n2 d2) 34 (0, 0)) :: (g1, .cells (frcC s1 n1 d1) 34 (0, 0)) :: (T6 ++ T8)) (cd (n1 * n2))) rfl rfl Tw.kr Tw.kr Tw.kf (fun W hW => (rmul_any n1 n2 q6 q8 d6 d8 Tw.om Tw.om W ((H6.mono Tw.sb) W hW) ((H8.mono Tw.sb) W hW)).mono fun e w2 h => Ans.g h hW) (fun _ _ h => ansG_sub h) Tw.pf ?_
     rintro v12 _ ⟨q12, d12, T12, rfl, C12, H12, F12, J12, rfl⟩
     obtain ⟨dj13_0, dj13_1, dj13_2, dj13_3, dj13_4⟩ : Dk g4 T12 ∧ Dk g2 T12 ∧ Dk g1 T12 ∧ Dj T6 T12 ∧ Dj T8 T12 := Tw.djf J12
     have ln14 : (cd (n1 * n2)).length ≤ 32 := Nat.le_trans (cd_mul_len n1 n2) (by have := cd_16 hn1; have := cd_16 hn2; omega)
     refine wpV_c (i := 14) (AnsG w ((g4, .cells (frcC false 0 0) 34 (0, 0)) :: (g2, .cells (frcC s2 n2 d2) 34 (0, 0)) :: (g1, .cells (frcC s1 n1 d1) 34 (0, 0)) :: ((T6 ++ T8) ++ T12)) (cd d1)) rfl rfl Tw.kr Tw.kr Tw.kf (fun W hW => (rdigits_any d1 hd1 W).mono fun e w2 h => Ans.g h hW) (fun _ _ h => ansG_sub h) Tw.pf ?_
     rintro v15 _ ⟨q15, d15, T15, rfl, C15, H15, F15, J15, rfl⟩
     obtain ⟨dj16_0, dj16_1, dj16_2, dj16_3, dj16_4, dj16_5⟩ : Dk g4 T15 ∧ Dk g2 T15 ∧ Dk g1 T15 ∧ Dj T6 T15 ∧ Dj T8 T15 ∧ Dj T12 T15 := Tw.djf J15
     refine wpV_c (i := 17) (AnsG w ((g4, .cells (frcC false 0 0) 34 (0, 0)) :: (g2, .cells (frcC s2 n2 d2) 34 (0, 0)) :: (g1, .cells (frcC s1 n1 d1) 34 (0, 0)) :: (((T6 ++ T8) ++ T12) ++ T15)) (cd d2)) rfl rfl Tw.kr Tw.kr Tw.kf (fun W hW => (rdigits_any d2 hd2 W).mono fun e w2 h => Ans.g h hW) (fun _ _ h => ansG_sub h) Tw.pf ?_
     rintro v17 _ ⟨q17, d17, T17, rfl, C17, H17, F17, J17, rfl⟩
     obtain ⟨dj18_0, dj18_1, dj18_2, dj18_3, dj18_4, dj18_5, dj18_6⟩ : Dk g4 T17 ∧ Dk g2 T17 ∧ Dk g1 T17 ∧ Dj T6 T17 ∧ Dj T8 T17 ∧ Dj T12 T17 ∧ Dj T15 T17 := Tw.djf J17
     have ln19 : (cd d1).length ≤ 16 := cd_16 hd1
     have ln20 : (cd d2).length ≤ 16 := cd_16 hd2
     refine wpV_c (i := 18) (AnsG w ((g4, .cells (frcC false 0 0) 34 (0, 0)) :: (g2, .cells (frcC s2 n2 d2) 34 (0, 0)) :: (g1, .cells (frcC s1 n1 d1) 34 (0, 0)) :: ((((T6 ++ T8) ++ T12) ++ T15) ++ T17)) (cd (d1 * d2))) rfl rfl Tw.kr Tw.kr Tw.kf (fun W hW => (rmul_any d1 d2 q15 q17 d15 d17 Tw.om Tw.om W ((H15.mono Tw.sb) W hW) ((H17.mono Tw.sb) W hW)).mono fun e w2 h => Ans.g h hW) (fun _ _ h => ansG_sub h) Tw.pf ?_
     rintro v21 _ ⟨q21, d21, T21, rfl, C21, H21, F21, J21, rfl⟩
     obtain ⟨dj22_0, dj22_1, dj22_2, dj22_3, dj22_4, dj22_5, dj22_6, dj22_7⟩ : Dk g4 T21 ∧ Dk g2 T21 ∧ Dk g1 T21 ∧ Dj T6 T21 ∧ Dj T8 T21 ∧ Dj T12 T21 ∧ Dj T15 T21 ∧ Dj T17 T21 := Tw.djf J21
     have ln23 : (cd (d1 * d2)).length ≤ 32 := Nat.le_trans (cd_mul_len d1 d2) (by have := cd_16 hd1; have := cd_16 hd2; omega)
     obtain ⟨sv24, nv24, dv24, ev24, hpv24⟩ := packV_shape (qs1 != qs2) ((n1 * n2) / Nat.gcd (n1 * n2) (d1 * d2)) ((d1 * d2) / Nat.gcd (n1 * n2) (d1 * d2))
     refine vv (i := 19) (v := .tuple #[.agg (frcC sv24 nv24 dv24), .int .i64 ev24]) rfl rfl rfl (yb_call (f := 45) (args := #[.bool (qs1 != qs2), .slice q12 ((cd (n1 * n2)).length) d12, .slice q21 ((cd (d1 * d2)).length) d21]) Tw.kf fun W hW => hpv24 ▸ make0_any (qs1 != qs2) (n1 * n2) (d1 * d2) q12 q21 d12 d21 (Nat.mul_pos (right_den h1) (right_den h2)) Tw.om Tw.om C12 C21 W ((H12.mono Tw.sb) W hW) ((H21.mono Tw.sb) W hW)) ?_
     refine vm (i := 20) (v := .agg (frcC sv24 nv24 dv24)) rfl rfl rfl ?_
     refine vm (i := 21) (v := .int .i64 ev24) rfl rfl rfl ?_
     refine wpV_s ((g4, .cells (frcC sv24 nv24 dv24) 34 (0, 0)) :: (g2, .cells (frcC s2 n2 d2) 34 (0, 0)) :: (g1, .cells (frcC s1 n1 d1) 34 (0, 0)) :: (((((T6 ++ T8) ++ T12) ++ T15) ++ T17) ++ T21)) (i := 22) rfl Tw.kr rfl rfl rfl (st_all zfz (by exact frc_onec) rfl Tw.kr Tw.kr Tw.m0 Bg4 zfs (List.forall_mem_cons.2 ⟨.inl rfl, (List.forall_mem_cons.2 ⟨.inr ⟨Tw.m1, Tw.nee⟩, (List.forall_mem_cons.2 ⟨.inr ⟨Tw.m2, Tw.nee⟩, (fun p hp => .inr ⟨(.tail _ (.tail _ (.tail _ hp))), ((show Dk g4 (((((T6 ++ T8) ++ T12) ++ T15) ++ T17) ++ T21) from Tw.djt) _ hp)⟩)⟩)⟩)⟩)) ?_
     refine vm (i := 23) (v := .int .i64 ev24) rfl rfl rfl ?_
     refine wpV_done Tw.kr (fun W6 hW6 => ?_) _
     change Code.wp ..
     refine wp_ret ?_
     try simp only [inBlock_ret, then_ret]
     refine bodyPost_ret (v := .tuple #[.agg (frcC sv24 nv24 dv24), .int .i64 ev24]) ?_ rfl ?_
     · exact (res_cell_tmp (p := 4) (q := 5) rfl rfl (hW6.2 _ Tw.m0) Tryz.underlying34 rfl zfs)
     · exact ⟨(ret_v (hpv24.symm.trans (by rw [hV, if_pos (by rw [h1, h2]; rfl), ← mul_norm h1 h2, hqs1, hqs2]))), hW6.1⟩
set_option maxRecDepth 100000 in
set_option maxHeartbeats 20000000 in
theorem RDiv_any (s1 s2 : Bool) (n1 d1 n2 d2 : Nat) (hn1 : n1 < R 8) (hd1 : d1 < R 8) (hn2 : n2 < R 8) (hd2 : d2 < R 8) (w : World) : Calls Tryz.prog 25 #[.agg (frcC s1 n1 d1), .agg (frcC s2 n2 d2)] w fun e w' => e = .returned (if rightB s1 n1 d1 = true ∧ rightB s2 n2 d2 = true ∧ n2 ≠ 0 then mulV s1 n1 d1 s2 d2 n2 else argV) ∧ Below w.heap.size w w' := by
 obtain ⟨V, hV⟩ : ∃ V : Value, V = (if rightB s1 n1 d1 = true ∧ rightB s2 n2 d2 = true ∧ n2 ≠ 0 then mulV s1 n1 d1 s2 d2 n2 else argV) := ⟨_, rfl⟩
 rw [← hV]
 go_enter Tryz.func25, Tryz.ntmps25
 refine wp_seq ?_
 refine wp_region_L [] (KS.start w) ?_
 refine wpL_new (fun g => .pointer (some ⟨g, 0, none⟩)) (obi := .cells (frcC s1 n1 d1) 34 (0, 0)) rfl rfl Tw.kf Tw.pf fun g1 Bg1 Fg1 => ?_
 refine wpL_new (fun g => .pointer (some ⟨g, 0, none⟩)) (obi := .cells (frcC s2 n2 d2) 34 (0, 0)) rfl rfl Tw.kf Tw.pf fun g2 Bg2 Fg2 => ?_
 obtain dj3_0 : g1 ≠ g2 := Tw.dkf Fg2
 refine wpL_new (fun g => .pointer (some ⟨g, 0, none⟩)) (obi := .cells (frcC false 0 0) 34 (0, 0)) rfl rfl Tw.kf Tw.pf fun g4 Bg4 Fg4 => ?_
 obtain ⟨dj5_0, dj5_1⟩ : g2 ≠ g4 ∧ g1 ≠ g4 := Tw.dkf Fg4
 refine Tw.mm (.int .i64 0) ?_
 refine wpL_done (fun W1 hW1 => ?_)
 change Code.wp ..
 refine wp_seq ?_
 refine wp_seq ?_
 refine wp_region_L _ hW1 ?_
 refine Tw.lv (v := .agg (frcC s1 n1 d1)) rfl rfl (yb_all rfl Tw.kr Tw.m2 Tryz.underlying34 rfl zfs) ?_
 refine Tw.lv (v := .bool (rightB s1 n1 d1)) rfl rfl (yb_call (f := 18) (args := #[.agg (frcC s1 n1 d1)]) Tw.kf fun W hW => rright_any s1 n1 d1 hn1 hd1 W) ?_
 refine Tw.lp (v := .bool (!(rightB s1 n1 d1))) rfl rfl (run_un rfl Tw.kr fun w => un_not w) ?_
 refine Tw.mm (.bool (!(rightB s1 n1 d1))) ?_
 cases h1 : (rightB s1 n1 d1) with
 | false =>
   refine Tw.ln rfl ?_
   refine Tw.ln rfl ?_
   refine Tw.ln rfl ?_
   refine Tw.mm (.bool true) ?_
   refine Tw.mm (.bool true) ?_
   refine Tw.ln rfl ?_
   refine Tw.ln rfl ?_
   refine Tw.ln rfl ?_
   refine Tw.ln rfl ?_
   refine Tw.ln rfl ?_
   refine Tw.mm (.bool true) ?_
   refine wpL_done (fun W2 hW2 => ?_)
   change Code.wp ..
   refine wp_cond_true rfl ?_
   refine wp_seq ?_
   refine wp_region_L _ hW2 ?_
   refine Tw.mm (.agg (frcC false 0 0)) ?_
   refine wpL_s [(g4, .cells (frcC false 0 0) 34 (0, 0)), (g2, .cells (frcC s2 n2 d2) 34 (0, 0)), (g1, .cells (frcC s1 n1 d1) 34 (0, 0))] rfl rfl (st_all zfz (by exact frc_onec) rfl Tw.kr Tw.kr Tw.m0 Bg4 zfs (List.forall_mem_cons.2 ⟨.inl rfl, (List.forall_mem_cons.2 ⟨.inr ⟨Tw.m1, Tw.nee⟩, (List.forall_mem_cons.2 ⟨.inr ⟨Tw.m2, Tw.nee⟩, (List.forall_mem_nil _)⟩)⟩)⟩)) ?_
   refine Tw.mm (.int .i64 2) ?_
   refine wpL_done (fun W3 hW3 => ?_)
   change Code.wp ..
   refine wp_ret ?_
   try simp only [inBlock_ret, then_ret]
   refine bodyPost_ret (v := .tuple #[.agg (frcC false 0 0), .int .i64 2]) ?_ rfl ?_
   · exact (res_cell_tmp (p := 4) (q := 5) rfl rfl (hW3.2 _ Tw.m0) Tryz.underlying34 rfl zfs)
   · exact ⟨(ret_v (by rw [hV, if_neg (fun h => by rw [h1] at h; cases h.1)]; rfl)), hW3.1⟩
 | true =>
   refine Tw.lv (v := .agg (frcC s2 n2 d2)) rfl rfl (yb_all rfl Tw.kr Tw.m1 Tryz.underlying34 rfl zfs) ?_
   refine Tw.lv (v := .bool (rightB s2 n2 d2)) rfl rfl (yb_call (f := 18) (args := #[.agg (frcC s2 n2 d2)]) Tw.kf fun W hW => rright_any s2 n2 d2 hn2 hd2 W) ?_
   refine Tw.lp (v := .bool (!(rightB s2 n2 d2))) rfl rfl (run_un rfl Tw.kr fun w => un_not w) ?_
   refine Tw.mm (.bool (!(rightB s2 n2 d2))) ?_
   refine Tw.mm (.bool (!(rightB s2 n2 d2))) ?_
   cases h2 : (rightB s2 n2 d2) with
   | false =>
     refine Tw.ln rfl ?_
     refine Tw.ln rfl ?_
     refine Tw.ln rfl ?_
     refine Tw.ln rfl ?_
     refine Tw.ln rfl ?_
     refine Tw.mm (.bool true) ?_
     refine wpL_done (fun W4 hW4 => ?_)
     change Code.wp ..
     refine wp_cond_true rfl ?_
     refine wp_seq ?_
     refine wp_region_L _ hW4 ?_
     refine Tw.mm (.agg (frcC false 0 0)) ?_
     refine wpL_s [(g4, .cells (frcC false 0 0) 34 (0, 0)), (g2, .cells (frcC s2 n2 d2) 34 (0, 0)), (g1, .cells (frcC s1 n1 d1) 34 (0, 0))] rfl rfl (st_all zfz (by exact frc_onec) rfl Tw.kr Tw.kr Tw.m0 Bg4 zfs (List.forall_mem_cons.2 ⟨.inl rfl, (List.forall_mem_cons.2 ⟨.inr ⟨Tw.m1, Tw.nee⟩, (List.forall_mem_cons.2 ⟨.inr ⟨Tw.m2, Tw.nee⟩, (List.forall_mem_nil _)⟩)⟩)⟩)) ?_
     refine Tw.mm (.int .i64 2) ?_
     refine wpL_done (fun W5 hW5 => ?_)
     change Code.wp ..
     refine wp_ret ?_
     try simp only [inBlock_ret, then_ret]
     refine bodyPost_ret (v := .tuple #[.agg (frcC false 0 0), .int .i64 2]) ?_ rfl ?_
     · exact (res_cell_tmp (p := 4) (q := 5) rfl rfl (hW5.2 _ Tw.m0) Tryz.underlying34 rfl zfs)
     · exact ⟨(ret_v (by rw [hV, if_neg (fun h => by rw [h2] at h; cases h.2.1)]; rfl)), hW5.1⟩
   | true =>
     refine Tw.mm (.pointer (some ⟨g2, 1, none⟩)) ?_
     refine Tw.lv (v := .agg (fa 8 (dg n2))) rfl rfl (yb_fnum (s := s2) (n := n2) (d := d2) rfl Tw.kr Tw.m1 Tryz.underlying23 rfl Tw.kr) ?_
     refine wpL_c (f := 43) (args := #[.agg (fa 8 (dg n2))]) (AnsG w [(g4, .cells (frcC false 0 0) 34 (0, 0)), (g2, .cells (frcC s2 n2 d2) 34 (0, 0)), (g1, .cells (frcC s1 n1 d1) 34 (0, 0))] (cd n2)) rfl Tw.kr Tw.kf (fun W hW => (rdigits_any n2 hn2 W).mono fun e w2 h => Ans.g h hW) Tw.pf ?_
     rintro v6 _ ⟨q6, d6, T6, rfl, C6, H6, F6, J6, rfl⟩
     obtain ⟨dj7_0, dj7_1, dj7_2⟩ : Dk g4 T6 ∧ Dk g2 T6 ∧ Dk g1 T6 := Tw.djf J6
     refine Tw.lp (v := .int .i64 ((((cd n2).length) : Nat) : Int)) rfl rfl (run_lenL (p := q6) (cap := d6) (n := ((cd n2).length)) rfl Tryz.underlying32 Tw.kr) ?_
     refine Tw.lp (v := .bool (decide (((cd n2).length) = 0))) rfl rfl (run_bin rfl (vx := (.int .i64 ((((cd n2).length) : Nat) : Int))) (vy := (.int .i64 ((0 : Nat) : Int))) Tw.kr Tw.kr fun w => bn_eql rfl w) ?_
     refine Tw.mm (.bool (decide (((cd n2).length) = 0))) ?_
     refine wpL_done (fun W6 hW6 => ?_)
     change Code.wp ..
     cases hd3 : (decide (((cd n2).length) = 0)) with
     | false =>
       have h3 : ¬ (((cd n2).length) = 0) := of_decide_eq_false hd3
       clear hd3
       refine wp_cond_false rfl ?_
       refine wp_skip ?_
       change Code.wp ..
       refine wp_seq ?_
       refine wp_region_V _ Tw.kr hW6 ?_
       refine vm (i := 0) (v := .pointer (some ⟨g1, 0, none⟩)) rfl rfl rfl ?_
       obtain ⟨qs1, hqs1⟩ : ∃ b, b = s1 := ⟨_, rfl⟩
       refine vv (i := 1) (v := .bool qs1) rfl rfl rfl (yb_cell (off := 0) rfl Tw.kr Tw.m2 Tryz.underlying4 rfl (frc_negq hqs1)) ?_
       refine vm (i := 2) (v := .pointer (some ⟨g2, 0, none⟩)) rfl rfl rfl ?_
       obtain ⟨qs2, hqs2⟩ : ∃ b, b = s2 := ⟨_, rfl⟩
       refine vv (i := 3) (v := .bool qs2) rfl rfl rfl (yb_cell (off := 0) rfl Tw.kr Tw.m1 Tryz.underlying4 rfl (frc_negq hqs2)) ?_
       refine vp (i := 4) (v := .bool (qs1 != qs2)) rfl rfl rfl (run_bin rfl (vx := .bool qs1) (vy := .bool qs2) Tw.kr Tw.kr fun w => bb_neq2 w) ?_
       refine vm (i := 5) (v := .pointer (some ⟨g1, 1, none⟩)) rfl rfl rfl ?_
       refine vv (i := 6) (v := .agg (fa 8 (dg n1))) rfl rfl rfl (yb_fnum (s := s1) (n := n1) (d := d1) rfl Tw.kr Tw.m2 Tryz.underlying23 rfl Tw.kr) ?_
       refine vm (i := 8) (v := .pointer (some ⟨g2, 9, none⟩)) rfl rfl rfl ?_
       refine vv (i := 9) (v := .agg (fa 8 (dg d2))) rfl rfl rfl (yb_fden (s := s2) (n := n2) (d := d2) rfl Tw.kr Tw.m1 Tryz.underlying23 rfl Tw.kr) ?_
       refine vm (i := 12) (v := .pointer (some ⟨g1, 9, none⟩)) rfl rfl rfl ?_
       refine vv (i := 13) (v := .agg (fa 8 (dg d1))) rfl rfl rfl (yb_fden (s := s1) (n := n1) (d := d1) rfl Tw.kr Tw.m2 Tryz.underlying23 rfl Tw.kr) ?_
       refine vm (i := 15) (v := .pointer (some ⟨g2, 1, none⟩)) rfl rfl rfl ?_
       refine vv (i := 16) (v := .agg (fa 8 (dg n2))) rfl rfl rfl (yb_fnum (s := s2) (n := n2) (d := d2) rfl Tw.kr Tw.m1 Tryz.underlying23 rfl Tw.kr) ?_
       refine wpV_c (i := 7) (AnsG w ((g4, .cells (frcC false 0 0) 34 (0, 0)) :: (g2, .cells (frcC s2 n2 d2) 34 (0, 0)) :: (g1, .cells (frcC s1 n1 d1) 34 (0, 0)) :: T6) (cd n1)) rfl rfl Tw.kr Tw.kr Tw.kf (fun W hW => (rdigits_any n1 hn1 W).mono fun e w2 h => Ans.g h hW) (fun _ _ h => ansG_sub h) Tw.pf ?_
       rintro v8 _ ⟨q8, d8, T8, rfl, C8, H8, F8, J8, rfl⟩
       obtain ⟨dj9_0, dj9_1, dj9_2, dj9_3⟩ : Dk g4 T8 ∧ Dk g2 T8 ∧ Dk g1 T8 ∧ Dj T6 T8 := Tw.djf J8
       refine wpV_c (i := 10) (AnsG w ((g4, .cells (frcC false 0 0) 34 (0, 0)) :: (g2, .cells (frcC s2 n2 d2) 34 (0, 0)) :: (g1, .cells (frcC s1 n1 d1) 34 (0, 0)) :: (T6 ++ T8)) (cd d2)) rfl rfl Tw.kr Tw.kr Tw.kf (fun W hW => (rdigits_any d2 hd2 W).mono fun e w2 h => Ans.g h hW) (fun _ _ h => ansG_sub h) Tw.pf ?_
       rintro v10 _ ⟨q10, d10, T10, rfl, C10, H10, F10, J10, rfl⟩
       obtain ⟨dj11_0, dj11_1, dj11_2, dj11_3, dj11_4⟩ : Dk g4 T10 ∧ Dk g2 T10 ∧ Dk g1 T10 ∧ Dj T6 T10 ∧ Dj T8 T10 := Tw.djf J10
       have ln12 : (cd n1).length ≤ 16 := cd_16 hn1
       have ln13 : (cd d2).length ≤ 16 := cd_16 hd2
       refine wpV_c (i := 11) (AnsG w ((g4, .cells (frcC false 0 0) 34 (0, 0)) :: (g2, .cells (frcC s2 n2 d2) 34 (0, 0)) :: (g1, .cells (frcC s1 n1 d1) 34 (0, 0)) :: ((T6 ++ T8) ++ T10)) (cd (n1 * d2))) rfl rfl Tw.kr Tw.kr Tw.kf (fun W hW => (rmul_any n1 d2 q8 q10 d8 d10 Tw.om Tw.om W ((H8.mono Tw.sb) W hW) ((H10.mono Tw.sb) W hW)).mono fun e w2 h => Ans.g h hW) (fun _ _ h => ansG_sub h) Tw.pf ?_
       rintro v14 _ ⟨q14, d14, T14, rfl, C14, H14, F14, J14, rfl⟩
       obtain ⟨dj15_0, dj15_1, dj15_2, dj15_3, dj15_4, dj15_5⟩ : Dk g4 T14 ∧ Dk g2 T14 ∧ Dk g1 T14 ∧ Dj T6 T14 ∧ Dj T8 T14 ∧ Dj T10 T14 := Tw.djf J14
       have ln16 : (cd (n1 * d2)).length ≤ 32 := Nat.le_trans (cd_mul_len n1 d2) (by have := cd_16 hn1; have := cd_16 hd2; omega)
       refine wpV_c (i := 14) (AnsG w ((g4, .cells (frcC false 0 0) 34 (0, 0)) :: (g2, .cells (frcC s2 n2 d2) 34 (0, 0)) :: (g1, .cells (frcC s1 n1 d1) 34 (0, 0)) :: (((T6 ++ T8) ++ T10) ++ T14)) (cd d1)) rfl rfl Tw.kr Tw.kr Tw.kf (fun W hW => (rdigits_any d1 hd1 W).mono fun e w2 h => Ans.g h hW) (fun _ _ h => ansG_sub h) Tw.pf ?_
       rintro v17 _ ⟨q17, d17, T17, rfl, C17, H17, F17, J17, rfl⟩
       obtain ⟨dj18_0, dj18_1, dj18_2, dj18_3, dj18_4, dj18_5, dj18_6⟩ : Dk g4 T17 ∧ Dk g2 T17 ∧ Dk g1 T17 ∧ Dj T6 T17 ∧ Dj T8 T17 ∧ Dj T10 T17 ∧ Dj T14 T17 := Tw.djf J17
       refine wpV_c (i := 17) (AnsG w ((g4, .cells (frcC false 0 0) 34 (0, 0)) :: (g2, .cells (frcC s2 n2 d2) 34 (0, 0)) :: (g1, .cells (frcC s1 n1 d1) 34 (0, 0)) :: ((((T6 ++ T8) ++ T10) ++ T14) ++ T17)) (cd n2)) rfl rfl Tw.kr Tw.kr Tw.kf (fun W hW => (rdigits_any n2 hn2 W).mono fun e w2 h => Ans.g h hW) (fun _ _ h => ansG_sub h) Tw.pf ?_
       rintro v19 _ ⟨q19, d19, T19, rfl, C19, H19, F19, J19, rfl⟩
       obtain ⟨dj20_0, dj20_1, dj20_2, dj20_3, dj20_4, dj20_5, dj20_6, dj20_7⟩ : Dk g4 T19 ∧ Dk g2 T19 ∧ Dk g1 T19 ∧ Dj T6 T19 ∧ Dj T8 T19 ∧ Dj T10 T19 ∧ Dj T14 T19 ∧ Dj T17 T19 := Tw.djf J19
       have ln21 : (cd d1).length ≤ 16 := cd_16 hd1
       have ln22 : (cd n2).length ≤ 16 := cd_16 hn2
       refine wpV_c (i := 18) (AnsG w ((g4, .cells (frcC false 0 0) 34 (0, 0)) :: (g2, .cells (frcC s2 n2 d2) 34 (0, 0)) :: (g1, .cells (frcC s1 n1 d1) 34 (0, 0)) :: (((((T6 ++ T8) ++ T10) ++ T14) ++ T17) ++ T19)) (cd (d1 * n2))) rfl rfl Tw.kr Tw.kr Tw.kf (fun W hW => (rmul_any d1 n2 q17 q19 d17 d19 Tw.om Tw.om W ((H17.mono Tw.sb) W hW) ((H19.mono Tw.sb) W hW)).mono fun e w2 h => Ans.g h hW) (fun _ _ h => ansG_sub h) Tw.pf ?_
       rintro v23 _ ⟨q23, d23, T23, rfl, C23, H23, F23, J23, rfl⟩
       obtain ⟨dj24_0, dj24_1, dj24_2, dj24_3, dj24_4, dj24_5, dj24_6, dj24_7, dj24_8⟩ : Dk g4 T23 ∧ Dk g2 T23 ∧ Dk g1 T23 ∧ Dj T6 T23 ∧ Dj T8 T23 ∧ Dj T10 T23 ∧ Dj T14 T23 ∧ Dj T17 T23 ∧ Dj T19 T23 := Tw.djf J23
       have ln25 : (cd (d1 * n2)).length ≤ 32 := Nat.le_trans (cd_mul_len d1 n2) (by have := cd_16 hd1; have := cd_16 hn2; omega)
       obtain ⟨sv26, nv26, dv26, ev26, hpv26⟩ := packV_shape (qs1 != qs2) ((n1 * d2) / Nat.gcd (n1 * d2) (d1 * n2)) ((d1 * n2) / Nat.gcd (n1 * d2) (d1 * n2))
       refine vv (i := 19) (v := .tuple #[.agg (frcC sv26 nv26 dv26), .int .i64 ev26]) rfl rfl rfl (yb_call (f := 45) (args := #[.bool (qs1 != qs2), .slice q14 ((cd (n1 * d2)).length) d14, .slice q23 ((cd (d1 * n2)).length) d23]) Tw.kf fun W hW => hpv26 ▸ make0_any (qs1 != qs2) (n1 * d2) (d1 * n2) q14 q23 d14 d23 (Nat.mul_pos (right_den h1) (Nat.pos_of_ne_zero (fun h => h3 (cd_len0.2 h)))) Tw.om Tw.om C14 C23 W ((H14.mono Tw.sb) W hW) ((H23.mono Tw.sb) W hW)) ?_
       refine vm (i := 20) (v := .agg (frcC sv26 nv26 dv26)) rfl rfl rfl ?_
       refine vm (i := 21) (v := .int .i64 ev26) rfl rfl rfl ?_
       refine wpV_s ((g4, .cells (frcC sv26 nv26 dv26) 34 (0, 0)) :: (g2, .cells (frcC s2 n2 d2) 34 (0, 0)) :: (g1, .cells (frcC s1 n1 d1) 34 (0, 0)) :: ((((((T6 ++ T8) ++ T10) ++ T14) ++ T17) ++ T19) ++ T23)) (i := 22) rfl Tw.kr rfl rfl rfl (st_all zfz (by exact frc_onec) rfl Tw.kr Tw.kr Tw.m0 Bg4 zfs (List.forall_mem_cons.2 ⟨.inl rfl, (List.forall_mem_cons.2 ⟨.inr ⟨Tw.m1, Tw.nee⟩, (List.forall_mem_cons.2 ⟨.inr ⟨Tw.m2, Tw.nee⟩, (fun p hp => .inr ⟨(.tail _ (.tail _ (.tail _ hp))), ((show Dk g4 ((((((T6 ++ T8) ++ T10) ++ T14) ++ T17) ++ T19) ++ T23) from Tw.djt) _ hp)⟩)⟩)⟩)⟩)) ?_
       refine vm (i := 23) (v := .int .i64 ev26) rfl rfl rfl ?_
       refine wpV_done Tw.kr (fun W7 hW7 => ?_) _
       change Code.wp ..
       refine wp_ret ?_
       try simp only [inBlock_ret, then_ret]
       refine bodyPost_ret (v := .tuple #[.agg (frcC sv26 nv26 dv26), .int .i64 ev26]) ?_ rfl ?_
       · exact (res_cell_tmp (p := 4) (q := 5) rfl rfl (hW7.2 _ Tw.m0) Tryz.underlying34 rfl zfs)
       · exact ⟨(ret_v (hpv26.symm.trans (by rw [hV, if_pos ⟨h1, h2, (fun h => h3 (cd_len0.2 h))⟩, ← div_norm h1 h2 (fun h => h3 (cd_len0.2 h)), hqs1, hqs2]))), hW7.1⟩
     | true =>
       have h3 : ((cd n2).length) = 0 := of_decide_eq_true hd3
       clear hd3
       refine wp_cond_true rfl ?_
       refine wp_seq ?_
       refine wp_region_L _ hW6 ?_
       refine Tw.mm (.agg (frcC false 0 0)) ?_
       refine wpL_s ((g4, .cells (frcC false 0 0) 34 (0, 0)) :: (g2, .cells (frcC s2 n2 d2) 34 (0, 0)) :: (g1, .cells (frcC s1 n1 d1) 34 (0, 0)) :: T6) rfl rfl (st_all zfz (by exact frc_onec) rfl Tw.kr Tw.kr Tw.m0 Bg4 zfs (List.forall_mem_cons.2 ⟨.inl rfl, (List.forall_mem_cons.2 ⟨.inr ⟨Tw.m1, Tw.nee⟩, (List.forall_mem_cons.2 ⟨.inr ⟨Tw.m2, Tw.nee⟩, (fun p hp => .inr ⟨(.tail _ (.tail _ (.tail _ hp))), ((show Dk g4 T6 from Tw.djt) _ hp)⟩)⟩)⟩)⟩)) ?_
       refine Tw.mm (.int .i64 2) ?_
       refine wpL_done (fun W8 hW8 => ?_)
       change Code.wp ..
       refine wp_ret ?_
       try simp only [inBlock_ret, then_ret]
       refine bodyPost_ret (v := .tuple #[.agg (frcC false 0 0), .int .i64 2]) ?_ rfl ?_
       · exact (res_cell_tmp (p := 4) (q := 5) rfl rfl (hW8.2 _ Tw.m0) Tryz.underlying34 rfl zfs)
       · exact ⟨(ret_v (by rw [hV, if_neg (fun h => h.2.2 (cd_len0.1 h3))]; rfl)), hW8.1⟩
end Go.Proofs.YtalmflgkbmnghaaGreatDoor
namespace Go.Proofs.YtalmflgkbmnghaaGreatDoor
open Go Go.RowKit Tw
open Tf (dg R R_pos R_le R_succ dg_of_lt setd setd_eq)
variable [ShLZ]
theorem cmp_ret2 {a b : Int} (h : a = b) : Value.tuple #[.int .i64 a, .int .i64 0] = .tuple #[.int .i64 b, .int .i64 0] := by rw [h]
theorem cd_limit : cd 9223372036854775808 = [0, 0, 0, 32768] := by
 rw [cd_pos (by decide), cd_pos (by decide), cd_pos (by decide), cd_pos (by decide), show 9223372036854775808 / 65536 / 65536 / 65536 / 65536 = 0 from by decide, cd_zero]
theorem cd_1 : cd 1 = [1] := by rw [cd_pos (by decide), show 1 / 65536 = 0 from by decide, cd_zero]
theorem less_limL (a : Nat) (p q : Option Addr) (c d : Nat) (w : World) (hp : SLV w p (nums (cd a))) (hq : SLV w q (nums [0, 0, 0, 32768])) : Calls Tryz.prog 47 #[.slice q 4 d, .slice p (cd a).length c] w fun e w' => e = .returned (.bool (decide (9223372036854775808 < a))) ∧ Below w.heap.size w w' := by
 have h := less_any 9223372036854775808 a q p d c (by rw [cd_limit]; decide) w (by rw [cd_limit]; exact hq) hp
 rw [cd_limit] at h
 exact h
theorem less_limR (a : Nat) (p q : Option Addr) (c d : Nat) (la : (cd a).length ≤ 4000000000) (w : World) (hp : SLV w p (nums (cd a))) (hq : SLV w q (nums [0, 0, 0, 32768])) : Calls Tryz.prog 47 #[.slice p (cd a).length c, .slice q 4 d] w fun e w' => e = .returned (.bool (decide (a < 9223372036854775808))) ∧ Below w.heap.size w w' := by
 have h := less_any a 9223372036854775808 p q c d la w hp (by rw [cd_limit]; exact hq)
 rw [cd_limit] at h
 exact h
theorem radd_one (a : Nat) (p q : Option Addr) (c d : Nat) (la : (cd a).length ≤ 100000) (w : World) (hp : SLV w p (nums (cd a))) (hq : SLV w q (nums [1])) : Calls Tryz.prog 46 #[.slice p (cd a).length c, .slice q 1 d] w fun e w' => Ans w (cd (a + 1)) e w' := by
 have h := radd_any a 1 p q c d la (by rw [cd_1]; decide) w hp (by rw [cd_1]; exact hq)
 rw [cd_1] at h
 exact h
theorem floor_more {s : Bool} {n d Q : Nat} (hQ : floorQ s n d = Q) (h : 9223372036854775808 < Q ∨ (s = false ∧ ¬ Q < 9223372036854775808)) : floorV s n d = .tuple #[.int .i64 0, .int .i64 3] := by
 unfold floorV
 rw [hQ, if_neg]
 rintro (h1 | ⟨h1, h2⟩)
 · rcases h with h | ⟨_, h⟩ <;> omega
 · rcases h with h | ⟨h, _⟩
   · omega
   · rw [h] at h2; cases h2
theorem floor_less {s : Bool} {n d Q : Nat} (hQ : floorQ s n d = Q) (h : ¬ 9223372036854775808 < Q) (h2 : s = true ∨ Q < 9223372036854775808) : floorV s n d = .tuple #[.int .i64 (Tf.sg s Q), .int .i64 0] := by
 unfold floorV
 rw [hQ, if_pos]
 rcases h2 with h2 | h2
 · rcases Nat.lt_or_ge Q 9223372036854775808 with h3 | h3
   · exact .inl h3
   · exact .inr ⟨by omega, h2⟩
 · exact .inl h2
theorem dv_drop_le (l : List Nat) (i : Nat) (h : i ≤ l.length) : dv (l.drop i) ≤ dv l := by
 have h1 := dv_split l i h
 have h2 : 1 * dv (l.drop i) ≤ 65536 ^ i * dv (l.drop i) := Nat.mul_le_mul_right _ (Nat.pow_pos Tw.om)
 omega
set_option maxRecDepth 100000 in
set_option maxHeartbeats 20000000 in
theorem RFloor_any (s : Bool) (n d : Nat) (hn : n < R 8) (hd : d < R 8) (w : World) : Calls Tryz.prog 29 #[.agg (frcC s n d)] w fun e w' => e = .returned (if rightB s n d = true then floorV s n d else .tuple #[.int .i64 0, .int .i64 2]) ∧ Below w.heap.size w w' := by
 obtain ⟨V, hV⟩ : ∃ V : Value, V = (if rightB s n d = true then floorV s n d else .tuple #[.int .i64 0, .int .i64 2]) := ⟨_, rfl⟩
 rw [← hV]
 have lnn := cd_16 hn
 have lnq : (cd (n / d)).length ≤ 16 := cd_div_len lnn
 go_enter Tryz.func29, Tryz.ntmps29
 refine wp_seq ?_
 refine wp_region_L [] (KS.start w) ?_
 refine wpL_new (fun g => .pointer (some ⟨g, 0, none⟩)) (obi := .cells (frcC s n d) 34 (0, 0)) rfl rfl Tw.kf Tw.pf fun g1 Bg1 Fg1 => ?_
 refine Tw.mm (.int .i64 0) ?_
 refine Tw.mm (.int .i64 0) ?_
 refine wpL_done (fun W1 hW1 => ?_)
 change Code.wp ..
 refine wp_seq ?_
 refine wp_seq ?_
 refine wp_region_L _ hW1 ?_
 refine Tw.lv (v := .agg (frcC s n d)) rfl rfl (yb_all rfl Tw.kr Tw.m0 Tryz.underlying34 rfl zfs) ?_
 refine Tw.lv (v := .bool (rightB s n d)) rfl rfl (yb_call (f := 18) (args := #[.agg (frcC s n d)]) Tw.kf fun W hW => rright_any s n d hn hd W) ?_
 refine Tw.lp (v := .bool (!(rightB s n d))) rfl rfl (run_un rfl Tw.kr fun w => un_not w) ?_
 refine wpL_done (fun W2 hW2 => ?_)
 change Code.wp ..
 cases h1 : (rightB s n d) with
 | false =>
   refine wp_cond_true rfl ?_
   refine wp_seq ?_
   refine wp_region_L _ hW2 ?_
   refine Tw.mm (.int .i64 0) ?_
   refine Tw.mm (.int .i64 2) ?_
   refine wpL_done (fun W3 hW3 => ?_)
   change Code.wp ..
   refine wp_ret ?_
   try simp only [inBlock_ret, then_ret]
   refine bodyPost_ret (v := .tuple #[.int .i64 0, .int .i64 2]) ?_ rfl ?_
   · kernel_rfl
   · exact ⟨(ret_v (by rw [hV, if_neg (fun h => by rw [h1] at h; cases h)])), hW3.1⟩
 | true =>
   refine wp_cond_false rfl ?_
   refine wp_skip ?_
   change Code.wp ..
   refine wp_seq ?_
   refine wp_region_V _ Tw.kr hW2 ?_
   refine vm (i := 0) (v := .pointer (some ⟨g1, 1, none⟩)) rfl rfl rfl ?_
   refine vv (i := 1) (v := .agg (fa 8 (dg n))) rfl rfl rfl (yb_fnum (s := s) (n := n) (d := d) rfl Tw.kr Tw.m0 Tryz.underlying23 rfl Tw.kr) ?_
   refine vm (i := 3) (v := .pointer (some ⟨g1, 9, none⟩)) rfl rfl rfl ?_
   refine vv (i := 4) (v := .agg (fa 8 (dg d))) rfl rfl rfl (yb_fden (s := s) (n := n) (d := d) rfl Tw.kr Tw.m0 Tryz.underlying23 rfl Tw.kr) ?_
   refine wpV_c (i := 2) (AnsG w [(g1, .cells (frcC s n d) 34 (0, 0))] (cd n)) rfl rfl Tw.kr Tw.kr Tw.kf (fun W hW => (rdigits_any n hn W).mono fun e w2 h => Ans.g h hW) (fun _ _ h => ansG_sub h) Tw.pf ?_
   rintro v2 _ ⟨q2, d2, T2, rfl, C2, H2, F2, J2, rfl⟩
   obtain dj3_0 : Dk g1 T2 := Tw.djf J2
   refine wpV_c (i := 5) (AnsG w ((g1, .cells (frcC s n d) 34 (0, 0)) :: T2) (cd d)) rfl rfl Tw.kr Tw.kr Tw.kf (fun W hW => (rdigits_any d hd W).mono fun e w2 h => Ans.g h hW) (fun _ _ h => ansG_sub h) Tw.pf ?_
   rintro v4 _ ⟨q4, d4, T4, rfl, C4, H4, F4, J4, rfl⟩
   obtain ⟨dj5_0, dj5_1⟩ : Dk g1 T4 ∧ Dj T2 T4 := Tw.djf J4
   have ln6 : (cd n).length ≤ 16 := cd_16 hn
   refine wpV_c (i := 6) (AnsW2 w ((g1, .cells (frcC s n d) 34 (0, 0)) :: (T2 ++ T4)) (cd (n / d)) (cd (n % d))) rfl rfl Tw.kr Tw.kr Tw.kf (fun W hW => (div_any n d q2 q4 d2 d4 (right_den h1) Tw.om C2 W ((H2.mono Tw.sb) W hW) ((H4.mono Tw.sb) W hW)).mono fun e w2 h => Ans2.g h hW) (fun _ _ h => ansW2_sub h) Tw.pf ?_
   rintro v7 _ ⟨q7, d7, r7, g7, T7, rfl, C7, E7, H7, G7, rfl⟩
   refine vm (i := 7) (v := .tuple #[.slice q7 ((cd (n / d)).length) d7, .slice r7 ((cd (n % d)).length) g7]) rfl rfl rfl ?_
   refine vm (i := 8) (v := .slice q7 ((cd (n / d)).length) d7) rfl rfl rfl ?_
   refine vm (i := 9) (v := .slice r7 ((cd (n % d)).length) g7) rfl rfl rfl ?_
   refine vm (i := 10) (v := .slice q7 ((cd (n / d)).length) d7) rfl rfl rfl ?_
   refine vm (i := 11) (v := .slice r7 ((cd (n % d)).length) g7) rfl rfl rfl ?_
   refine wpV_done Tw.kr (fun W4 hW4 => ?_) _
   change Code.wp ..
   refine wp_seq ?_
   refine wp_seq ?_
   refine wp_region_L _ hW4 ?_
   refine Tw.mm (.pointer (some ⟨g1, 0, none⟩)) ?_
   obtain ⟨qs, hqs⟩ : ∃ b, b = s := ⟨_, rfl⟩
   refine Tw.lv (v := .bool qs) rfl rfl (yb_cell (off := 0) rfl Tw.kr Tw.m0 Tryz.underlying4 rfl (frc_negq hqs)) ?_
   refine Tw.mm (.bool qs) ?_
   cases h2 : qs with
   | false =>
     refine Tw.ln rfl ?_
     refine Tw.ln rfl ?_
     refine Tw.ln rfl ?_
     refine Tw.mm (.bool false) ?_
     refine wpL_done (fun W5 hW5 => ?_)
     change Code.wp ..
     refine wp_cond_false rfl ?_
     refine wp_skip ?_
     change Code.wp ..
     refine wp_seq ?_
     refine wp_region_L _ hW5 ?_
     refine wpL_new (fun g => .slice (some ⟨g, 0, none⟩) 4 4) (obi := .cells #[.int .i64 0, .int .i64 0, .int .i64 0, .int .i64 32768] 3 (0, 0)) rfl rfl Tw.kf Tw.pf fun g8 Bg8 Fg8 => ?_
     obtain ⟨dj9_0, dj9_1, dj9_2, dj9_3⟩ : g1 ≠ g8 ∧ Dk g8 T2 ∧ Dk g8 T4 ∧ Dk g8 T7 := Tw.dkf Fg8
     refine Tw.mm (.slice (some ⟨g8, 0, none⟩) 4 4) ?_
     refine wpL_done (fun W6 hW6 => ?_)
     change Code.wp ..
     refine wp_seq ?_
     refine wp_seq ?_
     refine wp_region_L _ hW6 ?_
     refine Tw.mm (.slice (some ⟨g8, 0, none⟩) 4 4) ?_
     refine Tw.mm (.slice q7 ((cd (n / d)).length) d7) ?_
     refine Tw.lv (v := .bool (decide (9223372036854775808 < (n / d)))) rfl rfl (yb_call (f := 47) (args := #[.slice (some ⟨g8, 0, none⟩) 4 4, .slice q7 ((cd (n / d)).length) d7]) Tw.kf fun W hW => less_limL (n / d) q7 (some ⟨g8, 0, none⟩) d7 4 W ((H7.mono Tw.sb) W hW) (((show NS (w : Base) (some ⟨g8, 0, none⟩) [0, 0, 0, 32768] [(g8, .cells #[.int .i64 0, .int .i64 0, .int .i64 0, .int .i64 32768] 3 (0, 0))] from ns_blk).mono (fun q hq => by cases List.mem_singleton.1 hq; exact Tw.m0)) W hW)) ?_
     refine Tw.mm (.bool (decide (9223372036854775808 < (n / d)))) ?_
     cases hd3 : (decide (9223372036854775808 < (n / d))) with
     | false =>
       have h3 : ¬ (9223372036854775808 < (n / d)) := of_decide_eq_false hd3
       clear hd3
       refine Tw.mm (.pointer (some ⟨g1, 0, none⟩)) ?_
       refine Tw.lv (v := .bool false) rfl rfl (yb_cell (off := 0) rfl Tw.kr Tw.m1 Tryz.underlying4 rfl (frc_negq (h2.symm.trans hqs))) ?_
       refine Tw.mm (.bool true) ?_
       refine Tw.mm (.bool true) ?_
       refine Tw.mm (.slice q7 ((cd (n / d)).length) d7) ?_
       refine Tw.mm (.slice (some ⟨g8, 0, none⟩) 4 4) ?_
       refine Tw.lv (v := .bool (decide ((n / d) < 9223372036854775808))) rfl rfl (yb_call (f := 47) (args := #[.slice q7 ((cd (n / d)).length) d7, .slice (some ⟨g8, 0, none⟩) 4 4]) Tw.kf fun W hW => less_limR (n / d) q7 (some ⟨g8, 0, none⟩) d7 4 Tw.om W ((H7.mono Tw.sb) W hW) (((show NS (w : Base) (some ⟨g8, 0, none⟩) [0, 0, 0, 32768] [(g8, .cells #[.int .i64 0, .int .i64 0, .int .i64 0, .int .i64 32768] 3 (0, 0))] from ns_blk).mono (fun q hq => by cases List.mem_singleton.1 hq; exact Tw.m0)) W hW)) ?_
       refine Tw.lp (v := .bool (!(decide ((n / d) < 9223372036854775808)))) rfl rfl (run_un rfl Tw.kr fun w => un_not w) ?_
       refine Tw.mm (.bool (!(decide ((n / d) < 9223372036854775808)))) ?_
       refine Tw.mm (.bool (!(decide ((n / d) < 9223372036854775808)))) ?_
       refine wpL_done (fun W7 hW7 => ?_)
       change Code.wp ..
       cases hd4 : (decide ((n / d) < 9223372036854775808)) with
       | false =>
         have h4 : ¬ ((n / d) < 9223372036854775808) := of_decide_eq_false hd4
         clear hd4
         refine wp_cond_true rfl ?_
         refine wp_seq ?_
         refine wp_region_L _ hW7 ?_
         refine Tw.mm (.int .i64 0) ?_
         refine Tw.mm (.int .i64 3) ?_
         refine wpL_done (fun W8 hW8 => ?_)
         change Code.wp ..
         refine wp_ret ?_
         try simp only [inBlock_ret, then_ret]
         refine bodyPost_ret (v := .tuple #[.int .i64 0, .int .i64 3]) ?_ rfl ?_
         · kernel_rfl
         · exact ⟨(ret_v (by have e1 : s = false := hqs.symm.trans h2; subst e1; rw [hV, if_pos h1, floor_more (by unfold floorQ; rw [if_neg (by simp)]) (.inr ⟨rfl, h4⟩)])), hW8.1⟩
       | true =>
         have h4 : (n / d) < 9223372036854775808 := of_decide_eq_true hd4
         clear hd4
         refine wp_cond_false rfl ?_
         refine wp_skip ?_
         change Code.wp ..
         refine wp_seq ?_
         refine wp_region_L _ hW7 ?_
         refine Tw.mm (.int .i64 0) ?_
         refine wpL_done (fun W9 hW9 => ?_)
         change Code.wp ..
         refine wp_seq ?_
         refine wp_seq ?_
         refine wp_region_L _ hW9 ?_
         refine Tw.mm (.slice q7 ((cd (n / d)).length) d7) ?_
         refine Tw.lp (v := .int .i64 ((((cd (n / d)).length) : Nat) : Int)) rfl rfl (run_lenL (p := q7) (cap := d7) (n := ((cd (n / d)).length)) rfl Tryz.underlying32 Tw.kr) ?_
         refine Tw.lp (v := .int .i64 (((((cd (n / d)).length) : Nat) : Int) - 1)) rfl rfl (run_bin rfl (vx := (.int .i64 ((((cd (n / d)).length) : Nat) : Int))) (vy := (.int .i64 ((1 : Nat) : Int))) Tw.kr Tw.kr fun w => bi_sub (z := (((((cd (n / d)).length) : Nat) : Int) - 1)) rfl (wi_i64 Tw.om) w) ?_
         refine Tw.mm (.int .i64 (((((cd (n / d)).length) : Nat) : Int) - 1)) ?_
         refine wpL_done (fun W10 hW10 => ?_)
         change Code.wp ..
         refine wp_block ?_
         go_loopw [8, 7] (fun u8 u7 wr => ∃ (z : Int) (zn : Int) (k m : Nat), (z = (k : Int) - 1) ∧ (zn = ((m : Nat) : Int)) ∧ (k ≤ (cd (n / d)).length) ∧ (m = dv ((cd (n / d)).drop k)) ∧ u8 = .int .i64 z ∧ u7 = .int .i64 zn ∧ KS w ((g8, .cells #[.int .i64 0, .int .i64 0, .int .i64 0, .int .i64 32768] 3 (0, 0)) :: (g1, .cells (frcC s n d) 34 (0, 0)) :: ((T2 ++ T4) ++ T7)) wr) (fun u8 _ _ => (intOf u8 + 1).toNat)
         case atStart => exact ⟨(((((cd (n / d)).length) : Nat) : Int) - 1), 0, (cd (n / d)).length, 0, rfl, Tw.om, (Nat.le_refl _), (drop_big (Nat.le_refl _)).symm, rfl, rfl, (hW10.sub Tw.sb)⟩
         case round =>
           obtain ⟨z, zn, k, m, hz, hzn, hk, hm, rfl, rfl, hL11⟩ := hrel
           refine wp_seq ?_
           refine wp_seq ?_
           refine wp_region_L _ hL11 ?_
           refine Tw.mm (.int .i64 z) ?_
           refine Tw.lp (v := .bool (!(decide (z < 0)))) rfl rfl (run_bin rfl (vx := (.int .i64 z)) (vy := (.int .i64 0)) Tw.kr Tw.kr fun w => bi_geq rfl w) ?_
           refine wpL_done (fun W12 hW12 => ?_)
           change Code.wp ..
           cases hd5 : (decide (z < 0)) with
           | false =>
             have h5 : ¬ (z < 0) := of_decide_eq_false hd5
             clear hd5
             obtain ⟨j, rfl⟩ := Int.eq_ofNat_of_zero_le (show 0 ≤ z by omega)
             obtain rfl : k = j + 1 := by omega
             obtain ⟨x10, hx10⟩ : ∃ xq_, ((cd (n / d)) : List Nat)[j]? = some xq_ := get_ex (show j < ((cd (n / d)) : List Nat).length by omega)
             have lx10 : x10 < 65536 := dOk.at (cd_ok (n / d)) hx10
             have hdj := dv_drop_le (cd (n / d)) j Tw.om
             rw [dv_cd, dv_drop hx10, ← hm] at hdj
             refine wp_cond_true rfl ?_
             refine wp_skip ?_
             change Code.wp ..
             refine wp_seq ?_
             refine wp_block ?_
             refine wp_seq ?_
             refine wp_region_L _ hW12 ?_
             refine Tw.mm (.pointer (some ⟨g1, 0, none⟩)) ?_
             refine Tw.lv (v := .bool false) rfl rfl (yb_cell (off := 0) rfl Tw.kr Tw.m1 Tryz.underlying4 rfl (frc_negq (h2.symm.trans hqs))) ?_
             refine wpL_done (fun W13 hW13 => ?_)
             change Code.wp ..
             refine wp_cond_false rfl ?_
             refine wp_region_L _ hW13 ?_
             refine Tw.mm (.int .i64 zn) ?_
             refine Tw.lp (v := .int .i64 (zn * 65536)) rfl rfl (run_bin rfl (vx := (.int .i64 zn)) (vy := (.int .i64 65536)) Tw.kr Tw.kr fun w => bi_mul (z := (zn * 65536)) rfl (wi_i64 Tw.om) w) ?_
             refine Tw.mm (.slice q7 ((cd (n / d)).length) d7) ?_
             refine Tw.mm (.int .i64 ((j : Nat) : Int)) ?_
             obtain ⟨b11, f11, hp11, hc11⟩ := (H7.mono Tw.sb).at hW13 (k := j) Tw.om
             refine Tw.lp (v := .pointer (some ⟨b11, f11 + j * 1, none⟩)) rfl rfl (run_idxQ (p := q7) (cap := d7) (n := ((cd (n / d)).length)) (j := .i64) (k := j) (sz := 1) rfl Tryz.underlying32 Tw.kr Tw.kr hp11 Tw.kr Tw.om) ?_
             refine Tw.lv (v := .int .i64 ((x10 : Nat) : Int)) rfl rfl (yb_ns (off := f11 + j * 1) rfl Tw.kr (fun W hW => hc11 W (hW.sub Tw.sb) _ _ hx10) Tryz.underlying3 rfl) ?_
             refine Tw.lp (v := .int .i64 ((zn * 65536) + ((x10 : Nat) : Int))) rfl rfl (run_bin rfl (vx := (.int .i64 (zn * 65536))) (vy := (.int .i64 ((x10 : Nat) : Int))) Tw.kr Tw.kr fun w => bi_add (z := ((zn * 65536) + ((x10 : Nat) : Int))) rfl (wi_i64 Tw.om) w) ?_
             refine Tw.mm (.int .i64 ((zn * 65536) + ((x10 : Nat) : Int))) ?_
             refine wpL_done (fun W14 hW14 => ?_)
             change Code.wp ..
             refine wp_region_L _ hW14 ?_
             refine Tw.mm (.int .i64 ((j : Nat) : Int)) ?_
             refine Tw.lp (v := .int .i64 (((j : Nat) : Int) - 1)) rfl rfl (run_bin rfl (vx := (.int .i64 ((j : Nat) : Int))) (vy := (.int .i64 ((1 : Nat) : Int))) Tw.kr Tw.kr fun w => bi_sub (z := (((j : Nat) : Int) - 1)) rfl (wi_i64 Tw.om) w) ?_
             refine Tw.mm (.int .i64 (((j : Nat) : Int) - 1)) ?_
             refine wpL_done (fun W15 hW15 => ?_)
             go_roundw
             case rel =>
               repeat apply Exists.intro
               exact ⟨⟨(((j : Nat) : Int) - 1), ((zn * 65536) + ((x10 : Nat) : Int)), j, (m * 65536 + x10), Tw.om, Tw.om, Tw.om, (by rw [dv_drop hx10, hm]; omega), rfl, rfl, (hW15.sub Tw.sb)⟩, rfl⟩
             case measure => (show (intOf (.int .i64 (((j : Nat) : Int) - 1)) + 1).toNat < (intOf (.int .i64 ((j : Nat) : Int)) + 1).toNat); simp only [intOf]; omega
           | true =>
             have h5 : z < 0 := of_decide_eq_true hd5
             clear hd5
             refine wp_cond_false rfl ?_
             refine wp_exit ?_
             change Code.wp ..
             refine wp_seq ?_
             refine wp_region_L _ hW12 ?_
             refine Tw.mm (.int .i64 zn) ?_
             refine Tw.mm (.int .i64 zn) ?_
             refine Tw.mm (.int .i64 0) ?_
             refine wpL_done (fun W16 hW16 => ?_)
             change Code.wp ..
             refine wp_ret ?_
             try simp only [inBlock_ret, then_ret]
             refine bodyPost_ret (v := .tuple #[.int .i64 zn, .int .i64 0]) ?_ rfl ?_
             · kernel_rfl
             · exact ⟨(ret_v (by have e1 : s = false := hqs.symm.trans h2; subst e1; rw [hV, if_pos h1, floor_less (by unfold floorQ; rw [if_neg (by simp)]) h3 (.inr h4)]; refine cmp_ret2 ?_; rw [show k = 0 from by omega, List.drop_zero, dv_cd] at hm; rw [hzn, hm]; rfl)), hW16.1⟩
     | true =>
       have h3 : 9223372036854775808 < (n / d) := of_decide_eq_true hd3
       clear hd3
       refine Tw.ln rfl ?_
       refine Tw.ln rfl ?_
       refine Tw.ln rfl ?_
       refine Tw.ln rfl ?_
       refine Tw.ln rfl ?_
       refine Tw.ln rfl ?_
       refine Tw.ln rfl ?_
       refine Tw.ln rfl ?_
       refine Tw.ln rfl ?_
       refine Tw.mm (.bool true) ?_
       refine wpL_done (fun W17 hW17 => ?_)
       change Code.wp ..
       refine wp_cond_true rfl ?_
       refine wp_seq ?_
       refine wp_region_L _ hW17 ?_
       refine Tw.mm (.int .i64 0) ?_
       refine Tw.mm (.int .i64 3) ?_
       refine wpL_done (fun W18 hW18 => ?_)
       change Code.wp ..
       refine wp_ret ?_
       try simp only [inBlock_ret, then_ret]
       refine bodyPost_ret (v := .tuple #[.int .i64 0, .int .i64 3]) ?_ rfl ?_
       · kernel_rfl
       · exact ⟨(ret_v (by have e1 : s = false := hqs.symm.trans h2; subst e1; rw [hV, if_pos h1, floor_more (by unfold floorQ; rw [if_neg (by simp)]) (.inl h3)])), hW18.1⟩
   | true =>
     refine Tw.mm (.slice r7 ((cd (n % d)).length) g7) ?_
     refine Tw.lp (v := .int .i64 ((((cd (n % d)).length) : Nat) : Int)) rfl rfl (run_lenL (p := r7) (cap := g7) (n := ((cd (n % d)).length)) rfl Tryz.underlying32 Tw.kr) ?_
     refine Tw.lp (v := .bool (decide (0 < ((cd (n % d)).length)))) rfl rfl (run_bin rfl (vx := (.int .i64 ((((cd (n % d)).length) : Nat) : Int))) (vy := (.int .i64 ((0 : Nat) : Int))) Tw.kr Tw.kr fun w => bn_gtr rfl w) ?_
     refine Tw.mm (.bool (decide (0 < ((cd (n % d)).length)))) ?_
     refine wpL_done (fun W19 hW19 => ?_)
     change Code.wp ..
     cases hd6 : (decide (0 < ((cd (n % d)).length))) with
     | false =>
       have h6 : ¬ (0 < ((cd (n % d)).length)) := of_decide_eq_false hd6
       clear hd6
       refine wp_cond_false rfl ?_
       refine wp_skip ?_
       change Code.wp ..
       refine wp_seq ?_
       refine wp_region_L _ hW19 ?_
       refine wpL_new (fun g => .slice (some ⟨g, 0, none⟩) 4 4) (obi := .cells #[.int .i64 0, .int .i64 0, .int .i64 0, .int .i64 32768] 3 (0, 0)) rfl rfl Tw.kf Tw.pf fun g12 Bg12 Fg12 => ?_
       obtain ⟨dj13_0, dj13_1, dj13_2, dj13_3⟩ : g1 ≠ g12 ∧ Dk g12 T2 ∧ Dk g12 T4 ∧ Dk g12 T7 := Tw.dkf Fg12
       refine Tw.mm (.slice (some ⟨g12, 0, none⟩) 4 4) ?_
       refine wpL_done (fun W20 hW20 => ?_)
       change Code.wp ..
       refine wp_seq ?_
       refine wp_seq ?_
       refine wp_region_L _ hW20 ?_
       refine Tw.mm (.slice (some ⟨g12, 0, none⟩) 4 4) ?_
       refine Tw.mm (.slice q7 ((cd (n / d)).length) d7) ?_
       refine Tw.lv (v := .bool (decide (9223372036854775808 < (n / d)))) rfl rfl (yb_call (f := 47) (args := #[.slice (some ⟨g12, 0, none⟩) 4 4, .slice q7 ((cd (n / d)).length) d7]) Tw.kf fun W hW => less_limL (n / d) q7 (some ⟨g12, 0, none⟩) d7 4 W ((H7.mono Tw.sb) W hW) (((show NS (w : Base) (some ⟨g12, 0, none⟩) [0, 0, 0, 32768] [(g12, .cells #[.int .i64 0, .int .i64 0, .int .i64 0, .int .i64 32768] 3 (0, 0))] from ns_blk).mono (fun q hq => by cases List.mem_singleton.1 hq; exact Tw.m0)) W hW)) ?_
       refine Tw.mm (.bool (decide (9223372036854775808 < (n / d)))) ?_
       cases hd7 : (decide (9223372036854775808 < (n / d))) with
       | false =>
         have h7 : ¬ (9223372036854775808 < (n / d)) := of_decide_eq_false hd7
         clear hd7
         refine Tw.mm (.pointer (some ⟨g1, 0, none⟩)) ?_
         refine Tw.lv (v := .bool true) rfl rfl (yb_cell (off := 0) rfl Tw.kr Tw.m1 Tryz.underlying4 rfl (frc_negq (h2.symm.trans hqs))) ?_
         refine Tw.mm (.bool false) ?_
         refine Tw.mm (.bool false) ?_
         refine Tw.ln rfl ?_
         refine Tw.ln rfl ?_
         refine Tw.ln rfl ?_
         refine Tw.ln rfl ?_
         refine Tw.mm (.bool false) ?_
         refine Tw.mm (.bool false) ?_
         refine wpL_done (fun W21 hW21 => ?_)
         change Code.wp ..
         refine wp_cond_false rfl ?_
         refine wp_skip ?_
         change Code.wp ..
         refine wp_seq ?_
         refine wp_region_L _ hW21 ?_
         refine Tw.mm (.int .i64 0) ?_
         refine wpL_done (fun W22 hW22 => ?_)
         change Code.wp ..
         refine wp_seq ?_
         refine wp_seq ?_
         refine wp_region_L _ hW22 ?_
         refine Tw.mm (.slice q7 ((cd (n / d)).length) d7) ?_
         refine Tw.lp (v := .int .i64 ((((cd (n / d)).length) : Nat) : Int)) rfl rfl (run_lenL (p := q7) (cap := d7) (n := ((cd (n / d)).length)) rfl Tryz.underlying32 Tw.kr) ?_
         refine Tw.lp (v := .int .i64 (((((cd (n / d)).length) : Nat) : Int) - 1)) rfl rfl (run_bin rfl (vx := (.int .i64 ((((cd (n / d)).length) : Nat) : Int))) (vy := (.int .i64 ((1 : Nat) : Int))) Tw.kr Tw.kr fun w => bi_sub (z := (((((cd (n / d)).length) : Nat) : Int) - 1)) rfl (wi_i64 Tw.om) w) ?_
         refine Tw.mm (.int .i64 (((((cd (n / d)).length) : Nat) : Int) - 1)) ?_
         refine wpL_done (fun W23 hW23 => ?_)
         change Code.wp ..
         refine wp_block ?_
         go_loopw [8, 7] (fun u8 u7 wr => ∃ (z : Int) (zn : Int) (k m : Nat), (z = (k : Int) - 1) ∧ (zn = -((m : Nat) : Int)) ∧ (k ≤ (cd (n / d)).length) ∧ (m = dv ((cd (n / d)).drop k)) ∧ u8 = .int .i64 z ∧ u7 = .int .i64 zn ∧ KS w ((g12, .cells #[.int .i64 0, .int .i64 0, .int .i64 0, .int .i64 32768] 3 (0, 0)) :: (g1, .cells (frcC s n d) 34 (0, 0)) :: ((T2 ++ T4) ++ T7)) wr) (fun u8 _ _ => (intOf u8 + 1).toNat)
         case atStart => exact ⟨(((((cd (n / d)).length) : Nat) : Int) - 1), 0, (cd (n / d)).length, 0, rfl, Tw.om, (Nat.le_refl _), (drop_big (Nat.le_refl _)).symm, rfl, rfl, (hW23.sub Tw.sb)⟩
         case round =>
           obtain ⟨z, zn, k, m, hz, hzn, hk, hm, rfl, rfl, hL24⟩ := hrel
           refine wp_seq ?_
           refine wp_seq ?_
           refine wp_region_L _ hL24 ?_
           refine Tw.mm (.int .i64 z) ?_
           refine Tw.lp (v := .bool (!(decide (z < 0)))) rfl rfl (run_bin rfl (vx := (.int .i64 z)) (vy := (.int .i64 0)) Tw.kr Tw.kr fun w => bi_geq rfl w) ?_
           refine wpL_done (fun W25 hW25 => ?_)
           change Code.wp ..
           cases hd8 : (decide (z < 0)) with
           | false =>
             have h8 : ¬ (z < 0) := of_decide_eq_false hd8
             clear hd8
             obtain ⟨j, rfl⟩ := Int.eq_ofNat_of_zero_le (show 0 ≤ z by omega)
             obtain rfl : k = j + 1 := by omega
             obtain ⟨x14, hx14⟩ : ∃ xq_, ((cd (n / d)) : List Nat)[j]? = some xq_ := get_ex (show j < ((cd (n / d)) : List Nat).length by omega)
             have lx14 : x14 < 65536 := dOk.at (cd_ok (n / d)) hx14
             have hdj := dv_drop_le (cd (n / d)) j Tw.om
             rw [dv_cd, dv_drop hx14, ← hm] at hdj
             refine wp_cond_true rfl ?_
             refine wp_skip ?_
             change Code.wp ..
             refine wp_seq ?_
             refine wp_block ?_
             refine wp_seq ?_
             refine wp_region_L _ hW25 ?_
             refine Tw.mm (.pointer (some ⟨g1, 0, none⟩)) ?_
             refine Tw.lv (v := .bool true) rfl rfl (yb_cell (off := 0) rfl Tw.kr Tw.m1 Tryz.underlying4 rfl (frc_negq (h2.symm.trans hqs))) ?_
             refine wpL_done (fun W26 hW26 => ?_)
             change Code.wp ..
             refine wp_cond_true rfl ?_
             refine wp_region_L _ hW26 ?_
             refine Tw.mm (.int .i64 zn) ?_
             refine Tw.lp (v := .int .i64 (zn * 65536)) rfl rfl (run_bin rfl (vx := (.int .i64 zn)) (vy := (.int .i64 65536)) Tw.kr Tw.kr fun w => bi_mul (z := (zn * 65536)) rfl (wi_i64 Tw.om) w) ?_
             refine Tw.mm (.slice q7 ((cd (n / d)).length) d7) ?_
             refine Tw.mm (.int .i64 ((j : Nat) : Int)) ?_
             obtain ⟨b15, f15, hp15, hc15⟩ := (H7.mono Tw.sb).at hW26 (k := j) Tw.om
             refine Tw.lp (v := .pointer (some ⟨b15, f15 + j * 1, none⟩)) rfl rfl (run_idxQ (p := q7) (cap := d7) (n := ((cd (n / d)).length)) (j := .i64) (k := j) (sz := 1) rfl Tryz.underlying32 Tw.kr Tw.kr hp15 Tw.kr Tw.om) ?_
             refine Tw.lv (v := .int .i64 ((x14 : Nat) : Int)) rfl rfl (yb_ns (off := f15 + j * 1) rfl Tw.kr (fun W hW => hc15 W (hW.sub Tw.sb) _ _ hx14) Tryz.underlying3 rfl) ?_
             refine Tw.lp (v := .int .i64 ((zn * 65536) - ((x14 : Nat) : Int))) rfl rfl (run_bin rfl (vx := (.int .i64 (zn * 65536))) (vy := (.int .i64 ((x14 : Nat) : Int))) Tw.kr Tw.kr fun w => bi_sub (z := ((zn * 65536) - ((x14 : Nat) : Int))) rfl (wi_i64 Tw.om) w) ?_
             refine Tw.mm (.int .i64 ((zn * 65536) - ((x14 : Nat) : Int))) ?_
             refine wpL_done (fun W27 hW27 => ?_)
             change Code.wp ..
             refine wp_region_L _ hW27 ?_
             refine Tw.mm (.int .i64 ((j : Nat) : Int)) ?_
             refine Tw.lp (v := .int .i64 (((j : Nat) : Int) - 1)) rfl rfl (run_bin rfl (vx := (.int .i64 ((j : Nat) : Int))) (vy := (.int .i64 ((1 : Nat) : Int))) Tw.kr Tw.kr fun w => bi_sub (z := (((j : Nat) : Int) - 1)) rfl (wi_i64 Tw.om) w) ?_
             refine Tw.mm (.int .i64 (((j : Nat) : Int) - 1)) ?_
             refine wpL_done (fun W28 hW28 => ?_)
             go_roundw
             case rel =>
               repeat apply Exists.intro
               exact ⟨⟨(((j : Nat) : Int) - 1), ((zn * 65536) - ((x14 : Nat) : Int)), j, (m * 65536 + x14), Tw.om, Tw.om, Tw.om, (by rw [dv_drop hx14, hm]; omega), rfl, rfl, (hW28.sub Tw.sb)⟩, rfl⟩
             case measure => (show (intOf (.int .i64 (((j : Nat) : Int) - 1)) + 1).toNat < (intOf (.int .i64 ((j : Nat) : Int)) + 1).toNat); simp only [intOf]; omega
           | true =>
             have h8 : z < 0 := of_decide_eq_true hd8
             clear hd8
             refine wp_cond_false rfl ?_
             refine wp_exit ?_
             change Code.wp ..
             refine wp_seq ?_
             refine wp_region_L _ hW25 ?_
             refine Tw.mm (.int .i64 zn) ?_
             refine Tw.mm (.int .i64 zn) ?_
             refine Tw.mm (.int .i64 0) ?_
             refine wpL_done (fun W29 hW29 => ?_)
             change Code.wp ..
             refine wp_ret ?_
             try simp only [inBlock_ret, then_ret]
             refine bodyPost_ret (v := .tuple #[.int .i64 zn, .int .i64 0]) ?_ rfl ?_
             · kernel_rfl
             · exact ⟨(ret_v (by have e1 : s = true := hqs.symm.trans h2; subst e1; rw [hV, if_pos h1, floor_less (by unfold floorQ; rw [if_neg (fun h => h.2 (cd_len0.1 Tw.om))]) h7 (.inl rfl)]; refine cmp_ret2 ?_; rw [show k = 0 from by omega, List.drop_zero, dv_cd] at hm; rw [hzn, hm]; rfl)), hW29.1⟩
       | true =>
         have h7 : 9223372036854775808 < (n / d) := of_decide_eq_true hd7
         clear hd7
         refine Tw.ln rfl ?_
         refine Tw.ln rfl ?_
         refine Tw.ln rfl ?_
         refine Tw.ln rfl ?_
         refine Tw.ln rfl ?_
         refine Tw.ln rfl ?_
         refine Tw.ln rfl ?_
         refine Tw.ln rfl ?_
         refine Tw.ln rfl ?_
         refine Tw.mm (.bool true) ?_
         refine wpL_done (fun W30 hW30 => ?_)
         change Code.wp ..
         refine wp_cond_true rfl ?_
         refine wp_seq ?_
         refine wp_region_L _ hW30 ?_
         refine Tw.mm (.int .i64 0) ?_
         refine Tw.mm (.int .i64 3) ?_
         refine wpL_done (fun W31 hW31 => ?_)
         change Code.wp ..
         refine wp_ret ?_
         try simp only [inBlock_ret, then_ret]
         refine bodyPost_ret (v := .tuple #[.int .i64 0, .int .i64 3]) ?_ rfl ?_
         · kernel_rfl
         · exact ⟨(ret_v (by have e1 : s = true := hqs.symm.trans h2; subst e1; rw [hV, if_pos h1, floor_more (by unfold floorQ; rw [if_neg (fun h => h.2 (cd_len0.1 Tw.om))]) (.inl h7)])), hW31.1⟩
     | true =>
       have h6 : 0 < ((cd (n % d)).length) := of_decide_eq_true hd6
       clear hd6
       refine wp_cond_true rfl ?_
       refine wp_region_L _ hW19 ?_
       refine Tw.mm (.slice q7 ((cd (n / d)).length) d7) ?_
       refine wpL_new (fun g => .slice (some ⟨g, 0, none⟩) 1 1) (obi := .cells #[.int .i64 1] 3 (0, 0)) rfl rfl Tw.kf Tw.pf fun g16 Bg16 Fg16 => ?_
       obtain ⟨dj17_0, dj17_1, dj17_2, dj17_3⟩ : g1 ≠ g16 ∧ Dk g16 T2 ∧ Dk g16 T4 ∧ Dk g16 T7 := Tw.dkf Fg16
       refine wpL_c (f := 46) (args := #[.slice q7 ((cd (n / d)).length) d7, .slice (some ⟨g16, 0, none⟩) 1 1]) (AnsG w ((g16, .cells #[.int .i64 1] 3 (0, 0)) :: (g1, .cells (frcC s n d) 34 (0, 0)) :: ((T2 ++ T4) ++ T7)) (cd ((n / d) + 1))) rfl Tw.kr Tw.kf (fun W hW => (radd_one (n / d) q7 (some ⟨g16, 0, none⟩) d7 1 Tw.om W ((H7.mono Tw.sb) W hW) (((show NS (w : Base) (some ⟨g16, 0, none⟩) [1] [(g16, .cells #[.int .i64 1] 3 (0, 0))] from ns_blk).mono (fun q hq => by cases List.mem_singleton.1 hq; exact Tw.m0)) W hW)).mono fun e w2 h => Ans.g h hW) Tw.pf ?_
       rintro v18 _ ⟨q18, d18, T18, rfl, C18, H18, F18, J18, rfl⟩
       obtain ⟨dj19_0, dj19_1, dj19_2, dj19_3, dj19_4⟩ : Dk g16 T18 ∧ Dk g1 T18 ∧ Dj T2 T18 ∧ Dj T4 T18 ∧ Dj T7 T18 := Tw.djf J18
       have lq1 : (cd ((n / d) + 1)).length ≤ 33 := cd_add_len (i := 16) (j := 1) Tw.om (by rw [cd_1]; decide)
       refine Tw.mm (.slice q18 ((cd ((n / d) + 1)).length) d18) ?_
       refine wpL_done (fun W32 hW32 => ?_)
       change Code.wp ..
       refine wp_seq ?_
       refine wp_region_L _ hW32 ?_
       refine wpL_new (fun g => .slice (some ⟨g, 0, none⟩) 4 4) (obi := .cells #[.int .i64 0, .int .i64 0, .int .i64 0, .int .i64 32768] 3 (0, 0)) rfl rfl Tw.kf Tw.pf fun g20 Bg20 Fg20 => ?_
       obtain ⟨dj21_0, dj21_1, dj21_2, dj21_3, dj21_4, dj21_5⟩ : g16 ≠ g20 ∧ g1 ≠ g20 ∧ Dk g20 T2 ∧ Dk g20 T4 ∧ Dk g20 T7 ∧ Dk g20 T18 := Tw.dkf Fg20
       refine Tw.mm (.slice (some ⟨g20, 0, none⟩) 4 4) ?_
       refine wpL_done (fun W33 hW33 => ?_)
       change Code.wp ..
       refine wp_seq ?_
       refine wp_seq ?_
       refine wp_region_L _ hW33 ?_
       refine Tw.mm (.slice (some ⟨g20, 0, none⟩) 4 4) ?_
       refine Tw.mm (.slice q18 ((cd ((n / d) + 1)).length) d18) ?_
       refine Tw.lv (v := .bool (decide (9223372036854775808 < ((n / d) + 1)))) rfl rfl (yb_call (f := 47) (args := #[.slice (some ⟨g20, 0, none⟩) 4 4, .slice q18 ((cd ((n / d) + 1)).length) d18]) Tw.kf fun W hW => less_limL ((n / d) + 1) q18 (some ⟨g20, 0, none⟩) d18 4 W ((H18.mono Tw.sb) W hW) (((show NS (w : Base) (some ⟨g20, 0, none⟩) [0, 0, 0, 32768] [(g20, .cells #[.int .i64 0, .int .i64 0, .int .i64 0, .int .i64 32768] 3 (0, 0))] from ns_blk).mono (fun q hq => by cases List.mem_singleton.1 hq; exact Tw.m0)) W hW)) ?_
       refine Tw.mm (.bool (decide (9223372036854775808 < ((n / d) + 1)))) ?_
       cases hd9 : (decide (9223372036854775808 < ((n / d) + 1))) with
       | false =>
         have h9 : ¬ (9223372036854775808 < ((n / d) + 1)) := of_decide_eq_false hd9
         clear hd9
         refine Tw.mm (.pointer (some ⟨g1, 0, none⟩)) ?_
         refine Tw.lv (v := .bool true) rfl rfl (yb_cell (off := 0) rfl Tw.kr Tw.m2 Tryz.underlying4 rfl (frc_negq (h2.symm.trans hqs))) ?_
         refine Tw.mm (.bool false) ?_
         refine Tw.mm (.bool false) ?_
         refine Tw.ln rfl ?_
         refine Tw.ln rfl ?_
         refine Tw.ln rfl ?_
         refine Tw.ln rfl ?_
         refine Tw.mm (.bool false) ?_
         refine Tw.mm (.bool false) ?_
         refine wpL_done (fun W34 hW34 => ?_)
         change Code.wp ..
         refine wp_cond_false rfl ?_
         refine wp_skip ?_
         change Code.wp ..
         refine wp_seq ?_
         refine wp_region_L _ hW34 ?_
         refine Tw.mm (.int .i64 0) ?_
         refine wpL_done (fun W35 hW35 => ?_)
         change Code.wp ..
         refine wp_seq ?_
         refine wp_seq ?_
         refine wp_region_L _ hW35 ?_
         refine Tw.mm (.slice q18 ((cd ((n / d) + 1)).length) d18) ?_
         refine Tw.lp (v := .int .i64 ((((cd ((n / d) + 1)).length) : Nat) : Int)) rfl rfl (run_lenL (p := q18) (cap := d18) (n := ((cd ((n / d) + 1)).length)) rfl Tryz.underlying32 Tw.kr) ?_
         refine Tw.lp (v := .int .i64 (((((cd ((n / d) + 1)).length) : Nat) : Int) - 1)) rfl rfl (run_bin rfl (vx := (.int .i64 ((((cd ((n / d) + 1)).length) : Nat) : Int))) (vy := (.int .i64 ((1 : Nat) : Int))) Tw.kr Tw.kr fun w => bi_sub (z := (((((cd ((n / d) + 1)).length) : Nat) : Int) - 1)) rfl (wi_i64 Tw.om) w) ?_
         refine Tw.mm (.int .i64 (((((cd ((n / d) + 1)).length) : Nat) : Int) - 1)) ?_
         refine wpL_done (fun W36 hW36 => ?_)
         change Code.wp ..
         refine wp_block ?_
         go_loopw [8, 7] (fun u8 u7 wr => ∃ (z : Int) (zn : Int) (k m : Nat), (z = (k : Int) - 1) ∧ (zn = -((m : Nat) : Int)) ∧ (k ≤ (cd ((n / d) + 1)).length) ∧ (m = dv ((cd ((n / d) + 1)).drop k)) ∧ u8 = .int .i64 z ∧ u7 = .int .i64 zn ∧ KS w ((g20, .cells #[.int .i64 0, .int .i64 0, .int .i64 0, .int .i64 32768] 3 (0, 0)) :: (g16, .cells #[.int .i64 1] 3 (0, 0)) :: (g1, .cells (frcC s n d) 34 (0, 0)) :: (((T2 ++ T4) ++ T7) ++ T18)) wr) (fun u8 _ _ => (intOf u8 + 1).toNat)
         case atStart => exact ⟨(((((cd ((n / d) + 1)).length) : Nat) : Int) - 1), 0, (cd ((n / d) + 1)).length, 0, rfl, Tw.om, (Nat.le_refl _), (drop_big (Nat.le_refl _)).symm, rfl, rfl, (hW36.sub Tw.sb)⟩
         case round =>
           obtain ⟨z, zn, k, m, hz, hzn, hk, hm, rfl, rfl, hL37⟩ := hrel
           refine wp_seq ?_
           refine wp_seq ?_
           refine wp_region_L _ hL37 ?_
           refine Tw.mm (.int .i64 z) ?_
           refine Tw.lp (v := .bool (!(decide (z < 0)))) rfl rfl (run_bin rfl (vx := (.int .i64 z)) (vy := (.int .i64 0)) Tw.kr Tw.kr fun w => bi_geq rfl w) ?_
           refine wpL_done (fun W38 hW38 => ?_)
           change Code.wp ..
           cases hd10 : (decide (z < 0)) with
           | false =>
             have h10 : ¬ (z < 0) := of_decide_eq_false hd10
             clear hd10
             obtain ⟨j, rfl⟩ := Int.eq_ofNat_of_zero_le (show 0 ≤ z by omega)
             obtain rfl : k = j + 1 := by omega
             obtain ⟨x22, hx22⟩ : ∃ xq_, ((cd ((n / d) + 1)) : List Nat)[j]? = some xq_ := get_ex (show j < ((cd ((n / d) + 1)) : List Nat).length by omega)
             have lx22 : x22 < 65536 := dOk.at (cd_ok ((n / d) + 1)) hx22
             have hdj := dv_drop_le (cd ((n / d) + 1)) j Tw.om
             rw [dv_cd, dv_drop hx22, ← hm] at hdj
             refine wp_cond_true rfl ?_
             refine wp_skip ?_
             change Code.wp ..
             refine wp_seq ?_
             refine wp_block ?_
             refine wp_seq ?_
             refine wp_region_L _ hW38 ?_
             refine Tw.mm (.pointer (some ⟨g1, 0, none⟩)) ?_
             refine Tw.lv (v := .bool true) rfl rfl (yb_cell (off := 0) rfl Tw.kr Tw.m2 Tryz.underlying4 rfl (frc_negq (h2.symm.trans hqs))) ?_
             refine wpL_done (fun W39 hW39 => ?_)
             change Code.wp ..
             refine wp_cond_true rfl ?_
             refine wp_region_L _ hW39 ?_
             refine Tw.mm (.int .i64 zn) ?_
             refine Tw.lp (v := .int .i64 (zn * 65536)) rfl rfl (run_bin rfl (vx := (.int .i64 zn)) (vy := (.int .i64 65536)) Tw.kr Tw.kr fun w => bi_mul (z := (zn * 65536)) rfl (wi_i64 Tw.om) w) ?_
             refine Tw.mm (.slice q18 ((cd ((n / d) + 1)).length) d18) ?_
             refine Tw.mm (.int .i64 ((j : Nat) : Int)) ?_
             obtain ⟨b23, f23, hp23, hc23⟩ := (H18.mono Tw.sb).at hW39 (k := j) Tw.om
             refine Tw.lp (v := .pointer (some ⟨b23, f23 + j * 1, none⟩)) rfl rfl (run_idxQ (p := q18) (cap := d18) (n := ((cd ((n / d) + 1)).length)) (j := .i64) (k := j) (sz := 1) rfl Tryz.underlying32 Tw.kr Tw.kr hp23 Tw.kr Tw.om) ?_
             refine Tw.lv (v := .int .i64 ((x22 : Nat) : Int)) rfl rfl (yb_ns (off := f23 + j * 1) rfl Tw.kr (fun W hW => hc23 W (hW.sub Tw.sb) _ _ hx22) Tryz.underlying3 rfl) ?_
             refine Tw.lp (v := .int .i64 ((zn * 65536) - ((x22 : Nat) : Int))) rfl rfl (run_bin rfl (vx := (.int .i64 (zn * 65536))) (vy := (.int .i64 ((x22 : Nat) : Int))) Tw.kr Tw.kr fun w => bi_sub (z := ((zn * 65536) - ((x22 : Nat) : Int))) rfl (wi_i64 Tw.om) w) ?_
             refine Tw.mm (.int .i64 ((zn * 65536) - ((x22 : Nat) : Int))) ?_
             refine wpL_done (fun W40 hW40 => ?_)
             change Code.wp ..
             refine wp_region_L _ hW40 ?_
             refine Tw.mm (.int .i64 ((j : Nat) : Int)) ?_
             refine Tw.lp (v := .int .i64 (((j : Nat) : Int) - 1)) rfl rfl (run_bin rfl (vx := (.int .i64 ((j : Nat) : Int))) (vy := (.int .i64 ((1 : Nat) : Int))) Tw.kr Tw.kr fun w => bi_sub (z := (((j : Nat) : Int) - 1)) rfl (wi_i64 Tw.om) w) ?_
             refine Tw.mm (.int .i64 (((j : Nat) : Int) - 1)) ?_
             refine wpL_done (fun W41 hW41 => ?_)
             go_roundw
             case rel =>
               repeat apply Exists.intro
               exact ⟨⟨(((j : Nat) : Int) - 1), ((zn * 65536) - ((x22 : Nat) : Int)), j, (m * 65536 + x22), Tw.om, Tw.om, Tw.om, (by rw [dv_drop hx22, hm]; omega), rfl, rfl, (hW41.sub Tw.sb)⟩, rfl⟩
             case measure => (show (intOf (.int .i64 (((j : Nat) : Int) - 1)) + 1).toNat < (intOf (.int .i64 ((j : Nat) : Int)) + 1).toNat); simp only [intOf]; omega
           | true =>
             have h10 : z < 0 := of_decide_eq_true hd10
             clear hd10
             refine wp_cond_false rfl ?_
             refine wp_exit ?_
             change Code.wp ..
             refine wp_seq ?_
             refine wp_region_L _ hW38 ?_
             refine Tw.mm (.int .i64 zn) ?_
             refine Tw.mm (.int .i64 zn) ?_
             refine Tw.mm (.int .i64 0) ?_
             refine wpL_done (fun W42 hW42 => ?_)
             change Code.wp ..
             refine wp_ret ?_
             try simp only [inBlock_ret, then_ret]
             refine bodyPost_ret (v := .tuple #[.int .i64 zn, .int .i64 0]) ?_ rfl ?_
             · kernel_rfl
             · exact ⟨(ret_v (by have e1 : s = true := hqs.symm.trans h2; subst e1; rw [hV, if_pos h1, floor_less (by unfold floorQ; rw [if_pos ⟨rfl, fun h => by rw [h, cd_zero] at h6; simp at h6⟩]) h9 (.inl rfl)]; refine cmp_ret2 ?_; rw [show k = 0 from by omega, List.drop_zero, dv_cd] at hm; rw [hzn, hm]; rfl)), hW42.1⟩
       | true =>
         have h9 : 9223372036854775808 < ((n / d) + 1) := of_decide_eq_true hd9
         clear hd9
         refine Tw.ln rfl ?_
         refine Tw.ln rfl ?_
         refine Tw.ln rfl ?_
         refine Tw.ln rfl ?_
         refine Tw.ln rfl ?_
         refine Tw.ln rfl ?_
         refine Tw.ln rfl ?_
         refine Tw.ln rfl ?_
         refine Tw.ln rfl ?_
         refine Tw.mm (.bool true) ?_
         refine wpL_done (fun W43 hW43 => ?_)
         change Code.wp ..
         refine wp_cond_true rfl ?_
         refine wp_seq ?_
         refine wp_region_L _ hW43 ?_
         refine Tw.mm (.int .i64 0) ?_
         refine Tw.mm (.int .i64 3) ?_
         refine wpL_done (fun W44 hW44 => ?_)
         change Code.wp ..
         refine wp_ret ?_
         try simp only [inBlock_ret, then_ret]
         refine bodyPost_ret (v := .tuple #[.int .i64 0, .int .i64 3]) ?_ rfl ?_
         · kernel_rfl
         · exact ⟨(ret_v (by have e1 : s = true := hqs.symm.trans h2; subst e1; rw [hV, if_pos h1, floor_more (by unfold floorQ; rw [if_pos ⟨rfl, fun h => by rw [h, cd_zero] at h6; simp at h6⟩]) (.inl h9)])), hW44.1⟩
end Go.Proofs.YtalmflgkbmnghaaGreatDoor
/- The texts of fractions, and what is read of them, of their neighbours and of what is no text. -/
namespace Go.Proofs.YtalmflgkbmnghaaGreatDoor
open Go.RowKit Tf
variable [ShLZ]
variable [ShSt]
theorem idx_none (c : UInt8) : ∀ {l : List UInt8}, (∀ b ∈ l, b ≠ c) → Lib.index l [c] = -1
 | [], _ => rfl
 | b :: l, h => by
   have hb : b ≠ c := h b (List.mem_cons_self ..)
   unfold Lib.index
   rw [if_neg (by simp only [List.isPrefixOf, Bool.and_true, beq_iff_eq]; exact fun e => hb e.symm), idx_none c (fun x hx => h x (List.mem_cons_of_mem _ hx))]
   rfl
theorem idx_at (c : UInt8) (v : List UInt8) : ∀ {u : List UInt8}, (∀ b ∈ u, b ≠ c) → Lib.index (u ++ c :: v) [c] = (u.length : Int)
 | [], _ => by
   show Lib.index (c :: v) [c] = 0
   unfold Lib.index
   rw [if_pos (by simp [List.isPrefixOf])]
 | b :: u, h => by
   have hb : b ≠ c := h b (List.mem_cons_self ..)
   show Lib.index (b :: (u ++ c :: v)) [c] = _
   unfold Lib.index
   rw [if_neg (by simp only [List.isPrefixOf, Bool.and_true, beq_iff_eq]; exact fun e => hb e.symm), idx_at c v (fun x hx => h x (List.mem_cons_of_mem _ hx))]
   rw [if_neg (by simp only [beq_iff_eq]; omega)]
   simp
theorem cut_no {l : List UInt8} (h : ∀ b ∈ l, b ≠ 47) : Lib.cut l [47] = (l, [], false) := by
 unfold Lib.cut
 rw [idx_none 47 h, if_neg Tw.om]
theorem cut_at {u : List UInt8} (v : List UInt8) (h : ∀ b ∈ u, b ≠ 47) : Lib.cut (u ++ 47 :: v) [47] = (u, v, true) := by
 unfold Lib.cut
 rw [idx_at 47 v h, if_pos Tw.om, Int.toNat_natCast]
 simp
theorem dig_ne {x : Nat} {c : UInt8} (hc : c.toNat < 48) : ∀ b ∈ Lib.decDigits x, b ≠ c := fun b hb e => by
 have := dec_dig x b hb
 rw [e] at this
 omega
def preL (s : Bool) : List UInt8 := if s = true then [45] else []
def tailL (d : Nat) : List UInt8 := if d = 1 then [] else 47 :: Lib.decDigits d
theorem textL_eq (s : Bool) (n d : Nat) : textL s n d = preL s ++ Lib.decDigits n ++ tailL d := rfl
theorem pre_dec {n : Nat} : ∃ b l, Lib.decDigits n = b :: l ∧ b ≠ 45 := by
 cases h : Lib.decDigits n with
 | nil => have := dec_pos n; rw [h] at this; simp at this
 | cons b l => exact ⟨b, l, rfl, dig_ne (x := n) (c := 45) (by decide) b (by rw [h]; exact List.mem_cons_self ..)⟩
theorem neg_pre (s : Bool) (n : Nat) (v : List UInt8) : rNeg (preL s ++ Lib.decDigits n ++ v) = s ∧ Lib.trimPrefix (preL s ++ Lib.decDigits n ++ v) [45] = Lib.decDigits n ++ v := by
 have hp : Lib.hasPrefix (preL s ++ Lib.decDigits n ++ v) [45] = s := by
   cases s with
   | true => rfl
   | false =>
     obtain ⟨b, l, e, hb⟩ := pre_dec (n := n)
     rw [e]
     unfold Lib.hasPrefix preL
     simp [List.isPrefixOf]
     exact fun h => hb h.symm
 refine ⟨hp, ?_⟩
 unfold Lib.trimPrefix
 rw [hp]
 cases s with
 | true => rfl
 | false => rfl
theorem dig_all {l : List UInt8} {b : UInt8} (h : b ∈ l) (hb : isDig b = false) : digL l = false := by
 unfold digL
 have : l.all isDig = false := by
   rw [List.all_eq_false]
   exact ⟨b, h, by simp [hb]⟩
 rw [this, Bool.false_and]
theorem dig_dec (n : Nat) : digL (Lib.decDigits n) = true := by
 unfold digL
 have h1 : (Lib.decDigits n).all isDig = true := by
   rw [List.all_eq_true]
   intro b hb
   have := dec_dig n b hb
   unfold isDig
   simp only [Bool.and_eq_true, decide_eq_true_eq]
   exact this
 rw [h1, Bool.true_and]
 rcases Nat.eq_zero_or_pos n with h | h
 · subst h; rw [dec_small Tw.om]; rfl
 · have h2 := dec_head h
   have h3 := dec_pos n
   cases e : Lib.decDigits n with
   | nil => rw [e] at h3; simp at h3
   | cons b l => rw [e] at h2; simp only [List.headD_cons] at h2 ⊢; simp [h2]
theorem pok_dec {n : Nat} (h : n < R 8) : pOk (Lib.decDigits n) = true ∧ pVal (Lib.decDigits n) = n := by
 have h1 : decV (Lib.decDigits n) = n := dec_value n
 have h2 : pOk (Lib.decDigits n) = true := by
   unfold pOk
   rw [h1]
   exact decide_eq_true ⟨dec_len78 h, h⟩
 exact ⟨h2, by unfold pVal; rw [if_pos h2, h1]⟩
theorem ne_zero_text {d : Nat} (h : d ≠ 0) : (Lib.decDigits d == [48]) = false := by
 have h2 := dec_head (x := d) Tw.om
 cases hb : (Lib.decDigits d == [48]) with
 | false => rfl
 | true =>
   rw [beq_iff_eq] at hb
   rw [hb] at h2
   exact absurd rfl h2
theorem dec_one : Lib.decDigits 1 = [49] := dec_small Tw.om
theorem cut_text (s : Bool) (n d : Nat) : rCut (textL s n d) = (Lib.decDigits n, (if d = 1 then [] else Lib.decDigits d), !decide (d = 1)) ∧ rBelow (textL s n d) = Lib.decDigits d ∧ rNeg (textL s n d) = s := by
 have h1 := neg_pre s n (tailL d)
 rw [← textL_eq] at h1
 have h2 : rCut (textL s n d) = (Lib.decDigits n, (if d = 1 then [] else Lib.decDigits d), !decide (d = 1)) := by
   unfold rCut
   rw [h1.2]
   unfold tailL
   by_cases hd : d = 1
   · rw [if_pos hd, if_pos hd, List.append_nil, cut_no (dig_ne (by decide)), hd]; rfl
   · rw [if_neg hd, if_neg hd, cut_at _ (dig_ne (by decide))]; simp [hd]
 refine ⟨h2, ?_, h1.1⟩
 unfold rBelow
 rw [h2]
 by_cases hd : d = 1
 · subst hd; exact dec_one.symm
 · simp [hd]
theorem read_text {s : Bool} {n d : Nat} (h : rightB s n d = true) (hn : n < R 8) (hd : d < R 8) : readV (textL s n d) = .tuple #[frc s n d, .int .i64 0] := by
 obtain ⟨h1, h2, h3⟩ := cut_text s n d
 have hr : rErr s n d = 0 := by unfold rErr; rw [if_pos h]
 have ht : rText s n d = textL s n d := by unfold rText; rw [if_pos h]
 rw [readV_good (neg := s) (x := n) (y := d) (by rw [h1, h2]; simp only [dig_dec, ne_zero_text (Nat.ne_of_gt (right_den h))]; rfl) (by rw [h1, h2]; simp only [(pok_dec hn).1, (pok_dec hd).1]; rfl)
   ⟨h3, by rw [h1]; exact (pok_dec hn).2, by rw [h2]; exact (pok_dec hd).2⟩, if_pos ⟨hr, by rw [ht]; exact beq_self_eq_true _⟩]
end Go.Proofs.YtalmflgkbmnghaaGreatDoor
