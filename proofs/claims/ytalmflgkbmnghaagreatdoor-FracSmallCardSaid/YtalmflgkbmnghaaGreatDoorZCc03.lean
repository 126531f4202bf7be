import Derived.Test.YtalmflgkbmnghaaGreatDoorRM00
import Derived.Test.YtalmflgkbmnghaaGreatDoorZCc02
import Derived.Test.YtalmflgkbmnghaaGreatDoorRM02
import Derived.Test.YtalmflgkbmnghaaGreatDoorZCc01
import Derived.Test.YtalmflgkbmnghaaGreatDoorRM04
import Derived.Test.YtalmflgkbmnghaaGreatDoorRM03
import Derived.Laws.RangeAny
/- Part of the proof: YA, Sr, YF, YH, YG, YI, Rc, YD, YJ, YJn. -/
set_option linter.unusedVariables false
set_option linter.unusedSimpArgs false
set_option linter.unusedSectionVars false
namespace Go.Proofs.YtalmflgkbmnghaaGreatDoor
open Go Go.RowKit Tw
open Tf (dg R R_pos R_le R_succ dg_of_lt setd setd_eq)
theorem cd_R8 {x : Nat} : (cd x).length ≤ 16 ↔ x < R 8 := by rw [cd_le, R_sq]
theorem limbs_yes {n : Nat} (h : (cd n).length ≤ 16) : limV n = .tuple #[.agg (fa 8 (dg n)), .bool true] := if_pos h
theorem limbs_no {n : Nat} (h : ¬ (cd n).length ≤ 16) : limV n = .tuple #[.agg (fa 8 (dg 0)), .bool false] := if_neg h
theorem ret_v {a b : Value} (h : a = b) : Ending.returned a = .returned b := by rw [h]
theorem mk_yes {neg B : Bool} {X Y : Nat} (h1 : (cd X).length ≤ 16) (h2 : (cd Y).length ≤ 16) (hB : B = (neg && decide (X ≠ 0))) : (Value.tuple #[.agg (frcC B X Y), .int .i64 0]) = packV neg X Y := by
 subst hB
 unfold packV
 rw [if_pos ⟨cd_R8.1 h1, cd_R8.1 h2⟩]
 rfl
theorem mk_no {neg : Bool} {X Y : Nat} (h : ¬ (cd X).length ≤ 16 ∨ ¬ (cd Y).length ≤ 16) : (Value.tuple #[.agg (frcC false 0 0), .int .i64 3]) = packV neg X Y := by
 unfold packV
 rw [if_neg (fun ⟨a, b⟩ => h.elim (fun h => h (cd_R8.2 a)) (fun h => h (cd_R8.2 b)))]
 rfl
theorem pos_ne {X : Nat} : decide (0 < (cd X).length) = decide (X ≠ 0) := by
 rw [decide_eq_decide, Nat.pos_iff_ne_zero, ne_eq, ne_eq, cd_len0]
theorem cd_gcd_len {n m k : Nat} (hm : 0 < m) (h : (cd m).length ≤ k) : (cd (Nat.gcd n m)).length ≤ k := cd_le.2 (Nat.lt_of_le_of_lt (Nat.gcd_le_right _ hm) (cd_le.1 h))
theorem cd_div_len {x y n : Nat} (h : (cd x).length ≤ n) : (cd (x / y)).length ≤ n := cd_le.2 (Nat.lt_of_le_of_lt (Nat.div_le_self _ _) (cd_le.1 h))
theorem frc_onec {s : Bool} {n d : Nat} : ∀ v ∈ (frcC s n d).toList, v.oneCell' = true := by
 intro v hv
 unfold frcC at hv
 simp only [Array.toList_append, List.mem_append] at hv
 rcases hv with (hv | hv) | hv
 · simp at hv; subst hv; rfl
 · exact fa_one v hv
 · exact fa_one v hv
set_option maxRecDepth 100000 in
set_option maxHeartbeats 20000000 in
theorem make0_any (neg : Bool) (n m : Nat) (p q : Option Addr) (c d : Nat) (hm : 0 < m) (la : (cd n).length ≤ 80000) (lb : (cd m).length ≤ 80000) (hca : (cd n).length ≤ c) (hcb : (cd m).length ≤ d) (w : World) (hp : SLV w p (nums (cd n))) (hq : SLV w q (nums (cd m))) : Calls Tryz.prog 45 #[.bool neg, .slice p (cd n).length c, .slice q (cd m).length d] w fun e w' => e = .returned (packV neg (n / Nat.gcd n m) (m / Nat.gcd n m)) ∧ Below w.heap.size w w' := by
 have HP : NS (w : Base) p (cd n) [] := NS.base hp
 have HQ : NS (w : Base) q (cd m) [] := NS.base hq
 clear hp hq
 have hgp : 0 < Nat.gcd n m := Nat.gcd_pos_of_pos_right _ hm
 have lX : (cd (n / Nat.gcd n m)).length ≤ 80000 := cd_div_len la
 have lY : (cd (m / Nat.gcd n m)).length ≤ 80000 := cd_div_len lb
 have lgg : (cd (Nat.gcd n m)).length ≤ 80000 := cd_gcd_len hm lb
 go_enter Tryz.func45, Tryz.ntmps45
 refine wp_seq ?_
 refine wp_region_L [] (KS.start w) ?_
 refine wpL_new (fun g => .pointer (some ⟨g, 0, none⟩)) (obi := .cells (frcC false 0 0) 34 (0, 0)) rfl rfl Tw.kf Tw.pf fun g1 Bg1 Fg1 => ?_
 refine Tw.mm (.int .i64 0) ?_
 refine wpL_done (fun W1 hW1 => ?_)
 change Code.wp ..
 refine wp_seq ?_
 refine wp_region_L _ hW1 ?_
 refine Tw.mm (.slice p ((cd n).length) c) ?_
 refine Tw.mm (.slice q ((cd m).length) d) ?_
 refine wpL_c (f := 51) (args := #[.slice p ((cd n).length) c, .slice q ((cd m).length) d]) (AnsW w [(g1, .cells (frcC false 0 0) 34 (0, 0))] (cd (Nat.gcd n m))) rfl Tw.kr Tw.kf (fun W hW => (common_any n m p q c d Tw.om Tw.om hca hcb W ((HP.mono Tw.sb) W hW) ((HQ.mono Tw.sb) W hW)).mono fun e w2 h => AnsV.g h hW) Tw.pf ?_
 rintro v2 _ ⟨q2, d2, T2, rfl, C2, H2, rfl⟩
 refine Tw.mm (.slice q2 ((cd (Nat.gcd n m)).length) d2) ?_
 refine wpL_done (fun W2 hW2 => ?_)
 change Code.wp ..
 refine wp_seq ?_
 refine wp_region_L _ hW2 ?_
 refine Tw.mm (.slice p ((cd n).length) c) ?_
 refine Tw.mm (.slice q2 ((cd (Nat.gcd n m)).length) d2) ?_
 refine wpL_c (f := 61) (args := #[.slice p ((cd n).length) c, .slice q2 ((cd (Nat.gcd n m)).length) d2]) (AnsW2 w ((g1, .cells (frcC false 0 0) 34 (0, 0)) :: T2) (cd (n / Nat.gcd n m)) (cd (n % Nat.gcd n m))) rfl Tw.kr Tw.kf (fun W hW => (div_any n (Nat.gcd n m) p q2 c d2 hgp Tw.om hca W ((HP.mono Tw.sb) W hW) ((H2.mono Tw.sb) W hW)).mono fun e w2 h => Ans2.g h hW) Tw.pf ?_
 rintro v3 _ ⟨q3, d3, r3, g3, T3, rfl, C3, E3, H3, G3, rfl⟩
 refine Tw.mm (.tuple #[.slice q3 ((cd (n / Nat.gcd n m)).length) d3, .slice r3 ((cd (n % Nat.gcd n m)).length) g3]) ?_
 refine Tw.mm (.slice q3 ((cd (n / Nat.gcd n m)).length) d3) ?_
 refine Tw.mm (.slice r3 ((cd (n % Nat.gcd n m)).length) g3) ?_
 refine Tw.mm (.slice q3 ((cd (n / Nat.gcd n m)).length) d3) ?_
 refine Tw.mm (.slice r3 ((cd (n % Nat.gcd n m)).length) g3) ?_
 refine wpL_done (fun W3 hW3 => ?_)
 change Code.wp ..
 refine wp_seq ?_
 refine wp_region_L _ hW3 ?_
 refine Tw.mm (.slice q ((cd m).length) d) ?_
 refine Tw.mm (.slice q2 ((cd (Nat.gcd n m)).length) d2) ?_
 refine wpL_c (f := 61) (args := #[.slice q ((cd m).length) d, .slice q2 ((cd (Nat.gcd n m)).length) d2]) (AnsW2 w ((g1, .cells (frcC false 0 0) 34 (0, 0)) :: (T2 ++ T3)) (cd (m / Nat.gcd n m)) (cd (m % Nat.gcd n m))) rfl Tw.kr Tw.kf (fun W hW => (div_any m (Nat.gcd n m) q q2 d d2 hgp Tw.om hcb W ((HQ.mono Tw.sb) W hW) ((H2.mono Tw.sb) W hW)).mono fun e w2 h => Ans2.g h hW) Tw.pf ?_
 rintro v4 _ ⟨q4, d4, r4, g4, T4, rfl, C4, E4, H4, G4, rfl⟩
 refine Tw.mm (.tuple #[.slice q4 ((cd (m / Nat.gcd n m)).length) d4, .slice r4 ((cd (m % Nat.gcd n m)).length) g4]) ?_
 refine Tw.mm (.slice q4 ((cd (m / Nat.gcd n m)).length) d4) ?_
 refine Tw.mm (.slice r4 ((cd (m % Nat.gcd n m)).length) g4) ?_
 refine Tw.mm (.slice q4 ((cd (m / Nat.gcd n m)).length) d4) ?_
 refine Tw.mm (.slice r4 ((cd (m % Nat.gcd n m)).length) g4) ?_
 refine wpL_done (fun W4 hW4 => ?_)
 change Code.wp ..
 refine wp_seq ?_
 refine wp_region_L _ hW4 ?_
 refine Tw.mm (.slice q3 ((cd (n / Nat.gcd n m)).length) d3) ?_
 cases hd1 : (decide ((cd (n / Nat.gcd n m)).length ≤ 16)) with
 | false =>
   have h1 : ¬ ((cd (n / Nat.gcd n m)).length ≤ 16) := of_decide_eq_false hd1
   clear hd1
   refine Tw.lv (v := .tuple #[.agg (fa 8 (dg 0)), .bool false]) rfl rfl (yb_call (f := 83) (args := #[.slice q3 ((cd (n / Nat.gcd n m)).length) d3]) Tw.kf fun W hW => limbs_no h1 ▸ limbs_any (n / Nat.gcd n m) q3 d3 Tw.om W ((H3.mono Tw.sb) W hW)) ?_
   refine Tw.mm (.tuple #[.agg (fa 8 (dg 0)), .bool false]) ?_
   refine Tw.mm (.agg (fa 8 (dg 0))) ?_
   refine Tw.mm (.bool false) ?_
   refine wpL_new (fun g => .pointer (some ⟨g, 0, none⟩)) (obi := .cells (fa 8 (dg 0)) 23 (0, 0)) rfl rfl Tw.kf Tw.pf fun g5 Bg5 Fg5 => ?_
   obtain ⟨dj6_0, dj6_1, dj6_2, dj6_3⟩ : g1 ≠ g5 ∧ Dk g5 T2 ∧ Dk g5 T3 ∧ Dk g5 T4 := Tw.dkf Fg5
   refine wpL_s ((g5, .cells (fa 8 (dg 0)) 23 (0, 0)) :: (g1, .cells (frcC false 0 0) 34 (0, 0)) :: ((T2 ++ T3) ++ T4)) rfl rfl (st_all (by simp only [fa_size]) (by exact fa_one) rfl Tw.kr Tw.kr Tw.m0 Bg5 (by simp only [fa_size]; kernel_rfl) (List.forall_mem_cons.2 ⟨.inl rfl, (List.forall_mem_cons.2 ⟨.inr ⟨Tw.m1, Tw.nee⟩, (fun p hp => .inr ⟨(.tail _ (.tail _ hp)), ((show Dk g5 ((T2 ++ T3) ++ T4) from Tw.djt) _ hp)⟩)⟩)⟩)) ?_
   refine Tw.mm (.bool false) ?_
   refine wpL_done (fun W5 hW5 => ?_)
   change Code.wp ..
   refine wp_seq ?_
   refine wp_region_L _ hW5 ?_
   refine Tw.mm (.slice q4 ((cd (m / Nat.gcd n m)).length) d4) ?_
   cases hd2 : (decide ((cd (m / Nat.gcd n m)).length ≤ 16)) with
   | false =>
     have h2 : ¬ ((cd (m / Nat.gcd n m)).length ≤ 16) := of_decide_eq_false hd2
     clear hd2
     refine Tw.lv (v := .tuple #[.agg (fa 8 (dg 0)), .bool false]) rfl rfl (yb_call (f := 83) (args := #[.slice q4 ((cd (m / Nat.gcd n m)).length) d4]) Tw.kf fun W hW => limbs_no h2 ▸ limbs_any (m / Nat.gcd n m) q4 d4 Tw.om W ((H4.mono Tw.sb) W hW)) ?_
     refine Tw.mm (.tuple #[.agg (fa 8 (dg 0)), .bool false]) ?_
     refine Tw.mm (.agg (fa 8 (dg 0))) ?_
     refine Tw.mm (.bool false) ?_
     refine wpL_new (fun g => .pointer (some ⟨g, 0, none⟩)) (obi := .cells (fa 8 (dg 0)) 23 (0, 0)) rfl rfl Tw.kf Tw.pf fun g7 Bg7 Fg7 => ?_
     obtain ⟨dj8_0, dj8_1, dj8_2, dj8_3, dj8_4⟩ : g5 ≠ g7 ∧ g1 ≠ g7 ∧ Dk g7 T2 ∧ Dk g7 T3 ∧ Dk g7 T4 := Tw.dkf Fg7
     refine wpL_s ((g7, .cells (fa 8 (dg 0)) 23 (0, 0)) :: (g5, .cells (fa 8 (dg 0)) 23 (0, 0)) :: (g1, .cells (frcC false 0 0) 34 (0, 0)) :: ((T2 ++ T3) ++ T4)) rfl rfl (st_all (by simp only [fa_size]) (by exact fa_one) rfl Tw.kr Tw.kr Tw.m0 Bg7 (by simp only [fa_size]; kernel_rfl) (List.forall_mem_cons.2 ⟨.inl rfl, (List.forall_mem_cons.2 ⟨.inr ⟨Tw.m1, Tw.nee⟩, (List.forall_mem_cons.2 ⟨.inr ⟨Tw.m2, Tw.nee⟩, (fun p hp => .inr ⟨(.tail _ (.tail _ (.tail _ hp))), ((show Dk g7 ((T2 ++ T3) ++ T4) from Tw.djt) _ hp)⟩)⟩)⟩)⟩)) ?_
     refine Tw.mm (.bool false) ?_
     refine wpL_done (fun W6 hW6 => ?_)
     change Code.wp ..
     refine wp_seq ?_
     refine wp_seq ?_
     refine wp_region_L _ hW6 ?_
     refine Tw.mm (.bool false) ?_
     refine Tw.mm (.bool true) ?_
     refine Tw.mm (.bool true) ?_
     refine Tw.ln rfl ?_
     refine Tw.ln rfl ?_
     refine Tw.mm (.bool true) ?_
     refine wpL_done (fun W7 hW7 => ?_)
     change Code.wp ..
     refine wp_cond_true rfl ?_
     refine wp_seq ?_
     refine wp_region_L [(g7, .cells (fa 8 (dg 0)) 23 (0, 0)), (g5, .cells (fa 8 (dg 0)) 23 (0, 0)), (g1, .cells (frcC false 0 0) 34 (0, 0))] ((hW7.sub Tw.sb)) ?_
     refine Tw.mm (.agg (frcC false 0 0)) ?_
     refine wpL_s [(g7, .cells (fa 8 (dg 0)) 23 (0, 0)), (g5, .cells (fa 8 (dg 0)) 23 (0, 0)), (g1, .cells (frcC false 0 0) 34 (0, 0))] rfl rfl (st_all zfz (by exact frc_onec) rfl Tw.kr Tw.kr Tw.m2 Bg1 zfs (List.forall_mem_cons.2 ⟨.inr ⟨Tw.m0, Tw.nee⟩, (List.forall_mem_cons.2 ⟨.inr ⟨Tw.m1, Tw.nee⟩, (List.forall_mem_cons.2 ⟨.inl rfl, (List.forall_mem_nil _)⟩)⟩)⟩)) ?_
     refine Tw.mm (.int .i64 3) ?_
     refine wpL_done (fun W8 hW8 => ?_)
     change Code.wp ..
     refine wp_ret ?_
     try simp only [inBlock_ret, then_ret]
     refine bodyPost_ret (v := .tuple #[.agg (frcC false 0 0), .int .i64 3]) ?_ rfl ?_
     · exact (res_cell_tmp (p := 6) (q := 7) rfl rfl (hW8.2 _ Tw.m2) Tryz.underlying34 rfl zfs)
     · exact ⟨(ret_v (mk_no (.inl h1))), hW8.1⟩
   | true =>
     have h2 : (cd (m / Nat.gcd n m)).length ≤ 16 := of_decide_eq_true hd2
     clear hd2
     refine Tw.lv (v := .tuple #[.agg (fa 8 (dg (m / Nat.gcd n m))), .bool true]) rfl rfl (yb_call (f := 83) (args := #[.slice q4 ((cd (m / Nat.gcd n m)).length) d4]) Tw.kf fun W hW => limbs_yes h2 ▸ limbs_any (m / Nat.gcd n m) q4 d4 Tw.om W ((H4.mono Tw.sb) W hW)) ?_
     refine Tw.mm (.tuple #[.agg (fa 8 (dg (m / Nat.gcd n m))), .bool true]) ?_
     refine Tw.mm (.agg (fa 8 (dg (m / Nat.gcd n m)))) ?_
     refine Tw.mm (.bool true) ?_
     refine wpL_new (fun g => .pointer (some ⟨g, 0, none⟩)) (obi := .cells (fa 8 (dg 0)) 23 (0, 0)) rfl rfl Tw.kf Tw.pf fun g9 Bg9 Fg9 => ?_
     obtain ⟨dj10_0, dj10_1, dj10_2, dj10_3, dj10_4⟩ : g5 ≠ g9 ∧ g1 ≠ g9 ∧ Dk g9 T2 ∧ Dk g9 T3 ∧ Dk g9 T4 := Tw.dkf Fg9
     refine wpL_s ((g9, .cells (fa 8 (dg (m / Nat.gcd n m))) 23 (0, 0)) :: (g5, .cells (fa 8 (dg 0)) 23 (0, 0)) :: (g1, .cells (frcC false 0 0) 34 (0, 0)) :: ((T2 ++ T3) ++ T4)) rfl rfl (st_all (by simp only [fa_size]) (by exact fa_one) rfl Tw.kr Tw.kr Tw.m0 Bg9 (by simp only [fa_size]; kernel_rfl) (List.forall_mem_cons.2 ⟨.inl rfl, (List.forall_mem_cons.2 ⟨.inr ⟨Tw.m1, Tw.nee⟩, (List.forall_mem_cons.2 ⟨.inr ⟨Tw.m2, Tw.nee⟩, (fun p hp => .inr ⟨(.tail _ (.tail _ (.tail _ hp))), ((show Dk g9 ((T2 ++ T3) ++ T4) from Tw.djt) _ hp)⟩)⟩)⟩)⟩)) ?_
     refine Tw.mm (.bool true) ?_
     refine wpL_done (fun W9 hW9 => ?_)
     change Code.wp ..
     refine wp_seq ?_
     refine wp_seq ?_
     refine wp_region_L _ hW9 ?_
     refine Tw.mm (.bool false) ?_
     refine Tw.mm (.bool true) ?_
     refine Tw.mm (.bool true) ?_
     refine Tw.ln rfl ?_
     refine Tw.ln rfl ?_
     refine Tw.mm (.bool true) ?_
     refine wpL_done (fun W10 hW10 => ?_)
     change Code.wp ..
     refine wp_cond_true rfl ?_
     refine wp_seq ?_
     refine wp_region_L [(g9, .cells (fa 8 (dg (m / Nat.gcd n m))) 23 (0, 0)), (g5, .cells (fa 8 (dg 0)) 23 (0, 0)), (g1, .cells (frcC false 0 0) 34 (0, 0))] ((hW10.sub Tw.sb)) ?_
     refine Tw.mm (.agg (frcC false 0 0)) ?_
     refine wpL_s [(g9, .cells (fa 8 (dg (m / Nat.gcd n m))) 23 (0, 0)), (g5, .cells (fa 8 (dg 0)) 23 (0, 0)), (g1, .cells (frcC false 0 0) 34 (0, 0))] rfl rfl (st_all zfz (by exact frc_onec) rfl Tw.kr Tw.kr Tw.m2 Bg1 zfs (List.forall_mem_cons.2 ⟨.inr ⟨Tw.m0, Tw.nee⟩, (List.forall_mem_cons.2 ⟨.inr ⟨Tw.m1, Tw.nee⟩, (List.forall_mem_cons.2 ⟨.inl rfl, (List.forall_mem_nil _)⟩)⟩)⟩)) ?_
     refine Tw.mm (.int .i64 3) ?_
     refine wpL_done (fun W11 hW11 => ?_)
     change Code.wp ..
     refine wp_ret ?_
     try simp only [inBlock_ret, then_ret]
     refine bodyPost_ret (v := .tuple #[.agg (frcC false 0 0), .int .i64 3]) ?_ rfl ?_
     · exact (res_cell_tmp (p := 6) (q := 7) rfl rfl (hW11.2 _ Tw.m2) Tryz.underlying34 rfl zfs)
     · exact ⟨(ret_v (mk_no (.inl h1))), hW11.1⟩
 | true =>
   have h1 : (cd (n / Nat.gcd n m)).length ≤ 16 := of_decide_eq_true hd1
   clear hd1
   refine Tw.lv (v := .tuple #[.agg (fa 8 (dg (n / Nat.gcd n m))), .bool true]) rfl rfl (yb_call (f := 83) (args := #[.slice q3 ((cd (n / Nat.gcd n m)).length) d3]) Tw.kf fun W hW => limbs_yes h1 ▸ limbs_any (n / Nat.gcd n m) q3 d3 Tw.om W ((H3.mono Tw.sb) W hW)) ?_
   refine Tw.mm (.tuple #[.agg (fa 8 (dg (n / Nat.gcd n m))), .bool true]) ?_
   refine Tw.mm (.agg (fa 8 (dg (n / Nat.gcd n m)))) ?_
   refine Tw.mm (.bool true) ?_
   refine wpL_new (fun g => .pointer (some ⟨g, 0, none⟩)) (obi := .cells (fa 8 (dg 0)) 23 (0, 0)) rfl rfl Tw.kf Tw.pf fun g11 Bg11 Fg11 => ?_
   obtain ⟨dj12_0, dj12_1, dj12_2, dj12_3⟩ : g1 ≠ g11 ∧ Dk g11 T2 ∧ Dk g11 T3 ∧ Dk g11 T4 := Tw.dkf Fg11
   refine wpL_s ((g11, .cells (fa 8 (dg (n / Nat.gcd n m))) 23 (0, 0)) :: (g1, .cells (frcC false 0 0) 34 (0, 0)) :: ((T2 ++ T3) ++ T4)) rfl rfl (st_all (by simp only [fa_size]) (by exact fa_one) rfl Tw.kr Tw.kr Tw.m0 Bg11 (by simp only [fa_size]; kernel_rfl) (List.forall_mem_cons.2 ⟨.inl rfl, (List.forall_mem_cons.2 ⟨.inr ⟨Tw.m1, Tw.nee⟩, (fun p hp => .inr ⟨(.tail _ (.tail _ hp)), ((show Dk g11 ((T2 ++ T3) ++ T4) from Tw.djt) _ hp)⟩)⟩)⟩)) ?_
   refine Tw.mm (.bool true) ?_
   refine wpL_done (fun W12 hW12 => ?_)
   change Code.wp ..
   refine wp_seq ?_
   refine wp_region_L _ hW12 ?_
   refine Tw.mm (.slice q4 ((cd (m / Nat.gcd n m)).length) d4) ?_
   cases hd3 : (decide ((cd (m / Nat.gcd n m)).length ≤ 16)) with
   | false =>
     have h3 : ¬ ((cd (m / Nat.gcd n m)).length ≤ 16) := of_decide_eq_false hd3
     clear hd3
     refine Tw.lv (v := .tuple #[.agg (fa 8 (dg 0)), .bool false]) rfl rfl (yb_call (f := 83) (args := #[.slice q4 ((cd (m / Nat.gcd n m)).length) d4]) Tw.kf fun W hW => limbs_no h3 ▸ limbs_any (m / Nat.gcd n m) q4 d4 Tw.om W ((H4.mono Tw.sb) W hW)) ?_
     refine Tw.mm (.tuple #[.agg (fa 8 (dg 0)), .bool false]) ?_
     refine Tw.mm (.agg (fa 8 (dg 0))) ?_
     refine Tw.mm (.bool false) ?_
     refine wpL_new (fun g => .pointer (some ⟨g, 0, none⟩)) (obi := .cells (fa 8 (dg 0)) 23 (0, 0)) rfl rfl Tw.kf Tw.pf fun g13 Bg13 Fg13 => ?_
     obtain ⟨dj14_0, dj14_1, dj14_2, dj14_3, dj14_4⟩ : g11 ≠ g13 ∧ g1 ≠ g13 ∧ Dk g13 T2 ∧ Dk g13 T3 ∧ Dk g13 T4 := Tw.dkf Fg13
     refine wpL_s ((g13, .cells (fa 8 (dg 0)) 23 (0, 0)) :: (g11, .cells (fa 8 (dg (n / Nat.gcd n m))) 23 (0, 0)) :: (g1, .cells (frcC false 0 0) 34 (0, 0)) :: ((T2 ++ T3) ++ T4)) rfl rfl (st_all (by simp only [fa_size]) (by exact fa_one) rfl Tw.kr Tw.kr Tw.m0 Bg13 (by simp only [fa_size]; kernel_rfl) (List.forall_mem_cons.2 ⟨.inl rfl, (List.forall_mem_cons.2 ⟨.inr ⟨Tw.m1, Tw.nee⟩, (List.forall_mem_cons.2 ⟨.inr ⟨Tw.m2, Tw.nee⟩, (fun p hp => .inr ⟨(.tail _ (.tail _ (.tail _ hp))), ((show Dk g13 ((T2 ++ T3) ++ T4) from Tw.djt) _ hp)⟩)⟩)⟩)⟩)) ?_
     refine Tw.mm (.bool false) ?_
     refine wpL_done (fun W13 hW13 => ?_)
     change Code.wp ..
     refine wp_seq ?_
     refine wp_seq ?_
     refine wp_region_L _ hW13 ?_
     refine Tw.mm (.bool true) ?_
     refine Tw.mm (.bool false) ?_
     refine Tw.mm (.bool false) ?_
     refine Tw.mm (.bool false) ?_
     refine Tw.mm (.bool true) ?_
     refine Tw.mm (.bool true) ?_
     refine wpL_done (fun W14 hW14 => ?_)
     change Code.wp ..
     refine wp_cond_true rfl ?_
     refine wp_seq ?_
     refine wp_region_L [(g13, .cells (fa 8 (dg 0)) 23 (0, 0)), (g11, .cells (fa 8 (dg (n / Nat.gcd n m))) 23 (0, 0)), (g1, .cells (frcC false 0 0) 34 (0, 0))] ((hW14.sub Tw.sb)) ?_
     refine Tw.mm (.agg (frcC false 0 0)) ?_
     refine wpL_s [(g13, .cells (fa 8 (dg 0)) 23 (0, 0)), (g11, .cells (fa 8 (dg (n / Nat.gcd n m))) 23 (0, 0)), (g1, .cells (frcC false 0 0) 34 (0, 0))] rfl rfl (st_all zfz (by exact frc_onec) rfl Tw.kr Tw.kr Tw.m2 Bg1 zfs (List.forall_mem_cons.2 ⟨.inr ⟨Tw.m0, Tw.nee⟩, (List.forall_mem_cons.2 ⟨.inr ⟨Tw.m1, Tw.nee⟩, (List.forall_mem_cons.2 ⟨.inl rfl, (List.forall_mem_nil _)⟩)⟩)⟩)) ?_
     refine Tw.mm (.int .i64 3) ?_
     refine wpL_done (fun W15 hW15 => ?_)
     change Code.wp ..
     refine wp_ret ?_
     try simp only [inBlock_ret, then_ret]
     refine bodyPost_ret (v := .tuple #[.agg (frcC false 0 0), .int .i64 3]) ?_ rfl ?_
     · exact (res_cell_tmp (p := 6) (q := 7) rfl rfl (hW15.2 _ Tw.m2) Tryz.underlying34 rfl zfs)
     · exact ⟨(ret_v (mk_no (.inr h3))), hW15.1⟩
   | true =>
     have h3 : (cd (m / Nat.gcd n m)).length ≤ 16 := of_decide_eq_true hd3
     clear hd3
     refine Tw.lv (v := .tuple #[.agg (fa 8 (dg (m / Nat.gcd n m))), .bool true]) rfl rfl (yb_call (f := 83) (args := #[.slice q4 ((cd (m / Nat.gcd n m)).length) d4]) Tw.kf fun W hW => limbs_yes h3 ▸ limbs_any (m / Nat.gcd n m) q4 d4 Tw.om W ((H4.mono Tw.sb) W hW)) ?_
     refine Tw.mm (.tuple #[.agg (fa 8 (dg (m / Nat.gcd n m))), .bool true]) ?_
     refine Tw.mm (.agg (fa 8 (dg (m / Nat.gcd n m)))) ?_
     refine Tw.mm (.bool true) ?_
     refine wpL_new (fun g => .pointer (some ⟨g, 0, none⟩)) (obi := .cells (fa 8 (dg 0)) 23 (0, 0)) rfl rfl Tw.kf Tw.pf fun g15 Bg15 Fg15 => ?_
     obtain ⟨dj16_0, dj16_1, dj16_2, dj16_3, dj16_4⟩ : g11 ≠ g15 ∧ g1 ≠ g15 ∧ Dk g15 T2 ∧ Dk g15 T3 ∧ Dk g15 T4 := Tw.dkf Fg15
     refine wpL_s ((g15, .cells (fa 8 (dg (m / Nat.gcd n m))) 23 (0, 0)) :: (g11, .cells (fa 8 (dg (n / Nat.gcd n m))) 23 (0, 0)) :: (g1, .cells (frcC false 0 0) 34 (0, 0)) :: ((T2 ++ T3) ++ T4)) rfl rfl (st_all (by simp only [fa_size]) (by exact fa_one) rfl Tw.kr Tw.kr Tw.m0 Bg15 (by simp only [fa_size]; kernel_rfl) (List.forall_mem_cons.2 ⟨.inl rfl, (List.forall_mem_cons.2 ⟨.inr ⟨Tw.m1, Tw.nee⟩, (List.forall_mem_cons.2 ⟨.inr ⟨Tw.m2, Tw.nee⟩, (fun p hp => .inr ⟨(.tail _ (.tail _ (.tail _ hp))), ((show Dk g15 ((T2 ++ T3) ++ T4) from Tw.djt) _ hp)⟩)⟩)⟩)⟩)) ?_
     refine Tw.mm (.bool true) ?_
     refine wpL_done (fun W16 hW16 => ?_)
     change Code.wp ..
     refine wp_seq ?_
     refine wp_seq ?_
     refine wp_region_L _ hW16 ?_
     refine Tw.mm (.bool true) ?_
     refine Tw.mm (.bool false) ?_
     refine Tw.mm (.bool false) ?_
     refine Tw.mm (.bool true) ?_
     refine Tw.mm (.bool false) ?_
     refine Tw.mm (.bool false) ?_
     refine wpL_done (fun W17 hW17 => ?_)
     change Code.wp ..
     refine wp_cond_false rfl ?_
     refine wp_skip ?_
     change Code.wp ..
     refine wp_seq ?_
     refine wp_region_L [(g15, .cells (fa 8 (dg (m / Nat.gcd n m))) 23 (0, 0)), (g11, .cells (fa 8 (dg (n / Nat.gcd n m))) 23 (0, 0)), (g1, .cells (frcC false 0 0) 34 (0, 0))] ((hW17.sub Tw.sb)) ?_
     refine Tw.mm (.bool neg) ?_
     refine Tw.mm (.bool neg) ?_
     cases h4 : neg with
     | false =>
       refine Tw.ln rfl ?_
       refine Tw.ln rfl ?_
       refine Tw.ln rfl ?_
       refine Tw.mm (.bool false) ?_
       refine Tw.lv (v := .agg (fa 8 (dg (n / Nat.gcd n m)))) rfl rfl (yb_all rfl Tw.kr Tw.m1 Tryz.underlying23 rfl (by simp only [fa_size]; kernel_rfl)) ?_
       refine Tw.lv (v := .agg (fa 8 (dg (m / Nat.gcd n m)))) rfl rfl (yb_all rfl Tw.kr Tw.m0 Tryz.underlying23 rfl (by simp only [fa_size]; kernel_rfl)) ?_
       refine Tw.mm (.agg (frcC false (n / Nat.gcd n m) (m / Nat.gcd n m))) ?_
       refine wpL_s [(g15, .cells (fa 8 (dg (m / Nat.gcd n m))) 23 (0, 0)), (g11, .cells (fa 8 (dg (n / Nat.gcd n m))) 23 (0, 0)), (g1, .cells (frcC false (n / Nat.gcd n m) (m / Nat.gcd n m)) 34 (0, 0))] rfl rfl (st_all zfz (by exact frc_onec) rfl Tw.kr Tw.kr Tw.m2 Bg1 zfs (List.forall_mem_cons.2 ⟨.inr ⟨Tw.m0, Tw.nee⟩, (List.forall_mem_cons.2 ⟨.inr ⟨Tw.m1, Tw.nee⟩, (List.forall_mem_cons.2 ⟨.inl rfl, (List.forall_mem_nil _)⟩)⟩)⟩)) ?_
       refine Tw.mm (.int .i64 0) ?_
       refine wpL_done (fun W18 hW18 => ?_)
       change Code.wp ..
       refine wp_ret ?_
       try simp only [inBlock_ret, then_ret]
       refine bodyPost_ret (v := .tuple #[.agg (frcC false (n / Nat.gcd n m) (m / Nat.gcd n m)), .int .i64 0]) ?_ rfl ?_
       · exact (res_cell_tmp (p := 6) (q := 7) rfl rfl (hW18.2 _ Tw.m2) Tryz.underlying34 rfl zfs)
       · exact ⟨(ret_v (mk_yes h1 h3 rfl)), hW18.1⟩
     | true =>
       refine Tw.mm (.slice q3 ((cd (n / Nat.gcd n m)).length) d3) ?_
       refine Tw.lp (v := .int .i64 ((((cd (n / Nat.gcd n m)).length) : Nat) : Int)) rfl rfl (run_lenL (p := q3) (cap := d3) (n := ((cd (n / Nat.gcd n m)).length)) rfl Tryz.underlying32 Tw.kr) ?_
       refine Tw.lp (v := .bool (decide (0 < ((cd (n / Nat.gcd n m)).length)))) rfl rfl (run_bin rfl (vx := (.int .i64 ((((cd (n / Nat.gcd n m)).length) : Nat) : Int))) (vy := (.int .i64 ((0 : Nat) : Int))) Tw.kr Tw.kr fun w => bn_gtr rfl w) ?_
       refine Tw.mm (.bool (decide (0 < ((cd (n / Nat.gcd n m)).length)))) ?_
       refine Tw.lv (v := .agg (fa 8 (dg (n / Nat.gcd n m)))) rfl rfl (yb_all rfl Tw.kr Tw.m1 Tryz.underlying23 rfl (by simp only [fa_size]; kernel_rfl)) ?_
       refine Tw.lv (v := .agg (fa 8 (dg (m / Nat.gcd n m)))) rfl rfl (yb_all rfl Tw.kr Tw.m0 Tryz.underlying23 rfl (by simp only [fa_size]; kernel_rfl)) ?_
       refine Tw.mm (.agg (frcC (decide (0 < ((cd (n / Nat.gcd n m)).length))) (n / Nat.gcd n m) (m / Nat.gcd n m))) ?_
       refine wpL_s [(g15, .cells (fa 8 (dg (m / Nat.gcd n m))) 23 (0, 0)), (g11, .cells (fa 8 (dg (n / Nat.gcd n m))) 23 (0, 0)), (g1, .cells (frcC (decide (0 < ((cd (n / Nat.gcd n m)).length))) (n / Nat.gcd n m) (m / Nat.gcd n m)) 34 (0, 0))] rfl rfl (st_all zfz (by exact frc_onec) rfl Tw.kr Tw.kr Tw.m2 Bg1 zfs (List.forall_mem_cons.2 ⟨.inr ⟨Tw.m0, Tw.nee⟩, (List.forall_mem_cons.2 ⟨.inr ⟨Tw.m1, Tw.nee⟩, (List.forall_mem_cons.2 ⟨.inl rfl, (List.forall_mem_nil _)⟩)⟩)⟩)) ?_
       refine Tw.mm (.int .i64 0) ?_
       refine wpL_done (fun W19 hW19 => ?_)
       change Code.wp ..
       refine wp_ret ?_
       try simp only [inBlock_ret, then_ret]
       refine bodyPost_ret (v := .tuple #[.agg (frcC (decide (0 < ((cd (n / Nat.gcd n m)).length))) (n / Nat.gcd n m) (m / Nat.gcd n m)), .int .i64 0]) ?_ rfl ?_
       · exact (res_cell_tmp (p := 6) (q := 7) rfl rfl (hW19.2 _ Tw.m2) Tryz.underlying34 rfl zfs)
       · exact ⟨(ret_v (mk_yes h1 h3 (by rw [Bool.true_and]; exact pos_ne))), hW19.1⟩
end Go.Proofs.YtalmflgkbmnghaaGreatDoor
/- Loops over a string, calls of method values, lists cut to nothing. Over any program. -/
namespace Tw
open Go Go.RowKit Go.Proofs.YtalmflgkbmnghaaGreatDoor
section
variable {P : Program} {W0 : Base} {T E : TypeId}
end
section
def OVp {α : Type} (B : Nat) (E : TypeId) (R : World → Value → α → Prop) (W : World) (p : Option Addr) (l : List α) : Prop :=
 ∃ vs : List Value, vs.length = l.length ∧ (vs = [] ∨ ∃ g cur, p = some ⟨g, 0, none⟩ ∧ B ≤ g ∧ W.heap[g]? = some (.cells cur E (0, 0)) ∧ cur.toList.take vs.length = vs) ∧ ∀ (k : Nat) (x : Value) (y : α), vs[k]? = some x → l[k]? = some y → R W x y
def OV {α : Type} (B : Nat) (E : TypeId) (R : World → Value → α → Prop) (W : World) (v : Value) (l : List α) : Prop := ∃ p cap, v = .slice p l.length cap ∧ OVp B E R W p l
theorem OV.keeps {α : Type} {B : Nat} {E : TypeId} {R : World → Value → α → Prop} (hR : Keeps R) : Keeps (OV B E R) := by
 rintro W W' v y ⟨p, cap, h1, vs, h2, h3, h4⟩ hB
 refine ⟨p, cap, h1, vs, h2, h3.imp id ?_, fun k x y hx hy => hR _ _ _ _ (h4 k x y hx hy) hB⟩
 rintro ⟨g, cur, e1, e2, e3, e4⟩
 exact ⟨g, cur, e1, e2, (hB.block g (lt_of_block e3)).trans e3, e4⟩
theorem OVp.lvp {α : Type} {B : Nat} {E : TypeId} {R R' : World → Value → α → Prop} (hR : ∀ W v y, R W v y → R' W v y) {W : World} {p : Option Addr} {l : List α} (h : OVp B E R W p l) : LVp R' W p l := by
 obtain ⟨vs, h2, h3, h4⟩ := h
 refine ⟨vs, ?_, h2, fun k x y hx hy => hR _ _ _ (h4 k x y hx hy)⟩
 rcases h3 with h | ⟨g, cur, e1, e2, e3, e4⟩
 · exact .inl h
 · refine .inr ⟨g, 0, e1, lt_of_block e3, fun i u hu => ?_⟩
   rw [Nat.zero_add, cell_of_row W g i cur _ _ e3]
   rw [← e4, List.getElem?_take] at hu
   split at hu
   · simpa using hu
   · cases hu
theorem OV.lv {α : Type} {B : Nat} {E : TypeId} {R R' : World → Value → α → Prop} (hR : ∀ W v y, R W v y → R' W v y) (W : World) (v : Value) (l : List α) (h : OV B E R W v l) : LV R' W v l := by
 obtain ⟨p, cap, h1, h2⟩ := h
 exact ⟨p, cap, h1, h2.lvp hR⟩
theorem MkE.own {α : Type} {R : World → Value → α → Prop} {W0 : Base} {E : TypeId} {v : Value} {n : Nat} {xs : List Value} {l : List α} {K T : List (Nat × Obj)} (hO : OwnL W0 E 1 v n xs K) (hE : MkE R W0 xs l T) (hn : n = l.length) : MkV (OV W0.B E R) W0 v l (T ++ K) := by
 obtain ⟨h1, h2⟩ := hE
 intro W hW
 have hA := h2 W (hW.sub (fun p hp => List.mem_append_left K hp))
 rcases hO with ⟨rfl, rfl, rfl, rfl⟩ | ⟨g, cap, cur, rfl, hB, hR, rfl⟩
 · exact ⟨none, 0, by rw [← hn], [], h1, .inl rfl, hA⟩
 · have hb := hW.2 _ (List.mem_append_right T Tw.m0)
   refine ⟨some ⟨g, 0, none⟩, cap, by rw [hn], xs, h1, .inr ⟨g, cur, rfl, hB, hb, ?_⟩, hA⟩
   have := hR.2.2.2.2
   rwa [Nat.mul_one, hn, ← h1] at this
end
theorem wpV_g {P : Program} {md : Region.Mode} {ops : Array Oper} {Q : Exit → Act → World → Prop} {W0 : Base} {i : Nat} {oi : Oper} {d n : Nat} {listed : Array Bool} {tm : Array Value} {df : List Deferred} {K : List (Nat × Obj)} {T : Value → Array Value} (G : Value → List (Nat × Obj) → Prop)
   (hi : ops[i]? = some oi) (hdi : oi.dst = some d) (hs : isStore oi = true) (hr : Region.ready md ops listed = [i]) (hw : Region.wanted oi (yielded ops tm) = true)
   (hg : ∀ w, KS W0 K w → ∃ v K' w', (execOp (Act.eval ⟨tm, df⟩) oi).run P w = .ok (.value v) w' ∧ KS W0 K' w' ∧ G v K')
   (hT : ∀ v, tm.setIfInBounds d v = T v)
   (h : ∀ v K', G v K' → wpV P md ops Q W0 n (listed.setIfInBounds i true) ⟨T v, df⟩ K') : wpV P md ops Q W0 (n + 1) listed ⟨tm, df⟩ K :=
 ⟨fun h0 => (by rw [hr] at h0; cases h0), fun j hj => by
   rw [hr] at hj
   cases List.mem_singleton.1 hj
   refine ⟨oi, hi, .inr (.inr (.inr ⟨G, .inl hs, ⟨hw, fun w hK => (let ⟨_, K', _, h1, h2, h3⟩ := hg w hK; oto_of_run h1 ⟨K', h2, h3⟩)⟩, fun v K' hG => ?_⟩))⟩
   rw [hdi]
   simp only [Act.put]
   rw [hT v]
   exact h v K' hG⟩
end Tw
namespace Go.Proofs.YtalmflgkbmnghaaGreatDoor
open Go Go.RowKit Tw
open Tf (dg R R_pos R_le R_succ dg_of_lt setd setd_eq)
section
variable {P : Program} {md : Region.Mode} {ops : Array Oper} {Q : Exit → Act → World → Prop} {W0 : Base}
theorem vb {i : Nat} {oi : Oper} {v : Value} {d n : Nat} {listed : Array Bool} {tm : Array Value} {df : List Deferred} {K : List (Nat × Obj)} {T : Array Value} (hi : ops[i]? = some oi) (hd : oi.dst = some d) (hw : Region.wanted oi (yielded ops tm) = true)
   (hy : ∀ w, KS W0 [] w → ∀ K' : Act → World → Prop, (∀ w', Below w.heap.size w w' → K' (Act.put ⟨tm, df⟩ oi.dst v) w') → Oper.wp P oi ⟨tm, df⟩ w K' (fun _ _ _ => False))
   (h : wpV P md ops Q W0 n (listed.setIfInBounds i true) ⟨T, df⟩ K) (hlt : Nat.blt d tm.size = true := by kernel_rfl) (hf : freeP md ops listed i = true := by kernel_rfl) (hT : tm.setIfInBounds d v = T := by simp only [List.setIfInBounds_toArray, List.set_cons_succ, List.set_cons_zero] <;> rfl) : wpV P md ops Q W0 (n + 1) listed ⟨tm, df⟩ K := by
 unfold freeP at hf
 simp only [Bool.and_eq_true] at hf
 obtain ⟨h1, h2, h3, h4⟩ := hf
 refine wpV_first (v := v) hi (Region.noSelect_spec h1) n listed _ K (closed_of h4) (Region.free_spec hi h2) (by simpa using h3)
   (.inl fun K' => .inl ⟨hw, fun w hk => Oto.of_wp hd (Nat.le_of_ble_eq_true hlt) (hy w (hk.sub (fun _ h => by cases h)))⟩) ?_
 rw [hd]
 subst hT
 exact h
end
theorem get_ex {l : List Nat} {k : Nat} (h : k < l.length) : ∃ x, l[k]? = some x := ⟨_, List.getElem?_eq_getElem h⟩
theorem ansG_sub {W0 : Base} {K K2 : List (Nat × Obj)} {l : List Nat} {v : Value} (h : AnsG W0 K l v K2) : ∀ p ∈ K, p ∈ K2 := by
 obtain ⟨_, _, _, _, _, _, _, _, rfl⟩ := h
 exact fun p hp => List.mem_append_left _ hp
theorem ansW2_sub {W0 : Base} {K K2 : List (Nat × Obj)} {l m : List Nat} {v : Value} (h : AnsW2 W0 K l m v K2) : ∀ p ∈ K, p ∈ K2 := by
 obtain ⟨_, _, _, _, _, _, _, _, _, _, rfl⟩ := h
 exact fun p hp => List.mem_append_left _ hp
set_option maxRecDepth 100000 in
set_option maxHeartbeats 4000000 in
theorem radd_any (a b : Nat) (p q : Option Addr) (c d : Nat) (la : (cd a).length ≤ 100000) (lb : (cd b).length ≤ 100000) (w : World) (hp : SLV w p (nums (cd a))) (hq : SLV w q (nums (cd b))) : Calls Tryz.prog 46 #[.slice p (cd a).length c, .slice q (cd b).length d] w fun e w' => Ans w (cd (a + b)) e w' := by
 have HP : NS (w : Base) p (cd a) [] := NS.base hp
 have HQ : NS (w : Base) q (cd b) [] := NS.base hq
 clear hp hq
 go_enter Tryz.func46, Tryz.ntmps46
 refine wp_seq ?_
 refine wp_region_L [] (KS.start w) ?_
 refine Tw.mm (.slice none 0 0) ?_
 refine wpL_done (fun W1 hW1 => ?_)
 change Code.wp ..
 refine wp_seq ?_
 refine wp_region_L _ hW1 ?_
 refine Tw.mm (.slice none 0 0) ?_
 refine wpL_done (fun W2 hW2 => ?_)
 change Code.wp ..
 refine wp_seq ?_
 refine wp_region_L _ hW2 ?_
 refine Tw.mm (.int .i64 0) ?_
 refine wpL_done (fun W3 hW3 => ?_)
 change Code.wp ..
 refine wp_seq ?_
 refine wp_seq ?_
 refine wp_region_L _ hW3 ?_
 refine Tw.mm (.int .i64 0) ?_
 refine wpL_done (fun W4 hW4 => ?_)
 change Code.wp ..
 refine wp_block ?_
 go_loopw [7, 6, 5] (fun u7 u6 u5 wr => ∃ (i cy : Nat) (R : List Nat) (vo : Value) (Ko : List (Nat × Obj)), (OwnL (w : Base) 3 1 vo i (nums R) Ko) ∧ (AddI a b R i cy) ∧ (i ≤ (max (cd a).length (cd b).length) ∨ (i = (max (cd a).length (cd b).length) + 1 ∧ cy = 0)) ∧ u7 = .int .i64 ((i : Nat) : Int) ∧ u6 = .int .i64 ((cy : Nat) : Int) ∧ vo = u5 ∧ KS w Ko wr) (fun u7 _ _ _ => (max (cd a).length (cd b).length) + 2 - (intOf u7).toNat)
 case atStart => exact ⟨0, 0, [], (.slice none 0 0), [], (OwnL.nil _ _ _), (AddI.start a b), Tw.om, rfl, rfl, rfl, (hW4.sub Tw.sb)⟩
 case round =>
   obtain ⟨i, cy, R, vo, Ko, hO, hI, hi, rfl, rfl, rfl, hL5⟩ := hrel
   have hcy := hI.c1
   refine wp_seq ?_
   refine wp_seq ?_
   refine wp_region_L _ hL5 ?_
   refine Tw.mm (.int .i64 ((i : Nat) : Int)) ?_
   refine Tw.mm (.slice p ((cd a).length) c) ?_
   refine Tw.lp (v := .int .i64 ((((cd a).length) : Nat) : Int)) rfl rfl (run_lenL (p := p) (cap := c) (n := ((cd a).length)) rfl Tryz.underlying32 Tw.kr) ?_
   refine Tw.lp (v := .bool (decide (i < ((cd a).length)))) rfl rfl (run_bin rfl (vx := (.int .i64 ((i : Nat) : Int))) (vy := (.int .i64 ((((cd a).length) : Nat) : Int))) Tw.kr Tw.kr fun w => bn_lss rfl w) ?_
   refine Tw.mm (.bool (decide (i < ((cd a).length)))) ?_
   cases hd1 : (decide (i < ((cd a).length))) with
   | false =>
     have h1 : ¬ (i < ((cd a).length)) := of_decide_eq_false hd1
     clear hd1
     refine Tw.mm (.int .i64 ((i : Nat) : Int)) ?_
     refine Tw.mm (.slice q ((cd b).length) d) ?_
     refine Tw.lp (v := .int .i64 ((((cd b).length) : Nat) : Int)) rfl rfl (run_lenL (p := q) (cap := d) (n := ((cd b).length)) rfl Tryz.underlying32 Tw.kr) ?_
     refine Tw.lp (v := .bool (decide (i < ((cd b).length)))) rfl rfl (run_bin rfl (vx := (.int .i64 ((i : Nat) : Int))) (vy := (.int .i64 ((((cd b).length) : Nat) : Int))) Tw.kr Tw.kr fun w => bn_lss rfl w) ?_
     refine Tw.mm (.bool (decide (i < ((cd b).length)))) ?_
     refine Tw.mm (.bool (decide (i < ((cd b).length)))) ?_
     cases hd2 : (decide (i < ((cd b).length))) with
     | false =>
       have h2 : ¬ (i < ((cd b).length)) := of_decide_eq_false hd2
       clear hd2
       refine Tw.mm (.int .i64 ((cy : Nat) : Int)) ?_
       refine Tw.lp (v := .bool (decide (0 < cy))) rfl rfl (run_bin rfl (vx := (.int .i64 ((cy : Nat) : Int))) (vy := (.int .i64 ((0 : Nat) : Int))) Tw.kr Tw.kr fun w => bn_gtr rfl w) ?_
       refine Tw.mm (.bool (decide (0 < cy))) ?_
       refine wpL_done (fun W6 hW6 => ?_)
       change Code.wp ..
       cases hd3 : (decide (0 < cy)) with
       | false =>
         have h3 : ¬ (0 < cy) := of_decide_eq_false hd3
         clear hd3
         refine wp_cond_false rfl ?_
         refine wp_exit ?_
         change Code.wp ..
         refine wp_seq ?_
         refine wp_region_L _ hW6 ?_
         refine Tw.mm vo ?_
         refine Tw.mm vo ?_
         refine wpL_done (fun W7 hW7 => ?_)
         change Code.wp ..
         refine wp_ret ?_
         try simp only [inBlock_ret, then_ret]
         refine bodyPost_ret (v := vo) ?_ rfl ?_
         · kernel_rfl
         · exact ans_end hO (by have hc0 : cy = 0 := Tw.om; subst hc0; exact hI.end h1 h2) hW7 Tw.sb
       | true =>
         have h3 : 0 < cy := of_decide_eq_true hd3
         clear hd3
         refine wp_cond_true rfl ?_
         refine wp_skip ?_
         change Code.wp ..
         refine wp_seq ?_
         refine wp_block ?_
         refine wp_seq ?_
         refine wp_seq ?_
         refine wp_region_L _ hW6 ?_
         refine Tw.mm (.int .i64 ((i : Nat) : Int)) ?_
         refine Tw.mm (.slice p ((cd a).length) c) ?_
         refine Tw.lp (v := .int .i64 ((((cd a).length) : Nat) : Int)) rfl rfl (run_lenL (p := p) (cap := c) (n := ((cd a).length)) rfl Tryz.underlying32 Tw.kr) ?_
         refine Tw.lp (v := .bool false) rfl rfl (run_bin rfl (vx := (.int .i64 ((i : Nat) : Int))) (vy := (.int .i64 ((((cd a).length) : Nat) : Int))) Tw.kr Tw.kr fun w => bn_lss (decide_eq_false (by assumption)) w) ?_
         refine wpL_done (fun W8 hW8 => ?_)
         change Code.wp ..
         refine wp_cond_false rfl ?_
         refine wp_skip ?_
         change Code.wp ..
         refine wp_seq ?_
         refine wp_seq ?_
         refine wp_region_L _ hW8 ?_
         refine Tw.mm (.int .i64 ((i : Nat) : Int)) ?_
         refine Tw.mm (.slice q ((cd b).length) d) ?_
         refine Tw.lp (v := .int .i64 ((((cd b).length) : Nat) : Int)) rfl rfl (run_lenL (p := q) (cap := d) (n := ((cd b).length)) rfl Tryz.underlying32 Tw.kr) ?_
         refine Tw.lp (v := .bool false) rfl rfl (run_bin rfl (vx := (.int .i64 ((i : Nat) : Int))) (vy := (.int .i64 ((((cd b).length) : Nat) : Int))) Tw.kr Tw.kr fun w => bn_lss (decide_eq_false (by assumption)) w) ?_
         refine wpL_done (fun W9 hW9 => ?_)
         change Code.wp ..
         refine wp_cond_false rfl ?_
         refine wp_skip ?_
         change Code.wp ..
         refine wp_seq ?_
         refine wp_region_L _ hW9 ?_
         refine Tw.mm vo ?_
         refine Tw.mm (.int .i64 ((cy : Nat) : Int)) ?_
         refine Tw.lp (v := .int .i64 (((cy % 65536) : Nat) : Int)) rfl rfl (run_bin rfl (vx := (.int .i64 ((cy : Nat) : Int))) (vy := (.int .i64 ((65536 : Nat) : Int))) Tw.kr Tw.kr fun w => bn_rem (z := (cy % 65536)) rfl Tw.om w) ?_
         refine wpL_new (fun g => .slice (some ⟨g, 0, none⟩) 1 1) (obi := .cells #[.int .i64 (((cy % 65536) : Nat) : Int)] 3 (0, 0)) rfl rfl Tw.kf Tw.pf fun g2 Bg2 Fg2 => ?_
         obtain dj3_0 : Dk g2 Ko := Tw.dkf Fg2
         refine wpL_g (AppO w 3 1 [] (i + 1) ((nums R) ++ [.int .i64 (((cy % 65536) : Nat) : Int)])) rfl rfl (app_own el_int (m := 1) (c := 1) (news := [.int .i64 (((cy % 65536) : Nat) : Int)]) rfl Tw.kr Tw.kr Tw.m0 hO Tw.sc (fun _ h => by cases h) rfl (by simp [strV, Value.oneCell']) Tw.om Tw.om Tw.om) Tw.pf ?_
         rintro v4 Kl4 ⟨_, O4, N4, rfl⟩
         refine Tw.mm v4 ?_
         refine wpL_done (fun W10 hW10 => ?_)
         change Code.wp ..
         refine wp_region_L _ hW10 ?_
         refine Tw.mm (.int .i64 ((cy : Nat) : Int)) ?_
         refine Tw.lp (v := .int .i64 (((cy / 65536) : Nat) : Int)) rfl rfl (run_bin rfl (vx := (.int .i64 ((cy : Nat) : Int))) (vy := (.int .i64 ((65536 : Nat) : Int))) Tw.kr Tw.kr fun w => bn_quo (z := (cy / 65536)) rfl Tw.om (wr_i64 Tw.om) w) ?_
         refine Tw.mm (.int .i64 (((cy / 65536) : Nat) : Int)) ?_
         refine wpL_done (fun W11 hW11 => ?_)
         change Code.wp ..
         refine wp_region_L _ hW11 ?_
         refine Tw.mm (.int .i64 ((i : Nat) : Int)) ?_
         refine Tw.lp (v := .int .i64 (((i + 1) : Nat) : Int)) rfl rfl (run_bin rfl (vx := (.int .i64 ((i : Nat) : Int))) (vy := (.int .i64 ((1 : Nat) : Int))) Tw.kr Tw.kr fun w => bn_add (z := (i + 1)) rfl (wr_i64 Tw.om) w) ?_
         refine Tw.mm (.int .i64 (((i + 1) : Nat) : Int)) ?_
         refine wpL_done (fun W12 hW12 => ?_)
         go_roundw
         case rel =>
           repeat apply Exists.intro
           exact ⟨⟨i + 1, (cy / 65536), (R ++ [cy % 65536]), v4, Kl4, (own_snoc O4), (AddI.step (s := cy) hI (.inr ⟨h1, rfl⟩) (.inr ⟨h2, rfl⟩) Tw.om Tw.om), Tw.om, rfl, rfl, rfl, (hW12.sub Tw.sb)⟩, rfl⟩
         case measure => (show (max (cd a).length (cd b).length) + 2 - (intOf (.int .i64 (((i + 1) : Nat) : Int))).toNat < (max (cd a).length (cd b).length) + 2 - (intOf (.int .i64 ((i : Nat) : Int))).toNat); simp only [intOf]; omega
     | true =>
       have h2 : i < ((cd b).length) := of_decide_eq_true hd2
       clear hd2
       refine Tw.ln rfl ?_
       refine Tw.ln rfl ?_
       refine Tw.mm (.bool true) ?_
       refine wpL_done (fun W13 hW13 => ?_)
       change Code.wp ..
       refine wp_cond_true rfl ?_
       refine wp_skip ?_
       change Code.wp ..
       refine wp_seq ?_
       refine wp_block ?_
       refine wp_seq ?_
       refine wp_seq ?_
       refine wp_region_L _ hW13 ?_
       refine Tw.mm (.int .i64 ((i : Nat) : Int)) ?_
       refine Tw.mm (.slice p ((cd a).length) c) ?_
       refine Tw.lp (v := .int .i64 ((((cd a).length) : Nat) : Int)) rfl rfl (run_lenL (p := p) (cap := c) (n := ((cd a).length)) rfl Tryz.underlying32 Tw.kr) ?_
       refine Tw.lp (v := .bool false) rfl rfl (run_bin rfl (vx := (.int .i64 ((i : Nat) : Int))) (vy := (.int .i64 ((((cd a).length) : Nat) : Int))) Tw.kr Tw.kr fun w => bn_lss (decide_eq_false (by assumption)) w) ?_
       refine wpL_done (fun W14 hW14 => ?_)
       change Code.wp ..
       refine wp_cond_false rfl ?_
       refine wp_skip ?_
       change Code.wp ..
       refine wp_seq ?_
       refine wp_seq ?_
       refine wp_region_L _ hW14 ?_
       refine Tw.mm (.int .i64 ((i : Nat) : Int)) ?_
       refine Tw.mm (.slice q ((cd b).length) d) ?_
       refine Tw.lp (v := .int .i64 ((((cd b).length) : Nat) : Int)) rfl rfl (run_lenL (p := q) (cap := d) (n := ((cd b).length)) rfl Tryz.underlying32 Tw.kr) ?_
       refine Tw.lp (v := .bool true) rfl rfl (run_bin rfl (vx := (.int .i64 ((i : Nat) : Int))) (vy := (.int .i64 ((((cd b).length) : Nat) : Int))) Tw.kr Tw.kr fun w => bn_lss (decide_eq_true (by assumption)) w) ?_
       refine wpL_done (fun W15 hW15 => ?_)
       change Code.wp ..
       refine wp_cond_true rfl ?_
       refine wp_region_L _ hW15 ?_
       refine Tw.mm (.int .i64 ((cy : Nat) : Int)) ?_
       refine Tw.mm (.slice q ((cd b).length) d) ?_
       refine Tw.mm (.int .i64 ((i : Nat) : Int)) ?_
       obtain ⟨b5, f5, hp5, hc5⟩ := (HQ.mono Tw.sb).at hW15 (k := i) Tw.om
       refine Tw.lp (v := .pointer (some ⟨b5, f5 + i * 1, none⟩)) rfl rfl (run_idxQ (p := q) (cap := d) (n := ((cd b).length)) (j := .i64) (k := i) (sz := 1) rfl Tryz.underlying32 Tw.kr Tw.kr hp5 Tw.kr Tw.om) ?_
       obtain ⟨x6, hx6⟩ : ∃ xq_, ((cd b) : List Nat)[i]? = some xq_ := get_ex (show i < ((cd b) : List Nat).length by omega)
       have lx6 : x6 < 65536 := dOk.at (cd_ok b) hx6
       refine Tw.lv (v := .int .i64 ((x6 : Nat) : Int)) rfl rfl (yb_ns (off := f5 + i * 1) rfl Tw.kr (fun W hW => hc5 W (hW.sub Tw.sb) _ _ hx6) Tryz.underlying3 rfl) ?_
       refine Tw.lp (v := .int .i64 (((cy + x6) : Nat) : Int)) rfl rfl (run_bin rfl (vx := (.int .i64 ((cy : Nat) : Int))) (vy := (.int .i64 ((x6 : Nat) : Int))) Tw.kr Tw.kr fun w => bn_add (z := (cy + x6)) rfl (wr_i64 Tw.om) w) ?_
       refine Tw.mm (.int .i64 (((cy + x6) : Nat) : Int)) ?_
       refine wpL_done (fun W16 hW16 => ?_)
       change Code.wp ..
       refine wp_seq ?_
       refine wp_region_L _ hW16 ?_
       refine Tw.mm vo ?_
       refine Tw.mm (.int .i64 (((cy + x6) : Nat) : Int)) ?_
       refine Tw.lp (v := .int .i64 ((((cy + x6) % 65536) : Nat) : Int)) rfl rfl (run_bin rfl (vx := (.int .i64 (((cy + x6) : Nat) : Int))) (vy := (.int .i64 ((65536 : Nat) : Int))) Tw.kr Tw.kr fun w => bn_rem (z := ((cy + x6) % 65536)) rfl Tw.om w) ?_
       refine wpL_new (fun g => .slice (some ⟨g, 0, none⟩) 1 1) (obi := .cells #[.int .i64 ((((cy + x6) % 65536) : Nat) : Int)] 3 (0, 0)) rfl rfl Tw.kf Tw.pf fun g7 Bg7 Fg7 => ?_
       obtain dj8_0 : Dk g7 Ko := Tw.dkf Fg7
       refine wpL_g (AppO w 3 1 [] (i + 1) ((nums R) ++ [.int .i64 ((((cy + x6) % 65536) : Nat) : Int)])) rfl rfl (app_own el_int (m := 1) (c := 1) (news := [.int .i64 ((((cy + x6) % 65536) : Nat) : Int)]) rfl Tw.kr Tw.kr Tw.m0 hO Tw.sc (fun _ h => by cases h) rfl (by simp [strV, Value.oneCell']) Tw.om Tw.om Tw.om) Tw.pf ?_
       rintro v9 Kl9 ⟨_, O9, N9, rfl⟩
       refine Tw.mm v9 ?_
       refine wpL_done (fun W17 hW17 => ?_)
       change Code.wp ..
       refine wp_region_L _ hW17 ?_
       refine Tw.mm (.int .i64 (((cy + x6) : Nat) : Int)) ?_
       refine Tw.lp (v := .int .i64 ((((cy + x6) / 65536) : Nat) : Int)) rfl rfl (run_bin rfl (vx := (.int .i64 (((cy + x6) : Nat) : Int))) (vy := (.int .i64 ((65536 : Nat) : Int))) Tw.kr Tw.kr fun w => bn_quo (z := ((cy + x6) / 65536)) rfl Tw.om (wr_i64 Tw.om) w) ?_
       refine Tw.mm (.int .i64 ((((cy + x6) / 65536) : Nat) : Int)) ?_
       refine wpL_done (fun W18 hW18 => ?_)
       change Code.wp ..
       refine wp_region_L _ hW18 ?_
       refine Tw.mm (.int .i64 ((i : Nat) : Int)) ?_
       refine Tw.lp (v := .int .i64 (((i + 1) : Nat) : Int)) rfl rfl (run_bin rfl (vx := (.int .i64 ((i : Nat) : Int))) (vy := (.int .i64 ((1 : Nat) : Int))) Tw.kr Tw.kr fun w => bn_add (z := (i + 1)) rfl (wr_i64 Tw.om) w) ?_
       refine Tw.mm (.int .i64 (((i + 1) : Nat) : Int)) ?_
       refine wpL_done (fun W19 hW19 => ?_)
       go_roundw
       case rel =>
         repeat apply Exists.intro
         exact ⟨⟨i + 1, ((cy + x6) / 65536), (R ++ [(cy + x6) % 65536]), v9, Kl9, (own_snoc O9), (AddI.step (s := (cy + x6)) hI (.inr ⟨h1, rfl⟩) (.inl ⟨h2, hx6⟩) Tw.om Tw.om), Tw.om, rfl, rfl, rfl, (hW19.sub Tw.sb)⟩, rfl⟩
       case measure => (show (max (cd a).length (cd b).length) + 2 - (intOf (.int .i64 (((i + 1) : Nat) : Int))).toNat < (max (cd a).length (cd b).length) + 2 - (intOf (.int .i64 ((i : Nat) : Int))).toNat); simp only [intOf]; omega
   | true =>
     have h1 : i < ((cd a).length) := of_decide_eq_true hd1
     clear hd1
     refine Tw.ln rfl ?_
     refine Tw.ln rfl ?_
     refine Tw.ln rfl ?_
     refine Tw.ln rfl ?_
     refine Tw.mm (.bool true) ?_
     refine Tw.mm (.bool true) ?_
     refine Tw.ln rfl ?_
     refine Tw.ln rfl ?_
     refine Tw.mm (.bool true) ?_
     refine wpL_done (fun W20 hW20 => ?_)
     change Code.wp ..
     refine wp_cond_true rfl ?_
     refine wp_skip ?_
     change Code.wp ..
     refine wp_seq ?_
     refine wp_block ?_
     refine wp_seq ?_
     refine wp_seq ?_
     refine wp_region_L _ hW20 ?_
     refine Tw.mm (.int .i64 ((i : Nat) : Int)) ?_
     refine Tw.mm (.slice p ((cd a).length) c) ?_
     refine Tw.lp (v := .int .i64 ((((cd a).length) : Nat) : Int)) rfl rfl (run_lenL (p := p) (cap := c) (n := ((cd a).length)) rfl Tryz.underlying32 Tw.kr) ?_
     refine Tw.lp (v := .bool true) rfl rfl (run_bin rfl (vx := (.int .i64 ((i : Nat) : Int))) (vy := (.int .i64 ((((cd a).length) : Nat) : Int))) Tw.kr Tw.kr fun w => bn_lss (decide_eq_true (by assumption)) w) ?_
     refine wpL_done (fun W21 hW21 => ?_)
     change Code.wp ..
     refine wp_cond_true rfl ?_
     refine wp_region_L _ hW21 ?_
     refine Tw.mm (.int .i64 ((cy : Nat) : Int)) ?_
     refine Tw.mm (.slice p ((cd a).length) c) ?_
     refine Tw.mm (.int .i64 ((i : Nat) : Int)) ?_
     obtain ⟨b10, f10, hp10, hc10⟩ := (HP.mono Tw.sb).at hW21 (k := i) Tw.om
     refine Tw.lp (v := .pointer (some ⟨b10, f10 + i * 1, none⟩)) rfl rfl (run_idxQ (p := p) (cap := c) (n := ((cd a).length)) (j := .i64) (k := i) (sz := 1) rfl Tryz.underlying32 Tw.kr Tw.kr hp10 Tw.kr Tw.om) ?_
     obtain ⟨x11, hx11⟩ : ∃ xq_, ((cd a) : List Nat)[i]? = some xq_ := get_ex (show i < ((cd a) : List Nat).length by omega)
     have lx11 : x11 < 65536 := dOk.at (cd_ok a) hx11
     refine Tw.lv (v := .int .i64 ((x11 : Nat) : Int)) rfl rfl (yb_ns (off := f10 + i * 1) rfl Tw.kr (fun W hW => hc10 W (hW.sub Tw.sb) _ _ hx11) Tryz.underlying3 rfl) ?_
     refine Tw.lp (v := .int .i64 (((cy + x11) : Nat) : Int)) rfl rfl (run_bin rfl (vx := (.int .i64 ((cy : Nat) : Int))) (vy := (.int .i64 ((x11 : Nat) : Int))) Tw.kr Tw.kr fun w => bn_add (z := (cy + x11)) rfl (wr_i64 Tw.om) w) ?_
     refine Tw.mm (.int .i64 (((cy + x11) : Nat) : Int)) ?_
     refine wpL_done (fun W22 hW22 => ?_)
     change Code.wp ..
     refine wp_seq ?_
     refine wp_seq ?_
     refine wp_region_L _ hW22 ?_
     refine Tw.mm (.int .i64 ((i : Nat) : Int)) ?_
     refine Tw.mm (.slice q ((cd b).length) d) ?_
     refine Tw.lp (v := .int .i64 ((((cd b).length) : Nat) : Int)) rfl rfl (run_lenL (p := q) (cap := d) (n := ((cd b).length)) rfl Tryz.underlying32 Tw.kr) ?_
     refine Tw.lp (v := .bool (decide (i < ((cd b).length)))) rfl rfl (run_bin rfl (vx := (.int .i64 ((i : Nat) : Int))) (vy := (.int .i64 ((((cd b).length) : Nat) : Int))) Tw.kr Tw.kr fun w => bn_lss rfl w) ?_
     refine wpL_done (fun W23 hW23 => ?_)
     change Code.wp ..
     cases hd4 : (decide (i < ((cd b).length))) with
     | false =>
       have h4 : ¬ (i < ((cd b).length)) := of_decide_eq_false hd4
       clear hd4
       refine wp_cond_false rfl ?_
       refine wp_skip ?_
       change Code.wp ..
       refine wp_seq ?_
       refine wp_region_L _ hW23 ?_
       refine Tw.mm vo ?_
       refine Tw.mm (.int .i64 (((cy + x11) : Nat) : Int)) ?_
       refine Tw.lp (v := .int .i64 ((((cy + x11) % 65536) : Nat) : Int)) rfl rfl (run_bin rfl (vx := (.int .i64 (((cy + x11) : Nat) : Int))) (vy := (.int .i64 ((65536 : Nat) : Int))) Tw.kr Tw.kr fun w => bn_rem (z := ((cy + x11) % 65536)) rfl Tw.om w) ?_
       refine wpL_new (fun g => .slice (some ⟨g, 0, none⟩) 1 1) (obi := .cells #[.int .i64 ((((cy + x11) % 65536) : Nat) : Int)] 3 (0, 0)) rfl rfl Tw.kf Tw.pf fun g12 Bg12 Fg12 => ?_
       obtain dj13_0 : Dk g12 Ko := Tw.dkf Fg12
       refine wpL_g (AppO w 3 1 [] (i + 1) ((nums R) ++ [.int .i64 ((((cy + x11) % 65536) : Nat) : Int)])) rfl rfl (app_own el_int (m := 1) (c := 1) (news := [.int .i64 ((((cy + x11) % 65536) : Nat) : Int)]) rfl Tw.kr Tw.kr Tw.m0 hO Tw.sc (fun _ h => by cases h) rfl (by simp [strV, Value.oneCell']) Tw.om Tw.om Tw.om) Tw.pf ?_
       rintro v14 Kl14 ⟨_, O14, N14, rfl⟩
       refine Tw.mm v14 ?_
       refine wpL_done (fun W24 hW24 => ?_)
       change Code.wp ..
       refine wp_region_L _ hW24 ?_
       refine Tw.mm (.int .i64 (((cy + x11) : Nat) : Int)) ?_
       refine Tw.lp (v := .int .i64 ((((cy + x11) / 65536) : Nat) : Int)) rfl rfl (run_bin rfl (vx := (.int .i64 (((cy + x11) : Nat) : Int))) (vy := (.int .i64 ((65536 : Nat) : Int))) Tw.kr Tw.kr fun w => bn_quo (z := ((cy + x11) / 65536)) rfl Tw.om (wr_i64 Tw.om) w) ?_
       refine Tw.mm (.int .i64 ((((cy + x11) / 65536) : Nat) : Int)) ?_
       refine wpL_done (fun W25 hW25 => ?_)
       change Code.wp ..
       refine wp_region_L _ hW25 ?_
       refine Tw.mm (.int .i64 ((i : Nat) : Int)) ?_
       refine Tw.lp (v := .int .i64 (((i + 1) : Nat) : Int)) rfl rfl (run_bin rfl (vx := (.int .i64 ((i : Nat) : Int))) (vy := (.int .i64 ((1 : Nat) : Int))) Tw.kr Tw.kr fun w => bn_add (z := (i + 1)) rfl (wr_i64 Tw.om) w) ?_
       refine Tw.mm (.int .i64 (((i + 1) : Nat) : Int)) ?_
       refine wpL_done (fun W26 hW26 => ?_)
       go_roundw
       case rel =>
         repeat apply Exists.intro
         exact ⟨⟨i + 1, ((cy + x11) / 65536), (R ++ [(cy + x11) % 65536]), v14, Kl14, (own_snoc O14), (AddI.step (s := (cy + x11)) hI (.inl ⟨h1, hx11⟩) (.inr ⟨h4, rfl⟩) Tw.om Tw.om), Tw.om, rfl, rfl, rfl, (hW26.sub Tw.sb)⟩, rfl⟩
       case measure => (show (max (cd a).length (cd b).length) + 2 - (intOf (.int .i64 (((i + 1) : Nat) : Int))).toNat < (max (cd a).length (cd b).length) + 2 - (intOf (.int .i64 ((i : Nat) : Int))).toNat); simp only [intOf]; omega
     | true =>
       have h4 : i < ((cd b).length) := of_decide_eq_true hd4
       clear hd4
       refine wp_cond_true rfl ?_
       refine wp_region_L _ hW23 ?_
       refine Tw.mm (.int .i64 (((cy + x11) : Nat) : Int)) ?_
       refine Tw.mm (.slice q ((cd b).length) d) ?_
       refine Tw.mm (.int .i64 ((i : Nat) : Int)) ?_
       obtain ⟨b15, f15, hp15, hc15⟩ := (HQ.mono Tw.sb).at hW23 (k := i) Tw.om
       refine Tw.lp (v := .pointer (some ⟨b15, f15 + i * 1, none⟩)) rfl rfl (run_idxQ (p := q) (cap := d) (n := ((cd b).length)) (j := .i64) (k := i) (sz := 1) rfl Tryz.underlying32 Tw.kr Tw.kr hp15 Tw.kr Tw.om) ?_
       obtain ⟨x16, hx16⟩ : ∃ xq_, ((cd b) : List Nat)[i]? = some xq_ := get_ex (show i < ((cd b) : List Nat).length by omega)
       have lx16 : x16 < 65536 := dOk.at (cd_ok b) hx16
       refine Tw.lv (v := .int .i64 ((x16 : Nat) : Int)) rfl rfl (yb_ns (off := f15 + i * 1) rfl Tw.kr (fun W hW => hc15 W (hW.sub Tw.sb) _ _ hx16) Tryz.underlying3 rfl) ?_
       refine Tw.lp (v := .int .i64 ((((cy + x11) + x16) : Nat) : Int)) rfl rfl (run_bin rfl (vx := (.int .i64 (((cy + x11) : Nat) : Int))) (vy := (.int .i64 ((x16 : Nat) : Int))) Tw.kr Tw.kr fun w => bn_add (z := ((cy + x11) + x16)) rfl (wr_i64 Tw.om) w) ?_
       refine Tw.mm (.int .i64 ((((cy + x11) + x16) : Nat) : Int)) ?_
       refine wpL_done (fun W27 hW27 => ?_)
       change Code.wp ..
       refine wp_seq ?_
       refine wp_region_L _ hW27 ?_
       refine Tw.mm vo ?_
       refine Tw.mm (.int .i64 ((((cy + x11) + x16) : Nat) : Int)) ?_
       refine Tw.lp (v := .int .i64 (((((cy + x11) + x16) % 65536) : Nat) : Int)) rfl rfl (run_bin rfl (vx := (.int .i64 ((((cy + x11) + x16) : Nat) : Int))) (vy := (.int .i64 ((65536 : Nat) : Int))) Tw.kr Tw.kr fun w => bn_rem (z := (((cy + x11) + x16) % 65536)) rfl Tw.om w) ?_
       refine wpL_new (fun g => .slice (some ⟨g, 0, none⟩) 1 1) (obi := .cells #[.int .i64 (((((cy + x11) + x16) % 65536) : Nat) : Int)] 3 (0, 0)) rfl rfl Tw.kf Tw.pf fun g17 Bg17 Fg17 => ?_
       obtain dj18_0 : Dk g17 Ko := Tw.dkf Fg17
       refine wpL_g (AppO w 3 1 [] (i + 1) ((nums R) ++ [.int .i64 (((((cy + x11) + x16) % 65536) : Nat) : Int)])) rfl rfl (app_own el_int (m := 1) (c := 1) (news := [.int .i64 (((((cy + x11) + x16) % 65536) : Nat) : Int)]) rfl Tw.kr Tw.kr Tw.m0 hO Tw.sc (fun _ h => by cases h) rfl (by simp [strV, Value.oneCell']) Tw.om Tw.om Tw.om) Tw.pf ?_
       rintro v19 Kl19 ⟨_, O19, N19, rfl⟩
       refine Tw.mm v19 ?_
       refine wpL_done (fun W28 hW28 => ?_)
       change Code.wp ..
       refine wp_region_L _ hW28 ?_
       refine Tw.mm (.int .i64 ((((cy + x11) + x16) : Nat) : Int)) ?_
       refine Tw.lp (v := .int .i64 (((((cy + x11) + x16) / 65536) : Nat) : Int)) rfl rfl (run_bin rfl (vx := (.int .i64 ((((cy + x11) + x16) : Nat) : Int))) (vy := (.int .i64 ((65536 : Nat) : Int))) Tw.kr Tw.kr fun w => bn_quo (z := (((cy + x11) + x16) / 65536)) rfl Tw.om (wr_i64 Tw.om) w) ?_
       refine Tw.mm (.int .i64 (((((cy + x11) + x16) / 65536) : Nat) : Int)) ?_
       refine wpL_done (fun W29 hW29 => ?_)
       change Code.wp ..
       refine wp_region_L _ hW29 ?_
       refine Tw.mm (.int .i64 ((i : Nat) : Int)) ?_
       refine Tw.lp (v := .int .i64 (((i + 1) : Nat) : Int)) rfl rfl (run_bin rfl (vx := (.int .i64 ((i : Nat) : Int))) (vy := (.int .i64 ((1 : Nat) : Int))) Tw.kr Tw.kr fun w => bn_add (z := (i + 1)) rfl (wr_i64 Tw.om) w) ?_
       refine Tw.mm (.int .i64 (((i + 1) : Nat) : Int)) ?_
       refine wpL_done (fun W30 hW30 => ?_)
       go_roundw
       case rel =>
         repeat apply Exists.intro
         exact ⟨⟨i + 1, (((cy + x11) + x16) / 65536), (R ++ [((cy + x11) + x16) % 65536]), v19, Kl19, (own_snoc O19), (AddI.step (s := ((cy + x11) + x16)) hI (.inl ⟨h1, hx11⟩) (.inl ⟨h4, hx16⟩) Tw.om Tw.om), Tw.om, rfl, rfl, rfl, (hW30.sub Tw.sb)⟩, rfl⟩
       case measure => (show (max (cd a).length (cd b).length) + 2 - (intOf (.int .i64 (((i + 1) : Nat) : Int))).toNat < (max (cd a).length (cd b).length) + 2 - (intOf (.int .i64 ((i : Nat) : Int))).toNat); simp only [intOf]; omega
end Go.Proofs.YtalmflgkbmnghaaGreatDoor
namespace Go.Proofs.YtalmflgkbmnghaaGreatDoor
open Go Go.RowKit Tw
open Tf (dg R R_pos R_le R_succ dg_of_lt setd setd_eq)
structure DigI (n : Nat) (R : List Nat) (i : Nat) : Prop where
 ok : dOk R
 len : R.length = 2 * i
 val : dv R + 65536 ^ (2 * i) * (n / 65536 ^ (2 * i)) = n
theorem DigI.start (n : Nat) : DigI n [] 0 := ⟨dOk.nil, rfl, by simp [dv]⟩
theorem dg_q (n i : Nat) : dg n i = n / 65536 ^ (2 * i) % 4294967296 := by rw [← R_sq]; unfold dg; rfl
theorem dg_lt' (n i : Nat) : dg n i < 4294967296 := by rw [dg_q]; exact Nat.mod_lt _ Tw.om
theorem DigI.step {n : Nat} {R : List Nat} {i : Nat} (h : DigI n R i) : DigI n (R ++ [dg n i % 65536] ++ [dg n i / 65536]) (i + 1) := by
 obtain ⟨h1, h2, h3⟩ := h
 have hq := dg_q n i
 have hl := dg_lt' n i
 refine ⟨(h1.snoc (Nat.mod_lt _ Tw.om)).snoc Tw.om, by simp [h2]; omega, ?_⟩
 have e : n / 65536 ^ (2 * (i + 1)) = n / 65536 ^ (2 * i) / 4294967296 := by
   rw [show 2 * (i + 1) = 2 * i + 2 from by omega, Nat.pow_add, Nat.div_div_eq_div_mul]
 rw [dv_snoc, dv_snoc, List.length_append, h2, e, hq]
 conv => rhs; rw [← h3]
 generalize n / 65536 ^ (2 * i) = q
 rw [show 2 * (i + 1) = 2 * i + 2 from by omega, Nat.pow_add, show ([q % 4294967296 % 65536] : List Nat).length = 1 from rfl, Nat.pow_add]
 generalize 65536 ^ (2 * i) = m
 simp only [Nat.add_assoc, Nat.mul_assoc, ← Nat.mul_add]
 congr 2
 omega
theorem DigI.end {n : Nat} {R : List Nat} {i : Nat} (h : DigI n R i) (hi : i = 8) (hn : n < 65536 ^ (2 * 8)) : dv R = n := by
 have h3 := h.val
 subst hi
 rw [Nat.div_eq_of_lt hn, Nat.mul_zero] at h3
 omega
theorem one_is {x e : Nat} (h : (cd x).length = 1) (he : (cd x)[0]? = some e) : decide (e = 1) = decide (x = 1) := by
 have h1 := dv_take he
 rw [List.take_of_length_le Tw.om, dv_cd] at h1
 simp [dv] at h1
 rw [h1]
theorem one_not {x : Nat} (h : ¬ (cd x).length = 1) : false = decide (x = 1) := by
 rw [eq_comm, decide_eq_false_iff_not]
 rintro rfl
 exact h (by rw [cd_pos Tw.om]; rfl)
theorem own_two {W0 : Base} {E : TypeId} {v : Value} {n d e : Nat} {l : List Nat} {K : List (Nat × Obj)} (h : OwnL W0 E 1 v (2 * n + 2) (nums l ++ [.int .i64 ((d : Nat) : Int), .int .i64 ((e : Nat) : Int)]) K) : OwnL W0 E 1 v (2 * (n + 1)) (nums (l ++ [d] ++ [e])) K := by
 have : nums (l ++ [d] ++ [e]) = nums l ++ [.int .i64 ((d : Nat) : Int), .int .i64 ((e : Nat) : Int)] := by simp [nums]
 rw [this]
 exact h
set_option maxRecDepth 100000 in
set_option maxHeartbeats 20000000 in
theorem rdigits_any (n : Nat) (hn : n < R 8) (w : World) : Calls Tryz.prog 43 #[.agg (fa 8 (dg n))] w fun e w' => Ans w (cd n) e w' := by
 have hn2 : n < 65536 ^ (2 * 8) := by rw [← R_sq]; exact hn
 have ln16 : (cd n).length ≤ 16 := cd_le.2 hn2
 go_enter Tryz.func43, Tryz.ntmps43
 refine wp_seq ?_
 refine wp_region_L [] (KS.start w) ?_
 refine wpL_new (fun g => .pointer (some ⟨g, 0, none⟩)) (obi := .cells (fa 8 (dg n)) 23 (0, 0)) rfl rfl Tw.kf Tw.pf fun g1 Bg1 Fg1 => ?_
 refine Tw.mm (.slice none 0 0) ?_
 refine wpL_done (fun W1 hW1 => ?_)
 change Code.wp ..
 refine wp_seq ?_
 refine wp_region_L _ hW1 ?_
 refine Tw.mm (.slice none 0 0) ?_
 refine wpL_done (fun W2 hW2 => ?_)
 change Code.wp ..
 refine wp_seq ?_
 refine wp_seq ?_
 refine wp_region_L _ hW2 ?_
 refine Tw.mm (.int .i64 0) ?_
 refine wpL_done (fun W3 hW3 => ?_)
 change Code.wp ..
 refine wp_block ?_
 go_loopw [4, 3] (fun u4 u3 wr => ∃ (i : Nat) (R : List Nat) (vo : Value) (Ko : List (Nat × Obj)), (OwnL (w : Base) 3 1 vo (2 * i) (nums R) Ko) ∧ (DigI n R i) ∧ (i ≤ 8) ∧ (Dk g1 Ko) ∧ u4 = .int .i64 ((i : Nat) : Int) ∧ vo = u3 ∧ KS w ((g1, .cells (fa 8 (dg n)) 23 (0, 0)) :: Ko) wr) (fun u4 _ _ => 8 - (intOf u4).toNat)
 case atStart => exact ⟨0, [], (.slice none 0 0), [], (OwnL.nil _ _ _), (DigI.start n), Tw.om, (show Dk g1 [] from Tw.djt), rfl, rfl, (hW3.sub Tw.sb)⟩
 case round =>
   obtain ⟨i, R, vo, Ko, hO, hI, hi, dh2_0, rfl, rfl, hL4⟩ := hrel
   have hdg := dg_lt' n i
   have hRl := hI.len
   refine wp_seq ?_
   refine wp_seq ?_
   refine wp_region_L _ hL4 ?_
   refine Tw.mm (.int .i64 ((i : Nat) : Int)) ?_
   refine Tw.lp (v := .bool (decide (i < 8))) rfl rfl (run_bin rfl (vx := (.int .i64 ((i : Nat) : Int))) (vy := (.int .i64 ((8 : Nat) : Int))) Tw.kr Tw.kr fun w => bn_lss rfl w) ?_
   refine wpL_done (fun W5 hW5 => ?_)
   change Code.wp ..
   cases hd1 : (decide (i < 8)) with
   | false =>
     have h1 : ¬ (i < 8) := of_decide_eq_false hd1
     clear hd1
     refine wp_cond_false rfl ?_
     refine wp_exit ?_
     change Code.wp ..
     refine wp_seq ?_
     refine wp_region_L _ hW5 ?_
     refine Tw.mm vo ?_
     obtain ⟨p3, c3, rfl, hc3, HN3, HF3⟩ := own_ns hO
     refine Tw.lv (v := .slice p3 ((cd n).length) c3) rfl rfl (yb_call (f := 81) (args := #[.slice p3 (2 * i) c3]) Tw.kf fun W hW => trim_any R n (2 * i) p3 c3 hI.ok (hI.end Tw.om hn2) (own_len hO).symm hc3 Tw.om W ((HN3.mono Tw.sb) W hW)) ?_
     refine Tw.mm (.slice p3 ((cd n).length) c3) ?_
     refine wpL_done (fun W6 hW6 => ?_)
     change Code.wp ..
     refine wp_ret ?_
     try simp only [inBlock_ret, then_ret]
     refine bodyPost_ret (v := .slice p3 ((cd n).length) c3) ?_ rfl ?_
     · kernel_rfl
     · exact ⟨_, _, rfl, (Nat.le_trans (cd_trim_le hI.ok (hI.end Tw.om hn2) (own_len hO).symm) hc3), slf_trim (HF3 _ _ (hW6.sub Tw.sb) rfl (Below.refl _ _)) hI.ok (hI.end Tw.om hn2), hW6.1⟩
   | true =>
     have h1 : i < 8 := of_decide_eq_true hd1
     clear hd1
     refine wp_cond_true rfl ?_
     refine wp_skip ?_
     change Code.wp ..
     refine wp_seq ?_
     refine wp_block ?_
     refine wp_region_V _ Tw.kr hW5 ?_
     refine vm (i := 0) (v := vo) rfl rfl rfl ?_
     refine vm (i := 1) (v := .int .i64 ((i : Nat) : Int)) rfl rfl rfl ?_
     refine vp (i := 2) (v := .pointer (some ⟨g1, 0 + i * 1, none⟩)) rfl rfl rfl (run_idxA (j := .i64) (b := g1) (off := 0) (k := i) (sz := 1) rfl Tryz.underlying23 Tw.kr Tw.kr Tw.kr Tw.om) ?_
     refine vv (i := 3) (v := .int .u32 (((dg n i) : Nat) : Int)) rfl rfl rfl (yb_cell rfl Tw.kr Tw.m0 Tryz.underlying22 rfl (fa_at Tw.om)) ?_
     refine vp (i := 4) (v := .int .u32 ((((dg n i) % 65536) : Nat) : Int)) rfl rfl rfl (run_bin rfl (vx := (.int .u32 (((dg n i) : Nat) : Int))) (vy := (.int .u32 ((65536 : Nat) : Int))) Tw.kr Tw.kr fun w => bn_rem (z := ((dg n i) % 65536)) rfl Tw.om w) ?_
     refine vp (i := 5) (v := .int .i64 ((((dg n i) % 65536) : Nat) : Int)) rfl rfl rfl (run_conv rfl (vx := (.int .u32 ((((dg n i) % 65536) : Nat) : Int))) Tw.kr fun w => cv_int Tryz.underlying22 Tryz.underlying3 (wr_i64 Tw.om) w) ?_
     refine vm (i := 6) (v := .int .i64 ((i : Nat) : Int)) rfl rfl rfl ?_
     refine vp (i := 7) (v := .pointer (some ⟨g1, 0 + i * 1, none⟩)) rfl rfl rfl (run_idxA (j := .i64) (b := g1) (off := 0) (k := i) (sz := 1) rfl Tryz.underlying23 Tw.kr Tw.kr Tw.kr Tw.om) ?_
     refine vv (i := 8) (v := .int .u32 (((dg n i) : Nat) : Int)) rfl rfl rfl (yb_cell rfl Tw.kr Tw.m0 Tryz.underlying22 rfl (fa_at Tw.om)) ?_
     refine vp (i := 9) (v := .int .u32 ((((dg n i) / 65536) : Nat) : Int)) rfl rfl rfl (run_bin rfl (vx := (.int .u32 (((dg n i) : Nat) : Int))) (vy := (.int .u32 ((65536 : Nat) : Int))) Tw.kr Tw.kr fun w => bn_quo (z := ((dg n i) / 65536)) rfl Tw.om (wr_u32 Tw.om) w) ?_
     refine vp (i := 10) (v := .int .i64 ((((dg n i) / 65536) : Nat) : Int)) rfl rfl rfl (run_conv rfl (vx := (.int .u32 ((((dg n i) / 65536) : Nat) : Int))) Tw.kr fun w => cv_int Tryz.underlying22 Tryz.underlying3 (wr_i64 Tw.om) w) ?_
     refine wpV_ns (fun g => .slice (some ⟨g, 0, none⟩) 2 2) (i := 11) (obi := .cells #[.int .i64 ((((dg n i) % 65536) : Nat) : Int), .int .i64 ((((dg n i) / 65536) : Nat) : Int)] 3 (0, 0)) rfl rfl rfl Tw.kr Tw.kf Tw.pf fun g4 Bg4 Fg4 => ?_
     obtain ⟨dj5_0, dj5_1⟩ : g1 ≠ g4 ∧ Dk g4 Ko := Tw.dkf Fg4
     refine wpV_g (AppO w 3 1 [(g1, .cells (fa 8 (dg n)) 23 (0, 0))] ((2 * i) + 2) ((nums R) ++ [.int .i64 ((((dg n i) % 65536) : Nat) : Int), .int .i64 ((((dg n i) / 65536) : Nat) : Int)])) (i := 12) rfl rfl rfl Tw.kr rfl (app_own el_int (m := 2) (c := 2) (news := [.int .i64 ((((dg n i) % 65536) : Nat) : Int), .int .i64 ((((dg n i) / 65536) : Nat) : Int)]) rfl Tw.kr Tw.kr Tw.m0 hO Tw.sc (fun p hp => ⟨by simp only [List.mem_cons, List.mem_append, List.nil_append, List.not_mem_nil, or_assoc, or_false, false_or] at hp ⊢ <;> grind, (show Dj [(g1, .cells (fa 8 (dg n)) 23 (0, 0))] Ko from Tw.djt) p hp⟩) rfl (by simp [strV, Value.oneCell']) Tw.om Tw.om Tw.om) Tw.pf ?_
     rintro v6 K9 ⟨Kl6, O6, N6, rfl⟩
     obtain dj7_0 : Dk g1 Kl6 := Tw.djf N6
     refine vm (i := 13) (v := v6) rfl rfl rfl ?_
     refine wpV_done Tw.kr (fun W7 hW7 => ?_) _
     change Code.wp ..
     refine wp_region_L _ hW7 ?_
     refine Tw.mm (.int .i64 ((i : Nat) : Int)) ?_
     refine Tw.lp (v := .int .i64 (((i + 1) : Nat) : Int)) rfl rfl (run_bin rfl (vx := (.int .i64 ((i : Nat) : Int))) (vy := (.int .i64 ((1 : Nat) : Int))) Tw.kr Tw.kr fun w => bn_add (z := (i + 1)) rfl (wr_i64 Tw.om) w) ?_
     refine Tw.mm (.int .i64 (((i + 1) : Nat) : Int)) ?_
     refine wpL_done (fun W8 hW8 => ?_)
     go_roundw
     case rel =>
       repeat apply Exists.intro
       exact ⟨⟨i + 1, (R ++ [dg n i % 65536] ++ [dg n i / 65536]), v6, Kl6, (by have h := O6; exact own_two h), hI.step, Tw.om, (show Dk g1 Kl6 from Tw.djt), rfl, rfl, (hW8.sub Tw.sb)⟩, rfl⟩
     case measure => (show 8 - (intOf (.int .i64 (((i + 1) : Nat) : Int))).toNat < 8 - (intOf (.int .i64 ((i : Nat) : Int))).toNat); simp only [intOf]; omega
set_option maxRecDepth 100000 in
set_option maxHeartbeats 4000000 in
theorem rone_any (x : Nat) (p : Option Addr) (c : Nat) (w : World) (hp : SLV w p (nums (cd x))) : Calls Tryz.prog 50 #[.slice p (cd x).length c] w fun e w' => e = .returned (.bool (decide (x = 1))) ∧ Below w.heap.size w w' := by
 have HP : NS (w : Base) p (cd x) [] := NS.base hp
 clear hp
 obtain ⟨S, hS⟩ : ∃ S, S = decide (x = 1) := ⟨_, rfl⟩
 rw [← hS]
 go_enter Tryz.func50, Tryz.ntmps50
 refine wp_seq ?_
 refine wp_region_L [] (KS.start w) ?_
 refine Tw.mm (.bool false) ?_
 refine wpL_done (fun W1 hW1 => ?_)
 change Code.wp ..
 refine wp_seq ?_
 refine wp_region_L _ hW1 ?_
 refine Tw.mm (.slice p ((cd x).length) c) ?_
 refine Tw.lp (v := .int .i64 ((((cd x).length) : Nat) : Int)) rfl rfl (run_lenL (p := p) (cap := c) (n := ((cd x).length)) rfl Tryz.underlying32 Tw.kr) ?_
 refine Tw.lp (v := .bool (decide (((cd x).length) = 1))) rfl rfl (run_bin rfl (vx := (.int .i64 ((((cd x).length) : Nat) : Int))) (vy := (.int .i64 ((1 : Nat) : Int))) Tw.kr Tw.kr fun w => bn_eql rfl w) ?_
 refine Tw.mm (.bool (decide (((cd x).length) = 1))) ?_
 cases hd1 : (decide (((cd x).length) = 1)) with
 | false =>
   have h1 : ¬ (((cd x).length) = 1) := of_decide_eq_false hd1
   clear hd1
   refine Tw.ln rfl ?_
   refine Tw.ln rfl ?_
   refine Tw.ln rfl ?_
   refine Tw.ln rfl ?_
   refine Tw.mm (.bool false) ?_
   refine Tw.mm (.bool false) ?_
   refine wpL_done (fun W2 hW2 => ?_)
   change Code.wp ..
   refine wp_ret ?_
   try simp only [inBlock_ret, then_ret]
   refine bodyPost_ret (v := .bool false) ?_ rfl ?_
   · kernel_rfl
   · exact ⟨(bool_is ((one_not h1).trans hS.symm)), hW2.1⟩
 | true =>
   have h1 : ((cd x).length) = 1 := of_decide_eq_true hd1
   clear hd1
   refine Tw.mm (.slice p ((cd x).length) c) ?_
   obtain ⟨b1, f1, hp1, hc1⟩ := (HP.mono Tw.sb).at hW1 (k := 0) Tw.om
   refine Tw.lp (v := .pointer (some ⟨b1, f1 + 0 * 1, none⟩)) rfl rfl (run_idxQ (p := p) (cap := c) (n := ((cd x).length)) (j := .i64) (k := 0) (sz := 1) rfl Tryz.underlying32 Tw.kr Tw.kr hp1 Tw.kr Tw.om) ?_
   obtain ⟨x2, hx2⟩ : ∃ xq_, ((cd x) : List Nat)[0]? = some xq_ := get_ex (show 0 < ((cd x) : List Nat).length by omega)
   have lx2 : x2 < 65536 := dOk.at (cd_ok x) hx2
   refine Tw.lv (v := .int .i64 ((x2 : Nat) : Int)) rfl rfl (yb_ns (off := f1 + 0 * 1) rfl Tw.kr (fun W hW => hc1 W (hW.sub Tw.sb) _ _ hx2) Tryz.underlying3 rfl) ?_
   refine Tw.lp (v := .bool (decide (x2 = 1))) rfl rfl (run_bin rfl (vx := (.int .i64 ((x2 : Nat) : Int))) (vy := (.int .i64 ((1 : Nat) : Int))) Tw.kr Tw.kr fun w => bn_eql rfl w) ?_
   refine Tw.mm (.bool (decide (x2 = 1))) ?_
   refine Tw.mm (.bool (decide (x2 = 1))) ?_
   refine wpL_done (fun W3 hW3 => ?_)
   change Code.wp ..
   refine wp_ret ?_
   try simp only [inBlock_ret, then_ret]
   refine bodyPost_ret (v := .bool (decide (x2 = 1))) ?_ rfl ?_
   · kernel_rfl
   · exact ⟨(bool_is ((one_is h1 hx2).trans hS.symm)), hW3.1⟩
end Go.Proofs.YtalmflgkbmnghaaGreatDoor
namespace Go.Proofs.YtalmflgkbmnghaaGreatDoor
open Go Go.RowKit Tw
open Tf (dg R R_pos R_le R_succ dg_of_lt setd setd_eq)
theorem cd_mul_len (x y : Nat) : (cd (x * y)).length ≤ (cd x).length + (cd y).length := by
 rw [cd_le, Nat.pow_add]
 rcases Nat.eq_zero_or_pos (x * y) with h | h
 · rw [h]; exact Nat.mul_pos (Nat.pow_pos Tw.om) (Nat.pow_pos Tw.om)
 · exact Nat.mul_lt_mul'' (cd_hi x) (cd_hi y)
theorem cd_drop_len (b k : Nat) : (cd (dv ((cd b).drop k))).length ≤ (cd b).length := by
 rw [← cd_drop b k, List.length_drop]; omega
theorem mul_len {a b k m : Nat} (h : m = a * dv ((cd b).drop k)) : (cd m).length ≤ (cd a).length + (cd b).length := by
 have h1 := cd_mul_len a (dv ((cd b).drop k))
 have h2 := cd_drop_len b k
 rw [h]; omega
theorem cd_base_len (m : Nat) : (cd (65536 * m)).length ≤ (cd m).length + 1 := by
 rw [cd_le, Nat.pow_succ]
 have := cd_hi m
 omega
set_option maxRecDepth 100000 in
set_option maxHeartbeats 20000000 in
theorem rmul_any (a b : Nat) (p q : Option Addr) (c d : Nat) (la : (cd a).length ≤ 20000) (lb : (cd b).length ≤ 20000) (w : World) (hp : SLV w p (nums (cd a))) (hq : SLV w q (nums (cd b))) : Calls Tryz.prog 44 #[.slice p (cd a).length c, .slice q (cd b).length d] w fun e w' => Ans w (cd (a * b)) e w' := by
 have HP : NS (w : Base) p (cd a) [] := NS.base hp
 have HQ : NS (w : Base) q (cd b) [] := NS.base hq
 clear hp hq
 go_enter Tryz.func44, Tryz.ntmps44
 refine wp_seq ?_
 refine wp_region_L [] (KS.start w) ?_
 refine Tw.mm (.slice none 0 0) ?_
 refine wpL_done (fun W1 hW1 => ?_)
 change Code.wp ..
 refine wp_seq ?_
 refine wp_region_L _ hW1 ?_
 refine Tw.mm (.slice none 0 0) ?_
 refine wpL_done (fun W2 hW2 => ?_)
 change Code.wp ..
 refine wp_seq ?_
 refine wp_seq ?_
 refine wp_region_L _ hW2 ?_
 refine Tw.mm (.slice q ((cd b).length) d) ?_
 refine Tw.lp (v := .int .i64 ((((cd b).length) : Nat) : Int)) rfl rfl (run_lenL (p := q) (cap := d) (n := ((cd b).length)) rfl Tryz.underlying32 Tw.kr) ?_
 refine Tw.lp (v := .int .i64 (((((cd b).length) : Nat) : Int) - 1)) rfl rfl (run_bin rfl (vx := (.int .i64 ((((cd b).length) : Nat) : Int))) (vy := (.int .i64 ((1 : Nat) : Int))) Tw.kr Tw.kr fun w => bi_sub (z := (((((cd b).length) : Nat) : Int) - 1)) rfl (wi_i64 Tw.om) w) ?_
 refine Tw.mm (.int .i64 (((((cd b).length) : Nat) : Int) - 1)) ?_
 refine wpL_done (fun W3 hW3 => ?_)
 change Code.wp ..
 refine wp_block ?_
 go_loopw [6, 5] (fun u6 u5 wr => ∃ (z : Int) (k : Nat) (po : Option Addr) (co : Nat) (m : Nat) (Kt : List (Nat × Obj)), (NS (w : Base) po (cd m) Kt) ∧ (∀ W3, KS (w : Base) Kt W3 → SLF w W3 po (nums (cd m))) ∧ ((cd m).length ≤ co) ∧ (z = (k : Int) - 1) ∧ (k ≤ (cd b).length) ∧ (m = a * dv ((cd b).drop k)) ∧ ((cd m).length ≤ 40000) ∧ u6 = .int .i64 z ∧ u5 = .slice po ((cd m).length) co ∧ KS w Kt wr) (fun u6 _ _ => (intOf u6 + 1).toNat)
 case atStart => exact ⟨(((((cd b).length) : Nat) : Int) - 1), (cd b).length, none, 0, 0, [], NS.nil, (fun _ _ => .inl (by rw [cd_zero]; rfl)), (Nat.zero_le _), rfl, (Nat.le_refl _), (by rw [drop_big (Nat.le_refl _), Nat.mul_zero]), (by rw [cd_zero]; simp), rfl, rfl, (hW3.sub Tw.sb)⟩
 case round =>
   obtain ⟨z, k, po, co, m, Kt, HO, HF, hco, hz, hk, hm, hml, rfl, rfl, hL4⟩ := hrel
   refine wp_seq ?_
   refine wp_seq ?_
   refine wp_region_L _ hL4 ?_
   refine Tw.mm (.int .i64 z) ?_
   refine Tw.lp (v := .bool (!(decide (z < 0)))) rfl rfl (run_bin rfl (vx := (.int .i64 z)) (vy := (.int .i64 0)) Tw.kr Tw.kr fun w => bi_geq rfl w) ?_
   refine wpL_done (fun W5 hW5 => ?_)
   change Code.wp ..
   cases hd1 : (decide (z < 0)) with
   | false =>
     have h1 : ¬ (z < 0) := of_decide_eq_false hd1
     clear hd1
     obtain ⟨j, rfl⟩ := Int.eq_ofNat_of_zero_le (show 0 ≤ z by omega)
     obtain rfl : k = j + 1 := by omega
     refine wp_cond_true rfl ?_
     refine wp_skip ?_
     change Code.wp ..
     refine wp_seq ?_
     refine wp_block ?_
     refine wp_region_V _ Tw.kr hW5 ?_
     refine vm (i := 1) (v := .slice po ((cd m).length) co) rfl rfl rfl ?_
     refine vm (i := 4) (v := .slice p ((cd a).length) c) rfl rfl rfl ?_
     refine vm (i := 5) (v := .slice q ((cd b).length) d) rfl rfl rfl ?_
     refine vm (i := 6) (v := .int .i64 ((j : Nat) : Int)) rfl rfl rfl ?_
     obtain ⟨b1, f1, hp1, hc1⟩ := HQ.at (hW5.sub (fun q hq => by cases hq)) (k := j) Tw.om
     refine vp (i := 7) (v := .pointer (some ⟨b1, f1 + j * 1, none⟩)) rfl rfl rfl (run_idxQ (p := q) (cap := d) (n := ((cd b).length)) (j := .i64) (k := j) (sz := 1) rfl Tryz.underlying32 Tw.kr Tw.kr hp1 Tw.kr Tw.om) ?_
     obtain ⟨x2, hx2⟩ : ∃ xq_, ((cd b) : List Nat)[j]? = some xq_ := get_ex (show j < ((cd b) : List Nat).length by omega)
     have lx2 : x2 < 65536 := dOk.at (cd_ok b) hx2
     refine vb (i := 8) (v := .int .i64 ((x2 : Nat) : Int)) rfl rfl rfl (yb_ns (off := f1 + j * 1) rfl Tw.kr (fun W hW => hc1 W hW _ _ hx2) Tryz.underlying3 rfl) ?_
     refine wpV_ns (fun g => .slice (some ⟨g, 0, none⟩) 1 1) (i := 0) (obi := .cells #[.int .i64 0] 3 (0, 0)) rfl rfl rfl Tw.kr Tw.kf Tw.pf fun g3 Bg3 Fg3 => ?_
     obtain dj4_0 : Dk g3 Kt := Tw.dkf Fg3
     refine wpV_g (AppO w 3 1 Kt (1 + ((cd m).length)) ((nums [0]) ++ nums (cd m))) (i := 2) rfl rfl rfl Tw.kr rfl (app_any el_int (m := ((cd m).length)) (news := nums (cd m)) rfl Tw.kr Tw.kr (src_ns (c := co) Tryz.underlying32 (HO.mono Tw.sb) rfl) (own_row (xs := (nums [0])) Bg3 rfl Tw.om) (fun p hp => by cases List.mem_singleton.1 hp; exact Tw.m0) (fun p hp => ⟨by simp only [List.mem_cons, List.mem_append, List.nil_append, List.not_mem_nil, or_assoc, or_false, false_or] at hp ⊢ <;> grind, (show Dj Kt [(g3, .cells #[.int .i64 0] 3 (0, 0))] from Tw.djt) p hp⟩) Tw.om Tw.om) Tw.pf ?_
     rintro v5 K9 ⟨Kl5, O5, N5, rfl⟩
     replace O5 : OwnL w 3 1 v5 (1 + ((cd m).length)) (nums ([0] ++ (cd m))) Kl5 := by rw [nums_app]; exact O5
     obtain dj6_0 : Dj Kt Kl5 := Tw.djf N5
     obtain ⟨p7, c7, rfl, hc7, HN7, HF7⟩ := own_ns O5
     refine wpV_c (i := 3) (fun u K2 => u = .slice p7 ((cd (65536 * m)).length) c7 ∧ K2 = (Kt ++ Kl5)) rfl rfl Tw.kr Tw.kr Tw.kf (fun W hW => (trim_any ([0] ++ (cd m)) (65536 * m) (1 + ((cd m).length)) p7 c7 ((show dOk [0] from fun z hz => by cases List.mem_singleton.1 hz; decide).app (cd_ok m)) (dv_append0 m) (own_len O5).symm hc7 Tw.om W ((HN7.mono Tw.sb) W hW)).mono fun e w2 hh => ⟨_, _, hh.1, KS.below hW hh.2, rfl, rfl⟩) (fun _ _ h => h.2 ▸ fun _ hp => hp) Tw.pf ?_
     rintro _ _ ⟨rfl, rfl⟩
     refine wpV_c (i := 9) (AnsG w (Kt ++ Kl5) (cd (a * x2))) rfl rfl Tw.kr Tw.kr Tw.kf (fun W hW => (scale_any a x2 p c Tw.om Tw.om W ((HP.mono Tw.sb) W hW)).mono fun e w2 h => Ans.g h hW) (fun _ _ h => ansG_sub h) Tw.pf ?_
     rintro v8 _ ⟨q8, d8, T8, rfl, C8, H8, F8, J8, rfl⟩
     obtain ⟨dj9_0, dj9_1⟩ : Dj Kt T8 ∧ Dj Kl5 T8 := Tw.djf J8
     have hl1 := cd_base_len m
     have hl2 := cd_mul_len a x2
     have hl3 : (cd x2).length ≤ 1 := cd_le.2 Tw.om
     refine wpV_c (i := 10) (AnsG w ((Kt ++ Kl5) ++ T8) (cd ((65536 * m) + (a * x2)))) rfl rfl Tw.kr Tw.kr Tw.kf (fun W hW => (radd_any (65536 * m) (a * x2) p7 q8 c7 d8 Tw.om Tw.om W (((ns_trim HN7 ((show dOk [0] from fun z hz => by cases List.mem_singleton.1 hz; decide).app (cd_ok m)) (dv_append0 m)).mono Tw.sb) W hW) ((H8.mono Tw.sb) W hW)).mono fun e w2 h => Ans.g h hW) (fun _ _ h => ansG_sub h) Tw.pf ?_
     rintro v10 _ ⟨q10, d10, T10, rfl, C10, H10, F10, J10, rfl⟩
     obtain ⟨dj11_0, dj11_1, dj11_2⟩ : Dj Kt T10 ∧ Dj Kl5 T10 ∧ Dj T8 T10 := Tw.djf J10
     refine vm (i := 11) (v := .slice q10 ((cd ((65536 * m) + (a * x2))).length) d10) rfl rfl rfl ?_
     refine wpV_done Tw.kr (fun W6 hW6 => ?_) _
     change Code.wp ..
     refine wp_region_L _ hW6 ?_
     refine Tw.mm (.int .i64 ((j : Nat) : Int)) ?_
     refine Tw.lp (v := .int .i64 (((j : Nat) : Int) - 1)) rfl rfl (run_bin rfl (vx := (.int .i64 ((j : Nat) : Int))) (vy := (.int .i64 ((1 : Nat) : Int))) Tw.kr Tw.kr fun w => bi_sub (z := (((j : Nat) : Int) - 1)) rfl (wi_i64 Tw.om) w) ?_
     refine Tw.mm (.int .i64 (((j : Nat) : Int) - 1)) ?_
     refine wpL_done (fun W7 hW7 => ?_)
     have e0 : (65536 * m) + (a * x2) = a * dv ((cd b).drop j) := by rw [hm]; have e := mul_step (a := a) hx2; rw [dv_append0] at e; exact e
     go_roundw
     case rel =>
       repeat apply Exists.intro
       exact ⟨⟨(((j : Nat) : Int) - 1), j, q10, d10, (65536 * m) + (a * x2), (Kt ++ (Kl5 ++ (T8 ++ T10))), (H10.mono Tw.sb), (fun W3 h => F10 W3 (h.sub Tw.sb) rfl), C10, rfl, Tw.om, e0, (by have := mul_len e0; omega), rfl, rfl, (hW7.sub Tw.sb)⟩, rfl⟩
     case measure => (show (intOf (.int .i64 (((j : Nat) : Int) - 1)) + 1).toNat < (intOf (.int .i64 ((j : Nat) : Int)) + 1).toNat); simp only [intOf]; omega
   | true =>
     have h1 : z < 0 := of_decide_eq_true hd1
     clear hd1
     refine wp_cond_false rfl ?_
     refine wp_exit ?_
     change Code.wp ..
     refine wp_seq ?_
     refine wp_region_L _ hW5 ?_
     refine Tw.mm (.slice po ((cd m).length) co) ?_
     refine Tw.lv (v := .slice po ((cd m).length) co) rfl rfl (yb_call (f := 81) (args := #[.slice po ((cd m).length) co]) Tw.kf fun W hW => trim_any (cd m) m ((cd m).length) po co (cd_ok m) (dv_cd m) rfl hco Tw.om W ((HO.mono Tw.sb) W hW)) ?_
     refine Tw.mm (.slice po ((cd m).length) co) ?_
     refine wpL_done (fun W8 hW8 => ?_)
     change Code.wp ..
     refine wp_ret ?_
     try simp only [inBlock_ret, then_ret]
     refine bodyPost_ret (v := .slice po ((cd m).length) co) ?_ rfl ?_
     · kernel_rfl
     · exact (by have h0 : k = 0 := Tw.om; subst h0; rw [List.drop_zero, dv_cd] at hm; rw [← hm]; exact ⟨_, _, rfl, (Nat.le_trans (cd_trim_le (cd_ok m) (dv_cd m) rfl) hco), HF _ hW8, hW8.1⟩)
end Go.Proofs.YtalmflgkbmnghaaGreatDoor
namespace Go.Proofs.YtalmflgkbmnghaaGreatDoor
open Go Go.RowKit Tw
open Tf (dg R R_pos R_le R_succ dg_of_lt setd setd_eq)
theorem bb_neq2 {x y : Operand} {a b : Bool} (w : World) : (do eqGuard .neq 4 x y (.bool a) (.bool b); binOp .neq 4 (.bool a) (.bool b) : Sem Value).run Tryz.prog w = .ok (.bool (a != b)) w := by
 cases a <;> cases b <;> kernel_rfl
theorem bb_eql2 {x y : Operand} {a b : Bool} (w : World) : (do eqGuard .eql 4 x y (.bool a) (.bool b); binOp .eql 4 (.bool a) (.bool b) : Sem Value).run Tryz.prog w = .ok (.bool (a == b)) w := by
 cases a <;> cases b <;> kernel_rfl
theorem yb_fnum {P : Program} {W0 : Base} {o : Oper} {a : Act} {K : List (Nat × Obj)} {ty t : TypeId} {x : Operand} {g : Nat} {fr : Nat × Nat} {s : Bool} {n d : Nat} {D : TypeDesc} (ho : o.op = .load ty x) (hx : a.eval x = .pointer (some ⟨g, 1, none⟩))
   (hm : (g, .cells (frcC s n d) t fr) ∈ K) (hu : P.underlying ty = some D) (hd : aggD D = true) (hi : (P.info? ty).map (·.size) = some 8) :
   ∀ w, KS W0 K w → ∀ K' : Act → World → Prop, (∀ w', Below w.heap.size w w' → K' (a.put o.dst (.agg (fa 8 (dg n)))) w') → Oper.wp P o a w K' (fun _ _ _ => False) :=
 yb_cells (cs := (fa 8 (dg n)).toList) ho hx hm (fun j v hj => by
   rw [Array.getElem?_toList] at hj
   have hl := (Array.getElem?_eq_some_iff.1 hj).1
   rw [fa_size] at hl
   unfold frcC
   rw [Array.getElem?_append_left (by simp <;> omega), Array.getElem?_append_right (by simp)]
   simpa using hj) hu hd (by simpa using hi)
theorem yb_fden {P : Program} {W0 : Base} {o : Oper} {a : Act} {K : List (Nat × Obj)} {ty t : TypeId} {x : Operand} {g : Nat} {fr : Nat × Nat} {s : Bool} {n d : Nat} {D : TypeDesc} (ho : o.op = .load ty x) (hx : a.eval x = .pointer (some ⟨g, 9, none⟩))
   (hm : (g, .cells (frcC s n d) t fr) ∈ K) (hu : P.underlying ty = some D) (hd : aggD D = true) (hi : (P.info? ty).map (·.size) = some 8) :
   ∀ w, KS W0 K w → ∀ K' : Act → World → Prop, (∀ w', Below w.heap.size w w' → K' (a.put o.dst (.agg (fa 8 (dg d)))) w') → Oper.wp P o a w K' (fun _ _ _ => False) :=
 yb_cells (cs := (fa 8 (dg d)).toList) ho hx hm (fun j v hj => by
   rw [Array.getElem?_toList] at hj
   have hl := (Array.getElem?_eq_some_iff.1 hj).1
   rw [fa_size] at hl
   unfold frcC
   rw [Array.getElem?_append_right (by simp <;> omega)]
   simpa [fa_size] using hj) hu hd (by simpa using hi)
theorem frc_set (s b : Bool) (n d : Nat) : (frcC s n d).setIfInBounds 0 (.bool b) = frcC b n d := by
 apply Array.ext'
 simp [frcC]
theorem frc_negq {b s : Bool} {n d : Nat} (h : b = s) : (frcC s n d)[0]? = some (.bool b) := by subst h; exact frc_neg _ _ _
theorem cd_16 {n : Nat} (h : n < R 8) : (cd n).length ≤ 16 := cd_R8.2 h
theorem cd_add_len {x y : Nat} {i j : Nat} (hx : (cd x).length ≤ i) (hy : (cd y).length ≤ j) (h1 : i ≤ 32 := by omega) (h2 : j ≤ 32 := by omega) : (cd (x + y)).length ≤ 33 := by
 have h3 := cd_le.1 (Nat.le_trans hx h1)
 have h4 := cd_le.1 (Nat.le_trans hy h2)
 refine cd_le.2 (Nat.lt_trans (Nat.add_lt_add h3 h4) ?_)
 decide
end Go.Proofs.YtalmflgkbmnghaaGreatDoor
namespace Go.Proofs.YtalmflgkbmnghaaGreatDoor
open Go.RowKit Tf
variable [ShLZ]
end Go.Proofs.YtalmflgkbmnghaaGreatDoor
namespace Go.Proofs.YtalmflgkbmnghaaGreatDoor
open Go Go.RowKit Tw Tf
variable [ShLZ]
theorem right_zero {neg : Bool} {n d : Nat} (h : (cd d).length = 0) : false = rightB neg n d := by
 rw [cd_len0] at h
 subst h
 unfold rightB
 split <;> simp
theorem right_neg {n d : Nat} (h : (cd n).length = 0) : false = rightB true n d := by
 rw [cd_len0] at h
 subst h
 unfold rightB
 simp
theorem right_gcd {neg : Bool} {n d : Nat} (hd : ¬ (cd d).length = 0) (h : neg = false ∨ ¬ (cd n).length = 0) : decide (Nat.gcd n d = 1) = rightB neg n d := by
 rw [cd_len0] at hd
 simp only [cd_len0] at h
 unfold rightB
 split
 · rename_i h0
   subst h0
   rcases h with h | h
   · subst h; simp
   · exact absurd rfl h
 · simp [hd]
theorem pack_norm (S : Bool) (N Z : Nat) (hZ : Z ≠ 0) (q : Rat) (hq : q = Rat.normalize (sg S N) Z hZ) : packV S (N / Nat.gcd N Z) (Z / Nat.gcd N Z) = fracV q := by
 have hg : 0 < Nat.gcd N Z := Nat.gcd_pos_of_pos_right _ Tw.om
 have e1 : q.num = sg S (N / Nat.gcd N Z) := by
   rw [hq, Rat.normalize_eq]
   show sg S N / (((sg S N).natAbs.gcd Z : Nat) : Int) = _
   rw [sg_abs]
   obtain ⟨m, hm⟩ := Nat.gcd_dvd_left N Z
   have h2 : sg S N = (Nat.gcd N Z : Int) * sg S m := by
     have h3 : sg S (Nat.gcd N Z * m) = (Nat.gcd N Z : Int) * sg S m := by
       unfold sg
       split <;> simp [Int.mul_neg]
     rw [← h3, ← hm]
   rw [Nat.div_eq_of_eq_mul_right hg hm]
   rw [h2, Int.mul_ediv_cancel_left _ Tw.om]
 have e2 : q.den = Z / Nat.gcd N Z := by
   rw [hq, Rat.normalize_eq]
   show Z / (sg S N).natAbs.gcd Z = _
   rw [sg_abs]
 refine packV_rat q (by rw [e1, sg_abs]) e2 ?_
 rw [e1, sg_neg]
theorem sg_mul (s : Bool) (a b : Nat) : sg s (a * b) = sg s a * (b : Int) := by
 unfold sg; split <;> simp [Int.neg_mul]
theorem sg_xor (s t : Bool) (a b : Nat) : sg (s != t) (a * b) = sg s a * sg t b := by
 cases s <;> cases t <;> simp [sg, Int.neg_mul, Int.mul_neg]
theorem norm_add (x y : Rat) (hZ : x.den * y.den ≠ 0) : packV (psS (decide (x.num < 0)) (decide (y.num < 0)) (x.num.natAbs * y.den) (y.num.natAbs * x.den)) (psN (decide (x.num < 0)) (decide (y.num < 0)) (x.num.natAbs * y.den) (y.num.natAbs * x.den) / Nat.gcd (psN (decide (x.num < 0)) (decide (y.num < 0)) (x.num.natAbs * y.den) (y.num.natAbs * x.den)) (x.den * y.den)) (x.den * y.den / Nat.gcd (psN (decide (x.num < 0)) (decide (y.num < 0)) (x.num.natAbs * y.den) (y.num.natAbs * x.den)) (x.den * y.den)) = fracV (x + y) := by
 refine pack_norm _ _ _ hZ _ ?_
 have e : sg (psS (decide (x.num < 0)) (decide (y.num < 0)) (x.num.natAbs * y.den) (y.num.natAbs * x.den)) (psN (decide (x.num < 0)) (decide (y.num < 0)) (x.num.natAbs * y.den) (y.num.natAbs * x.den)) = x.num * y.den + y.num * x.den := by
   rw [ps_int, sg_mul, sg_mul, sg_of, sg_of]
 rw [Rat.add_def]
 simp only [e]
theorem add_norm {s1 s2 : Bool} {n1 d1 n2 d2 : Nat} (h1 : rightB s1 n1 d1 = true) (h2 : rightB s2 n2 d2 = true) : packV (psS s1 s2 (n1 * d2) (n2 * d1)) (psN s1 s2 (n1 * d2) (n2 * d1) / Nat.gcd (psN s1 s2 (n1 * d2) (n2 * d1)) (d1 * d2)) (d1 * d2 / Nat.gcd (psN s1 s2 (n1 * d2) (n2 * d1)) (d1 * d2)) = addV s1 n1 d1 s2 n2 d2 := by
 obtain ⟨x, _, e2, e3, e4⟩ := right_rat h1
 obtain ⟨y, _, f2, f3, f4⟩ := right_rat h2
 subst e2 e3 e4 f2 f3 f4
 rw [norm_add x y (Nat.ne_of_gt (Nat.mul_pos x.den_pos y.den_pos)), addV_rat]
theorem mul_norm {s1 s2 : Bool} {n1 d1 n2 d2 : Nat} (h1 : rightB s1 n1 d1 = true) (h2 : rightB s2 n2 d2 = true) : packV (s1 != s2) (n1 * n2 / Nat.gcd (n1 * n2) (d1 * d2)) (d1 * d2 / Nat.gcd (n1 * n2) (d1 * d2)) = mulV s1 n1 d1 s2 n2 d2 := by
 obtain ⟨x, _, e2, e3, e4⟩ := right_rat h1
 obtain ⟨y, _, f2, f3, f4⟩ := right_rat h2
 subst e2 e3 e4 f2 f3 f4
 rw [mulV_rat]
 refine pack_norm _ _ _ (Nat.ne_of_gt (Nat.mul_pos x.den_pos y.den_pos)) _ ?_
 have e : sg (decide (x.num < 0) != decide (y.num < 0)) (x.num.natAbs * y.num.natAbs) = x.num * y.num := by rw [sg_xor, sg_of, sg_of]
 rw [Rat.mul_def]
 simp only [e]
theorem div_norm {s1 s2 : Bool} {n1 d1 n2 d2 : Nat} (h1 : rightB s1 n1 d1 = true) (h2 : rightB s2 n2 d2 = true) (h0 : n2 ≠ 0) : packV (s1 != s2) (n1 * d2 / Nat.gcd (n1 * d2) (d1 * n2)) (d1 * n2 / Nat.gcd (n1 * d2) (d1 * n2)) = mulV s1 n1 d1 s2 d2 n2 := by
 obtain ⟨x, _, e2, e3, e4⟩ := right_rat h1
 obtain ⟨y, _, f2, f3, f4⟩ := right_rat h2
 subst e2 e3 e4 f2 f3 f4
 have hy : y.num ≠ 0 := by omega
 rw [divV_rat x y hy]
 refine pack_norm _ _ _ (Nat.ne_of_gt (Nat.mul_pos x.den_pos Tw.om)) _ ?_
 have hn : (y⁻¹).num = y.num.sign * y.den := Rat.num_inv y
 have hd : (y⁻¹).den = y.num.natAbs := by rw [Rat.den_inv]; simp [hy]
 have e : sg (decide (x.num < 0) != decide (y.num < 0)) (x.num.natAbs * y.den) = x.num * (y⁻¹).num := by
   rw [hn, sg_xor, sg_of]
   congr 1
   rcases Int.lt_trichotomy y.num 0 with h | h | h
   · rw [Int.sign_eq_neg_one_of_neg h]; simp [sg, h]
   · exact absurd h hy
   · rw [Int.sign_eq_one_of_pos h]
     have : ¬ y.num < 0 := by omega
     simp [sg, this]
 rw [Rat.div_def, Rat.mul_def]
 simp only [e, hd]
theorem right_flip {s : Bool} {n d : Nat} (h : n ≠ 0) : rightB (!s) n d = rightB s n d := by
 unfold rightB
 rw [if_neg h, if_neg h]
end Go.Proofs.YtalmflgkbmnghaaGreatDoor
namespace Go.Proofs.YtalmflgkbmnghaaGreatDoor
open Go Go.RowKit Tw
open Tf (dg R R_pos R_le R_succ dg_of_lt setd setd_eq)
variable [ShLZ]
set_option maxRecDepth 100000 in
set_option maxHeartbeats 20000000 in
theorem rright_any (s : Bool) (n d : Nat) (hn : n < R 8) (hd : d < R 8) (w : World) : Calls Tryz.prog 18 #[.agg (frcC s n d)] w fun e w' => e = .returned (.bool (rightB s n d)) ∧ Below w.heap.size w w' := by
 obtain ⟨S, hS⟩ : ∃ S, S = rightB s n d := ⟨_, rfl⟩
 rw [← hS]
 have lnn := cd_16 hn
 have lnd := cd_16 hd
 go_enter Tryz.func18, Tryz.ntmps18
 refine wp_seq ?_
 refine wp_region_L [] (KS.start w) ?_
 refine wpL_new (fun g => .pointer (some ⟨g, 0, none⟩)) (obi := .cells (frcC s n d) 34 (0, 0)) rfl rfl Tw.kf Tw.pf fun g1 Bg1 Fg1 => ?_
 refine Tw.mm (.bool false) ?_
 refine wpL_done (fun W1 hW1 => ?_)
 change Code.wp ..
 refine wp_seq ?_
 refine wp_region_V _ Tw.kr hW1 ?_
 refine vm (i := 0) (v := .pointer (some ⟨g1, 1, none⟩)) rfl rfl rfl ?_
 refine vv (i := 1) (v := .agg (fa 8 (dg n))) rfl rfl rfl (yb_fnum (s := s) (n := n) (d := d) rfl Tw.kr Tw.m0 Tryz.underlying23 rfl Tw.kr) ?_
 refine vm (i := 3) (v := .pointer (some ⟨g1, 9, none⟩)) rfl rfl rfl ?_
 refine vv (i := 4) (v := .agg (fa 8 (dg d))) rfl rfl rfl (yb_fden (s := s) (n := n) (d := d) rfl Tw.kr Tw.m0 Tryz.underlying23 rfl Tw.kr) ?_
 refine wpV_c (i := 2) (AnsG w [(g1, .cells (frcC s n d) 34 (0, 0))] (cd n)) rfl rfl Tw.kr Tw.kr Tw.kf (fun W hW => (rdigits_any n hn W).mono fun e w2 h => Ans.g h hW) (fun _ _ h => ansG_sub h) Tw.pf ?_
 rintro v2 _ ⟨q2, d2, T2, rfl, C2, H2, F2, J2, rfl⟩
 obtain dj3_0 : Dk g1 T2 := Tw.djf J2
 refine wpV_c (i := 5) (AnsG w ((g1, .cells (frcC s n d) 34 (0, 0)) :: T2) (cd d)) rfl rfl Tw.kr Tw.kr Tw.kf (fun W hW => (rdigits_any d hd W).mono fun e w2 h => Ans.g h hW) (fun _ _ h => ansG_sub h) Tw.pf ?_
 rintro v4 _ ⟨q4, d4, T4, rfl, C4, H4, F4, J4, rfl⟩
 obtain ⟨dj5_0, dj5_1⟩ : Dk g1 T4 ∧ Dj T2 T4 := Tw.djf J4
 refine vm (i := 6) (v := .slice q2 ((cd n).length) d2) rfl rfl rfl ?_
 refine vm (i := 7) (v := .slice q4 ((cd d).length) d4) rfl rfl rfl ?_
 refine wpV_done Tw.kr (fun W2 hW2 => ?_) _
 change Code.wp ..
 refine wp_seq ?_
 refine wp_seq ?_
 refine wp_region_L _ hW2 ?_
 refine Tw.mm (.slice q4 ((cd d).length) d4) ?_
 refine Tw.lp (v := .int .i64 ((((cd d).length) : Nat) : Int)) rfl rfl (run_lenL (p := q4) (cap := d4) (n := ((cd d).length)) rfl Tryz.underlying32 Tw.kr) ?_
 refine Tw.lp (v := .bool (decide (((cd d).length) = 0))) rfl rfl (run_bin rfl (vx := (.int .i64 ((((cd d).length) : Nat) : Int))) (vy := (.int .i64 ((0 : Nat) : Int))) Tw.kr Tw.kr fun w => bn_eql rfl w) ?_
 refine Tw.mm (.bool (decide (((cd d).length) = 0))) ?_
 cases hd1 : (decide (((cd d).length) = 0)) with
 | false =>
   have h1 : ¬ (((cd d).length) = 0) := of_decide_eq_false hd1
   clear hd1
   refine Tw.mm (.pointer (some ⟨g1, 0, none⟩)) ?_
   obtain ⟨qs, hqs⟩ : ∃ b, b = s := ⟨_, rfl⟩
   refine Tw.lv (v := .bool qs) rfl rfl (yb_cell (off := 0) rfl Tw.kr Tw.m0 Tryz.underlying4 rfl (frc_negq hqs)) ?_
   refine Tw.mm (.bool qs) ?_
   cases h2 : qs with
   | false =>
     refine Tw.ln rfl ?_
     refine Tw.ln rfl ?_
     refine Tw.ln rfl ?_
     refine Tw.mm (.bool false) ?_
     refine Tw.mm (.bool false) ?_
     refine wpL_done (fun W3 hW3 => ?_)
     change Code.wp ..
     refine wp_cond_false rfl ?_
     refine wp_skip ?_
     change Code.wp ..
     refine wp_seq ?_
     refine wp_region_L _ hW3 ?_
     refine Tw.mm (.slice q2 ((cd n).length) d2) ?_
     refine Tw.mm (.slice q4 ((cd d).length) d4) ?_
     refine wpL_c (f := 51) (args := #[.slice q2 ((cd n).length) d2, .slice q4 ((cd d).length) d4]) (AnsW w ((g1, .cells (frcC s n d) 34 (0, 0)) :: (T2 ++ T4)) (cd (Nat.gcd n d))) rfl Tw.kr Tw.kf (fun W hW => (common_any n d q2 q4 d2 d4 Tw.om Tw.om C2 C4 W ((H2.mono Tw.sb) W hW) ((H4.mono Tw.sb) W hW)).mono fun e w2 h => AnsV.g h hW) Tw.pf ?_
     rintro v6 _ ⟨q6, d6, T6, rfl, C6, H6, rfl⟩
     refine Tw.lv (v := .bool (decide ((Nat.gcd n d) = 1))) rfl rfl (yb_call (f := 50) (args := #[.slice q6 ((cd (Nat.gcd n d)).length) d6]) Tw.kf fun W hW => rone_any (Nat.gcd n d) q6 d6 W ((H6.mono Tw.sb) W hW)) ?_
     refine Tw.mm (.bool (decide ((Nat.gcd n d) = 1))) ?_
     refine wpL_done (fun W4 hW4 => ?_)
     change Code.wp ..
     refine wp_ret ?_
     try simp only [inBlock_ret, then_ret]
     refine bodyPost_ret (v := .bool (decide ((Nat.gcd n d) = 1))) ?_ rfl ?_
     · kernel_rfl
     · exact ⟨(bool_is ((right_gcd h1 (.inl (hqs.symm.trans h2))).trans hS.symm)), hW4.1⟩
   | true =>
     refine Tw.mm (.slice q2 ((cd n).length) d2) ?_
     refine Tw.lp (v := .int .i64 ((((cd n).length) : Nat) : Int)) rfl rfl (run_lenL (p := q2) (cap := d2) (n := ((cd n).length)) rfl Tryz.underlying32 Tw.kr) ?_
     refine Tw.lp (v := .bool (decide (((cd n).length) = 0))) rfl rfl (run_bin rfl (vx := (.int .i64 ((((cd n).length) : Nat) : Int))) (vy := (.int .i64 ((0 : Nat) : Int))) Tw.kr Tw.kr fun w => bn_eql rfl w) ?_
     refine Tw.mm (.bool (decide (((cd n).length) = 0))) ?_
     refine Tw.mm (.bool (decide (((cd n).length) = 0))) ?_
     refine wpL_done (fun W5 hW5 => ?_)
     change Code.wp ..
     cases hd3 : (decide (((cd n).length) = 0)) with
     | false =>
       have h3 : ¬ (((cd n).length) = 0) := of_decide_eq_false hd3
       clear hd3
       refine wp_cond_false rfl ?_
       refine wp_skip ?_
       change Code.wp ..
       refine wp_seq ?_
       refine wp_region_L _ hW5 ?_
       refine Tw.mm (.slice q2 ((cd n).length) d2) ?_
       refine Tw.mm (.slice q4 ((cd d).length) d4) ?_
       refine wpL_c (f := 51) (args := #[.slice q2 ((cd n).length) d2, .slice q4 ((cd d).length) d4]) (AnsW w ((g1, .cells (frcC s n d) 34 (0, 0)) :: (T2 ++ T4)) (cd (Nat.gcd n d))) rfl Tw.kr Tw.kf (fun W hW => (common_any n d q2 q4 d2 d4 Tw.om Tw.om C2 C4 W ((H2.mono Tw.sb) W hW) ((H4.mono Tw.sb) W hW)).mono fun e w2 h => AnsV.g h hW) Tw.pf ?_
       rintro v7 _ ⟨q7, d7, T7, rfl, C7, H7, rfl⟩
       refine Tw.lv (v := .bool (decide ((Nat.gcd n d) = 1))) rfl rfl (yb_call (f := 50) (args := #[.slice q7 ((cd (Nat.gcd n d)).length) d7]) Tw.kf fun W hW => rone_any (Nat.gcd n d) q7 d7 W ((H7.mono Tw.sb) W hW)) ?_
       refine Tw.mm (.bool (decide ((Nat.gcd n d) = 1))) ?_
       refine wpL_done (fun W6 hW6 => ?_)
       change Code.wp ..
       refine wp_ret ?_
       try simp only [inBlock_ret, then_ret]
       refine bodyPost_ret (v := .bool (decide ((Nat.gcd n d) = 1))) ?_ rfl ?_
       · kernel_rfl
       · exact ⟨(bool_is ((right_gcd h1 (.inr h3)).trans hS.symm)), hW6.1⟩
     | true =>
       have h3 : ((cd n).length) = 0 := of_decide_eq_true hd3
       clear hd3
       refine wp_cond_true rfl ?_
       refine wp_seq ?_
       refine wp_region_L _ hW5 ?_
       refine Tw.mm (.bool false) ?_
       refine wpL_done (fun W7 hW7 => ?_)
       change Code.wp ..
       refine wp_ret ?_
       try simp only [inBlock_ret, then_ret]
       refine bodyPost_ret (v := .bool false) ?_ rfl ?_
       · kernel_rfl
       · exact ⟨(bool_is (by have e : s = true := hqs.symm.trans h2; subst e; exact (right_neg h3).trans hS.symm)), hW7.1⟩
 | true =>
   have h1 : ((cd d).length) = 0 := of_decide_eq_true hd1
   clear hd1
   refine Tw.ln rfl ?_
   refine Tw.ln rfl ?_
   refine Tw.ln rfl ?_
   refine Tw.ln rfl ?_
   refine Tw.ln rfl ?_
   refine Tw.ln rfl ?_
   refine Tw.ln rfl ?_
   refine Tw.mm (.bool true) ?_
   refine wpL_done (fun W8 hW8 => ?_)
   change Code.wp ..
   refine wp_cond_true rfl ?_
   refine wp_seq ?_
   refine wp_region_L _ hW8 ?_
   refine Tw.mm (.bool false) ?_
   refine wpL_done (fun W9 hW9 => ?_)
   change Code.wp ..
   refine wp_ret ?_
   try simp only [inBlock_ret, then_ret]
   refine bodyPost_ret (v := .bool false) ?_ rfl ?_
   · kernel_rfl
   · exact ⟨(bool_is ((right_zero h1).trans hS.symm)), hW9.1⟩
end Go.Proofs.YtalmflgkbmnghaaGreatDoor
namespace Go.Proofs.YtalmflgkbmnghaaGreatDoor
open Go Go.RowKit Tw
open Tf (dg R R_pos R_le R_succ dg_of_lt setd setd_eq)
set_option maxRecDepth 100000 in
set_option maxHeartbeats 20000000 in
theorem rneg_any (s : Bool) (n d : Nat) (hn : n < R 8) (w : World) : Calls Tryz.prog 52 #[.agg (frcC s n d)] w fun e w' => e = .returned (.agg (frcC (if n = 0 then s else !s) n d)) ∧ Below w.heap.size w w' := by
 obtain ⟨S, hS⟩ : ∃ S, S = (if n = 0 then s else !s) := ⟨_, rfl⟩
 rw [← hS]
 go_enter Tryz.func52, Tryz.ntmps52
 refine wp_seq ?_
 refine wp_region_L [] (KS.start w) ?_
 refine wpL_new (fun g => .pointer (some ⟨g, 0, none⟩)) (obi := .cells (frcC s n d) 34 (0, 0)) rfl rfl Tw.kf Tw.pf fun g1 Bg1 Fg1 => ?_
 refine wpL_new (fun g => .pointer (some ⟨g, 0, none⟩)) (obi := .cells (frcC false 0 0) 34 (0, 0)) rfl rfl Tw.kf Tw.pf fun g2 Bg2 Fg2 => ?_
 obtain dj3_0 : g1 ≠ g2 := Tw.dkf Fg2
 refine wpL_done (fun W1 hW1 => ?_)
 change Code.wp ..
 refine wp_seq ?_
 refine wp_seq ?_
 refine wp_region_L _ hW1 ?_
 refine Tw.mm (.pointer (some ⟨g1, 1, none⟩)) ?_
 refine Tw.lv (v := .agg (fa 8 (dg n))) rfl rfl (yb_fnum (s := s) (n := n) (d := d) rfl Tw.kr Tw.m1 Tryz.underlying23 rfl Tw.kr) ?_
 refine wpL_c (f := 43) (args := #[.agg (fa 8 (dg n))]) (AnsG w [(g2, .cells (frcC false 0 0) 34 (0, 0)), (g1, .cells (frcC s n d) 34 (0, 0))] (cd n)) rfl Tw.kr Tw.kf (fun W hW => (rdigits_any n hn W).mono fun e w2 h => Ans.g h hW) Tw.pf ?_
 rintro v4 _ ⟨q4, d4, T4, rfl, C4, H4, F4, J4, rfl⟩
 obtain ⟨dj5_0, dj5_1⟩ : Dk g2 T4 ∧ Dk g1 T4 := Tw.djf J4
 refine Tw.lp (v := .int .i64 ((((cd n).length) : Nat) : Int)) rfl rfl (run_lenL (p := q4) (cap := d4) (n := ((cd n).length)) rfl Tryz.underlying32 Tw.kr) ?_
 refine Tw.lp (v := .bool (decide (0 < ((cd n).length)))) rfl rfl (run_bin rfl (vx := (.int .i64 ((((cd n).length) : Nat) : Int))) (vy := (.int .i64 ((0 : Nat) : Int))) Tw.kr Tw.kr fun w => bn_gtr rfl w) ?_
 refine wpL_done (fun W2 hW2 => ?_)
 change Code.wp ..
 cases hd1 : (decide (0 < ((cd n).length))) with
 | false =>
   have h1 : ¬ (0 < ((cd n).length)) := of_decide_eq_false hd1
   clear hd1
   refine wp_cond_false rfl ?_
   refine wp_skip ?_
   change Code.wp ..
   refine wp_seq ?_
   refine wp_region_L [(g2, .cells (frcC false 0 0) 34 (0, 0)), (g1, .cells (frcC s n d) 34 (0, 0))] ((hW2.sub Tw.sb)) ?_
   refine Tw.lv (v := .agg (frcC s n d)) rfl rfl (yb_all rfl Tw.kr Tw.m1 Tryz.underlying34 rfl zfs) ?_
   refine wpL_s [(g2, .cells (frcC s n d) 34 (0, 0)), (g1, .cells (frcC s n d) 34 (0, 0))] rfl rfl (st_all zfz (by exact frc_onec) rfl Tw.kr Tw.kr Tw.m0 Bg2 zfs (List.forall_mem_cons.2 ⟨.inl rfl, (List.forall_mem_cons.2 ⟨.inr ⟨Tw.m1, Tw.nee⟩, (List.forall_mem_nil _)⟩)⟩)) ?_
   refine wpL_done (fun W3 hW3 => ?_)
   change Code.wp ..
   refine wp_ret ?_
   try simp only [inBlock_ret, then_ret]
   refine bodyPost_ret (v := .agg (frcC s n d)) ?_ rfl ?_
   · exact (res_cell (p := 2) rfl rfl (hW3.2 _ Tw.m0) Tryz.underlying34 rfl zfs)
   · exact ⟨(ret_v (by rw [hS, if_pos (cd_len0.1 Tw.om)])), hW3.1⟩
 | true =>
   have h1 : 0 < ((cd n).length) := of_decide_eq_true hd1
   clear hd1
   refine wp_cond_true rfl ?_
   refine wp_region_L [(g2, .cells (frcC false 0 0) 34 (0, 0)), (g1, .cells (frcC s n d) 34 (0, 0))] ((hW2.sub Tw.sb)) ?_
   refine Tw.mm (.pointer (some ⟨g1, 0, none⟩)) ?_
   obtain ⟨qs, hqs⟩ : ∃ b, b = s := ⟨_, rfl⟩
   refine Tw.lv (v := .bool qs) rfl rfl (yb_cell (off := 0) rfl Tw.kr Tw.m1 Tryz.underlying4 rfl (frc_negq hqs)) ?_
   refine Tw.lp (v := .bool (!qs)) rfl rfl (run_un rfl Tw.kr fun w => un_not w) ?_
   refine Tw.mm (.pointer (some ⟨g1, 0, none⟩)) ?_
   refine wpL_s [(g2, .cells (frcC false 0 0) 34 (0, 0)), (g1, .cells (frcC (!qs) n d) 34 (0, 0))] rfl rfl (st_to (off := 0) (frc_set s (!qs) n d) rfl Tw.kr Tw.kr Tw.m1 Bg1 Tw.kr rfl rfl (by simp only [frcC_size]; omega) (.inr rfl) (List.forall_mem_cons.2 ⟨.inr ⟨Tw.m0, Tw.nee⟩, (List.forall_mem_cons.2 ⟨.inl rfl, (List.forall_mem_nil _)⟩)⟩)) ?_
   refine wpL_done (fun W4 hW4 => ?_)
   change Code.wp ..
   refine wp_seq ?_
   refine wp_region_L _ hW4 ?_
   refine Tw.lv (v := .agg (frcC (!qs) n d)) rfl rfl (yb_all rfl Tw.kr Tw.m1 Tryz.underlying34 rfl zfs) ?_
   refine wpL_s [(g2, .cells (frcC (!qs) n d) 34 (0, 0)), (g1, .cells (frcC (!qs) n d) 34 (0, 0))] rfl rfl (st_all zfz (by exact frc_onec) rfl Tw.kr Tw.kr Tw.m0 Bg2 zfs (List.forall_mem_cons.2 ⟨.inl rfl, (List.forall_mem_cons.2 ⟨.inr ⟨Tw.m1, Tw.nee⟩, (List.forall_mem_nil _)⟩)⟩)) ?_
   refine wpL_done (fun W5 hW5 => ?_)
   change Code.wp ..
   refine wp_ret ?_
   try simp only [inBlock_ret, then_ret]
   refine bodyPost_ret (v := .agg (frcC (!qs) n d)) ?_ rfl ?_
   · exact (res_cell (p := 2) rfl rfl (hW5.2 _ Tw.m0) Tryz.underlying34 rfl zfs)
   · exact ⟨(ret_v (by rw [hS, if_neg (fun h => by have := cd_len0.2 h; omega), hqs])), hW5.1⟩
end Go.Proofs.YtalmflgkbmnghaaGreatDoor
