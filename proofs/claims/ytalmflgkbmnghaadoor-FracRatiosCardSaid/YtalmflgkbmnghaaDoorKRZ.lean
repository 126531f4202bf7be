import Derived.Test.YtalmflgkbmnghaaDoorKR01
import Derived.Test.YtalmflgkbmnghaaDoorG01
import Derived.Test.YtalmflgkbmnghaaDoorG00
import Derived.Test.YtalmflgkbmnghaaDoorG02
import Derived.Test.YtalmflgkbmnghaaDoorG03
/- FracRatios: the law holds for every input; no condition but the row's own. -/
set_option linter.unusedVariables false
set_option linter.unusedSimpArgs false
set_option linter.unusedSectionVars false
namespace Go.Proofs.YtalmflgkbmnghaaDoor
open Go Go.RowKit Tw
open Tf (dg R R_pos R_le R_succ dg_of_lt setd setd_eq)
theorem cd_R8 {x : Nat} : (cd x).length ≤ 16 ↔ x < R 8 := by rw [cd_le, R_sq]
theorem limbs_yes {n : Nat} (h : (cd n).length ≤ 16) : limV n = .tuple #[.agg (fa 8 (dg n)), .bool true] := if_pos h
theorem limbs_no {n : Nat} (h : ¬ (cd n).length ≤ 16) : limV n = .tuple #[.agg (fa 8 (dg 0)), .bool false] := if_neg h
theorem ret_v {a b : Value} (h : a = b) : Ending.returned a = .returned b := by rw [h]
theorem mk_yes {neg B : Bool} {X Y : Nat} (h1 : (cd X).length ≤ 16) (h2 : (cd Y).length ≤ 16) (hB : B = (neg && decide (X ≠ 0))) : (Value.tuple #[.agg (frcC B X Y), .int .i64 0]) = packV neg X Y := by
  subst hB
  unfold packV
  rw [if_pos ⟨cd_R8.1 h1, cd_R8.1 h2⟩]
  rfl
theorem mk_no {neg : Bool} {X Y : Nat} (h : ¬ (cd X).length ≤ 16 ∨ ¬ (cd Y).length ≤ 16) : (Value.tuple #[.agg (frcC false 0 0), .int .i64 3]) = packV neg X Y := by
  unfold packV
  rw [if_neg (fun ⟨a, b⟩ => h.elim (fun h => h (cd_R8.2 a)) (fun h => h (cd_R8.2 b)))]
  rfl
theorem pos_ne {X : Nat} : decide (0 < (cd X).length) = decide (X ≠ 0) := by
  rw [decide_eq_decide, Nat.pos_iff_ne_zero, ne_eq, ne_eq, cd_len0]
theorem cd_gcd_len {n m k : Nat} (hm : 0 < m) (h : (cd m).length ≤ k) : (cd (Nat.gcd n m)).length ≤ k := cd_le.2 (Nat.lt_of_le_of_lt (Nat.gcd_le_right _ hm) (cd_le.1 h))
theorem cd_div_len {x y n : Nat} (h : (cd x).length ≤ n) : (cd (x / y)).length ≤ n := cd_le.2 (Nat.lt_of_le_of_lt (Nat.div_le_self _ _) (cd_le.1 h))
theorem frc_onec {s : Bool} {n d : Nat} : ∀ v ∈ (frcC s n d).toList, v.oneCell' = true := by
  intro v hv
  unfold frcC at hv
  simp only [Array.toList_append, List.mem_append] at hv
  rcases hv with (hv | hv) | hv
  · simp at hv; subst hv; rfl
  · exact fa_one v hv
  · exact fa_one v hv
set_option maxRecDepth 100000 in
set_option maxHeartbeats 20000000 in
theorem make0_any (neg : Bool) (n m : Nat) (p q : Option Addr) (c d : Nat) (hm : 0 < m) (la : (cd n).length ≤ 80000) (lb : (cd m).length ≤ 80000) (hca : (cd n).length ≤ c) (hcb : (cd m).length ≤ d) (w : World) (hp : SLV w p (nums (cd n))) (hq : SLV w q (nums (cd m))) : Calls Tryd.prog 23 #[.bool neg, .slice p (cd n).length c, .slice q (cd m).length d] w fun e w' => e = .returned (packV neg (n / Nat.gcd n m) (m / Nat.gcd n m)) ∧ Below w.heap.size w w' := by
  have HP : NS (w : Base) p (cd n) [] := NS.base hp
  have HQ : NS (w : Base) q (cd m) [] := NS.base hq
  clear hp hq
  have hgp : 0 < Nat.gcd n m := Nat.gcd_pos_of_pos_right _ hm
  have lX : (cd (n / Nat.gcd n m)).length ≤ 80000 := cd_div_len la
  have lY : (cd (m / Nat.gcd n m)).length ≤ 80000 := cd_div_len lb
  have lgg : (cd (Nat.gcd n m)).length ≤ 80000 := cd_gcd_len hm lb
  go_enter Tryd.func23, Tryd.ntmps23
  refine wp_seq ?_
  refine wp_region_L (W0 := w) [] (KS.start w) ?_
  refine wpL_new (fun g => .pointer (some ⟨g, 0, none⟩)) (obi := .cells (frcC false 0 0) 31 (0, 0)) rfl rfl (fun _ => by kernel_rfl) (fun _ => by simp only [List.setIfInBounds_toArray, List.set_cons_succ, List.set_cons_zero] <;> rfl) fun g1 Bg1 Fg1 => ?_
  refine Tw.lm (v := .int .i64 0) rfl rfl ?_
  refine wpL_done (fun W1 hW1 => ?_)
  refine (show Code.wp _ _ _ _ _ from ?_)
  refine wp_seq ?_
  refine wp_region_L (W0 := w) [(g1, .cells (frcC false 0 0) 31 (0, 0))] (hW1) ?_
  refine Tw.lm (v := .slice p ((cd n).length) c) rfl rfl ?_
  refine Tw.lm (v := .slice q ((cd m).length) d) rfl rfl ?_
  refine wpL_c (f := 44) (args := #[.slice p ((cd n).length) c, .slice q ((cd m).length) d]) (AnsW w [(g1, .cells (frcC false 0 0) 31 (0, 0))] (cd (Nat.gcd n m))) rfl (by kernel_rfl) (fun _ => (by kernel_rfl)) (fun W hW => (common_any n m p q c d (by omega) (by omega) hca hcb W ((HP.mono (fun q hq => by first | exact hq | (simp only [List.mem_cons, List.mem_append, List.nil_append, List.not_mem_nil, or_assoc, or_false, false_or] at hq ⊢ <;> grind))) W hW) ((HQ.mono (fun q hq => by first | exact hq | (simp only [List.mem_cons, List.mem_append, List.nil_append, List.not_mem_nil, or_assoc, or_false, false_or] at hq ⊢ <;> grind))) W hW)).mono fun e w2 h => AnsV.g h hW) (fun _ => by simp only [List.setIfInBounds_toArray, List.set_cons_succ, List.set_cons_zero] <;> rfl) ?_
  rintro v2 _ ⟨q2, d2, T2, rfl, C2, H2, rfl⟩
  refine Tw.lm (v := .slice q2 ((cd (Nat.gcd n m)).length) d2) rfl rfl ?_
  refine wpL_done (fun W2 hW2 => ?_)
  refine (show Code.wp _ _ _ _ _ from ?_)
  refine wp_seq ?_
  refine wp_region_L (W0 := w) ((g1, .cells (frcC false 0 0) 31 (0, 0)) :: T2) (hW2) ?_
  refine Tw.lm (v := .slice p ((cd n).length) c) rfl rfl ?_
  refine Tw.lm (v := .slice q2 ((cd (Nat.gcd n m)).length) d2) rfl rfl ?_
  refine wpL_c (f := 45) (args := #[.slice p ((cd n).length) c, .slice q2 ((cd (Nat.gcd n m)).length) d2]) (AnsW2 w ((g1, .cells (frcC false 0 0) 31 (0, 0)) :: T2) (cd (n / Nat.gcd n m)) (cd (n % Nat.gcd n m))) rfl (by kernel_rfl) (fun _ => (by kernel_rfl)) (fun W hW => (div_any n (Nat.gcd n m) p q2 c d2 hgp (by omega) hca W ((HP.mono (fun q hq => by first | exact hq | (simp only [List.mem_cons, List.mem_append, List.nil_append, List.not_mem_nil, or_assoc, or_false, false_or] at hq ⊢ <;> grind))) W hW) ((H2.mono (fun q hq => by first | exact hq | (simp only [List.mem_cons, List.mem_append, List.nil_append, List.not_mem_nil, or_assoc, or_false, false_or] at hq ⊢ <;> grind))) W hW)).mono fun e w2 h => Ans2.g h hW) (fun _ => by simp only [List.setIfInBounds_toArray, List.set_cons_succ, List.set_cons_zero] <;> rfl) ?_
  rintro v3 _ ⟨q3, d3, r3, g3, T3, rfl, C3, E3, H3, G3, rfl⟩
  refine Tw.lm (v := .tuple #[.slice q3 ((cd (n / Nat.gcd n m)).length) d3, .slice r3 ((cd (n % Nat.gcd n m)).length) g3]) rfl rfl ?_
  refine Tw.lm (v := .slice q3 ((cd (n / Nat.gcd n m)).length) d3) rfl rfl ?_
  refine Tw.lm (v := .slice r3 ((cd (n % Nat.gcd n m)).length) g3) rfl rfl ?_
  refine Tw.lm (v := .slice q3 ((cd (n / Nat.gcd n m)).length) d3) rfl rfl ?_
  refine Tw.lm (v := .slice r3 ((cd (n % Nat.gcd n m)).length) g3) rfl rfl ?_
  refine wpL_done (fun W3 hW3 => ?_)
  refine (show Code.wp _ _ _ _ _ from ?_)
  refine wp_seq ?_
  refine wp_region_L (W0 := w) ((g1, .cells (frcC false 0 0) 31 (0, 0)) :: (T2 ++ T3)) (hW3) ?_
  refine Tw.lm (v := .slice q ((cd m).length) d) rfl rfl ?_
  refine Tw.lm (v := .slice q2 ((cd (Nat.gcd n m)).length) d2) rfl rfl ?_
  refine wpL_c (f := 45) (args := #[.slice q ((cd m).length) d, .slice q2 ((cd (Nat.gcd n m)).length) d2]) (AnsW2 w ((g1, .cells (frcC false 0 0) 31 (0, 0)) :: (T2 ++ T3)) (cd (m / Nat.gcd n m)) (cd (m % Nat.gcd n m))) rfl (by kernel_rfl) (fun _ => (by kernel_rfl)) (fun W hW => (div_any m (Nat.gcd n m) q q2 d d2 hgp (by omega) hcb W ((HQ.mono (fun q hq => by first | exact hq | (simp only [List.mem_cons, List.mem_append, List.nil_append, List.not_mem_nil, or_assoc, or_false, false_or] at hq ⊢ <;> grind))) W hW) ((H2.mono (fun q hq => by first | exact hq | (simp only [List.mem_cons, List.mem_append, List.nil_append, List.not_mem_nil, or_assoc, or_false, false_or] at hq ⊢ <;> grind))) W hW)).mono fun e w2 h => Ans2.g h hW) (fun _ => by simp only [List.setIfInBounds_toArray, List.set_cons_succ, List.set_cons_zero] <;> rfl) ?_
  rintro v4 _ ⟨q4, d4, r4, g4, T4, rfl, C4, E4, H4, G4, rfl⟩
  refine Tw.lm (v := .tuple #[.slice q4 ((cd (m / Nat.gcd n m)).length) d4, .slice r4 ((cd (m % Nat.gcd n m)).length) g4]) rfl rfl ?_
  refine Tw.lm (v := .slice q4 ((cd (m / Nat.gcd n m)).length) d4) rfl rfl ?_
  refine Tw.lm (v := .slice r4 ((cd (m % Nat.gcd n m)).length) g4) rfl rfl ?_
  refine Tw.lm (v := .slice q4 ((cd (m / Nat.gcd n m)).length) d4) rfl rfl ?_
  refine Tw.lm (v := .slice r4 ((cd (m % Nat.gcd n m)).length) g4) rfl rfl ?_
  refine wpL_done (fun W4 hW4 => ?_)
  refine (show Code.wp _ _ _ _ _ from ?_)
  refine wp_seq ?_
  refine wp_region_L (W0 := w) ((g1, .cells (frcC false 0 0) 31 (0, 0)) :: ((T2 ++ T3) ++ T4)) (hW4) ?_
  refine Tw.lm (v := .slice q3 ((cd (n / Nat.gcd n m)).length) d3) rfl rfl ?_
  cases hd1 : (decide ((cd (n / Nat.gcd n m)).length ≤ 16)) with
  | false =>
    have h1 : ¬ ((cd (n / Nat.gcd n m)).length ≤ 16) := of_decide_eq_false hd1
    clear hd1
    refine Tw.lv (v := .tuple #[.agg (fa 8 (dg 0)), .bool false]) rfl rfl (yb_call (f := 46) (args := #[.slice q3 ((cd (n / Nat.gcd n m)).length) d3]) (fun _ => by kernel_rfl) fun W hW => limbs_no h1 ▸ limbs_any (n / Nat.gcd n m) q3 d3 (by omega) W ((H3.mono (fun q hq => by first | exact hq | (simp only [List.mem_cons, List.mem_append, List.nil_append, List.not_mem_nil, or_assoc, or_false, false_or] at hq ⊢ <;> grind))) W hW)) ?_
    refine Tw.lm (v := .tuple #[.agg (fa 8 (dg 0)), .bool false]) rfl rfl ?_
    refine Tw.lm (v := .agg (fa 8 (dg 0))) rfl rfl ?_
    refine Tw.lm (v := .bool false) rfl rfl ?_
    refine wpL_new (fun g => .pointer (some ⟨g, 0, none⟩)) (obi := .cells (fa 8 (dg 0)) 25 (0, 0)) rfl rfl (fun _ => by kernel_rfl) (fun _ => by simp only [List.setIfInBounds_toArray, List.set_cons_succ, List.set_cons_zero] <;> rfl) fun g5 Bg5 Fg5 => ?_
    obtain ⟨dj6_0, dj6_1, dj6_2, dj6_3⟩ : g1 ≠ g5 ∧ Dk g5 T2 ∧ Dk g5 T3 ∧ Dk g5 T4 := by simpa only [dj_app_l, dj_app_r, dj_cons_l, dj_cons_r, dj_nil_l, dj_nil_r, dk_app, dk_cons, dk_nil, and_true, true_and, and_assoc] using (show Dk g5 ((g1, .cells (frcC false 0 0) 31 (0, 0)) :: ((T2 ++ T3) ++ T4)) from Fg5)
    refine wpL_s ((g5, .cells (fa 8 (dg 0)) 25 (0, 0)) :: (g1, .cells (frcC false 0 0) 31 (0, 0)) :: ((T2 ++ T3) ++ T4)) rfl rfl (st_all (by simp only [fa_size]) (by exact fa_one) rfl (by kernel_rfl) (by kernel_rfl) (.head _) Bg5 (by simp only [fa_size]; kernel_rfl) (List.forall_mem_cons.2 ⟨.inl rfl, (List.forall_mem_cons.2 ⟨.inr ⟨(.tail _ (.head _)), (by first | assumption | exact Ne.symm (by assumption))⟩, (fun p hp => .inr ⟨(.tail _ (.tail _ hp)), ((show Dk g5 ((T2 ++ T3) ++ T4) from (by (try simp only [dj_app_l, dj_app_r, dj_cons_l, dj_cons_r, dj_nil_l, dj_nil_r, dk_app, dk_cons, dk_nil, and_true, true_and, and_assoc]); repeat' (first | trivial | assumption | exact Dj.symm (by assumption) | exact Ne.symm (by assumption) | apply And.intro))) _ hp)⟩)⟩)⟩)) ?_
    refine Tw.lm (v := .bool false) rfl rfl ?_
    refine wpL_done (fun W5 hW5 => ?_)
    refine (show Code.wp _ _ _ _ _ from ?_)
    refine wp_seq ?_
    refine wp_region_L (W0 := w) ((g5, .cells (fa 8 (dg 0)) 25 (0, 0)) :: (g1, .cells (frcC false 0 0) 31 (0, 0)) :: ((T2 ++ T3) ++ T4)) (hW5) ?_
    refine Tw.lm (v := .slice q4 ((cd (m / Nat.gcd n m)).length) d4) rfl rfl ?_
    cases hd2 : (decide ((cd (m / Nat.gcd n m)).length ≤ 16)) with
    | false =>
      have h2 : ¬ ((cd (m / Nat.gcd n m)).length ≤ 16) := of_decide_eq_false hd2
      clear hd2
      refine Tw.lv (v := .tuple #[.agg (fa 8 (dg 0)), .bool false]) rfl rfl (yb_call (f := 46) (args := #[.slice q4 ((cd (m / Nat.gcd n m)).length) d4]) (fun _ => by kernel_rfl) fun W hW => limbs_no h2 ▸ limbs_any (m / Nat.gcd n m) q4 d4 (by omega) W ((H4.mono (fun q hq => by first | exact hq | (simp only [List.mem_cons, List.mem_append, List.nil_append, List.not_mem_nil, or_assoc, or_false, false_or] at hq ⊢ <;> grind))) W hW)) ?_
      refine Tw.lm (v := .tuple #[.agg (fa 8 (dg 0)), .bool false]) rfl rfl ?_
      refine Tw.lm (v := .agg (fa 8 (dg 0))) rfl rfl ?_
      refine Tw.lm (v := .bool false) rfl rfl ?_
      refine wpL_new (fun g => .pointer (some ⟨g, 0, none⟩)) (obi := .cells (fa 8 (dg 0)) 25 (0, 0)) rfl rfl (fun _ => by kernel_rfl) (fun _ => by simp only [List.setIfInBounds_toArray, List.set_cons_succ, List.set_cons_zero] <;> rfl) fun g7 Bg7 Fg7 => ?_
      obtain ⟨dj8_0, dj8_1, dj8_2, dj8_3, dj8_4⟩ : g5 ≠ g7 ∧ g1 ≠ g7 ∧ Dk g7 T2 ∧ Dk g7 T3 ∧ Dk g7 T4 := by simpa only [dj_app_l, dj_app_r, dj_cons_l, dj_cons_r, dj_nil_l, dj_nil_r, dk_app, dk_cons, dk_nil, and_true, true_and, and_assoc] using (show Dk g7 ((g5, .cells (fa 8 (dg 0)) 25 (0, 0)) :: (g1, .cells (frcC false 0 0) 31 (0, 0)) :: ((T2 ++ T3) ++ T4)) from Fg7)
      refine wpL_s ((g7, .cells (fa 8 (dg 0)) 25 (0, 0)) :: (g5, .cells (fa 8 (dg 0)) 25 (0, 0)) :: (g1, .cells (frcC false 0 0) 31 (0, 0)) :: ((T2 ++ T3) ++ T4)) rfl rfl (st_all (by simp only [fa_size]) (by exact fa_one) rfl (by kernel_rfl) (by kernel_rfl) (.head _) Bg7 (by simp only [fa_size]; kernel_rfl) (List.forall_mem_cons.2 ⟨.inl rfl, (List.forall_mem_cons.2 ⟨.inr ⟨(.tail _ (.head _)), (by first | assumption | exact Ne.symm (by assumption))⟩, (List.forall_mem_cons.2 ⟨.inr ⟨(.tail _ (.tail _ (.head _))), (by first | assumption | exact Ne.symm (by assumption))⟩, (fun p hp => .inr ⟨(.tail _ (.tail _ (.tail _ hp))), ((show Dk g7 ((T2 ++ T3) ++ T4) from (by (try simp only [dj_app_l, dj_app_r, dj_cons_l, dj_cons_r, dj_nil_l, dj_nil_r, dk_app, dk_cons, dk_nil, and_true, true_and, and_assoc]); repeat' (first | trivial | assumption | exact Dj.symm (by assumption) | exact Ne.symm (by assumption) | apply And.intro))) _ hp)⟩)⟩)⟩)⟩)) ?_
      refine Tw.lm (v := .bool false) rfl rfl ?_
      refine wpL_done (fun W6 hW6 => ?_)
      refine (show Code.wp _ _ _ _ _ from ?_)
      refine wp_seq ?_
      refine wp_seq ?_
      refine wp_region_L (W0 := w) ((g7, .cells (fa 8 (dg 0)) 25 (0, 0)) :: (g5, .cells (fa 8 (dg 0)) 25 (0, 0)) :: (g1, .cells (frcC false 0 0) 31 (0, 0)) :: ((T2 ++ T3) ++ T4)) (hW6) ?_
      refine Tw.lm (v := .bool false) rfl rfl ?_
      refine Tw.lm (v := .bool true) rfl rfl ?_
      refine Tw.lm (v := .bool true) rfl rfl ?_
      refine Tw.ln rfl ?_
      refine Tw.ln rfl ?_
      refine Tw.lm (v := .bool true) rfl rfl ?_
      refine wpL_done (fun W7 hW7 => ?_)
      refine (show Code.wp _ _ _ _ _ from ?_)
      refine wp_cond_true rfl ?_
      refine wp_seq ?_
      refine wp_region_L (W0 := w) [(g7, .cells (fa 8 (dg 0)) 25 (0, 0)), (g5, .cells (fa 8 (dg 0)) 25 (0, 0)), (g1, .cells (frcC false 0 0) 31 (0, 0))] ((hW7.sub (fun p hp => by simp only [List.mem_cons, List.mem_append, List.nil_append, List.not_mem_nil, or_assoc, or_false, false_or] at hp ⊢ <;> grind))) ?_
      refine Tw.lm (v := .agg (frcC false 0 0)) rfl rfl ?_
      refine wpL_s [(g7, .cells (fa 8 (dg 0)) 25 (0, 0)), (g5, .cells (fa 8 (dg 0)) 25 (0, 0)), (g1, .cells (frcC false 0 0) 31 (0, 0))] rfl rfl (st_all (by simp only [frcC_size]) (by exact frc_onec) rfl (by kernel_rfl) (by kernel_rfl) (.tail _ (.tail _ (.head _))) Bg1 (by simp only [frcC_size]; kernel_rfl) (List.forall_mem_cons.2 ⟨.inr ⟨(.head _), (by first | assumption | exact Ne.symm (by assumption))⟩, (List.forall_mem_cons.2 ⟨.inr ⟨(.tail _ (.head _)), (by first | assumption | exact Ne.symm (by assumption))⟩, (List.forall_mem_cons.2 ⟨.inl rfl, (List.forall_mem_nil _)⟩)⟩)⟩)) ?_
      refine Tw.lm (v := .int .i64 3) rfl rfl ?_
      refine wpL_done (fun W8 hW8 => ?_)
      refine (show Code.wp _ _ _ _ _ from ?_)
      refine wp_ret ?_
      try simp only [inBlock_ret, then_ret]
      refine bodyPost_ret (v := .tuple #[.agg (frcC false 0 0), .int .i64 3]) ?_ rfl ?_
      · exact (res_cell_tmp (p := 6) (q := 7) rfl rfl (hW8.2 _ (.tail _ (.tail _ (.head _)))) Tryd.underlying31 rfl (by simp only [frcC_size]; kernel_rfl))
      · exact ⟨(ret_v (mk_no (.inl h1))), hW8.1⟩
    | true =>
      have h2 : (cd (m / Nat.gcd n m)).length ≤ 16 := of_decide_eq_true hd2
      clear hd2
      refine Tw.lv (v := .tuple #[.agg (fa 8 (dg (m / Nat.gcd n m))), .bool true]) rfl rfl (yb_call (f := 46) (args := #[.slice q4 ((cd (m / Nat.gcd n m)).length) d4]) (fun _ => by kernel_rfl) fun W hW => limbs_yes h2 ▸ limbs_any (m / Nat.gcd n m) q4 d4 (by omega) W ((H4.mono (fun q hq => by first | exact hq | (simp only [List.mem_cons, List.mem_append, List.nil_append, List.not_mem_nil, or_assoc, or_false, false_or] at hq ⊢ <;> grind))) W hW)) ?_
      refine Tw.lm (v := .tuple #[.agg (fa 8 (dg (m / Nat.gcd n m))), .bool true]) rfl rfl ?_
      refine Tw.lm (v := .agg (fa 8 (dg (m / Nat.gcd n m)))) rfl rfl ?_
      refine Tw.lm (v := .bool true) rfl rfl ?_
      refine wpL_new (fun g => .pointer (some ⟨g, 0, none⟩)) (obi := .cells (fa 8 (dg 0)) 25 (0, 0)) rfl rfl (fun _ => by kernel_rfl) (fun _ => by simp only [List.setIfInBounds_toArray, List.set_cons_succ, List.set_cons_zero] <;> rfl) fun g9 Bg9 Fg9 => ?_
      obtain ⟨dj10_0, dj10_1, dj10_2, dj10_3, dj10_4⟩ : g5 ≠ g9 ∧ g1 ≠ g9 ∧ Dk g9 T2 ∧ Dk g9 T3 ∧ Dk g9 T4 := by simpa only [dj_app_l, dj_app_r, dj_cons_l, dj_cons_r, dj_nil_l, dj_nil_r, dk_app, dk_cons, dk_nil, and_true, true_and, and_assoc] using (show Dk g9 ((g5, .cells (fa 8 (dg 0)) 25 (0, 0)) :: (g1, .cells (frcC false 0 0) 31 (0, 0)) :: ((T2 ++ T3) ++ T4)) from Fg9)
      refine wpL_s ((g9, .cells (fa 8 (dg (m / Nat.gcd n m))) 25 (0, 0)) :: (g5, .cells (fa 8 (dg 0)) 25 (0, 0)) :: (g1, .cells (frcC false 0 0) 31 (0, 0)) :: ((T2 ++ T3) ++ T4)) rfl rfl (st_all (by simp only [fa_size]) (by exact fa_one) rfl (by kernel_rfl) (by kernel_rfl) (.head _) Bg9 (by simp only [fa_size]; kernel_rfl) (List.forall_mem_cons.2 ⟨.inl rfl, (List.forall_mem_cons.2 ⟨.inr ⟨(.tail _ (.head _)), (by first | assumption | exact Ne.symm (by assumption))⟩, (List.forall_mem_cons.2 ⟨.inr ⟨(.tail _ (.tail _ (.head _))), (by first | assumption | exact Ne.symm (by assumption))⟩, (fun p hp => .inr ⟨(.tail _ (.tail _ (.tail _ hp))), ((show Dk g9 ((T2 ++ T3) ++ T4) from (by (try simp only [dj_app_l, dj_app_r, dj_cons_l, dj_cons_r, dj_nil_l, dj_nil_r, dk_app, dk_cons, dk_nil, and_true, true_and, and_assoc]); repeat' (first | trivial | assumption | exact Dj.symm (by assumption) | exact Ne.symm (by assumption) | apply And.intro))) _ hp)⟩)⟩)⟩)⟩)) ?_
      refine Tw.lm (v := .bool true) rfl rfl ?_
      refine wpL_done (fun W9 hW9 => ?_)
      refine (show Code.wp _ _ _ _ _ from ?_)
      refine wp_seq ?_
      refine wp_seq ?_
      refine wp_region_L (W0 := w) ((g9, .cells (fa 8 (dg (m / Nat.gcd n m))) 25 (0, 0)) :: (g5, .cells (fa 8 (dg 0)) 25 (0, 0)) :: (g1, .cells (frcC false 0 0) 31 (0, 0)) :: ((T2 ++ T3) ++ T4)) (hW9) ?_
      refine Tw.lm (v := .bool false) rfl rfl ?_
      refine Tw.lm (v := .bool true) rfl rfl ?_
      refine Tw.lm (v := .bool true) rfl rfl ?_
      refine Tw.ln rfl ?_
      refine Tw.ln rfl ?_
      refine Tw.lm (v := .bool true) rfl rfl ?_
      refine wpL_done (fun W10 hW10 => ?_)
      refine (show Code.wp _ _ _ _ _ from ?_)
      refine wp_cond_true rfl ?_
      refine wp_seq ?_
      refine wp_region_L (W0 := w) [(g9, .cells (fa 8 (dg (m / Nat.gcd n m))) 25 (0, 0)), (g5, .cells (fa 8 (dg 0)) 25 (0, 0)), (g1, .cells (frcC false 0 0) 31 (0, 0))] ((hW10.sub (fun p hp => by simp only [List.mem_cons, List.mem_append, List.nil_append, List.not_mem_nil, or_assoc, or_false, false_or] at hp ⊢ <;> grind))) ?_
      refine Tw.lm (v := .agg (frcC false 0 0)) rfl rfl ?_
      refine wpL_s [(g9, .cells (fa 8 (dg (m / Nat.gcd n m))) 25 (0, 0)), (g5, .cells (fa 8 (dg 0)) 25 (0, 0)), (g1, .cells (frcC false 0 0) 31 (0, 0))] rfl rfl (st_all (by simp only [frcC_size]) (by exact frc_onec) rfl (by kernel_rfl) (by kernel_rfl) (.tail _ (.tail _ (.head _))) Bg1 (by simp only [frcC_size]; kernel_rfl) (List.forall_mem_cons.2 ⟨.inr ⟨(.head _), (by first | assumption | exact Ne.symm (by assumption))⟩, (List.forall_mem_cons.2 ⟨.inr ⟨(.tail _ (.head _)), (by first | assumption | exact Ne.symm (by assumption))⟩, (List.forall_mem_cons.2 ⟨.inl rfl, (List.forall_mem_nil _)⟩)⟩)⟩)) ?_
      refine Tw.lm (v := .int .i64 3) rfl rfl ?_
      refine wpL_done (fun W11 hW11 => ?_)
      refine (show Code.wp _ _ _ _ _ from ?_)
      refine wp_ret ?_
      try simp only [inBlock_ret, then_ret]
      refine bodyPost_ret (v := .tuple #[.agg (frcC false 0 0), .int .i64 3]) ?_ rfl ?_
      · exact (res_cell_tmp (p := 6) (q := 7) rfl rfl (hW11.2 _ (.tail _ (.tail _ (.head _)))) Tryd.underlying31 rfl (by simp only [frcC_size]; kernel_rfl))
      · exact ⟨(ret_v (mk_no (.inl h1))), hW11.1⟩
  | true =>
    have h1 : (cd (n / Nat.gcd n m)).length ≤ 16 := of_decide_eq_true hd1
    clear hd1
    refine Tw.lv (v := .tuple #[.agg (fa 8 (dg (n / Nat.gcd n m))), .bool true]) rfl rfl (yb_call (f := 46) (args := #[.slice q3 ((cd (n / Nat.gcd n m)).length) d3]) (fun _ => by kernel_rfl) fun W hW => limbs_yes h1 ▸ limbs_any (n / Nat.gcd n m) q3 d3 (by omega) W ((H3.mono (fun q hq => by first | exact hq | (simp only [List.mem_cons, List.mem_append, List.nil_append, List.not_mem_nil, or_assoc, or_false, false_or] at hq ⊢ <;> grind))) W hW)) ?_
    refine Tw.lm (v := .tuple #[.agg (fa 8 (dg (n / Nat.gcd n m))), .bool true]) rfl rfl ?_
    refine Tw.lm (v := .agg (fa 8 (dg (n / Nat.gcd n m)))) rfl rfl ?_
    refine Tw.lm (v := .bool true) rfl rfl ?_
    refine wpL_new (fun g => .pointer (some ⟨g, 0, none⟩)) (obi := .cells (fa 8 (dg 0)) 25 (0, 0)) rfl rfl (fun _ => by kernel_rfl) (fun _ => by simp only [List.setIfInBounds_toArray, List.set_cons_succ, List.set_cons_zero] <;> rfl) fun g11 Bg11 Fg11 => ?_
    obtain ⟨dj12_0, dj12_1, dj12_2, dj12_3⟩ : g1 ≠ g11 ∧ Dk g11 T2 ∧ Dk g11 T3 ∧ Dk g11 T4 := by simpa only [dj_app_l, dj_app_r, dj_cons_l, dj_cons_r, dj_nil_l, dj_nil_r, dk_app, dk_cons, dk_nil, and_true, true_and, and_assoc] using (show Dk g11 ((g1, .cells (frcC false 0 0) 31 (0, 0)) :: ((T2 ++ T3) ++ T4)) from Fg11)
    refine wpL_s ((g11, .cells (fa 8 (dg (n / Nat.gcd n m))) 25 (0, 0)) :: (g1, .cells (frcC false 0 0) 31 (0, 0)) :: ((T2 ++ T3) ++ T4)) rfl rfl (st_all (by simp only [fa_size]) (by exact fa_one) rfl (by kernel_rfl) (by kernel_rfl) (.head _) Bg11 (by simp only [fa_size]; kernel_rfl) (List.forall_mem_cons.2 ⟨.inl rfl, (List.forall_mem_cons.2 ⟨.inr ⟨(.tail _ (.head _)), (by first | assumption | exact Ne.symm (by assumption))⟩, (fun p hp => .inr ⟨(.tail _ (.tail _ hp)), ((show Dk g11 ((T2 ++ T3) ++ T4) from (by (try simp only [dj_app_l, dj_app_r, dj_cons_l, dj_cons_r, dj_nil_l, dj_nil_r, dk_app, dk_cons, dk_nil, and_true, true_and, and_assoc]); repeat' (first | trivial | assumption | exact Dj.symm (by assumption) | exact Ne.symm (by assumption) | apply And.intro))) _ hp)⟩)⟩)⟩)) ?_
    refine Tw.lm (v := .bool true) rfl rfl ?_
    refine wpL_done (fun W12 hW12 => ?_)
    refine (show Code.wp _ _ _ _ _ from ?_)
    refine wp_seq ?_
    refine wp_region_L (W0 := w) ((g11, .cells (fa 8 (dg (n / Nat.gcd n m))) 25 (0, 0)) :: (g1, .cells (frcC false 0 0) 31 (0, 0)) :: ((T2 ++ T3) ++ T4)) (hW12) ?_
    refine Tw.lm (v := .slice q4 ((cd (m / Nat.gcd n m)).length) d4) rfl rfl ?_
    cases hd3 : (decide ((cd (m / Nat.gcd n m)).length ≤ 16)) with
    | false =>
      have h3 : ¬ ((cd (m / Nat.gcd n m)).length ≤ 16) := of_decide_eq_false hd3
      clear hd3
      refine Tw.lv (v := .tuple #[.agg (fa 8 (dg 0)), .bool false]) rfl rfl (yb_call (f := 46) (args := #[.slice q4 ((cd (m / Nat.gcd n m)).length) d4]) (fun _ => by kernel_rfl) fun W hW => limbs_no h3 ▸ limbs_any (m / Nat.gcd n m) q4 d4 (by omega) W ((H4.mono (fun q hq => by first | exact hq | (simp only [List.mem_cons, List.mem_append, List.nil_append, List.not_mem_nil, or_assoc, or_false, false_or] at hq ⊢ <;> grind))) W hW)) ?_
      refine Tw.lm (v := .tuple #[.agg (fa 8 (dg 0)), .bool false]) rfl rfl ?_
      refine Tw.lm (v := .agg (fa 8 (dg 0))) rfl rfl ?_
      refine Tw.lm (v := .bool false) rfl rfl ?_
      refine wpL_new (fun g => .pointer (some ⟨g, 0, none⟩)) (obi := .cells (fa 8 (dg 0)) 25 (0, 0)) rfl rfl (fun _ => by kernel_rfl) (fun _ => by simp only [List.setIfInBounds_toArray, List.set_cons_succ, List.set_cons_zero] <;> rfl) fun g13 Bg13 Fg13 => ?_
      obtain ⟨dj14_0, dj14_1, dj14_2, dj14_3, dj14_4⟩ : g11 ≠ g13 ∧ g1 ≠ g13 ∧ Dk g13 T2 ∧ Dk g13 T3 ∧ Dk g13 T4 := by simpa only [dj_app_l, dj_app_r, dj_cons_l, dj_cons_r, dj_nil_l, dj_nil_r, dk_app, dk_cons, dk_nil, and_true, true_and, and_assoc] using (show Dk g13 ((g11, .cells (fa 8 (dg (n / Nat.gcd n m))) 25 (0, 0)) :: (g1, .cells (frcC false 0 0) 31 (0, 0)) :: ((T2 ++ T3) ++ T4)) from Fg13)
      refine wpL_s ((g13, .cells (fa 8 (dg 0)) 25 (0, 0)) :: (g11, .cells (fa 8 (dg (n / Nat.gcd n m))) 25 (0, 0)) :: (g1, .cells (frcC false 0 0) 31 (0, 0)) :: ((T2 ++ T3) ++ T4)) rfl rfl (st_all (by simp only [fa_size]) (by exact fa_one) rfl (by kernel_rfl) (by kernel_rfl) (.head _) Bg13 (by simp only [fa_size]; kernel_rfl) (List.forall_mem_cons.2 ⟨.inl rfl, (List.forall_mem_cons.2 ⟨.inr ⟨(.tail _ (.head _)), (by first | assumption | exact Ne.symm (by assumption))⟩, (List.forall_mem_cons.2 ⟨.inr ⟨(.tail _ (.tail _ (.head _))), (by first | assumption | exact Ne.symm (by assumption))⟩, (fun p hp => .inr ⟨(.tail _ (.tail _ (.tail _ hp))), ((show Dk g13 ((T2 ++ T3) ++ T4) from (by (try simp only [dj_app_l, dj_app_r, dj_cons_l, dj_cons_r, dj_nil_l, dj_nil_r, dk_app, dk_cons, dk_nil, and_true, true_and, and_assoc]); repeat' (first | trivial | assumption | exact Dj.symm (by assumption) | exact Ne.symm (by assumption) | apply And.intro))) _ hp)⟩)⟩)⟩)⟩)) ?_
      refine Tw.lm (v := .bool false) rfl rfl ?_
      refine wpL_done (fun W13 hW13 => ?_)
      refine (show Code.wp _ _ _ _ _ from ?_)
      refine wp_seq ?_
      refine wp_seq ?_
      refine wp_region_L (W0 := w) ((g13, .cells (fa 8 (dg 0)) 25 (0, 0)) :: (g11, .cells (fa 8 (dg (n / Nat.gcd n m))) 25 (0, 0)) :: (g1, .cells (frcC false 0 0) 31 (0, 0)) :: ((T2 ++ T3) ++ T4)) (hW13) ?_
      refine Tw.lm (v := .bool true) rfl rfl ?_
      refine Tw.lm (v := .bool false) rfl rfl ?_
      refine Tw.lm (v := .bool false) rfl rfl ?_
      refine Tw.lm (v := .bool false) rfl rfl ?_
      refine Tw.lm (v := .bool true) rfl rfl ?_
      refine Tw.lm (v := .bool true) rfl rfl ?_
      refine wpL_done (fun W14 hW14 => ?_)
      refine (show Code.wp _ _ _ _ _ from ?_)
      refine wp_cond_true rfl ?_
      refine wp_seq ?_
      refine wp_region_L (W0 := w) [(g13, .cells (fa 8 (dg 0)) 25 (0, 0)), (g11, .cells (fa 8 (dg (n / Nat.gcd n m))) 25 (0, 0)), (g1, .cells (frcC false 0 0) 31 (0, 0))] ((hW14.sub (fun p hp => by simp only [List.mem_cons, List.mem_append, List.nil_append, List.not_mem_nil, or_assoc, or_false, false_or] at hp ⊢ <;> grind))) ?_
      refine Tw.lm (v := .agg (frcC false 0 0)) rfl rfl ?_
      refine wpL_s [(g13, .cells (fa 8 (dg 0)) 25 (0, 0)), (g11, .cells (fa 8 (dg (n / Nat.gcd n m))) 25 (0, 0)), (g1, .cells (frcC false 0 0) 31 (0, 0))] rfl rfl (st_all (by simp only [frcC_size]) (by exact frc_onec) rfl (by kernel_rfl) (by kernel_rfl) (.tail _ (.tail _ (.head _))) Bg1 (by simp only [frcC_size]; kernel_rfl) (List.forall_mem_cons.2 ⟨.inr ⟨(.head _), (by first | assumption | exact Ne.symm (by assumption))⟩, (List.forall_mem_cons.2 ⟨.inr ⟨(.tail _ (.head _)), (by first | assumption | exact Ne.symm (by assumption))⟩, (List.forall_mem_cons.2 ⟨.inl rfl, (List.forall_mem_nil _)⟩)⟩)⟩)) ?_
      refine Tw.lm (v := .int .i64 3) rfl rfl ?_
      refine wpL_done (fun W15 hW15 => ?_)
      refine (show Code.wp _ _ _ _ _ from ?_)
      refine wp_ret ?_
      try simp only [inBlock_ret, then_ret]
      refine bodyPost_ret (v := .tuple #[.agg (frcC false 0 0), .int .i64 3]) ?_ rfl ?_
      · exact (res_cell_tmp (p := 6) (q := 7) rfl rfl (hW15.2 _ (.tail _ (.tail _ (.head _)))) Tryd.underlying31 rfl (by simp only [frcC_size]; kernel_rfl))
      · exact ⟨(ret_v (mk_no (.inr h3))), hW15.1⟩
    | true =>
      have h3 : (cd (m / Nat.gcd n m)).length ≤ 16 := of_decide_eq_true hd3
      clear hd3
      refine Tw.lv (v := .tuple #[.agg (fa 8 (dg (m / Nat.gcd n m))), .bool true]) rfl rfl (yb_call (f := 46) (args := #[.slice q4 ((cd (m / Nat.gcd n m)).length) d4]) (fun _ => by kernel_rfl) fun W hW => limbs_yes h3 ▸ limbs_any (m / Nat.gcd n m) q4 d4 (by omega) W ((H4.mono (fun q hq => by first | exact hq | (simp only [List.mem_cons, List.mem_append, List.nil_append, List.not_mem_nil, or_assoc, or_false, false_or] at hq ⊢ <;> grind))) W hW)) ?_
      refine Tw.lm (v := .tuple #[.agg (fa 8 (dg (m / Nat.gcd n m))), .bool true]) rfl rfl ?_
      refine Tw.lm (v := .agg (fa 8 (dg (m / Nat.gcd n m)))) rfl rfl ?_
      refine Tw.lm (v := .bool true) rfl rfl ?_
      refine wpL_new (fun g => .pointer (some ⟨g, 0, none⟩)) (obi := .cells (fa 8 (dg 0)) 25 (0, 0)) rfl rfl (fun _ => by kernel_rfl) (fun _ => by simp only [List.setIfInBounds_toArray, List.set_cons_succ, List.set_cons_zero] <;> rfl) fun g15 Bg15 Fg15 => ?_
      obtain ⟨dj16_0, dj16_1, dj16_2, dj16_3, dj16_4⟩ : g11 ≠ g15 ∧ g1 ≠ g15 ∧ Dk g15 T2 ∧ Dk g15 T3 ∧ Dk g15 T4 := by simpa only [dj_app_l, dj_app_r, dj_cons_l, dj_cons_r, dj_nil_l, dj_nil_r, dk_app, dk_cons, dk_nil, and_true, true_and, and_assoc] using (show Dk g15 ((g11, .cells (fa 8 (dg (n / Nat.gcd n m))) 25 (0, 0)) :: (g1, .cells (frcC false 0 0) 31 (0, 0)) :: ((T2 ++ T3) ++ T4)) from Fg15)
      refine wpL_s ((g15, .cells (fa 8 (dg (m / Nat.gcd n m))) 25 (0, 0)) :: (g11, .cells (fa 8 (dg (n / Nat.gcd n m))) 25 (0, 0)) :: (g1, .cells (frcC false 0 0) 31 (0, 0)) :: ((T2 ++ T3) ++ T4)) rfl rfl (st_all (by simp only [fa_size]) (by exact fa_one) rfl (by kernel_rfl) (by kernel_rfl) (.head _) Bg15 (by simp only [fa_size]; kernel_rfl) (List.forall_mem_cons.2 ⟨.inl rfl, (List.forall_mem_cons.2 ⟨.inr ⟨(.tail _ (.head _)), (by first | assumption | exact Ne.symm (by assumption))⟩, (List.forall_mem_cons.2 ⟨.inr ⟨(.tail _ (.tail _ (.head _))), (by first | assumption | exact Ne.symm (by assumption))⟩, (fun p hp => .inr ⟨(.tail _ (.tail _ (.tail _ hp))), ((show Dk g15 ((T2 ++ T3) ++ T4) from (by (try simp only [dj_app_l, dj_app_r, dj_cons_l, dj_cons_r, dj_nil_l, dj_nil_r, dk_app, dk_cons, dk_nil, and_true, true_and, and_assoc]); repeat' (first | trivial | assumption | exact Dj.symm (by assumption) | exact Ne.symm (by assumption) | apply And.intro))) _ hp)⟩)⟩)⟩)⟩)) ?_
      refine Tw.lm (v := .bool true) rfl rfl ?_
      refine wpL_done (fun W16 hW16 => ?_)
      refine (show Code.wp _ _ _ _ _ from ?_)
      refine wp_seq ?_
      refine wp_seq ?_
      refine wp_region_L (W0 := w) ((g15, .cells (fa 8 (dg (m / Nat.gcd n m))) 25 (0, 0)) :: (g11, .cells (fa 8 (dg (n / Nat.gcd n m))) 25 (0, 0)) :: (g1, .cells (frcC false 0 0) 31 (0, 0)) :: ((T2 ++ T3) ++ T4)) (hW16) ?_
      refine Tw.lm (v := .bool true) rfl rfl ?_
      refine Tw.lm (v := .bool false) rfl rfl ?_
      refine Tw.lm (v := .bool false) rfl rfl ?_
      refine Tw.lm (v := .bool true) rfl rfl ?_
      refine Tw.lm (v := .bool false) rfl rfl ?_
      refine Tw.lm (v := .bool false) rfl rfl ?_
      refine wpL_done (fun W17 hW17 => ?_)
      refine (show Code.wp _ _ _ _ _ from ?_)
      refine wp_cond_false rfl ?_
      refine wp_skip ?_
      refine (show Code.wp _ _ _ _ _ from ?_)
      refine wp_seq ?_
      refine wp_region_L (W0 := w) [(g15, .cells (fa 8 (dg (m / Nat.gcd n m))) 25 (0, 0)), (g11, .cells (fa 8 (dg (n / Nat.gcd n m))) 25 (0, 0)), (g1, .cells (frcC false 0 0) 31 (0, 0))] ((hW17.sub (fun p hp => by simp only [List.mem_cons, List.mem_append, List.nil_append, List.not_mem_nil, or_assoc, or_false, false_or] at hp ⊢ <;> grind))) ?_
      refine Tw.lm (v := .bool neg) rfl rfl ?_
      refine Tw.lm (v := .bool neg) rfl rfl ?_
      cases h4 : neg with
      | false =>
        refine Tw.ln rfl ?_
        refine Tw.ln rfl ?_
        refine Tw.ln rfl ?_
        refine Tw.lm (v := .bool false) rfl rfl ?_
        refine Tw.lv (v := .agg (fa 8 (dg (n / Nat.gcd n m)))) rfl rfl (yb_all rfl (by kernel_rfl) (.tail _ (.head _)) Tryd.underlying25 rfl (by simp only [fa_size]; kernel_rfl)) ?_
        refine Tw.lv (v := .agg (fa 8 (dg (m / Nat.gcd n m)))) rfl rfl (yb_all rfl (by kernel_rfl) (.head _) Tryd.underlying25 rfl (by simp only [fa_size]; kernel_rfl)) ?_
        refine Tw.lm (v := .agg (frcC false (n / Nat.gcd n m) (m / Nat.gcd n m))) rfl rfl ?_
        refine wpL_s [(g15, .cells (fa 8 (dg (m / Nat.gcd n m))) 25 (0, 0)), (g11, .cells (fa 8 (dg (n / Nat.gcd n m))) 25 (0, 0)), (g1, .cells (frcC false (n / Nat.gcd n m) (m / Nat.gcd n m)) 31 (0, 0))] rfl rfl (st_all (by simp only [frcC_size]) (by exact frc_onec) rfl (by kernel_rfl) (by kernel_rfl) (.tail _ (.tail _ (.head _))) Bg1 (by simp only [frcC_size]; kernel_rfl) (List.forall_mem_cons.2 ⟨.inr ⟨(.head _), (by first | assumption | exact Ne.symm (by assumption))⟩, (List.forall_mem_cons.2 ⟨.inr ⟨(.tail _ (.head _)), (by first | assumption | exact Ne.symm (by assumption))⟩, (List.forall_mem_cons.2 ⟨.inl rfl, (List.forall_mem_nil _)⟩)⟩)⟩)) ?_
        refine Tw.lm (v := .int .i64 0) rfl rfl ?_
        refine wpL_done (fun W18 hW18 => ?_)
        refine (show Code.wp _ _ _ _ _ from ?_)
        refine wp_ret ?_
        try simp only [inBlock_ret, then_ret]
        refine bodyPost_ret (v := .tuple #[.agg (frcC false (n / Nat.gcd n m) (m / Nat.gcd n m)), .int .i64 0]) ?_ rfl ?_
        · exact (res_cell_tmp (p := 6) (q := 7) rfl rfl (hW18.2 _ (.tail _ (.tail _ (.head _)))) Tryd.underlying31 rfl (by simp only [frcC_size]; kernel_rfl))
        · exact ⟨(ret_v (mk_yes h1 h3 rfl)), hW18.1⟩
      | true =>
        refine Tw.lm (v := .slice q3 ((cd (n / Nat.gcd n m)).length) d3) rfl rfl ?_
        refine Tw.lp (v := .int .i64 ((((cd (n / Nat.gcd n m)).length) : Nat) : Int)) rfl rfl (run_lenL (p := q3) (cap := d3) (n := ((cd (n / Nat.gcd n m)).length)) rfl Tryd.underlying51 (by kernel_rfl)) ?_
        refine Tw.lp (v := .bool (decide (0 < ((cd (n / Nat.gcd n m)).length)))) rfl rfl (run_bin rfl (vx := (.int .i64 ((((cd (n / Nat.gcd n m)).length) : Nat) : Int))) (vy := (.int .i64 ((0 : Nat) : Int))) (by kernel_rfl) (by kernel_rfl) fun w => bn_gtr rfl w) ?_
        refine Tw.lm (v := .bool (decide (0 < ((cd (n / Nat.gcd n m)).length)))) rfl rfl ?_
        refine Tw.lv (v := .agg (fa 8 (dg (n / Nat.gcd n m)))) rfl rfl (yb_all rfl (by kernel_rfl) (.tail _ (.head _)) Tryd.underlying25 rfl (by simp only [fa_size]; kernel_rfl)) ?_
        refine Tw.lv (v := .agg (fa 8 (dg (m / Nat.gcd n m)))) rfl rfl (yb_all rfl (by kernel_rfl) (.head _) Tryd.underlying25 rfl (by simp only [fa_size]; kernel_rfl)) ?_
        refine Tw.lm (v := .agg (frcC (decide (0 < ((cd (n / Nat.gcd n m)).length))) (n / Nat.gcd n m) (m / Nat.gcd n m))) rfl rfl ?_
        refine wpL_s [(g15, .cells (fa 8 (dg (m / Nat.gcd n m))) 25 (0, 0)), (g11, .cells (fa 8 (dg (n / Nat.gcd n m))) 25 (0, 0)), (g1, .cells (frcC (decide (0 < ((cd (n / Nat.gcd n m)).length))) (n / Nat.gcd n m) (m / Nat.gcd n m)) 31 (0, 0))] rfl rfl (st_all (by simp only [frcC_size]) (by exact frc_onec) rfl (by kernel_rfl) (by kernel_rfl) (.tail _ (.tail _ (.head _))) Bg1 (by simp only [frcC_size]; kernel_rfl) (List.forall_mem_cons.2 ⟨.inr ⟨(.head _), (by first | assumption | exact Ne.symm (by assumption))⟩, (List.forall_mem_cons.2 ⟨.inr ⟨(.tail _ (.head _)), (by first | assumption | exact Ne.symm (by assumption))⟩, (List.forall_mem_cons.2 ⟨.inl rfl, (List.forall_mem_nil _)⟩)⟩)⟩)) ?_
        refine Tw.lm (v := .int .i64 0) rfl rfl ?_
        refine wpL_done (fun W19 hW19 => ?_)
        refine (show Code.wp _ _ _ _ _ from ?_)
        refine wp_ret ?_
        try simp only [inBlock_ret, then_ret]
        refine bodyPost_ret (v := .tuple #[.agg (frcC (decide (0 < ((cd (n / Nat.gcd n m)).length))) (n / Nat.gcd n m) (m / Nat.gcd n m)), .int .i64 0]) ?_ rfl ?_
        · exact (res_cell_tmp (p := 6) (q := 7) rfl rfl (hW19.2 _ (.tail _ (.tail _ (.head _)))) Tryd.underlying31 rfl (by simp only [frcC_size]; kernel_rfl))
        · exact ⟨(ret_v (mk_yes h1 h3 (by rw [Bool.true_and]; exact pos_ne))), hW19.1⟩
end Go.Proofs.YtalmflgkbmnghaaDoor
namespace Go.Proofs.YtalmflgkbmnghaaDoor
open Go Go.RowKit Tw
open Tf (dg R R_pos R_le R_succ dg_of_lt setd setd_eq)
theorem div_lt8 {x y : Nat} (h : (cd x).length ≤ 4) : x / y < R 8 := cd_R8.1 (Nat.le_trans (cd_div_len h) (by omega))
theorem frc_same {s s' : Bool} {n d : Nat} (h : s = s') : (Value.tuple #[.agg (frcC s n d), .int .i64 0]) = .tuple #[.agg (frcC s' n d), .int .i64 0] := by rw [h]
theorem quo0 {a b : Int} (hb : b ≠ 0) : (a.natAbs / Nat.gcd a.natAbs b.natAbs ≠ 0) ↔ a ≠ 0 := by
  have hg : 0 < Nat.gcd a.natAbs b.natAbs := Nat.gcd_pos_of_pos_right _ (by omega)
  constructor
  · rintro h rfl
    simp at h
  · intro h
    have := Nat.div_pos (Nat.le_of_dvd (by omega) (Nat.gcd_dvd_left a.natAbs b.natAbs)) hg
    omega
theorem sgn_true {a b : Int} (h : (a < 0 ∧ 0 < b) ∨ (0 < a ∧ b < 0)) (hb : b ≠ 0) : (true && decide (a.natAbs / Nat.gcd a.natAbs b.natAbs ≠ 0)) = (decide (a ≠ 0) && (decide (a < 0) != decide (b < 0))) := by
  have e : decide (a.natAbs / Nat.gcd a.natAbs b.natAbs ≠ 0) = decide (a ≠ 0) := decide_eq_decide.2 (quo0 (a := a) hb)
  rw [Bool.true_and, e]
  rcases h with ⟨h1, h2⟩ | ⟨h1, h2⟩
  · have h3 : ¬ b < 0 := by omega
    simp [h1, h3]
  · have h3 : ¬ a < 0 := by omega
    simp [h2, h3]
theorem sgn_false {a b : Int} (h : ¬ (a < 0 ∧ 0 < b) ∧ ¬ (0 < a ∧ b < 0)) (hb : b ≠ 0) : (false && decide (a.natAbs / Nat.gcd a.natAbs b.natAbs ≠ 0)) = (decide (a ≠ 0) && (decide (a < 0) != decide (b < 0))) := by
  rw [Bool.false_and]
  by_cases h0 : a = 0
  · simp [h0]
  · by_cases h1 : a < 0
    · have h2 : b < 0 := by omega
      simp [h1, h2]
    · have h2 : ¬ b < 0 := by omega
      simp [h1, h2]
theorem of_ratio (n : Int) : (Value.tuple #[.agg (frcC (decide (n ≠ 0) && (decide (n < 0) != decide ((1 : Int) < 0))) (n.natAbs / Nat.gcd n.natAbs (1 : Int).natAbs) ((1 : Int).natAbs / Nat.gcd n.natAbs (1 : Int).natAbs)), .int .i64 0]) = .tuple #[.agg (frcC (decide (n < 0)) n.natAbs 1), .int .i64 0] := by
  have e : (1 : Int).natAbs = 1 := rfl
  rw [e, Nat.gcd_one_right, Nat.div_one, Nat.div_one]
  have : (decide (n ≠ 0) && (decide (n < 0) != decide ((1 : Int) < 0))) = decide (n < 0) := by
    by_cases h : n < 0
    · have : n ≠ 0 := by omega
      simp [h, this]
    · simp [h]
  rw [this]
set_option maxRecDepth 100000 in
set_option maxHeartbeats 20000000 in
theorem RRatio_any (a b : Int) (a1 : -9223372036854775808 ≤ a) (a2 : a ≤ 9223372036854775807) (b1 : -9223372036854775808 ≤ b) (b2 : b ≤ 9223372036854775807) (hb : b ≠ 0) (w : World) : Calls Tryd.prog 7 #[.int .i64 a, .int .i64 b] w fun e w' => e = .returned (.tuple #[.agg (frcC (decide (a ≠ 0) && (decide (a < 0) != decide (b < 0))) (a.natAbs / Nat.gcd a.natAbs b.natAbs) (b.natAbs / Nat.gcd a.natAbs b.natAbs)), .int .i64 0]) ∧ Below w.heap.size w w' := by
  have la : (cd a.natAbs).length ≤ 4 := cd_le.2 (by omega)
  have lb : (cd b.natAbs).length ≤ 4 := cd_le.2 (by omega)
  have hb0 : 0 < b.natAbs := by omega
  obtain ⟨S, hS⟩ : ∃ S, S = (decide (a ≠ 0) && (decide (a < 0) != decide (b < 0))) := ⟨_, rfl⟩
  rw [← hS]
  go_enter Tryd.func7, Tryd.ntmps7
  refine wp_seq ?_
  refine wp_region_L (W0 := w) [] (KS.start w) ?_
  refine wpL_new (fun g => .pointer (some ⟨g, 0, none⟩)) (obi := .cells (frcC false 0 0) 31 (0, 0)) rfl rfl (fun _ => by kernel_rfl) (fun _ => by simp only [List.setIfInBounds_toArray, List.set_cons_succ, List.set_cons_zero] <;> rfl) fun g1 Bg1 Fg1 => ?_
  refine Tw.lm (v := .int .i64 0) rfl rfl ?_
  refine wpL_done (fun W1 hW1 => ?_)
  refine (show Code.wp _ _ _ _ _ from ?_)
  refine wp_seq ?_
  refine wp_seq ?_
  refine wp_region_L (W0 := w) [(g1, .cells (frcC false 0 0) 31 (0, 0))] (hW1) ?_
  refine Tw.lm (v := .int .i64 b) rfl rfl ?_
  refine Tw.lp (v := .bool (decide (b = 0))) rfl rfl (run_bin rfl (vx := (.int .i64 b)) (vy := (.int .i64 0)) (by kernel_rfl) (by kernel_rfl) fun w => bi_eql rfl w) ?_
  refine wpL_done (fun W2 hW2 => ?_)
  refine (show Code.wp _ _ _ _ _ from ?_)
  cases hd1 : (decide (b = 0)) with
  | false =>
    have h1 : ¬ (b = 0) := of_decide_eq_false hd1
    clear hd1
    refine wp_cond_false rfl ?_
    refine wp_skip ?_
    refine (show Code.wp _ _ _ _ _ from ?_)
    refine wp_seq ?_
    refine wp_region_L (W0 := w) [(g1, .cells (frcC false 0 0) 31 (0, 0))] (hW2) ?_
    refine Tw.lm (v := .int .i64 a) rfl rfl ?_
    refine Tw.lp (v := .bool (decide (a < 0))) rfl rfl (run_bin rfl (vx := (.int .i64 a)) (vy := (.int .i64 0)) (by kernel_rfl) (by kernel_rfl) fun w => bi_lss rfl w) ?_
    refine Tw.lm (v := .bool (decide (a < 0))) rfl rfl ?_
    cases hd2 : (decide (a < 0)) with
    | false =>
      have h2 : ¬ (a < 0) := of_decide_eq_false hd2
      clear hd2
      refine Tw.ln rfl ?_
      refine Tw.ln rfl ?_
      refine Tw.lm (v := .bool false) rfl rfl ?_
      refine Tw.lm (v := .bool false) rfl rfl ?_
      refine Tw.lm (v := .int .i64 a) rfl rfl ?_
      refine Tw.lp (v := .bool (decide (0 < a))) rfl rfl (run_bin rfl (vx := (.int .i64 a)) (vy := (.int .i64 0)) (by kernel_rfl) (by kernel_rfl) fun w => bi_gtr rfl w) ?_
      refine Tw.lm (v := .bool (decide (0 < a))) rfl rfl ?_
      cases hd3 : (decide (0 < a)) with
      | false =>
        have h3 : ¬ (0 < a) := of_decide_eq_false hd3
        clear hd3
        refine Tw.ln rfl ?_
        refine Tw.ln rfl ?_
        refine Tw.lm (v := .bool false) rfl rfl ?_
        refine Tw.lm (v := .bool false) rfl rfl ?_
        refine Tw.lm (v := .int .i64 a) rfl rfl ?_
        refine wpL_c (f := 24) (args := #[.int .i64 a]) (AnsG w [(g1, .cells (frcC false 0 0) 31 (0, 0))] (cd a.natAbs)) rfl (by kernel_rfl) (fun _ => (by kernel_rfl)) (fun W hW => (size_any a (by omega) (by omega) W).mono fun e w2 h => Ans.g h hW) (fun _ => by simp only [List.setIfInBounds_toArray, List.set_cons_succ, List.set_cons_zero] <;> rfl) ?_
        rintro v2 _ ⟨q2, d2, T2, rfl, C2, H2, F2, J2, rfl⟩
        obtain dj3_0 : Dk g1 T2 := by simpa only [dj_app_l, dj_app_r, dj_cons_l, dj_cons_r, dj_nil_l, dj_nil_r, dk_app, dk_cons, dk_nil, and_true, true_and, and_assoc] using (show Dj [(g1, .cells (frcC false 0 0) 31 (0, 0))] T2 from J2)
        refine Tw.lm (v := .int .i64 b) rfl rfl ?_
        refine wpL_c (f := 24) (args := #[.int .i64 b]) (AnsG w ((g1, .cells (frcC false 0 0) 31 (0, 0)) :: T2) (cd b.natAbs)) rfl (by kernel_rfl) (fun _ => (by kernel_rfl)) (fun W hW => (size_any b (by omega) (by omega) W).mono fun e w2 h => Ans.g h hW) (fun _ => by simp only [List.setIfInBounds_toArray, List.set_cons_succ, List.set_cons_zero] <;> rfl) ?_
        rintro v4 _ ⟨q4, d4, T4, rfl, C4, H4, F4, J4, rfl⟩
        obtain ⟨dj5_0, dj5_1⟩ : Dk g1 T4 ∧ Dj T2 T4 := by simpa only [dj_app_l, dj_app_r, dj_cons_l, dj_cons_r, dj_nil_l, dj_nil_r, dk_app, dk_cons, dk_nil, and_true, true_and, and_assoc] using (show Dj ((g1, .cells (frcC false 0 0) 31 (0, 0)) :: T2) T4 from J4)
        refine Tw.lv (v := .tuple #[.agg (frcC (false && decide ((a.natAbs / Nat.gcd a.natAbs b.natAbs) ≠ 0)) (a.natAbs / Nat.gcd a.natAbs b.natAbs) (b.natAbs / Nat.gcd a.natAbs b.natAbs)), .int .i64 0]) rfl rfl (yb_call (f := 23) (args := #[.bool false, .slice q2 ((cd a.natAbs).length) d2, .slice q4 ((cd b.natAbs).length) d4]) (fun _ => by kernel_rfl) fun W hW => packV_yes (neg := false) (div_lt8 (y := Nat.gcd a.natAbs b.natAbs) la) (div_lt8 (y := Nat.gcd a.natAbs b.natAbs) lb) ▸ make0_any false a.natAbs b.natAbs q2 q4 d2 d4 hb0 (by omega) (by omega) C2 C4 W ((H2.mono (fun q hq => by first | exact hq | (simp only [List.mem_cons, List.mem_append, List.nil_append, List.not_mem_nil, or_assoc, or_false, false_or] at hq ⊢ <;> grind))) W hW) ((H4.mono (fun q hq => by first | exact hq | (simp only [List.mem_cons, List.mem_append, List.nil_append, List.not_mem_nil, or_assoc, or_false, false_or] at hq ⊢ <;> grind))) W hW)) ?_
        refine Tw.lm (v := .agg (frcC (false && decide ((a.natAbs / Nat.gcd a.natAbs b.natAbs) ≠ 0)) (a.natAbs / Nat.gcd a.natAbs b.natAbs) (b.natAbs / Nat.gcd a.natAbs b.natAbs))) rfl rfl ?_
        refine Tw.lm (v := .int .i64 0) rfl rfl ?_
        refine wpL_s ((g1, .cells (frcC (false && decide ((a.natAbs / Nat.gcd a.natAbs b.natAbs) ≠ 0)) (a.natAbs / Nat.gcd a.natAbs b.natAbs) (b.natAbs / Nat.gcd a.natAbs b.natAbs)) 31 (0, 0)) :: (T2 ++ T4)) rfl rfl (st_all (by simp only [frcC_size]) (by exact frc_onec) rfl (by kernel_rfl) (by kernel_rfl) (.head _) Bg1 (by simp only [frcC_size]; kernel_rfl) (List.forall_mem_cons.2 ⟨.inl rfl, (fun p hp => .inr ⟨(.tail _ hp), ((show Dk g1 (T2 ++ T4) from (by (try simp only [dj_app_l, dj_app_r, dj_cons_l, dj_cons_r, dj_nil_l, dj_nil_r, dk_app, dk_cons, dk_nil, and_true, true_and, and_assoc]); repeat' (first | trivial | assumption | exact Dj.symm (by assumption) | exact Ne.symm (by assumption) | apply And.intro))) _ hp)⟩)⟩)) ?_
        refine Tw.lm (v := .int .i64 0) rfl rfl ?_
        refine wpL_done (fun W3 hW3 => ?_)
        refine (show Code.wp _ _ _ _ _ from ?_)
        refine wp_ret ?_
        try simp only [inBlock_ret, then_ret]
        refine bodyPost_ret (v := .tuple #[.agg (frcC (false && decide ((a.natAbs / Nat.gcd a.natAbs b.natAbs) ≠ 0)) (a.natAbs / Nat.gcd a.natAbs b.natAbs) (b.natAbs / Nat.gcd a.natAbs b.natAbs)), .int .i64 0]) ?_ rfl ?_
        · exact (res_cell_tmp (p := 4) (q := 5) rfl rfl (hW3.2 _ (.head _)) Tryd.underlying31 rfl (by simp only [frcC_size]; kernel_rfl))
        · exact ⟨(ret_v (frc_same ((sgn_false (a := a) (b := b) (by omega) hb).trans hS.symm))), hW3.1⟩
      | true =>
        have h3 : 0 < a := of_decide_eq_true hd3
        clear hd3
        refine Tw.lm (v := .int .i64 b) rfl rfl ?_
        refine Tw.lp (v := .bool (decide (b < 0))) rfl rfl (run_bin rfl (vx := (.int .i64 b)) (vy := (.int .i64 0)) (by kernel_rfl) (by kernel_rfl) fun w => bi_lss rfl w) ?_
        refine Tw.lm (v := .bool (decide (b < 0))) rfl rfl ?_
        refine Tw.lm (v := .bool (decide (b < 0))) rfl rfl ?_
        refine Tw.lm (v := .int .i64 a) rfl rfl ?_
        refine wpL_c (f := 24) (args := #[.int .i64 a]) (AnsG w [(g1, .cells (frcC false 0 0) 31 (0, 0))] (cd a.natAbs)) rfl (by kernel_rfl) (fun _ => (by kernel_rfl)) (fun W hW => (size_any a (by omega) (by omega) W).mono fun e w2 h => Ans.g h hW) (fun _ => by simp only [List.setIfInBounds_toArray, List.set_cons_succ, List.set_cons_zero] <;> rfl) ?_
        rintro v6 _ ⟨q6, d6, T6, rfl, C6, H6, F6, J6, rfl⟩
        obtain dj7_0 : Dk g1 T6 := by simpa only [dj_app_l, dj_app_r, dj_cons_l, dj_cons_r, dj_nil_l, dj_nil_r, dk_app, dk_cons, dk_nil, and_true, true_and, and_assoc] using (show Dj [(g1, .cells (frcC false 0 0) 31 (0, 0))] T6 from J6)
        refine Tw.lm (v := .int .i64 b) rfl rfl ?_
        refine wpL_c (f := 24) (args := #[.int .i64 b]) (AnsG w ((g1, .cells (frcC false 0 0) 31 (0, 0)) :: T6) (cd b.natAbs)) rfl (by kernel_rfl) (fun _ => (by kernel_rfl)) (fun W hW => (size_any b (by omega) (by omega) W).mono fun e w2 h => Ans.g h hW) (fun _ => by simp only [List.setIfInBounds_toArray, List.set_cons_succ, List.set_cons_zero] <;> rfl) ?_
        rintro v8 _ ⟨q8, d8, T8, rfl, C8, H8, F8, J8, rfl⟩
        obtain ⟨dj9_0, dj9_1⟩ : Dk g1 T8 ∧ Dj T6 T8 := by simpa only [dj_app_l, dj_app_r, dj_cons_l, dj_cons_r, dj_nil_l, dj_nil_r, dk_app, dk_cons, dk_nil, and_true, true_and, and_assoc] using (show Dj ((g1, .cells (frcC false 0 0) 31 (0, 0)) :: T6) T8 from J8)
        cases hd4 : (decide (b < 0)) with
        | false =>
          have h4 : ¬ (b < 0) := of_decide_eq_false hd4
          clear hd4
          refine Tw.lv (v := .tuple #[.agg (frcC (false && decide ((a.natAbs / Nat.gcd a.natAbs b.natAbs) ≠ 0)) (a.natAbs / Nat.gcd a.natAbs b.natAbs) (b.natAbs / Nat.gcd a.natAbs b.natAbs)), .int .i64 0]) rfl rfl (yb_call (f := 23) (args := #[.bool false, .slice q6 ((cd a.natAbs).length) d6, .slice q8 ((cd b.natAbs).length) d8]) (fun _ => by kernel_rfl) fun W hW => packV_yes (neg := false) (div_lt8 (y := Nat.gcd a.natAbs b.natAbs) la) (div_lt8 (y := Nat.gcd a.natAbs b.natAbs) lb) ▸ make0_any false a.natAbs b.natAbs q6 q8 d6 d8 hb0 (by omega) (by omega) C6 C8 W ((H6.mono (fun q hq => by first | exact hq | (simp only [List.mem_cons, List.mem_append, List.nil_append, List.not_mem_nil, or_assoc, or_false, false_or] at hq ⊢ <;> grind))) W hW) ((H8.mono (fun q hq => by first | exact hq | (simp only [List.mem_cons, List.mem_append, List.nil_append, List.not_mem_nil, or_assoc, or_false, false_or] at hq ⊢ <;> grind))) W hW)) ?_
          refine Tw.lm (v := .agg (frcC (false && decide ((a.natAbs / Nat.gcd a.natAbs b.natAbs) ≠ 0)) (a.natAbs / Nat.gcd a.natAbs b.natAbs) (b.natAbs / Nat.gcd a.natAbs b.natAbs))) rfl rfl ?_
          refine Tw.lm (v := .int .i64 0) rfl rfl ?_
          refine wpL_s ((g1, .cells (frcC (false && decide ((a.natAbs / Nat.gcd a.natAbs b.natAbs) ≠ 0)) (a.natAbs / Nat.gcd a.natAbs b.natAbs) (b.natAbs / Nat.gcd a.natAbs b.natAbs)) 31 (0, 0)) :: (T6 ++ T8)) rfl rfl (st_all (by simp only [frcC_size]) (by exact frc_onec) rfl (by kernel_rfl) (by kernel_rfl) (.head _) Bg1 (by simp only [frcC_size]; kernel_rfl) (List.forall_mem_cons.2 ⟨.inl rfl, (fun p hp => .inr ⟨(.tail _ hp), ((show Dk g1 (T6 ++ T8) from (by (try simp only [dj_app_l, dj_app_r, dj_cons_l, dj_cons_r, dj_nil_l, dj_nil_r, dk_app, dk_cons, dk_nil, and_true, true_and, and_assoc]); repeat' (first | trivial | assumption | exact Dj.symm (by assumption) | exact Ne.symm (by assumption) | apply And.intro))) _ hp)⟩)⟩)) ?_
          refine Tw.lm (v := .int .i64 0) rfl rfl ?_
          refine wpL_done (fun W4 hW4 => ?_)
          refine (show Code.wp _ _ _ _ _ from ?_)
          refine wp_ret ?_
          try simp only [inBlock_ret, then_ret]
          refine bodyPost_ret (v := .tuple #[.agg (frcC (false && decide ((a.natAbs / Nat.gcd a.natAbs b.natAbs) ≠ 0)) (a.natAbs / Nat.gcd a.natAbs b.natAbs) (b.natAbs / Nat.gcd a.natAbs b.natAbs)), .int .i64 0]) ?_ rfl ?_
          · exact (res_cell_tmp (p := 4) (q := 5) rfl rfl (hW4.2 _ (.head _)) Tryd.underlying31 rfl (by simp only [frcC_size]; kernel_rfl))
          · exact ⟨(ret_v (frc_same ((sgn_false (a := a) (b := b) (by omega) hb).trans hS.symm))), hW4.1⟩
        | true =>
          have h4 : b < 0 := of_decide_eq_true hd4
          clear hd4
          refine Tw.lv (v := .tuple #[.agg (frcC (true && decide ((a.natAbs / Nat.gcd a.natAbs b.natAbs) ≠ 0)) (a.natAbs / Nat.gcd a.natAbs b.natAbs) (b.natAbs / Nat.gcd a.natAbs b.natAbs)), .int .i64 0]) rfl rfl (yb_call (f := 23) (args := #[.bool true, .slice q6 ((cd a.natAbs).length) d6, .slice q8 ((cd b.natAbs).length) d8]) (fun _ => by kernel_rfl) fun W hW => packV_yes (neg := true) (div_lt8 (y := Nat.gcd a.natAbs b.natAbs) la) (div_lt8 (y := Nat.gcd a.natAbs b.natAbs) lb) ▸ make0_any true a.natAbs b.natAbs q6 q8 d6 d8 hb0 (by omega) (by omega) C6 C8 W ((H6.mono (fun q hq => by first | exact hq | (simp only [List.mem_cons, List.mem_append, List.nil_append, List.not_mem_nil, or_assoc, or_false, false_or] at hq ⊢ <;> grind))) W hW) ((H8.mono (fun q hq => by first | exact hq | (simp only [List.mem_cons, List.mem_append, List.nil_append, List.not_mem_nil, or_assoc, or_false, false_or] at hq ⊢ <;> grind))) W hW)) ?_
          refine Tw.lm (v := .agg (frcC (true && decide ((a.natAbs / Nat.gcd a.natAbs b.natAbs) ≠ 0)) (a.natAbs / Nat.gcd a.natAbs b.natAbs) (b.natAbs / Nat.gcd a.natAbs b.natAbs))) rfl rfl ?_
          refine Tw.lm (v := .int .i64 0) rfl rfl ?_
          refine wpL_s ((g1, .cells (frcC (true && decide ((a.natAbs / Nat.gcd a.natAbs b.natAbs) ≠ 0)) (a.natAbs / Nat.gcd a.natAbs b.natAbs) (b.natAbs / Nat.gcd a.natAbs b.natAbs)) 31 (0, 0)) :: (T6 ++ T8)) rfl rfl (st_all (by simp only [frcC_size]) (by exact frc_onec) rfl (by kernel_rfl) (by kernel_rfl) (.head _) Bg1 (by simp only [frcC_size]; kernel_rfl) (List.forall_mem_cons.2 ⟨.inl rfl, (fun p hp => .inr ⟨(.tail _ hp), ((show Dk g1 (T6 ++ T8) from (by (try simp only [dj_app_l, dj_app_r, dj_cons_l, dj_cons_r, dj_nil_l, dj_nil_r, dk_app, dk_cons, dk_nil, and_true, true_and, and_assoc]); repeat' (first | trivial | assumption | exact Dj.symm (by assumption) | exact Ne.symm (by assumption) | apply And.intro))) _ hp)⟩)⟩)) ?_
          refine Tw.lm (v := .int .i64 0) rfl rfl ?_
          refine wpL_done (fun W5 hW5 => ?_)
          refine (show Code.wp _ _ _ _ _ from ?_)
          refine wp_ret ?_
          try simp only [inBlock_ret, then_ret]
          refine bodyPost_ret (v := .tuple #[.agg (frcC (true && decide ((a.natAbs / Nat.gcd a.natAbs b.natAbs) ≠ 0)) (a.natAbs / Nat.gcd a.natAbs b.natAbs) (b.natAbs / Nat.gcd a.natAbs b.natAbs)), .int .i64 0]) ?_ rfl ?_
          · exact (res_cell_tmp (p := 4) (q := 5) rfl rfl (hW5.2 _ (.head _)) Tryd.underlying31 rfl (by simp only [frcC_size]; kernel_rfl))
          · exact ⟨(ret_v (frc_same ((sgn_true (a := a) (b := b) (by omega) hb).trans hS.symm))), hW5.1⟩
    | true =>
      have h2 : a < 0 := of_decide_eq_true hd2
      clear hd2
      refine Tw.lm (v := .int .i64 b) rfl rfl ?_
      refine Tw.lp (v := .bool (decide (0 < b))) rfl rfl (run_bin rfl (vx := (.int .i64 b)) (vy := (.int .i64 0)) (by kernel_rfl) (by kernel_rfl) fun w => bi_gtr rfl w) ?_
      refine Tw.lm (v := .bool (decide (0 < b))) rfl rfl ?_
      refine Tw.lm (v := .bool (decide (0 < b))) rfl rfl ?_
      cases hd5 : (decide (0 < b)) with
      | false =>
        have h5 : ¬ (0 < b) := of_decide_eq_false hd5
        clear hd5
        refine Tw.lm (v := .int .i64 a) rfl rfl ?_
        refine Tw.lp (v := .bool (decide (0 < a))) rfl rfl (run_bin rfl (vx := (.int .i64 a)) (vy := (.int .i64 0)) (by kernel_rfl) (by kernel_rfl) fun w => bi_gtr rfl w) ?_
        refine Tw.lm (v := .bool (decide (0 < a))) rfl rfl ?_
        cases hd6 : (decide (0 < a)) with
        | false =>
          have h6 : ¬ (0 < a) := of_decide_eq_false hd6
          clear hd6
          refine Tw.ln rfl ?_
          refine Tw.ln rfl ?_
          refine Tw.lm (v := .bool false) rfl rfl ?_
          refine Tw.lm (v := .bool false) rfl rfl ?_
          refine Tw.lm (v := .int .i64 a) rfl rfl ?_
          refine wpL_c (f := 24) (args := #[.int .i64 a]) (AnsG w [(g1, .cells (frcC false 0 0) 31 (0, 0))] (cd a.natAbs)) rfl (by kernel_rfl) (fun _ => (by kernel_rfl)) (fun W hW => (size_any a (by omega) (by omega) W).mono fun e w2 h => Ans.g h hW) (fun _ => by simp only [List.setIfInBounds_toArray, List.set_cons_succ, List.set_cons_zero] <;> rfl) ?_
          rintro v10 _ ⟨q10, d10, T10, rfl, C10, H10, F10, J10, rfl⟩
          obtain dj11_0 : Dk g1 T10 := by simpa only [dj_app_l, dj_app_r, dj_cons_l, dj_cons_r, dj_nil_l, dj_nil_r, dk_app, dk_cons, dk_nil, and_true, true_and, and_assoc] using (show Dj [(g1, .cells (frcC false 0 0) 31 (0, 0))] T10 from J10)
          refine Tw.lm (v := .int .i64 b) rfl rfl ?_
          refine wpL_c (f := 24) (args := #[.int .i64 b]) (AnsG w ((g1, .cells (frcC false 0 0) 31 (0, 0)) :: T10) (cd b.natAbs)) rfl (by kernel_rfl) (fun _ => (by kernel_rfl)) (fun W hW => (size_any b (by omega) (by omega) W).mono fun e w2 h => Ans.g h hW) (fun _ => by simp only [List.setIfInBounds_toArray, List.set_cons_succ, List.set_cons_zero] <;> rfl) ?_
          rintro v12 _ ⟨q12, d12, T12, rfl, C12, H12, F12, J12, rfl⟩
          obtain ⟨dj13_0, dj13_1⟩ : Dk g1 T12 ∧ Dj T10 T12 := by simpa only [dj_app_l, dj_app_r, dj_cons_l, dj_cons_r, dj_nil_l, dj_nil_r, dk_app, dk_cons, dk_nil, and_true, true_and, and_assoc] using (show Dj ((g1, .cells (frcC false 0 0) 31 (0, 0)) :: T10) T12 from J12)
          refine Tw.lv (v := .tuple #[.agg (frcC (false && decide ((a.natAbs / Nat.gcd a.natAbs b.natAbs) ≠ 0)) (a.natAbs / Nat.gcd a.natAbs b.natAbs) (b.natAbs / Nat.gcd a.natAbs b.natAbs)), .int .i64 0]) rfl rfl (yb_call (f := 23) (args := #[.bool false, .slice q10 ((cd a.natAbs).length) d10, .slice q12 ((cd b.natAbs).length) d12]) (fun _ => by kernel_rfl) fun W hW => packV_yes (neg := false) (div_lt8 (y := Nat.gcd a.natAbs b.natAbs) la) (div_lt8 (y := Nat.gcd a.natAbs b.natAbs) lb) ▸ make0_any false a.natAbs b.natAbs q10 q12 d10 d12 hb0 (by omega) (by omega) C10 C12 W ((H10.mono (fun q hq => by first | exact hq | (simp only [List.mem_cons, List.mem_append, List.nil_append, List.not_mem_nil, or_assoc, or_false, false_or] at hq ⊢ <;> grind))) W hW) ((H12.mono (fun q hq => by first | exact hq | (simp only [List.mem_cons, List.mem_append, List.nil_append, List.not_mem_nil, or_assoc, or_false, false_or] at hq ⊢ <;> grind))) W hW)) ?_
          refine Tw.lm (v := .agg (frcC (false && decide ((a.natAbs / Nat.gcd a.natAbs b.natAbs) ≠ 0)) (a.natAbs / Nat.gcd a.natAbs b.natAbs) (b.natAbs / Nat.gcd a.natAbs b.natAbs))) rfl rfl ?_
          refine Tw.lm (v := .int .i64 0) rfl rfl ?_
          refine wpL_s ((g1, .cells (frcC (false && decide ((a.natAbs / Nat.gcd a.natAbs b.natAbs) ≠ 0)) (a.natAbs / Nat.gcd a.natAbs b.natAbs) (b.natAbs / Nat.gcd a.natAbs b.natAbs)) 31 (0, 0)) :: (T10 ++ T12)) rfl rfl (st_all (by simp only [frcC_size]) (by exact frc_onec) rfl (by kernel_rfl) (by kernel_rfl) (.head _) Bg1 (by simp only [frcC_size]; kernel_rfl) (List.forall_mem_cons.2 ⟨.inl rfl, (fun p hp => .inr ⟨(.tail _ hp), ((show Dk g1 (T10 ++ T12) from (by (try simp only [dj_app_l, dj_app_r, dj_cons_l, dj_cons_r, dj_nil_l, dj_nil_r, dk_app, dk_cons, dk_nil, and_true, true_and, and_assoc]); repeat' (first | trivial | assumption | exact Dj.symm (by assumption) | exact Ne.symm (by assumption) | apply And.intro))) _ hp)⟩)⟩)) ?_
          refine Tw.lm (v := .int .i64 0) rfl rfl ?_
          refine wpL_done (fun W6 hW6 => ?_)
          refine (show Code.wp _ _ _ _ _ from ?_)
          refine wp_ret ?_
          try simp only [inBlock_ret, then_ret]
          refine bodyPost_ret (v := .tuple #[.agg (frcC (false && decide ((a.natAbs / Nat.gcd a.natAbs b.natAbs) ≠ 0)) (a.natAbs / Nat.gcd a.natAbs b.natAbs) (b.natAbs / Nat.gcd a.natAbs b.natAbs)), .int .i64 0]) ?_ rfl ?_
          · exact (res_cell_tmp (p := 4) (q := 5) rfl rfl (hW6.2 _ (.head _)) Tryd.underlying31 rfl (by simp only [frcC_size]; kernel_rfl))
          · exact ⟨(ret_v (frc_same ((sgn_false (a := a) (b := b) (by omega) hb).trans hS.symm))), hW6.1⟩
        | true =>
          have h6 : 0 < a := of_decide_eq_true hd6
          clear hd6
          refine Tw.lm (v := .int .i64 b) rfl rfl ?_
          refine Tw.lp (v := .bool (decide (b < 0))) rfl rfl (run_bin rfl (vx := (.int .i64 b)) (vy := (.int .i64 0)) (by kernel_rfl) (by kernel_rfl) fun w => bi_lss rfl w) ?_
          refine Tw.lm (v := .bool (decide (b < 0))) rfl rfl ?_
          refine Tw.lm (v := .bool (decide (b < 0))) rfl rfl ?_
          refine Tw.lm (v := .int .i64 a) rfl rfl ?_
          refine wpL_c (f := 24) (args := #[.int .i64 a]) (AnsG w [(g1, .cells (frcC false 0 0) 31 (0, 0))] (cd a.natAbs)) rfl (by kernel_rfl) (fun _ => (by kernel_rfl)) (fun W hW => (size_any a (by omega) (by omega) W).mono fun e w2 h => Ans.g h hW) (fun _ => by simp only [List.setIfInBounds_toArray, List.set_cons_succ, List.set_cons_zero] <;> rfl) ?_
          rintro v14 _ ⟨q14, d14, T14, rfl, C14, H14, F14, J14, rfl⟩
          obtain dj15_0 : Dk g1 T14 := by simpa only [dj_app_l, dj_app_r, dj_cons_l, dj_cons_r, dj_nil_l, dj_nil_r, dk_app, dk_cons, dk_nil, and_true, true_and, and_assoc] using (show Dj [(g1, .cells (frcC false 0 0) 31 (0, 0))] T14 from J14)
          refine Tw.lm (v := .int .i64 b) rfl rfl ?_
          refine wpL_c (f := 24) (args := #[.int .i64 b]) (AnsG w ((g1, .cells (frcC false 0 0) 31 (0, 0)) :: T14) (cd b.natAbs)) rfl (by kernel_rfl) (fun _ => (by kernel_rfl)) (fun W hW => (size_any b (by omega) (by omega) W).mono fun e w2 h => Ans.g h hW) (fun _ => by simp only [List.setIfInBounds_toArray, List.set_cons_succ, List.set_cons_zero] <;> rfl) ?_
          rintro v16 _ ⟨q16, d16, T16, rfl, C16, H16, F16, J16, rfl⟩
          obtain ⟨dj17_0, dj17_1⟩ : Dk g1 T16 ∧ Dj T14 T16 := by simpa only [dj_app_l, dj_app_r, dj_cons_l, dj_cons_r, dj_nil_l, dj_nil_r, dk_app, dk_cons, dk_nil, and_true, true_and, and_assoc] using (show Dj ((g1, .cells (frcC false 0 0) 31 (0, 0)) :: T14) T16 from J16)
          cases hd7 : (decide (b < 0)) with
          | false =>
            have h7 : ¬ (b < 0) := of_decide_eq_false hd7
            clear hd7
            refine Tw.lv (v := .tuple #[.agg (frcC (false && decide ((a.natAbs / Nat.gcd a.natAbs b.natAbs) ≠ 0)) (a.natAbs / Nat.gcd a.natAbs b.natAbs) (b.natAbs / Nat.gcd a.natAbs b.natAbs)), .int .i64 0]) rfl rfl (yb_call (f := 23) (args := #[.bool false, .slice q14 ((cd a.natAbs).length) d14, .slice q16 ((cd b.natAbs).length) d16]) (fun _ => by kernel_rfl) fun W hW => packV_yes (neg := false) (div_lt8 (y := Nat.gcd a.natAbs b.natAbs) la) (div_lt8 (y := Nat.gcd a.natAbs b.natAbs) lb) ▸ make0_any false a.natAbs b.natAbs q14 q16 d14 d16 hb0 (by omega) (by omega) C14 C16 W ((H14.mono (fun q hq => by first | exact hq | (simp only [List.mem_cons, List.mem_append, List.nil_append, List.not_mem_nil, or_assoc, or_false, false_or] at hq ⊢ <;> grind))) W hW) ((H16.mono (fun q hq => by first | exact hq | (simp only [List.mem_cons, List.mem_append, List.nil_append, List.not_mem_nil, or_assoc, or_false, false_or] at hq ⊢ <;> grind))) W hW)) ?_
            refine Tw.lm (v := .agg (frcC (false && decide ((a.natAbs / Nat.gcd a.natAbs b.natAbs) ≠ 0)) (a.natAbs / Nat.gcd a.natAbs b.natAbs) (b.natAbs / Nat.gcd a.natAbs b.natAbs))) rfl rfl ?_
            refine Tw.lm (v := .int .i64 0) rfl rfl ?_
            refine wpL_s ((g1, .cells (frcC (false && decide ((a.natAbs / Nat.gcd a.natAbs b.natAbs) ≠ 0)) (a.natAbs / Nat.gcd a.natAbs b.natAbs) (b.natAbs / Nat.gcd a.natAbs b.natAbs)) 31 (0, 0)) :: (T14 ++ T16)) rfl rfl (st_all (by simp only [frcC_size]) (by exact frc_onec) rfl (by kernel_rfl) (by kernel_rfl) (.head _) Bg1 (by simp only [frcC_size]; kernel_rfl) (List.forall_mem_cons.2 ⟨.inl rfl, (fun p hp => .inr ⟨(.tail _ hp), ((show Dk g1 (T14 ++ T16) from (by (try simp only [dj_app_l, dj_app_r, dj_cons_l, dj_cons_r, dj_nil_l, dj_nil_r, dk_app, dk_cons, dk_nil, and_true, true_and, and_assoc]); repeat' (first | trivial | assumption | exact Dj.symm (by assumption) | exact Ne.symm (by assumption) | apply And.intro))) _ hp)⟩)⟩)) ?_
            refine Tw.lm (v := .int .i64 0) rfl rfl ?_
            refine wpL_done (fun W7 hW7 => ?_)
            refine (show Code.wp _ _ _ _ _ from ?_)
            refine wp_ret ?_
            try simp only [inBlock_ret, then_ret]
            refine bodyPost_ret (v := .tuple #[.agg (frcC (false && decide ((a.natAbs / Nat.gcd a.natAbs b.natAbs) ≠ 0)) (a.natAbs / Nat.gcd a.natAbs b.natAbs) (b.natAbs / Nat.gcd a.natAbs b.natAbs)), .int .i64 0]) ?_ rfl ?_
            · exact (res_cell_tmp (p := 4) (q := 5) rfl rfl (hW7.2 _ (.head _)) Tryd.underlying31 rfl (by simp only [frcC_size]; kernel_rfl))
            · exact ⟨(ret_v (frc_same ((sgn_false (a := a) (b := b) (by omega) hb).trans hS.symm))), hW7.1⟩
          | true =>
            have h7 : b < 0 := of_decide_eq_true hd7
            clear hd7
            refine Tw.lv (v := .tuple #[.agg (frcC (true && decide ((a.natAbs / Nat.gcd a.natAbs b.natAbs) ≠ 0)) (a.natAbs / Nat.gcd a.natAbs b.natAbs) (b.natAbs / Nat.gcd a.natAbs b.natAbs)), .int .i64 0]) rfl rfl (yb_call (f := 23) (args := #[.bool true, .slice q14 ((cd a.natAbs).length) d14, .slice q16 ((cd b.natAbs).length) d16]) (fun _ => by kernel_rfl) fun W hW => packV_yes (neg := true) (div_lt8 (y := Nat.gcd a.natAbs b.natAbs) la) (div_lt8 (y := Nat.gcd a.natAbs b.natAbs) lb) ▸ make0_any true a.natAbs b.natAbs q14 q16 d14 d16 hb0 (by omega) (by omega) C14 C16 W ((H14.mono (fun q hq => by first | exact hq | (simp only [List.mem_cons, List.mem_append, List.nil_append, List.not_mem_nil, or_assoc, or_false, false_or] at hq ⊢ <;> grind))) W hW) ((H16.mono (fun q hq => by first | exact hq | (simp only [List.mem_cons, List.mem_append, List.nil_append, List.not_mem_nil, or_assoc, or_false, false_or] at hq ⊢ <;> grind))) W hW)) ?_
            refine Tw.lm (v := .agg (frcC (true && decide ((a.natAbs / Nat.gcd a.natAbs b.natAbs) ≠ 0)) (a.natAbs / Nat.gcd a.natAbs b.natAbs) (b.natAbs / Nat.gcd a.natAbs b.natAbs))) rfl rfl ?_
            refine Tw.lm (v := .int .i64 0) rfl rfl ?_
            refine wpL_s ((g1, .cells (frcC (true && decide ((a.natAbs / Nat.gcd a.natAbs b.natAbs) ≠ 0)) (a.natAbs / Nat.gcd a.natAbs b.natAbs) (b.natAbs / Nat.gcd a.natAbs b.natAbs)) 31 (0, 0)) :: (T14 ++ T16)) rfl rfl (st_all (by simp only [frcC_size]) (by exact frc_onec) rfl (by kernel_rfl) (by kernel_rfl) (.head _) Bg1 (by simp only [frcC_size]; kernel_rfl) (List.forall_mem_cons.2 ⟨.inl rfl, (fun p hp => .inr ⟨(.tail _ hp), ((show Dk g1 (T14 ++ T16) from (by (try simp only [dj_app_l, dj_app_r, dj_cons_l, dj_cons_r, dj_nil_l, dj_nil_r, dk_app, dk_cons, dk_nil, and_true, true_and, and_assoc]); repeat' (first | trivial | assumption | exact Dj.symm (by assumption) | exact Ne.symm (by assumption) | apply And.intro))) _ hp)⟩)⟩)) ?_
            refine Tw.lm (v := .int .i64 0) rfl rfl ?_
            refine wpL_done (fun W8 hW8 => ?_)
            refine (show Code.wp _ _ _ _ _ from ?_)
            refine wp_ret ?_
            try simp only [inBlock_ret, then_ret]
            refine bodyPost_ret (v := .tuple #[.agg (frcC (true && decide ((a.natAbs / Nat.gcd a.natAbs b.natAbs) ≠ 0)) (a.natAbs / Nat.gcd a.natAbs b.natAbs) (b.natAbs / Nat.gcd a.natAbs b.natAbs)), .int .i64 0]) ?_ rfl ?_
            · exact (res_cell_tmp (p := 4) (q := 5) rfl rfl (hW8.2 _ (.head _)) Tryd.underlying31 rfl (by simp only [frcC_size]; kernel_rfl))
            · exact ⟨(ret_v (frc_same ((sgn_true (a := a) (b := b) (by omega) hb).trans hS.symm))), hW8.1⟩
      | true =>
        have h5 : 0 < b := of_decide_eq_true hd5
        clear hd5
        refine Tw.ln rfl ?_
        refine Tw.ln rfl ?_
        refine Tw.ln rfl ?_
        refine Tw.ln rfl ?_
        refine Tw.ln rfl ?_
        refine Tw.ln rfl ?_
        refine Tw.lm (v := .bool true) rfl rfl ?_
        refine Tw.lm (v := .int .i64 a) rfl rfl ?_
        refine wpL_c (f := 24) (args := #[.int .i64 a]) (AnsG w [(g1, .cells (frcC false 0 0) 31 (0, 0))] (cd a.natAbs)) rfl (by kernel_rfl) (fun _ => (by kernel_rfl)) (fun W hW => (size_any a (by omega) (by omega) W).mono fun e w2 h => Ans.g h hW) (fun _ => by simp only [List.setIfInBounds_toArray, List.set_cons_succ, List.set_cons_zero] <;> rfl) ?_
        rintro v18 _ ⟨q18, d18, T18, rfl, C18, H18, F18, J18, rfl⟩
        obtain dj19_0 : Dk g1 T18 := by simpa only [dj_app_l, dj_app_r, dj_cons_l, dj_cons_r, dj_nil_l, dj_nil_r, dk_app, dk_cons, dk_nil, and_true, true_and, and_assoc] using (show Dj [(g1, .cells (frcC false 0 0) 31 (0, 0))] T18 from J18)
        refine Tw.lm (v := .int .i64 b) rfl rfl ?_
        refine wpL_c (f := 24) (args := #[.int .i64 b]) (AnsG w ((g1, .cells (frcC false 0 0) 31 (0, 0)) :: T18) (cd b.natAbs)) rfl (by kernel_rfl) (fun _ => (by kernel_rfl)) (fun W hW => (size_any b (by omega) (by omega) W).mono fun e w2 h => Ans.g h hW) (fun _ => by simp only [List.setIfInBounds_toArray, List.set_cons_succ, List.set_cons_zero] <;> rfl) ?_
        rintro v20 _ ⟨q20, d20, T20, rfl, C20, H20, F20, J20, rfl⟩
        obtain ⟨dj21_0, dj21_1⟩ : Dk g1 T20 ∧ Dj T18 T20 := by simpa only [dj_app_l, dj_app_r, dj_cons_l, dj_cons_r, dj_nil_l, dj_nil_r, dk_app, dk_cons, dk_nil, and_true, true_and, and_assoc] using (show Dj ((g1, .cells (frcC false 0 0) 31 (0, 0)) :: T18) T20 from J20)
        refine Tw.lv (v := .tuple #[.agg (frcC (true && decide ((a.natAbs / Nat.gcd a.natAbs b.natAbs) ≠ 0)) (a.natAbs / Nat.gcd a.natAbs b.natAbs) (b.natAbs / Nat.gcd a.natAbs b.natAbs)), .int .i64 0]) rfl rfl (yb_call (f := 23) (args := #[.bool true, .slice q18 ((cd a.natAbs).length) d18, .slice q20 ((cd b.natAbs).length) d20]) (fun _ => by kernel_rfl) fun W hW => packV_yes (neg := true) (div_lt8 (y := Nat.gcd a.natAbs b.natAbs) la) (div_lt8 (y := Nat.gcd a.natAbs b.natAbs) lb) ▸ make0_any true a.natAbs b.natAbs q18 q20 d18 d20 hb0 (by omega) (by omega) C18 C20 W ((H18.mono (fun q hq => by first | exact hq | (simp only [List.mem_cons, List.mem_append, List.nil_append, List.not_mem_nil, or_assoc, or_false, false_or] at hq ⊢ <;> grind))) W hW) ((H20.mono (fun q hq => by first | exact hq | (simp only [List.mem_cons, List.mem_append, List.nil_append, List.not_mem_nil, or_assoc, or_false, false_or] at hq ⊢ <;> grind))) W hW)) ?_
        refine Tw.lm (v := .agg (frcC (true && decide ((a.natAbs / Nat.gcd a.natAbs b.natAbs) ≠ 0)) (a.natAbs / Nat.gcd a.natAbs b.natAbs) (b.natAbs / Nat.gcd a.natAbs b.natAbs))) rfl rfl ?_
        refine Tw.lm (v := .int .i64 0) rfl rfl ?_
        refine wpL_s ((g1, .cells (frcC (true && decide ((a.natAbs / Nat.gcd a.natAbs b.natAbs) ≠ 0)) (a.natAbs / Nat.gcd a.natAbs b.natAbs) (b.natAbs / Nat.gcd a.natAbs b.natAbs)) 31 (0, 0)) :: (T18 ++ T20)) rfl rfl (st_all (by simp only [frcC_size]) (by exact frc_onec) rfl (by kernel_rfl) (by kernel_rfl) (.head _) Bg1 (by simp only [frcC_size]; kernel_rfl) (List.forall_mem_cons.2 ⟨.inl rfl, (fun p hp => .inr ⟨(.tail _ hp), ((show Dk g1 (T18 ++ T20) from (by (try simp only [dj_app_l, dj_app_r, dj_cons_l, dj_cons_r, dj_nil_l, dj_nil_r, dk_app, dk_cons, dk_nil, and_true, true_and, and_assoc]); repeat' (first | trivial | assumption | exact Dj.symm (by assumption) | exact Ne.symm (by assumption) | apply And.intro))) _ hp)⟩)⟩)) ?_
        refine Tw.lm (v := .int .i64 0) rfl rfl ?_
        refine wpL_done (fun W9 hW9 => ?_)
        refine (show Code.wp _ _ _ _ _ from ?_)
        refine wp_ret ?_
        try simp only [inBlock_ret, then_ret]
        refine bodyPost_ret (v := .tuple #[.agg (frcC (true && decide ((a.natAbs / Nat.gcd a.natAbs b.natAbs) ≠ 0)) (a.natAbs / Nat.gcd a.natAbs b.natAbs) (b.natAbs / Nat.gcd a.natAbs b.natAbs)), .int .i64 0]) ?_ rfl ?_
        · exact (res_cell_tmp (p := 4) (q := 5) rfl rfl (hW9.2 _ (.head _)) Tryd.underlying31 rfl (by simp only [frcC_size]; kernel_rfl))
        · exact ⟨(ret_v (frc_same ((sgn_true (a := a) (b := b) (by omega) hb).trans hS.symm))), hW9.1⟩
  | true =>
    have h1 : b = 0 := of_decide_eq_true hd1
    clear hd1
    exact absurd h1 hb
set_option maxRecDepth 100000 in
set_option maxHeartbeats 4000000 in
theorem RRatio_zero (a b : Int) (hb : b = 0) (w : World) : Calls Tryd.prog 7 #[.int .i64 a, .int .i64 b] w fun e w' => e = .returned (.tuple #[.agg (frcC false 0 0), .int .i64 2]) ∧ Below w.heap.size w w' := by
  go_enter Tryd.func7, Tryd.ntmps7
  refine wp_seq ?_
  refine wp_region_L (W0 := w) [] (KS.start w) ?_
  refine wpL_new (fun g => .pointer (some ⟨g, 0, none⟩)) (obi := .cells (frcC false 0 0) 31 (0, 0)) rfl rfl (fun _ => by kernel_rfl) (fun _ => by simp only [List.setIfInBounds_toArray, List.set_cons_succ, List.set_cons_zero] <;> rfl) fun g1 Bg1 Fg1 => ?_
  refine Tw.lm (v := .int .i64 0) rfl rfl ?_
  refine wpL_done (fun W1 hW1 => ?_)
  refine (show Code.wp _ _ _ _ _ from ?_)
  refine wp_seq ?_
  refine wp_seq ?_
  refine wp_region_L (W0 := w) [(g1, .cells (frcC false 0 0) 31 (0, 0))] (hW1) ?_
  refine Tw.lm (v := .int .i64 b) rfl rfl ?_
  refine Tw.lp (v := .bool (decide (b = 0))) rfl rfl (run_bin rfl (vx := (.int .i64 b)) (vy := (.int .i64 0)) (by kernel_rfl) (by kernel_rfl) fun w => bi_eql rfl w) ?_
  refine wpL_done (fun W2 hW2 => ?_)
  refine (show Code.wp _ _ _ _ _ from ?_)
  cases hd1 : (decide (b = 0)) with
  | false =>
    have h1 : ¬ (b = 0) := of_decide_eq_false hd1
    clear hd1
    exact absurd hb h1
  | true =>
    have h1 : b = 0 := of_decide_eq_true hd1
    clear hd1
    refine wp_cond_true rfl ?_
    refine wp_seq ?_
    refine wp_region_L (W0 := w) [(g1, .cells (frcC false 0 0) 31 (0, 0))] (hW2) ?_
    refine Tw.lm (v := .agg (frcC false 0 0)) rfl rfl ?_
    refine wpL_s [(g1, .cells (frcC false 0 0) 31 (0, 0))] rfl rfl (st_all (by simp only [frcC_size]) (by exact frc_onec) rfl (by kernel_rfl) (by kernel_rfl) (.head _) Bg1 (by simp only [frcC_size]; kernel_rfl) (List.forall_mem_cons.2 ⟨.inl rfl, (List.forall_mem_nil _)⟩)) ?_
    refine Tw.lm (v := .int .i64 2) rfl rfl ?_
    refine wpL_done (fun W3 hW3 => ?_)
    refine (show Code.wp _ _ _ _ _ from ?_)
    refine wp_ret ?_
    try simp only [inBlock_ret, then_ret]
    refine bodyPost_ret (v := .tuple #[.agg (frcC false 0 0), .int .i64 2]) ?_ rfl ?_
    · exact (res_cell_tmp (p := 4) (q := 5) rfl rfl (hW3.2 _ (.head _)) Tryd.underlying31 rfl (by simp only [frcC_size]; kernel_rfl))
    · exact ⟨rfl, hW3.1⟩
set_option maxRecDepth 100000 in
set_option maxHeartbeats 4000000 in
theorem ROf_any (n : Int) (h1 : -9223372036854775808 ≤ n) (h2 : n ≤ 9223372036854775807) (w : World) : Calls Tryd.prog 10 #[.int .i64 n] w fun e w' => e = .returned (.agg (frcC (decide (n < 0)) n.natAbs 1)) ∧ Below w.heap.size w w' := by
  go_enter Tryd.func10, Tryd.ntmps10
  refine wp_seq ?_
  refine wp_region_L (W0 := w) [] (KS.start w) ?_
  refine wpL_new (fun g => .pointer (some ⟨g, 0, none⟩)) (obi := .cells (frcC false 0 0) 31 (0, 0)) rfl rfl (fun _ => by kernel_rfl) (fun _ => by simp only [List.setIfInBounds_toArray, List.set_cons_succ, List.set_cons_zero] <;> rfl) fun g1 Bg1 Fg1 => ?_
  refine wpL_done (fun W1 hW1 => ?_)
  refine (show Code.wp _ _ _ _ _ from ?_)
  refine wp_seq ?_
  refine wp_region_L (W0 := w) [(g1, .cells (frcC false 0 0) 31 (0, 0))] (hW1) ?_
  refine Tw.lm (v := .int .i64 n) rfl rfl ?_
  refine Tw.lv (v := .tuple #[.agg (frcC (decide (n < 0)) n.natAbs 1), .int .i64 0]) rfl rfl (yb_call (f := 7) (args := #[.int .i64 n, .int .i64 1]) (fun _ => by kernel_rfl) fun W hW => of_ratio n ▸ RRatio_any n 1 h1 h2 (by omega) (by omega) (by omega) W) ?_
  refine Tw.lm (v := .tuple #[.agg (frcC (decide (n < 0)) n.natAbs 1), .int .i64 0]) rfl rfl ?_
  refine Tw.lm (v := .agg (frcC (decide (n < 0)) n.natAbs 1)) rfl rfl ?_
  refine Tw.lm (v := .int .i64 0) rfl rfl ?_
  refine wpL_new (fun g => .pointer (some ⟨g, 0, none⟩)) (obi := .cells (frcC false 0 0) 31 (0, 0)) rfl rfl (fun _ => by kernel_rfl) (fun _ => by simp only [List.setIfInBounds_toArray, List.set_cons_succ, List.set_cons_zero] <;> rfl) fun g2 Bg2 Fg2 => ?_
  obtain dj3_0 : g1 ≠ g2 := by simpa only [dj_app_l, dj_app_r, dj_cons_l, dj_cons_r, dj_nil_l, dj_nil_r, dk_app, dk_cons, dk_nil, and_true, true_and, and_assoc] using (show Dk g2 [(g1, .cells (frcC false 0 0) 31 (0, 0))] from Fg2)
  refine wpL_s [(g2, .cells (frcC (decide (n < 0)) n.natAbs 1) 31 (0, 0)), (g1, .cells (frcC false 0 0) 31 (0, 0))] rfl rfl (st_all (by simp only [frcC_size]) (by exact frc_onec) rfl (by kernel_rfl) (by kernel_rfl) (.head _) Bg2 (by simp only [frcC_size]; kernel_rfl) (List.forall_mem_cons.2 ⟨.inl rfl, (List.forall_mem_cons.2 ⟨.inr ⟨(.tail _ (.head _)), (by first | assumption | exact Ne.symm (by assumption))⟩, (List.forall_mem_nil _)⟩)⟩)) ?_
  refine Tw.lm (v := .int .i64 0) rfl rfl ?_
  refine wpL_done (fun W2 hW2 => ?_)
  refine (show Code.wp _ _ _ _ _ from ?_)
  refine wp_seq ?_
  refine wp_region_L (W0 := w) [(g2, .cells (frcC (decide (n < 0)) n.natAbs 1) 31 (0, 0)), (g1, .cells (frcC false 0 0) 31 (0, 0))] (hW2) ?_
  refine Tw.lv (v := .agg (frcC (decide (n < 0)) n.natAbs 1)) rfl rfl (yb_all rfl (by kernel_rfl) (.head _) Tryd.underlying31 rfl (by simp only [frcC_size]; kernel_rfl)) ?_
  refine wpL_s [(g2, .cells (frcC (decide (n < 0)) n.natAbs 1) 31 (0, 0)), (g1, .cells (frcC (decide (n < 0)) n.natAbs 1) 31 (0, 0))] rfl rfl (st_all (by simp only [frcC_size]) (by exact frc_onec) rfl (by kernel_rfl) (by kernel_rfl) (.tail _ (.head _)) Bg1 (by simp only [frcC_size]; kernel_rfl) (List.forall_mem_cons.2 ⟨.inr ⟨(.head _), (by first | assumption | exact Ne.symm (by assumption))⟩, (List.forall_mem_cons.2 ⟨.inl rfl, (List.forall_mem_nil _)⟩)⟩)) ?_
  refine wpL_done (fun W3 hW3 => ?_)
  refine (show Code.wp _ _ _ _ _ from ?_)
  refine wp_ret ?_
  try simp only [inBlock_ret, then_ret]
  refine bodyPost_ret (v := .agg (frcC (decide (n < 0)) n.natAbs 1)) ?_ rfl ?_
  · exact (res_cell (p := 2) rfl rfl (hW3.2 _ (.tail _ (.head _))) Tryd.underlying31 rfl (by simp only [frcC_size]; kernel_rfl))
  · exact ⟨rfl, hW3.1⟩
end Go.Proofs.YtalmflgkbmnghaaDoor
namespace Go.Proofs.YtalmflgkbmnghaaDoor
open Go Go.RowKit Tw
open Tf (dg R R_pos R_le R_succ dg_of_lt setd setd_eq)
variable [ShLZ]
theorem ratio_zero2 (a b : Int) (hb : b = 0) (w : World) : Calls Tryd.prog 6 #[.int .i64 a, .int .i64 b] w fun e w' => e = .returned (.tuple #[.agg (frcC false 0 0), .int .i64 2]) ∧ Below w.heap.size w w' := by
  subst hb
  exact ratio_zero a w
set_option maxRecDepth 100000 in
set_option maxHeartbeats 4000000 in
theorem pair_same (s : Bool) (n d : Nat) (k : Int) (hn : n < R 8) (hd : d < R 8) (w : World) : Calls Tryd.prog 8 #[.agg (frcC s n d), .int .i64 k, .agg (frcC s n d), .int .i64 k] w fun e w' => e = .returned (.bool true) ∧ Below w.heap.size w w' := by
  go_enter Tryd.func8, Tryd.ntmps8
  refine wp_seq ?_
  refine wp_region_L (W0 := w) [] (KS.start w) ?_
  refine wpL_new (fun g => .pointer (some ⟨g, 0, none⟩)) (obi := .cells (frcC s n d) 27 (0, 0)) rfl rfl (fun _ => by kernel_rfl) (fun _ => by simp only [List.setIfInBounds_toArray, List.set_cons_succ, List.set_cons_zero] <;> rfl) fun g1 Bg1 Fg1 => ?_
  refine wpL_new (fun g => .pointer (some ⟨g, 0, none⟩)) (obi := .cells (frcC s n d) 31 (0, 0)) rfl rfl (fun _ => by kernel_rfl) (fun _ => by simp only [List.setIfInBounds_toArray, List.set_cons_succ, List.set_cons_zero] <;> rfl) fun g2 Bg2 Fg2 => ?_
  obtain dj3_0 : g1 ≠ g2 := by simpa only [dj_app_l, dj_app_r, dj_cons_l, dj_cons_r, dj_nil_l, dj_nil_r, dk_app, dk_cons, dk_nil, and_true, true_and, and_assoc] using (show Dk g2 [(g1, .cells (frcC s n d) 27 (0, 0))] from Fg2)
  refine Tw.lm (v := .bool false) rfl rfl ?_
  refine wpL_done (fun W1 hW1 => ?_)
  refine (show Code.wp _ _ _ _ _ from ?_)
  refine wp_seq ?_
  refine wp_region_L (W0 := w) [(g2, .cells (frcC s n d) 31 (0, 0)), (g1, .cells (frcC s n d) 27 (0, 0))] (hW1) ?_
  refine Tw.lv (v := .agg (frcC s n d)) rfl rfl (yb_all rfl (by kernel_rfl) (.tail _ (.head _)) Tryd.underlying27 rfl (by simp only [frcC_size]; kernel_rfl)) ?_
  refine Tw.lv (v := .agg (frcC s n d)) rfl rfl (yb_all rfl (by kernel_rfl) (.head _) Tryd.underlying31 rfl (by simp only [frcC_size]; kernel_rfl)) ?_
  refine Tw.lp (v := .bool true) rfl rfl (run_bin rfl (vx := .agg (frcC s n d)) (vy := .agg (frcC s n d)) (by kernel_rfl) (by kernel_rfl) fun w => run_eql27s hn hd w) ?_
  refine Tw.lm (v := .bool true) rfl rfl ?_
  refine Tw.lm (v := .int .i64 k) rfl rfl ?_
  refine Tw.lm (v := .int .i64 k) rfl rfl ?_
  refine Tw.lp (v := .bool true) rfl rfl (run_bin rfl (vx := (.int .i64 k)) (vy := (.int .i64 k)) (by kernel_rfl) (by kernel_rfl) fun w => bi_eql (decide_eq_true rfl) w) ?_
  refine Tw.lm (v := .bool true) rfl rfl ?_
  refine Tw.lm (v := .bool true) rfl rfl ?_
  refine wpL_done (fun W2 hW2 => ?_)
  refine (show Code.wp _ _ _ _ _ from ?_)
  refine wp_ret ?_
  try simp only [inBlock_ret, then_ret]
  refine bodyPost_ret (v := .bool true) ?_ rfl ?_
  · kernel_rfl
  · exact ⟨rfl, hW2.1⟩
set_option maxRecDepth 100000 in
set_option maxHeartbeats 20000000 in
theorem ratios_any (a b : Int) (a1 : -9223372036854775808 ≤ a) (a2 : a ≤ 9223372036854775807) (b1 : -9223372036854775808 ≤ b) (b2 : b ≤ 9223372036854775807) (w : World) : Calls Tryd.prog 4 #[.int .i64 a, .int .i64 b] w fun e w' => e = .returned (.bool true) ∧ Below w.heap.size w w' := by
  have la : (cd a.natAbs).length ≤ 4 := cd_le.2 (by omega)
  have lb : (cd b.natAbs).length ≤ 4 := cd_le.2 (by omega)
  go_enter Tryd.func4, Tryd.ntmps4
  refine wp_seq ?_
  refine wp_region_L (W0 := w) [] (KS.start w) ?_
  refine Tw.lm (v := .bool false) rfl rfl ?_
  refine wpL_done (fun W1 hW1 => ?_)
  refine (show Code.wp _ _ _ _ _ from ?_)
  refine wp_seq ?_
  refine wp_region_L (W0 := w) [] (hW1) ?_
  refine Tw.lm (v := .int .i64 a) rfl rfl ?_
  refine Tw.lm (v := .int .i64 b) rfl rfl ?_
  cases hd1 : (decide (b = 0)) with
  | false =>
    have h1 : ¬ (b = 0) := of_decide_eq_false hd1
    clear hd1
    refine Tw.lv (v := .tuple #[.agg (frcC (decide (a ≠ 0) && (decide (a < 0) != decide (b < 0))) (a.natAbs / Nat.gcd a.natAbs b.natAbs) (b.natAbs / Nat.gcd a.natAbs b.natAbs)), .int .i64 0]) rfl rfl (yb_call (f := 6) (args := #[.int .i64 a, .int .i64 b]) (fun _ => by kernel_rfl) fun W hW => ratio_any a b a1 a2 b1 b2 h1 W) ?_
    refine Tw.lm (v := .tuple #[.agg (frcC (decide (a ≠ 0) && (decide (a < 0) != decide (b < 0))) (a.natAbs / Nat.gcd a.natAbs b.natAbs) (b.natAbs / Nat.gcd a.natAbs b.natAbs)), .int .i64 0]) rfl rfl ?_
    refine Tw.lm (v := .agg (frcC (decide (a ≠ 0) && (decide (a < 0) != decide (b < 0))) (a.natAbs / Nat.gcd a.natAbs b.natAbs) (b.natAbs / Nat.gcd a.natAbs b.natAbs))) rfl rfl ?_
    refine Tw.lm (v := .int .i64 0) rfl rfl ?_
    refine wpL_new (fun g => .pointer (some ⟨g, 0, none⟩)) (obi := .cells (frcC false 0 0) 27 (0, 0)) rfl rfl (fun _ => by kernel_rfl) (fun _ => by simp only [List.setIfInBounds_toArray, List.set_cons_succ, List.set_cons_zero] <;> rfl) fun g1 Bg1 Fg1 => ?_
    refine wpL_s [(g1, .cells (frcC (decide (a ≠ 0) && (decide (a < 0) != decide (b < 0))) (a.natAbs / Nat.gcd a.natAbs b.natAbs) (b.natAbs / Nat.gcd a.natAbs b.natAbs)) 27 (0, 0))] rfl rfl (st_all (by simp only [frcC_size]) (by exact frc_onec) rfl (by kernel_rfl) (by kernel_rfl) (.head _) Bg1 (by simp only [frcC_size]; kernel_rfl) (List.forall_mem_cons.2 ⟨.inl rfl, (List.forall_mem_nil _)⟩)) ?_
    refine Tw.lm (v := .int .i64 0) rfl rfl ?_
    refine wpL_done (fun W2 hW2 => ?_)
    refine (show Code.wp _ _ _ _ _ from ?_)
    refine wp_seq ?_
    refine wp_region_L (W0 := w) [(g1, .cells (frcC (decide (a ≠ 0) && (decide (a < 0) != decide (b < 0))) (a.natAbs / Nat.gcd a.natAbs b.natAbs) (b.natAbs / Nat.gcd a.natAbs b.natAbs)) 27 (0, 0))] (hW2) ?_
    refine Tw.lm (v := .int .i64 a) rfl rfl ?_
    refine Tw.lm (v := .int .i64 b) rfl rfl ?_
    refine Tw.lv (v := .tuple #[.agg (frcC (decide (a ≠ 0) && (decide (a < 0) != decide (b < 0))) (a.natAbs / Nat.gcd a.natAbs b.natAbs) (b.natAbs / Nat.gcd a.natAbs b.natAbs)), .int .i64 0]) rfl rfl (yb_call (f := 7) (args := #[.int .i64 a, .int .i64 b]) (fun _ => by kernel_rfl) fun W hW => RRatio_any a b a1 a2 b1 b2 h1 W) ?_
    refine Tw.lm (v := .tuple #[.agg (frcC (decide (a ≠ 0) && (decide (a < 0) != decide (b < 0))) (a.natAbs / Nat.gcd a.natAbs b.natAbs) (b.natAbs / Nat.gcd a.natAbs b.natAbs)), .int .i64 0]) rfl rfl ?_
    refine Tw.lm (v := .agg (frcC (decide (a ≠ 0) && (decide (a < 0) != decide (b < 0))) (a.natAbs / Nat.gcd a.natAbs b.natAbs) (b.natAbs / Nat.gcd a.natAbs b.natAbs))) rfl rfl ?_
    refine Tw.lm (v := .int .i64 0) rfl rfl ?_
    refine wpL_new (fun g => .pointer (some ⟨g, 0, none⟩)) (obi := .cells (frcC false 0 0) 31 (0, 0)) rfl rfl (fun _ => by kernel_rfl) (fun _ => by simp only [List.setIfInBounds_toArray, List.set_cons_succ, List.set_cons_zero] <;> rfl) fun g2 Bg2 Fg2 => ?_
    obtain dj3_0 : g1 ≠ g2 := by simpa only [dj_app_l, dj_app_r, dj_cons_l, dj_cons_r, dj_nil_l, dj_nil_r, dk_app, dk_cons, dk_nil, and_true, true_and, and_assoc] using (show Dk g2 [(g1, .cells (frcC (decide (a ≠ 0) && (decide (a < 0) != decide (b < 0))) (a.natAbs / Nat.gcd a.natAbs b.natAbs) (b.natAbs / Nat.gcd a.natAbs b.natAbs)) 27 (0, 0))] from Fg2)
    refine wpL_s [(g2, .cells (frcC (decide (a ≠ 0) && (decide (a < 0) != decide (b < 0))) (a.natAbs / Nat.gcd a.natAbs b.natAbs) (b.natAbs / Nat.gcd a.natAbs b.natAbs)) 31 (0, 0)), (g1, .cells (frcC (decide (a ≠ 0) && (decide (a < 0) != decide (b < 0))) (a.natAbs / Nat.gcd a.natAbs b.natAbs) (b.natAbs / Nat.gcd a.natAbs b.natAbs)) 27 (0, 0))] rfl rfl (st_all (by simp only [frcC_size]) (by exact frc_onec) rfl (by kernel_rfl) (by kernel_rfl) (.head _) Bg2 (by simp only [frcC_size]; kernel_rfl) (List.forall_mem_cons.2 ⟨.inl rfl, (List.forall_mem_cons.2 ⟨.inr ⟨(.tail _ (.head _)), (by first | assumption | exact Ne.symm (by assumption))⟩, (List.forall_mem_nil _)⟩)⟩)) ?_
    refine Tw.lm (v := .int .i64 0) rfl rfl ?_
    refine wpL_done (fun W3 hW3 => ?_)
    refine (show Code.wp _ _ _ _ _ from ?_)
    refine wp_seq ?_
    refine wp_region_L (W0 := w) [(g2, .cells (frcC (decide (a ≠ 0) && (decide (a < 0) != decide (b < 0))) (a.natAbs / Nat.gcd a.natAbs b.natAbs) (b.natAbs / Nat.gcd a.natAbs b.natAbs)) 31 (0, 0)), (g1, .cells (frcC (decide (a ≠ 0) && (decide (a < 0) != decide (b < 0))) (a.natAbs / Nat.gcd a.natAbs b.natAbs) (b.natAbs / Nat.gcd a.natAbs b.natAbs)) 27 (0, 0))] (hW3) ?_
    refine Tw.lv (v := .agg (frcC (decide (a ≠ 0) && (decide (a < 0) != decide (b < 0))) (a.natAbs / Nat.gcd a.natAbs b.natAbs) (b.natAbs / Nat.gcd a.natAbs b.natAbs))) rfl rfl (yb_all rfl (by kernel_rfl) (.tail _ (.head _)) Tryd.underlying27 rfl (by simp only [frcC_size]; kernel_rfl)) ?_
    refine Tw.lm (v := .int .i64 0) rfl rfl ?_
    refine Tw.lv (v := .agg (frcC (decide (a ≠ 0) && (decide (a < 0) != decide (b < 0))) (a.natAbs / Nat.gcd a.natAbs b.natAbs) (b.natAbs / Nat.gcd a.natAbs b.natAbs))) rfl rfl (yb_all rfl (by kernel_rfl) (.head _) Tryd.underlying31 rfl (by simp only [frcC_size]; kernel_rfl)) ?_
    refine Tw.lm (v := .int .i64 0) rfl rfl ?_
    refine Tw.lv (v := .bool true) rfl rfl (yb_call (f := 8) (args := #[.agg (frcC (decide (a ≠ 0) && (decide (a < 0) != decide (b < 0))) (a.natAbs / Nat.gcd a.natAbs b.natAbs) (b.natAbs / Nat.gcd a.natAbs b.natAbs)), .int .i64 0, .agg (frcC (decide (a ≠ 0) && (decide (a < 0) != decide (b < 0))) (a.natAbs / Nat.gcd a.natAbs b.natAbs) (b.natAbs / Nat.gcd a.natAbs b.natAbs)), .int .i64 0]) (fun _ => by kernel_rfl) fun W hW => pair_same (decide (a ≠ 0) && (decide (a < 0) != decide (b < 0))) (a.natAbs / Nat.gcd a.natAbs b.natAbs) (b.natAbs / Nat.gcd a.natAbs b.natAbs) 0 (div_lt8 la) (div_lt8 lb) W) ?_
    refine Tw.lm (v := .bool true) rfl rfl ?_
    refine Tw.lm (v := .int .i64 a) rfl rfl ?_
    refine Tw.lv (v := .agg (frcC (decide (a < 0)) a.natAbs 1)) rfl rfl (yb_call (f := 9) (args := #[.int .i64 a]) (fun _ => by kernel_rfl) fun W hW => of_any a a1 a2 W) ?_
    refine Tw.lm (v := .int .i64 a) rfl rfl ?_
    refine Tw.lv (v := .agg (frcC (decide (a < 0)) a.natAbs 1)) rfl rfl (yb_call (f := 10) (args := #[.int .i64 a]) (fun _ => by kernel_rfl) fun W hW => ROf_any a a1 a2 W) ?_
    refine Tw.lp (v := .bool true) rfl rfl (run_bin rfl (vx := .agg (frcC (decide (a < 0)) a.natAbs 1)) (vy := .agg (frcC (decide (a < 0)) a.natAbs 1)) (by kernel_rfl) (by kernel_rfl) fun w => run_eql27s (cd_R8.1 (by omega)) (one_lt8) w) ?_
    refine Tw.lm (v := .bool true) rfl rfl ?_
    refine Tw.lm (v := .bool true) rfl rfl ?_
    refine wpL_done (fun W4 hW4 => ?_)
    refine (show Code.wp _ _ _ _ _ from ?_)
    refine wp_ret ?_
    try simp only [inBlock_ret, then_ret]
    refine bodyPost_ret (v := .bool true) ?_ rfl ?_
    · kernel_rfl
    · exact ⟨rfl, hW4.1⟩
  | true =>
    have h1 : b = 0 := of_decide_eq_true hd1
    clear hd1
    refine Tw.lv (v := .tuple #[.agg (frcC false 0 0), .int .i64 2]) rfl rfl (yb_call (f := 6) (args := #[.int .i64 a, .int .i64 b]) (fun _ => by kernel_rfl) fun W hW => ratio_zero2 a b h1 W) ?_
    refine Tw.lm (v := .tuple #[.agg (frcC false 0 0), .int .i64 2]) rfl rfl ?_
    refine Tw.lm (v := .agg (frcC false 0 0)) rfl rfl ?_
    refine Tw.lm (v := .int .i64 2) rfl rfl ?_
    refine wpL_new (fun g => .pointer (some ⟨g, 0, none⟩)) (obi := .cells (frcC false 0 0) 27 (0, 0)) rfl rfl (fun _ => by kernel_rfl) (fun _ => by simp only [List.setIfInBounds_toArray, List.set_cons_succ, List.set_cons_zero] <;> rfl) fun g4 Bg4 Fg4 => ?_
    refine wpL_s [(g4, .cells (frcC false 0 0) 27 (0, 0))] rfl rfl (st_all (by simp only [frcC_size]) (by exact frc_onec) rfl (by kernel_rfl) (by kernel_rfl) (.head _) Bg4 (by simp only [frcC_size]; kernel_rfl) (List.forall_mem_cons.2 ⟨.inl rfl, (List.forall_mem_nil _)⟩)) ?_
    refine Tw.lm (v := .int .i64 2) rfl rfl ?_
    refine wpL_done (fun W5 hW5 => ?_)
    refine (show Code.wp _ _ _ _ _ from ?_)
    refine wp_seq ?_
    refine wp_region_L (W0 := w) [(g4, .cells (frcC false 0 0) 27 (0, 0))] (hW5) ?_
    refine Tw.lm (v := .int .i64 a) rfl rfl ?_
    refine Tw.lm (v := .int .i64 b) rfl rfl ?_
    refine Tw.lv (v := .tuple #[.agg (frcC false 0 0), .int .i64 2]) rfl rfl (yb_call (f := 7) (args := #[.int .i64 a, .int .i64 b]) (fun _ => by kernel_rfl) fun W hW => RRatio_zero a b h1 W) ?_
    refine Tw.lm (v := .tuple #[.agg (frcC false 0 0), .int .i64 2]) rfl rfl ?_
    refine Tw.lm (v := .agg (frcC false 0 0)) rfl rfl ?_
    refine Tw.lm (v := .int .i64 2) rfl rfl ?_
    refine wpL_new (fun g => .pointer (some ⟨g, 0, none⟩)) (obi := .cells (frcC false 0 0) 31 (0, 0)) rfl rfl (fun _ => by kernel_rfl) (fun _ => by simp only [List.setIfInBounds_toArray, List.set_cons_succ, List.set_cons_zero] <;> rfl) fun g5 Bg5 Fg5 => ?_
    obtain dj6_0 : g4 ≠ g5 := by simpa only [dj_app_l, dj_app_r, dj_cons_l, dj_cons_r, dj_nil_l, dj_nil_r, dk_app, dk_cons, dk_nil, and_true, true_and, and_assoc] using (show Dk g5 [(g4, .cells (frcC false 0 0) 27 (0, 0))] from Fg5)
    refine wpL_s [(g5, .cells (frcC false 0 0) 31 (0, 0)), (g4, .cells (frcC false 0 0) 27 (0, 0))] rfl rfl (st_all (by simp only [frcC_size]) (by exact frc_onec) rfl (by kernel_rfl) (by kernel_rfl) (.head _) Bg5 (by simp only [frcC_size]; kernel_rfl) (List.forall_mem_cons.2 ⟨.inl rfl, (List.forall_mem_cons.2 ⟨.inr ⟨(.tail _ (.head _)), (by first | assumption | exact Ne.symm (by assumption))⟩, (List.forall_mem_nil _)⟩)⟩)) ?_
    refine Tw.lm (v := .int .i64 2) rfl rfl ?_
    refine wpL_done (fun W6 hW6 => ?_)
    refine (show Code.wp _ _ _ _ _ from ?_)
    refine wp_seq ?_
    refine wp_region_L (W0 := w) [(g5, .cells (frcC false 0 0) 31 (0, 0)), (g4, .cells (frcC false 0 0) 27 (0, 0))] (hW6) ?_
    refine Tw.lv (v := .agg (frcC false 0 0)) rfl rfl (yb_all rfl (by kernel_rfl) (.tail _ (.head _)) Tryd.underlying27 rfl (by simp only [frcC_size]; kernel_rfl)) ?_
    refine Tw.lm (v := .int .i64 2) rfl rfl ?_
    refine Tw.lv (v := .agg (frcC false 0 0)) rfl rfl (yb_all rfl (by kernel_rfl) (.head _) Tryd.underlying31 rfl (by simp only [frcC_size]; kernel_rfl)) ?_
    refine Tw.lm (v := .int .i64 2) rfl rfl ?_
    refine Tw.lv (v := .bool true) rfl rfl (yb_call (f := 8) (args := #[.agg (frcC false 0 0), .int .i64 2, .agg (frcC false 0 0), .int .i64 2]) (fun _ => by kernel_rfl) fun W hW => pair_same false 0 0 2 (R_pos 8) (R_pos 8) W) ?_
    refine Tw.lm (v := .bool true) rfl rfl ?_
    refine Tw.lm (v := .int .i64 a) rfl rfl ?_
    refine Tw.lv (v := .agg (frcC (decide (a < 0)) a.natAbs 1)) rfl rfl (yb_call (f := 9) (args := #[.int .i64 a]) (fun _ => by kernel_rfl) fun W hW => of_any a a1 a2 W) ?_
    refine Tw.lm (v := .int .i64 a) rfl rfl ?_
    refine Tw.lv (v := .agg (frcC (decide (a < 0)) a.natAbs 1)) rfl rfl (yb_call (f := 10) (args := #[.int .i64 a]) (fun _ => by kernel_rfl) fun W hW => ROf_any a a1 a2 W) ?_
    refine Tw.lp (v := .bool true) rfl rfl (run_bin rfl (vx := .agg (frcC (decide (a < 0)) a.natAbs 1)) (vy := .agg (frcC (decide (a < 0)) a.natAbs 1)) (by kernel_rfl) (by kernel_rfl) fun w => run_eql27s (cd_R8.1 (by omega)) (one_lt8) w) ?_
    refine Tw.lm (v := .bool true) rfl rfl ?_
    refine Tw.lm (v := .bool true) rfl rfl ?_
    refine wpL_done (fun W7 hW7 => ?_)
    refine (show Code.wp _ _ _ _ _ from ?_)
    refine wp_ret ?_
    try simp only [inBlock_ret, then_ret]
    refine bodyPost_ret (v := .bool true) ?_ rfl ?_
    · kernel_rfl
    · exact ⟨rfl, hW7.1⟩
end Go.Proofs.YtalmflgkbmnghaaDoor
namespace Go.Proofs.YtalmflgkbmnghaaDoor
open Go Go.RowKit Tw
open Tf (dg R R_pos R_le R_succ dg_of_lt setd setd_eq)
variable [ShLZ]
set_option maxRecDepth 100000 in
set_option maxHeartbeats 4000000 in
theorem FracRatios_any (a b : Int) (a1 : -9223372036854775808 ≤ a) (a2 : a ≤ 9223372036854775807) (b1 : -9223372036854775808 ≤ b) (b2 : b ≤ 9223372036854775807) (hA : ∀ W, Env W → Calls Tryd.prog 5 #[] W fun e w' => e = .returned (.bool true) ∧ Below W.heap.size W w') (w : World) (hE : Env w) :
    Calls Tryd.prog 3 #[.int .i64 a, .int .i64 b] w fun e w' => e = .returned (.bool true) ∧ Below w.heap.size w w' := by
  have HE := Lib.hid hE
  clear hE
  go_enter Tryd.func3, Tryd.ntmps3
  refine wp_seq ?_
  refine wp_region_L (W0 := w) [] (KS.start w) ?_
  refine Tw.lm (v := .bool false) rfl rfl ?_
  refine wpL_done (fun W1 hW1 => ?_)
  refine (show Code.wp _ _ _ _ _ from ?_)
  refine wp_seq ?_
  refine wp_region_L (W0 := w) [] (hW1) ?_
  refine Tw.lm (v := .int .i64 a) rfl rfl ?_
  refine Tw.lm (v := .int .i64 b) rfl rfl ?_
  refine Tw.lv (v := .bool true) rfl rfl (yb_call (f := 4) (args := #[.int .i64 a, .int .i64 b]) (fun _ => by kernel_rfl) fun W hW => ratios_any a b a1 a2 b1 b2 W) ?_
  refine Tw.lm (v := .bool true) rfl rfl ?_
  refine Tw.lv (v := .bool true) rfl rfl (yb_call (f := 5) (args := #[]) (fun _ => by kernel_rfl) fun W hW => hA W (HE.out.keep hW.1)) ?_
  refine Tw.lm (v := .bool true) rfl rfl ?_
  refine Tw.lm (v := .bool true) rfl rfl ?_
  refine wpL_done (fun W2 hW2 => ?_)
  refine (show Code.wp _ _ _ _ _ from ?_)
  refine wp_ret ?_
  try simp only [inBlock_ret, then_ret]
  refine bodyPost_ret (v := .bool true) ?_ rfl ?_
  · kernel_rfl
  · exact ⟨rfl, hW2.1⟩
end Go.Proofs.YtalmflgkbmnghaaDoor
/- FracRatios holds for every input: the program's own answer is true, wherever the tables of the library are as the program's text lays them. -/
namespace Go.Proofs.YtalmflgkbmnghaaDoor
open Go.ChangeShapes Go.WideShapes Go.ChangeAt Go.RowKit Tw
theorem fracRatios_walk (a0 : Int) (a1 : Int) (w0 : (Lit.int .i64 a0).wf = true) (w1 : (Lit.int .i64 a1).wf = true) (w : World) (hE : Env w) :
    Calls Tryd.prog 3 #[.int .i64 a0, .int .i64 a1] w fun e w' => e = .returned (.bool true) ∧ Below w.heap.size w w' := by
  have r0 : -9223372036854775808 ≤ a0 ∧ a0 ≤ 9223372036854775807 := of_wf w0
  have r1 : -9223372036854775808 ≤ a1 ∧ a1 ≤ 9223372036854775807 := of_wf w1
  exact FracRatios_any a0 a1 r0.1 r0.2 r1.1 r1.2 (fun W hW => awake_any rep_any W hW) w hE
set_option maxRecDepth 100000 in
theorem fracRatios_lifted (os : Os) (started : os.Started) (H : Type) (enc : TypeId × Value → H) :
    ReturnsInHanded {} Tryd.checked os 3 .any (fun w args => (Rows.fracRatiosSpec.pre enc Tryd.prog Tryd.f3 Rows.fracRatiosRow.domain false w args ∧ laidMetH Tryd.prog laid3 w) ∧ sizedMet enc Tryd.prog Tryd.f3 (OpenSpec.ofChange Rows.fracRatiosSpec) false w args) (Rows.fracRatiosSpec.post enc Tryd.prog Tryd.f3 false true false false) := by
  refine handed_and_shaped (C := Tryd.checked) (X := fun w => laidMetH Tryd.prog laid3 w) (fun _ _ hh h => h.of_heap hh) own started (by kernel_rfl) Tryd.func3
    (ChangeSpec.witness_shaped (enc := enc) (C := Tryd.checked) (os := os) (X := fun w _ => laidMetH Tryd.prog laid3 w) false (World.doorLaid Tryd.prog 1000 os) #[.int .i64 0, .int .i64 0] 8 rfl (World.shaped_of_RefB (by kernel_rfl) (by kernel_rfl)) (by kernel_rfl) (by kernel_rfl) (by kernel_rfl) (door_met os _)) ?_
  intro W base args ds gs before hval0 hW hL hsh
  have hval : ∀ (j : Nat) t v, Tryd.f3.params[j]? = some t → args[j]? = some v → Value.okWide Tryd.prog W .any base t v := hval0
  have hW' := hW
  obtain ⟨p, q, hA0, hV, rfl, hfz, hnd⟩ := hW
  have hA : DataW.TrodAll enc Tryd.prog W 0 (fun _ => true) true Tryd.f3.params.toList args.toList ds p := hA0
  rw [Tryd.params3] at hA hval
  obtain ⟨v0, vs0, d0, ds0, p0, q0, hargs, rfl, rfl, h0, r0⟩ := trodAll_cons hA
  obtain ⟨v1, vs1, d1, ds1, p1, q1, rfl, rfl, rfl, h1, r1⟩ := trodAll_cons r0
  obtain ⟨rfl, rfl, rfl⟩ := trodAll_nil r1
  obtain rfl : args = #[v0, v1] := by cases args; simp_all
  obtain ⟨rfl, rfl⟩ := trodVars_none hV
  obtain ⟨a0, rfl, rfl, rfl, w0⟩ := open_int Tryd.underlying3 (hval 0 3 v0 rfl rfl) h0
  obtain ⟨a1, rfl, rfl, rfl, w1⟩ := open_int Tryd.underlying3 (hval 1 3 v1 rfl rfl) h1
  clear hA0 hval0
  simp only [List.append_nil] at hW'
  refine (fracRatios_walk a0 a1 w0 w1 W (env_of hL hsh)).mono fun e W' ⟨he, hg⟩ => ?_
  subst he
  exact ⟨_, rfl, _, _, _, [], [], [], hW', (trodAll_cons_mk (shut_bool Tryd.underlying4 _) trodAll_mk0), (trodAll_cons_mk (shut_int Tryd.underlying3 w0) (trodAll_cons_mk (shut_int Tryd.underlying3 w1) trodAll_mk0)), rfl, hg.frame _, fun h => by cases h⟩
theorem fracRatios_said : Rows.FracRatiosSaid :=
  OpenClaim.holds_of_wide 3 Tryd.f3 rfl rfl rfl rfl rfl rfl rfl ⟨rfl, rfl, rfl, rfl, rfl⟩ rfl rfl rfl rfl rfl (by kernel_rfl) Tryd.func3 (by kernel_rfl)
    (of_decide_eq_true (by kernel_rfl)) (by unfold Func.isWrapper; first | (rw [if_pos (by decide +kernel)]; kernel_rfl) | (rw [if_neg (by decide +kernel)]; exact ⟨rfl, rfl⟩))
    (fun os started H enc _ => fracRatios_lifted os started H enc)
theorem fracRatios_proved : Rows.FracRatiosCardSaid :=
  Claim7.holds_tied_plain_at .later [] [.data, .data, .data] true Rows.fracRatiosCard.stood.harness false
    fracRatios_said (fun _ h => by cases h) (by kernel_rfl) (fun _ h => by cases h) fracRatios_row_tie rfl ⟨rfl, rfl⟩ (by kernel_rfl) rfl
    (fun f fn hf hfn => by
      obtain rfl : f = 3 := Option.some.inj ((show Tryd.prog.funcNamed "twistlock/twistlocklaw01.FracRatios" = some 3 by kernel_rfl).symm.trans hf) |>.symm
      obtain rfl : fn = Tryd.f3 := (Option.some.inj (Tryd.func3.symm.trans hfn)).symm
      exact ⟨by kernel_rfl, fun j t ht => by
        rw [Tryd.params3] at ht
        have hm : t ∈ [3, 3] := by simpa using Array.mem_of_getElem? ht
        have hall : ([3, 3].all fun u => !Tryd.prog.wantsStandIn u) = true := by kernel_rfl
        exact (show Tryd.prog.wantsStandIn t = false by simpa using List.all_eq_true.1 hall t hm)⟩)
    (by kernel_rfl)
#print axioms fracRatios_proved
end Go.Proofs.YtalmflgkbmnghaaDoor
