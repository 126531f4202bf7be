import Derived.Test.YtalmflgkbmnghaaGreatDoorRM00
import Derived.Test.YtalmflgkbmnghaaGreatDoorRM03
import Derived.Test.YtalmflgkbmnghaaGreatDoorZCc03
import Derived.Test.YtalmflgkbmnghaaGreatDoorZCc01
import Derived.Test.YtalmflgkbmnghaaGreatDoorZCc06
/- Part of the proof: Cp, Dw, YS, YT, YU, YV. -/
set_option linter.unusedVariables false
set_option linter.unusedSimpArgs false
set_option linter.unusedSectionVars false
namespace Go.Proofs.YtalmflgkbmnghaaGreatDoor
open Go.RowKit Tf
variable [ShLZ]
set_option maxRecDepth 100000 in
set_option maxHeartbeats 2000000 in
theorem Cmp_walk (s1 s2 S : Bool) (n1 d1 n2 d2 u v N : Nat) (hn1 : n1 < R 8) (hd1 : d1 < R 8) (hn2 : n2 < R 8) (hd2 : d2 < R 8) (r1 r2 : Bool) (RV : Value)
   (HR1 : Hid (∀ W, Calls Tryz.prog 17 #[.agg (frcC s1 n1 d1)] W fun e w' => e = .returned (.bool r1) ∧ Below W.heap.size W w'))
   (HR2 : Hid (∀ W, Calls Tryz.prog 17 #[.agg (frcC s2 n2 d2)] W fun e w' => e = .returned (.bool r2) ∧ Below W.heap.size W w'))
   (Cu : Hid (∀ W, Calls Tryz.prog 55 #[num n1, num d2] W fun e w' => e = .returned (wid u) ∧ Below W.heap.size W w'))
   (Cv : Hid (∀ W, Calls Tryz.prog 55 #[num n2, num d1] W fun e w' => e = .returned (wid v) ∧ Below W.heap.size W w'))
   (Cps : Hid (∀ W, Calls Tryz.prog 54 #[.bool s1, wid u, .bool (!s2), wid v] W fun e w' => e = .returned (.tuple #[.bool S, wid N]) ∧ Below W.heap.size W w'))
   (HV1 : Hid (¬ (r1 = true ∧ r2 = true) → RV = .tuple #[.int .i64 0, .int .i64 2])) (HV2 : Hid (r1 = true → r2 = true → (s1 = s2 ∧ n1 = n2 ∧ d1 = d2) → RV = .tuple #[.int .i64 0, .int .i64 0]))
   (HV3 : Hid (r1 = true → r2 = true → ¬ (s1 = s2 ∧ n1 = n2 ∧ d1 = d2) → RV = .tuple #[.int .i64 (if S = true then -1 else 1), .int .i64 0])) (w : World) :
   Calls Tryz.prog 26 #[frc s1 n1 d1, frc s2 n2 d2] w fun e w' => e = .returned RV ∧ Below w.heap.size w w' := by
 unfold frc
 go_enter Tryz.func26, Tryz.ntmps26
 go_upto_region 1 with (fail)
 have hK := KS.two w (.cells (frcC s1 n1 d1) 25) (.cells (frcC s2 n2 d2) 25)
 obtain ⟨W, hW⟩ : ∃ W, W = (w.alloc (.cells (frcC s1 n1 d1) 25)).alloc (.cells (frcC s2 n2 d2) 25) := ⟨_, rfl⟩
 rw [← hW] at hK
 rw [← hW]
 clear hW
 have HK := Lib.hid hK
 clear hK
 by_cases hr1 : r1 = false
 · subst hr1
   have HV := Lib.hid (HV1.out (by simp))
   clear HV1 HV2 HV3
   go_wp2_with (first
     | (refine wpList_ldf rfl rfl rfl (HK.out.2 _ Tw.m0) Tryz.underlying25 rfl size27 ?_)
     | (refine wpList_guard rfl ?_; refine wpList_ldf rfl rfl rfl (HK1.out.2 _ Tw.m1) Tryz.underlying25 rfl size27 ?_)
     | ((go_at_call 17); (with_reducible refine (HR1.out _).mono ?_); rintro e w1 ⟨rfl, hb1⟩; have HK1 := Lib.hid (HK.out.below hb1); clear hb1)
     | ((go_at_call 17); (with_reducible refine (HR2.out _).mono ?_); rintro e w2 ⟨rfl, hb1⟩; have HK2 := Lib.hid (HK1.out.below hb1); clear hb1)
     | (refine wpList_ldf rfl rfl rfl (HK2.out.2 _ Tw.m0) Tryz.underlying25 rfl size27 ?_)
     | (refine wpList_ldf rfl rfl rfl (HK2.out.2 _ Tw.m1) Tryz.underlying25 rfl size27 ?_))
   exact bodyPost_ret (res_tmp_tmp rfl) rfl ⟨by rw [HV.out]; rfl, HK1.out.1⟩
 by_cases hr2 : r2 = false
 · have hr1' : r1 = true := by simpa using hr1
   subst hr1' hr2
   have HV := Lib.hid (HV1.out (by simp))
   clear HV1 HV2 HV3 hr1
   go_wp2_with (first
     | (refine wpList_ldf rfl rfl rfl (HK.out.2 _ Tw.m0) Tryz.underlying25 rfl size27 ?_)
     | (refine wpList_guard rfl ?_; refine wpList_ldf rfl rfl rfl (HK1.out.2 _ Tw.m1) Tryz.underlying25 rfl size27 ?_)
     | ((go_at_call 17); (with_reducible refine (HR1.out _).mono ?_); rintro e w1 ⟨rfl, hb1⟩; have HK1 := Lib.hid (HK.out.below hb1); clear hb1)
     | ((go_at_call 17); (with_reducible refine (HR2.out _).mono ?_); rintro e w2 ⟨rfl, hb1⟩; have HK2 := Lib.hid (HK1.out.below hb1); clear hb1)
     | (refine wpList_ldf rfl rfl rfl (HK2.out.2 _ Tw.m0) Tryz.underlying25 rfl size27 ?_)
     | (refine wpList_ldf rfl rfl rfl (HK2.out.2 _ Tw.m1) Tryz.underlying25 rfl size27 ?_))
   exact bodyPost_ret (res_tmp_tmp rfl) rfl ⟨by rw [HV.out]; rfl, HK2.out.1⟩
 have hr1' : r1 = true := by simpa using hr1
 have hr2' : r2 = true := by simpa using hr2
 subst hr1' hr2'
 clear hr1 hr2
 by_cases he : s1 = s2 ∧ n1 = n2 ∧ d1 = d2
 · have HV := Lib.hid (HV2.out rfl rfl he)
   clear HV1 HV2 HV3
   have hde : decide (s1 = s2 ∧ n1 = n2 ∧ d1 = d2) = true := decide_eq_true he
   obtain ⟨rfl, rfl, rfl⟩ := he
   clear hde
   go_wp2_with (first
     | (refine wpList_ldf rfl rfl rfl (HK.out.2 _ Tw.m0) Tryz.underlying25 rfl size27 ?_)
     | (refine wpList_guard rfl ?_; refine wpList_ldf rfl rfl rfl (HK1.out.2 _ Tw.m1) Tryz.underlying25 rfl size27 ?_)
     | ((go_at_call 17); (with_reducible refine (HR1.out _).mono ?_); rintro e w1 ⟨rfl, hb1⟩; have HK1 := Lib.hid (HK.out.below hb1); clear hb1)
     | ((go_at_call 17); (with_reducible refine (HR2.out _).mono ?_); rintro e w2 ⟨rfl, hb1⟩; have HK2 := Lib.hid (HK1.out.below hb1); clear hb1)
     | (refine wpList_ldf rfl rfl rfl (HK2.out.2 _ Tw.m0) Tryz.underlying25 rfl size27 ?_)
     | (refine wpList_ldf rfl rfl rfl (HK2.out.2 _ Tw.m1) Tryz.underlying25 rfl size27 ?_))
   exact bodyPost_ret (res_tmp_tmp rfl) rfl ⟨by rw [HV.out]; rfl, HK2.out.1⟩
 · have HV := Lib.hid (HV3.out rfl rfl he)
   clear HV1 HV2 HV3
   go_wp2_with (first
     | (refine wpList_ldf rfl rfl rfl (HK.out.2 _ Tw.m0) Tryz.underlying25 rfl size27 ?_)
     | (refine wpList_guard rfl ?_; refine wpList_ldf rfl rfl rfl (HK1.out.2 _ Tw.m1) Tryz.underlying25 rfl size27 ?_)
     | ((go_at_call 17); (with_reducible refine (HR1.out _).mono ?_); rintro e w1 ⟨rfl, hb1⟩; have HK1 := Lib.hid (HK.out.below hb1); clear hb1)
     | ((go_at_call 17); (with_reducible refine (HR2.out _).mono ?_); rintro e w2 ⟨rfl, hb1⟩; have HK2 := Lib.hid (HK1.out.below hb1); clear hb1)
     | (refine wpList_ldf rfl rfl rfl (HK2.out.2 _ Tw.m0) Tryz.underlying25 rfl size27 ?_)
     | (refine wpList_ldf rfl rfl rfl (HK2.out.2 _ Tw.m1) Tryz.underlying25 rfl size27 ?_))
   refine wp_region_U [(w.heap.size, .cells (frcC (s1) (n1) (d1)) 25 (0, 0)), (w.heap.size + 1, .cells (frcC (s2) (n2) (d2)) 25 (0, 0))] Tw.kr (HK2.out) ?_
   refine wpU_pY (i := 0) (v := .pointer (some ⟨w.heap.size, 0, none⟩)) rfl rfl Tw.kr Tw.kr rfl Tw.kf Tw.pu ?_
   refine wpU_vY (i := 1) (v := .bool s1) rfl rfl Tw.kr Tw.kr rfl (yb_ldb rfl Tw.kr Tw.m0) Tw.pu ?_
   refine wpU_pY (i := 2) (v := .pointer (some ⟨w.heap.size, 1, none⟩)) rfl rfl Tw.kr Tw.kr rfl Tw.kf Tw.pu ?_
   refine wpU_vY (i := 3) (v := num (n1)) rfl rfl Tw.kr Tw.kr rfl (yb_load rfl Tw.kr Tw.m0 Tryz.underlying23 rfl size25 (by simp) (frc_num (s1) (n1) (d1))) Tw.pu ?_
   refine wpU_pY (i := 4) (v := .pointer (some ⟨w.heap.size + 1, 9, none⟩)) rfl rfl Tw.kr Tw.kr rfl Tw.kf Tw.pu ?_
   refine wpU_vY (i := 5) (v := num (d2)) rfl rfl Tw.kr Tw.kr rfl (yb_load rfl Tw.kr Tw.m1 Tryz.underlying23 rfl size25 (by simp) (frc_den (s2) (n2) (d2))) Tw.pu ?_
   refine wpU_vY (i := 6) (v := wid u) rfl rfl Tw.kr Tw.kr rfl (yb_call (f := 55) (args := #[num n1, num d2]) Tw.kf fun W hW => Cu.out W) Tw.pu ?_
   refine wpU_pY (i := 7) (v := .pointer (some ⟨w.heap.size + 1, 0, none⟩)) rfl rfl Tw.kr Tw.kr rfl Tw.kf Tw.pu ?_
   refine wpU_vY (i := 8) (v := .bool s2) rfl rfl Tw.kr Tw.kr rfl (yb_ldb rfl Tw.kr Tw.m1) Tw.pu ?_
   refine wpU_pY (i := 9) (v := .bool (!s2)) rfl rfl Tw.kr Tw.kr rfl Tw.kf Tw.pu ?_
   refine wpU_pY (i := 10) (v := .pointer (some ⟨w.heap.size + 1, 1, none⟩)) rfl rfl Tw.kr Tw.kr rfl Tw.kf Tw.pu ?_
   refine wpU_vY (i := 11) (v := num (n2)) rfl rfl Tw.kr Tw.kr rfl (yb_load rfl Tw.kr Tw.m1 Tryz.underlying23 rfl size25 (by simp) (frc_num (s2) (n2) (d2))) Tw.pu ?_
   refine wpU_pY (i := 12) (v := .pointer (some ⟨w.heap.size, 9, none⟩)) rfl rfl Tw.kr Tw.kr rfl Tw.kf Tw.pu ?_
   refine wpU_vY (i := 13) (v := num (d1)) rfl rfl Tw.kr Tw.kr rfl (yb_load rfl Tw.kr Tw.m0 Tryz.underlying23 rfl size25 (by simp) (frc_den (s1) (n1) (d1))) Tw.pu ?_
   refine wpU_vY (i := 14) (v := wid v) rfl rfl Tw.kr Tw.kr rfl (yb_call (f := 55) (args := #[num n2, num d1]) Tw.kf fun W hW => Cv.out W) Tw.pu ?_
   refine wpU_vY (i := 15) (v := .tuple #[.bool S, wid N]) rfl rfl Tw.kr Tw.kr rfl (yb_call (f := 54) (args := #[.bool s1, wid u, .bool (!s2), wid v]) Tw.kf fun W hW => Cps.out W) Tw.pu ?_
   refine wpU_pY (i := 16) (v := .tuple #[.bool S, wid N]) rfl rfl Tw.kr Tw.kr rfl Tw.kf Tw.pu ?_
   refine wpU_pY (i := 17) (v := .bool S) rfl rfl Tw.kr Tw.kr rfl Tw.kf Tw.pu ?_
   refine wpU_pY (i := 18) (v := wid N) rfl rfl Tw.kr Tw.kr rfl Tw.kf Tw.pu ?_
   refine wpU_newY (i := 19) (obi := .cells (fa 18 (fun _ => 0)) 76 (0, 0)) rfl rfl rfl Tw.kr (fun _ _ => rfl) Tw.pf fun gn Bgn Fgn => ?_
   simp only [List.forall_mem_cons] at Fgn
   refine wpU_pY (i := 20) (v := .bool S) rfl rfl Tw.kr Tw.kr rfl Tw.kf Tw.pu ?_
   refine wpU_sY [(gn, .cells (fa 18 (dg N)) 76 (0, 0)), (w.heap.size, .cells (frcC (s1) (n1) (d1)) 25 (0, 0)), (w.heap.size + 1, .cells (frcC (s2) (n2) (d2)) 25 (0, 0))] (i := 21) rfl Tw.kr rfl rfl rfl
     (st_a rfl rfl rfl Tw.m0 Tw.om size65 (by intro p hp; simp only [List.mem_cons, List.not_mem_nil, or_false] at hp; rcases hp with rfl | rfl | rfl; exact .inl rfl; exact .inr ⟨by simp, by simp only; omega⟩; exact .inr ⟨by simp, by simp only; omega⟩)) ?_
   refine wpU_done Tw.kr (fun W4 hW4 => ?_) _
   cases S
   all_goals
     go_wp2_with fail
     exact bodyPost_ret (res_tmp_tmp rfl) rfl ⟨by rw [HV.out]; rfl, hW4.1⟩
theorem Cmp_any (s1 s2 : Bool) (n1 d1 n2 d2 : Nat) (hn1 : n1 < R 8) (hd1 : d1 < R 8) (hn2 : n2 < R 8) (hd2 : d2 < R 8) (w : World) :
   Calls Tryz.prog 26 #[frc s1 n1 d1, frc s2 n2 d2] w fun e w' => e = .returned (if rightB s1 n1 d1 = true ∧ rightB s2 n2 d2 = true then .tuple #[.int .i64 (cmpI s1 n1 d1 s2 n2 d2), .int .i64 0] else .tuple #[.int .i64 0, .int .i64 2]) ∧ Below w.heap.size w w' := by
 have hu := mul_lt16 hn1 hd2
 have hv := mul_lt16 hn2 hd1
 exact Cmp_walk s1 s2 (psS s1 (!s2) (n1 * d2) (n2 * d1)) n1 d1 n2 d2 (n1 * d2) (n2 * d1) (psN s1 (!s2) (n1 * d2) (n2 * d1)) hn1 hd1 hn2 hd2 _ _ _ (fun W => right_any s1 n1 d1 hn1 hd1 W) (fun W => right_any s2 n2 d2 hn2 hd2 W)
   (fun W => times_any n1 d2 hn1 hd2 W) (fun W => times_any n2 d1 hn2 hd1 W) (fun W => plusSigned_any s1 (!s2) (n1 * d2) (n2 * d1) (lt_R_of_le (two_R16 hu hv) Tw.om) W)
   (fun h => if_neg h) (fun h1 h2 h => by rw [if_pos ⟨h1, h2⟩, cmpI, if_pos h]) (fun h1 h2 h => by rw [if_pos ⟨h1, h2⟩, cmpI, if_neg h]) w
end Go.Proofs.YtalmflgkbmnghaaGreatDoor
namespace Tw
open Go Go.RowKit Go.Proofs.YtalmflgkbmnghaaGreatDoor
section
variable {P : Program} {md : Region.Mode} {ops : Array Oper} {Q R : Exit → Act → World → Prop} {W0 : Base}
theorem wpV_mono (hQ : ∀ a w, R .normal a w → Q .normal a w) : ∀ (n : Nat) (listed : Array Bool) (a : Act) (K : List (Nat × Obj)), wpV P md ops R W0 n listed a K → wpV P md ops Q W0 n listed a K
 | 0, _, _, _, h => ⟨h.1, fun w hw => hQ _ _ (h.2 w hw)⟩
 | n + 1, listed, a, K, h => by
   refine ⟨fun hr w hw => hQ _ _ (h.1 hr w hw), fun i hi => ?_⟩
   obtain ⟨o, ho, hc⟩ := h.2 i hi
   refine ⟨o, ho, ?_⟩
   rcases hc with ⟨v, hy, hu⟩ | ⟨obj, mk, hal, hu⟩ | ⟨hst, K2, hs2, hu⟩ | ⟨G, hst, hg2, hu⟩
   · exact .inl ⟨v, hy, wpV_mono hQ n _ _ _ hu⟩
   · exact .inr (.inl ⟨obj, mk, hal, fun g hg hf => wpV_mono hQ n _ _ _ (hu g hg hf)⟩)
   · exact .inr (.inr (.inl ⟨hst, K2, hs2, wpV_mono hQ n _ _ _ hu⟩))
   · exact .inr (.inr (.inr ⟨G, hst, hg2, fun v K' hG => wpV_mono hQ n _ _ _ (hu v K' hG)⟩))
theorem wpV_joins (R : Act → World → Prop) {n : Nat} {listed : Array Bool} {a : Act} {K : List (Nat × Obj)} (h : wpV P md ops (fun _ a w => R a w) W0 n listed a K) (hR : ∀ a w, R a w → Q .normal a w) : wpV P md ops Q W0 n listed a K :=
 wpV_mono hR n listed a K h
theorem wpV_s1 {i n : Nat} {listed : Array Bool} {a : Act} {K : List (Nat × Obj)} (hr : Region.ready md ops listed = [i]) (h : StepV P md ops Q W0 n listed a K i) : wpV P md ops Q W0 (n + 1) listed a K :=
 ⟨fun h0 => (by rw [hr] at h0; cases h0), fun k hk => by
   rw [hr] at hk
   cases List.mem_singleton.1 hk
   exact h⟩
theorem wpV_s3 {i j m n : Nat} {listed : Array Bool} {a : Act} {K : List (Nat × Obj)} (hr : Region.ready md ops listed = [i, j, m]) (h : StepV P md ops Q W0 n listed a K i) (h' : StepV P md ops Q W0 n listed a K j) (h'' : StepV P md ops Q W0 n listed a K m) : wpV P md ops Q W0 (n + 1) listed a K :=
 ⟨fun h0 => (by rw [hr] at h0; cases h0), fun k hk => by
   rw [hr] at hk
   rcases List.mem_cons.1 hk with rfl | hk
   · exact h
   · rcases List.mem_cons.1 hk with rfl | hk
     · exact h'
     · cases List.mem_singleton.1 hk
       exact h''⟩
theorem stepV_new {i : Nat} {oi : Oper} {d : Nat} {obi : Obj} {n : Nat} {listed : Array Bool} {tm : Array Value} {df : List Deferred} {K : List (Nat × Obj)} {T : Nat → Array Value} (mk : Nat → Value)
   (hi : ops[i]? = some oi) (hdi : oi.dst = some d) (hgi : oi.guard = none) (hai : ∀ w, (execOp (Act.eval ⟨tm, df⟩) oi).run P w = .ok (.value (mk w.heap.size)) (w.alloc obi))
   (hT : ∀ g, (tm.setIfInBounds d (mk g)) = T g)
   (h : ∀ g, W0.B ≤ g → (∀ p ∈ K, p.1 ≠ g) → wpV P md ops Q W0 n (listed.setIfInBounds i true) ⟨T g, df⟩ ((g, obi) :: K)) : StepV P md ops Q W0 n listed ⟨tm, df⟩ K i := by
 refine stepV_alloc mk hi (wanted_no hgi) hai fun g hg hf => ?_
 rw [hdi]
 simp only [Act.put]
 rw [hT g]
 exact h g hg hf
end
end Tw
namespace Go.Proofs.YtalmflgkbmnghaaGreatDoor
open Go Go.RowKit Tw
open Tf (dg R R_pos R_le R_succ dg_of_lt setd setd_eq)
variable [ShLZ]
variable [ShSt]
theorem ltext_any (s : Bool) (n d : Nat) (hn : n < R 8) (hd : d < R 8) (w : World) (hE : Env w) : Calls Tryz.prog 30 #[.agg (frcC s n d)] w fun e w' => e = .returned (if rightB s n d = true then .tuple #[strV (textL s n d), .int .i64 0] else .tuple #[strV [], .int .i64 2]) ∧ Below w.heap.size w w' := text_any s n d hn hd w hE
set_option maxRecDepth 100000 in
set_option maxHeartbeats 40000000 in
theorem ltells_any (s1 s2 : Bool) (n1 d1 n2 d2 : Nat) (hn1 : n1 < R 8) (hd1 : d1 < R 8) (hn2 : n2 < R 8) (hd2 : d2 < R 8) (w : World) (hE : Env w) : Calls Tryz.prog 7 #[.agg (frcC s1 n1 d1), .agg (frcC s2 n2 d2)] w fun e w' => e = .returned (.bool true) ∧ Below w.heap.size w w' := by
 have HE := Lib.hid hE
 clear hE
 go_enter Tryz.func7, Tryz.ntmps7
 refine wp_seq ?_
 refine wp_region_L [] (KS.start w) ?_
 refine wpL_new (fun g => .pointer (some ⟨g, 0, none⟩)) (obi := .cells (frcC s1 n1 d1) 25 (0, 0)) rfl rfl Tw.kf Tw.pf fun g1 Bg1 Fg1 => ?_
 refine wpL_new (fun g => .pointer (some ⟨g, 0, none⟩)) (obi := .cells (frcC s2 n2 d2) 25 (0, 0)) rfl rfl Tw.kf Tw.pf fun g2 Bg2 Fg2 => ?_
 obtain dj3_0 : g1 ≠ g2 := Tw.dkf Fg2
 refine Tw.mm (.bool false) ?_
 refine wpL_done (fun W1 hW1 => ?_)
 change Code.wp ..
 refine wp_seq ?_
 refine wp_region_V _ Tw.kr hW1 ?_
 refine wpV_joins (fun az wz => ∃ (ga4 ga5 : Nat), ((w : Base).B ≤ ga4) ∧ ((w : Base).B ≤ ga5) ∧ (ga4 ≠ ga5) ∧ (g2 ≠ ga4) ∧ (g1 ≠ ga4) ∧ (g2 ≠ ga5) ∧ (g1 ≠ ga5) ∧ JoinR (fun zq => List.toArray ((.agg (frcC s1 n1 d1)) :: (.agg (frcC s2 n2 d2)) :: (.pointer (some ⟨g1, 0, none⟩)) :: (.pointer (some ⟨g2, 0, none⟩)) :: (.bool false) :: (.pointer (some ⟨ga4, 0, none⟩)) :: (.pointer (some ⟨ga5, 0, none⟩)) :: undef :: undef :: undef :: undef :: undef :: undef :: undef :: undef :: undef :: undef :: undef :: undef :: undef :: undef :: (.agg (frcC s1 n1 d1)) :: (.agg (frcC s2 n2 d2)) :: undef :: undef :: undef :: undef :: undef :: undef :: undef :: undef :: undef :: undef :: undef :: undef :: undef :: undef :: undef :: undef :: undef :: undef :: undef :: undef :: undef :: undef :: undef :: undef :: undef :: undef :: undef :: undef :: undef :: undef :: undef :: undef :: undef :: undef :: undef :: undef :: undef :: undef :: undef :: undef :: undef :: undef :: undef :: undef :: undef :: undef :: undef :: undef :: undef :: undef :: undef :: undef :: undef :: undef :: undef :: undef :: undef :: undef :: undef :: undef :: undef :: undef :: undef :: undef :: undef :: undef :: undef :: undef :: undef :: undef :: undef :: undef :: undef :: undef :: undef :: undef :: undef :: undef :: undef :: undef :: undef :: undef :: undef :: undef :: undef :: undef :: undef :: undef :: undef :: undef :: undef :: undef :: undef :: undef :: undef :: undef :: undef :: undef :: undef :: undef :: undef :: undef :: undef :: undef :: undef :: undef :: undef :: undef :: undef :: undef :: undef :: undef :: undef :: undef :: undef :: undef :: undef :: undef :: undef :: undef :: undef :: undef :: undef :: undef :: undef :: undef :: undef :: undef :: undef :: undef :: undef :: undef :: undef :: undef :: undef :: undef :: undef :: undef :: undef :: [])) w [(ga5, .cells (frcC s2 n2 d2) 34 (0, 0)), (ga4, .cells (frcC s1 n1 d1) 34 (0, 0)), (g2, .cells (frcC s2 n2 d2) 25 (0, 0)), (g1, .cells (frcC s1 n1 d1) 25 (0, 0))] az wz) ?_ ?_
 · refine vv (i := 0) (v := .agg (frcC s1 n1 d1)) rfl rfl rfl (yb_all rfl Tw.kr Tw.m1 Tryz.underlying25 rfl zfs) ?_
   refine wpV_s3 (i := 1) (j := 2) (m := 3) Tw.kr ?_ ?_ ?_
   · refine stepV_v (i := 1) (v := .agg (frcC s2 n2 d2)) rfl rfl Tw.kr rfl (yb_all rfl Tw.kr Tw.m0 Tryz.underlying25 rfl zfs) Tw.pu ?_
     refine wpV_2 (i := 2) (j := 3) Tw.kr ?_ ?_
     · refine stepV_new (fun g => .pointer (some ⟨g, 0, none⟩)) (obi := .cells (frcC false 0 0) 34 (0, 0)) rfl rfl rfl Tw.kf Tw.pf fun gb6 Bgb6 Fgb6 => ?_
       obtain ⟨dj7_0, dj7_1⟩ : g2 ≠ gb6 ∧ g1 ≠ gb6 := Tw.dkf Fgb6
       refine wpV_s1 (i := 3) Tw.kr ?_
       · refine stepV_new (fun g => .pointer (some ⟨g, 0, none⟩)) (obi := .cells (frcC false 0 0) 34 (0, 0)) rfl rfl rfl Tw.kf Tw.pf fun gb8 Bgb8 Fgb8 => ?_
         obtain ⟨dj9_0, dj9_1, dj9_2⟩ : gb6 ≠ gb8 ∧ g2 ≠ gb8 ∧ g1 ≠ gb8 := Tw.dkf Fgb8
         refine wpV_s1 (i := 4) Tw.kr ?_
         · refine stepV_s [(gb8, .cells (frcC false 0 0) 34 (0, 0)), (gb6, .cells (frcC s1 n1 d1) 34 (0, 0)), (g2, .cells (frcC s2 n2 d2) 25 (0, 0)), (g1, .cells (frcC s1 n1 d1) 25 (0, 0))] (i := 4) rfl rfl rfl rfl (st_all zfz (by exact frc_onec) rfl Tw.kr Tw.kr Tw.m1 Bgb6 zfs (List.forall_mem_cons.2 ⟨.inr ⟨Tw.m0, Tw.nee⟩, (List.forall_mem_cons.2 ⟨.inl rfl, (List.forall_mem_cons.2 ⟨.inr ⟨Tw.m2, Tw.nee⟩, (List.forall_mem_cons.2 ⟨.inr ⟨Tw.m3, Tw.nee⟩, (List.forall_mem_nil _)⟩)⟩)⟩)⟩)) ?_
           refine wpV_s1 (i := 5) Tw.kr ?_
           · refine stepV_s [(gb8, .cells (frcC s2 n2 d2) 34 (0, 0)), (gb6, .cells (frcC s1 n1 d1) 34 (0, 0)), (g2, .cells (frcC s2 n2 d2) 25 (0, 0)), (g1, .cells (frcC s1 n1 d1) 25 (0, 0))] (i := 5) rfl rfl rfl rfl (st_all zfz (by exact frc_onec) rfl Tw.kr Tw.kr Tw.m0 Bgb8 zfs (List.forall_mem_cons.2 ⟨.inl rfl, (List.forall_mem_cons.2 ⟨.inr ⟨Tw.m1, Tw.nee⟩, (List.forall_mem_cons.2 ⟨.inr ⟨Tw.m2, Tw.nee⟩, (List.forall_mem_cons.2 ⟨.inr ⟨Tw.m3, Tw.nee⟩, (List.forall_mem_nil _)⟩)⟩)⟩)⟩)) ?_
             refine wpV_done Tw.kr (fun W2 hW2 => ?_) _
             exact ⟨gb6, gb8, Tw.nee, Tw.nee, Tw.nee, Tw.nee, Tw.nee, Tw.nee, Tw.nee, join_mk Tw.kr (hW2.sub (fun p hp => by simp only [List.mem_cons, List.mem_append, List.nil_append, List.not_mem_nil, or_assoc, or_false, false_or] at hp ⊢; grind))⟩
     · refine stepV_new (fun g => .pointer (some ⟨g, 0, none⟩)) (obi := .cells (frcC false 0 0) 34 (0, 0)) rfl rfl rfl Tw.kf Tw.pf fun gb10 Bgb10 Fgb10 => ?_
       obtain ⟨dj11_0, dj11_1⟩ : g2 ≠ gb10 ∧ g1 ≠ gb10 := Tw.dkf Fgb10
       refine wpV_s1 (i := 2) Tw.kr ?_
       · refine stepV_new (fun g => .pointer (some ⟨g, 0, none⟩)) (obi := .cells (frcC false 0 0) 34 (0, 0)) rfl rfl rfl Tw.kf Tw.pf fun gb12 Bgb12 Fgb12 => ?_
         obtain ⟨dj13_0, dj13_1, dj13_2⟩ : gb10 ≠ gb12 ∧ g2 ≠ gb12 ∧ g1 ≠ gb12 := Tw.dkf Fgb12
         refine wpV_s1 (i := 4) Tw.kr ?_
         · refine stepV_s [(gb12, .cells (frcC s1 n1 d1) 34 (0, 0)), (gb10, .cells (frcC false 0 0) 34 (0, 0)), (g2, .cells (frcC s2 n2 d2) 25 (0, 0)), (g1, .cells (frcC s1 n1 d1) 25 (0, 0))] (i := 4) rfl rfl rfl rfl (st_all zfz (by exact frc_onec) rfl Tw.kr Tw.kr Tw.m0 Bgb12 zfs (List.forall_mem_cons.2 ⟨.inl rfl, (List.forall_mem_cons.2 ⟨.inr ⟨Tw.m1, Tw.nee⟩, (List.forall_mem_cons.2 ⟨.inr ⟨Tw.m2, Tw.nee⟩, (List.forall_mem_cons.2 ⟨.inr ⟨Tw.m3, Tw.nee⟩, (List.forall_mem_nil _)⟩)⟩)⟩)⟩)) ?_
           refine wpV_s1 (i := 5) Tw.kr ?_
           · refine stepV_s [(gb12, .cells (frcC s1 n1 d1) 34 (0, 0)), (gb10, .cells (frcC s2 n2 d2) 34 (0, 0)), (g2, .cells (frcC s2 n2 d2) 25 (0, 0)), (g1, .cells (frcC s1 n1 d1) 25 (0, 0))] (i := 5) rfl rfl rfl rfl (st_all zfz (by exact frc_onec) rfl Tw.kr Tw.kr Tw.m1 Bgb10 zfs (List.forall_mem_cons.2 ⟨.inr ⟨Tw.m0, Tw.nee⟩, (List.forall_mem_cons.2 ⟨.inl rfl, (List.forall_mem_cons.2 ⟨.inr ⟨Tw.m2, Tw.nee⟩, (List.forall_mem_cons.2 ⟨.inr ⟨Tw.m3, Tw.nee⟩, (List.forall_mem_nil _)⟩)⟩)⟩)⟩)) ?_
             refine wpV_done Tw.kr (fun W3 hW3 => ?_) _
             exact ⟨gb12, gb10, Tw.nee, Tw.nee, Tw.nee, Tw.nee, Tw.nee, Tw.nee, Tw.nee, join_mk Tw.kr (hW3.sub (fun p hp => by simp only [List.mem_cons, List.mem_append, List.nil_append, List.not_mem_nil, or_assoc, or_false, false_or] at hp ⊢; grind))⟩
   · refine stepV_new (fun g => .pointer (some ⟨g, 0, none⟩)) (obi := .cells (frcC false 0 0) 34 (0, 0)) rfl rfl rfl Tw.kf Tw.pf fun gb14 Bgb14 Fgb14 => ?_
     obtain ⟨dj15_0, dj15_1⟩ : g2 ≠ gb14 ∧ g1 ≠ gb14 := Tw.dkf Fgb14
     refine wpV_2 (i := 1) (j := 3) Tw.kr ?_ ?_
     · refine stepV_v (i := 1) (v := .agg (frcC s2 n2 d2)) rfl rfl Tw.kr rfl (yb_all rfl Tw.kr Tw.m1 Tryz.underlying25 rfl zfs) Tw.pu ?_
       refine wpV_s1 (i := 3) Tw.kr ?_
       · refine stepV_new (fun g => .pointer (some ⟨g, 0, none⟩)) (obi := .cells (frcC false 0 0) 34 (0, 0)) rfl rfl rfl Tw.kf Tw.pf fun gb16 Bgb16 Fgb16 => ?_
         obtain ⟨dj17_0, dj17_1, dj17_2⟩ : gb14 ≠ gb16 ∧ g2 ≠ gb16 ∧ g1 ≠ gb16 := Tw.dkf Fgb16
         refine wpV_s1 (i := 4) Tw.kr ?_
         · refine stepV_s [(gb16, .cells (frcC false 0 0) 34 (0, 0)), (gb14, .cells (frcC s1 n1 d1) 34 (0, 0)), (g2, .cells (frcC s2 n2 d2) 25 (0, 0)), (g1, .cells (frcC s1 n1 d1) 25 (0, 0))] (i := 4) rfl rfl rfl rfl (st_all zfz (by exact frc_onec) rfl Tw.kr Tw.kr Tw.m1 Bgb14 zfs (List.forall_mem_cons.2 ⟨.inr ⟨Tw.m0, Tw.nee⟩, (List.forall_mem_cons.2 ⟨.inl rfl, (List.forall_mem_cons.2 ⟨.inr ⟨Tw.m2, Tw.nee⟩, (List.forall_mem_cons.2 ⟨.inr ⟨Tw.m3, Tw.nee⟩, (List.forall_mem_nil _)⟩)⟩)⟩)⟩)) ?_
           refine wpV_s1 (i := 5) Tw.kr ?_
           · refine stepV_s [(gb16, .cells (frcC s2 n2 d2) 34 (0, 0)), (gb14, .cells (frcC s1 n1 d1) 34 (0, 0)), (g2, .cells (frcC s2 n2 d2) 25 (0, 0)), (g1, .cells (frcC s1 n1 d1) 25 (0, 0))] (i := 5) rfl rfl rfl rfl (st_all zfz (by exact frc_onec) rfl Tw.kr Tw.kr Tw.m0 Bgb16 zfs (List.forall_mem_cons.2 ⟨.inl rfl, (List.forall_mem_cons.2 ⟨.inr ⟨Tw.m1, Tw.nee⟩, (List.forall_mem_cons.2 ⟨.inr ⟨Tw.m2, Tw.nee⟩, (List.forall_mem_cons.2 ⟨.inr ⟨Tw.m3, Tw.nee⟩, (List.forall_mem_nil _)⟩)⟩)⟩)⟩)) ?_
             refine wpV_done Tw.kr (fun W4 hW4 => ?_) _
             exact ⟨gb14, gb16, Tw.nee, Tw.nee, Tw.nee, Tw.nee, Tw.nee, Tw.nee, Tw.nee, join_mk Tw.kr (hW4.sub (fun p hp => by simp only [List.mem_cons, List.mem_append, List.nil_append, List.not_mem_nil, or_assoc, or_false, false_or] at hp ⊢; grind))⟩
     · refine stepV_new (fun g => .pointer (some ⟨g, 0, none⟩)) (obi := .cells (frcC false 0 0) 34 (0, 0)) rfl rfl rfl Tw.kf Tw.pf fun gb18 Bgb18 Fgb18 => ?_
       obtain ⟨dj19_0, dj19_1, dj19_2⟩ : gb14 ≠ gb18 ∧ g2 ≠ gb18 ∧ g1 ≠ gb18 := Tw.dkf Fgb18
       refine wpV_2 (i := 1) (j := 4) Tw.kr ?_ ?_
       · refine stepV_v (i := 1) (v := .agg (frcC s2 n2 d2)) rfl rfl Tw.kr rfl (yb_all rfl Tw.kr Tw.m2 Tryz.underlying25 rfl zfs) Tw.pu ?_
         refine wpV_s1 (i := 4) Tw.kr ?_
         · refine stepV_s [(gb18, .cells (frcC false 0 0) 34 (0, 0)), (gb14, .cells (frcC s1 n1 d1) 34 (0, 0)), (g2, .cells (frcC s2 n2 d2) 25 (0, 0)), (g1, .cells (frcC s1 n1 d1) 25 (0, 0))] (i := 4) rfl rfl rfl rfl (st_all zfz (by exact frc_onec) rfl Tw.kr Tw.kr Tw.m1 Bgb14 zfs (List.forall_mem_cons.2 ⟨.inr ⟨Tw.m0, Tw.nee⟩, (List.forall_mem_cons.2 ⟨.inl rfl, (List.forall_mem_cons.2 ⟨.inr ⟨Tw.m2, Tw.nee⟩, (List.forall_mem_cons.2 ⟨.inr ⟨Tw.m3, Tw.nee⟩, (List.forall_mem_nil _)⟩)⟩)⟩)⟩)) ?_
           refine wpV_s1 (i := 5) Tw.kr ?_
           · refine stepV_s [(gb18, .cells (frcC s2 n2 d2) 34 (0, 0)), (gb14, .cells (frcC s1 n1 d1) 34 (0, 0)), (g2, .cells (frcC s2 n2 d2) 25 (0, 0)), (g1, .cells (frcC s1 n1 d1) 25 (0, 0))] (i := 5) rfl rfl rfl rfl (st_all zfz (by exact frc_onec) rfl Tw.kr Tw.kr Tw.m0 Bgb18 zfs (List.forall_mem_cons.2 ⟨.inl rfl, (List.forall_mem_cons.2 ⟨.inr ⟨Tw.m1, Tw.nee⟩, (List.forall_mem_cons.2 ⟨.inr ⟨Tw.m2, Tw.nee⟩, (List.forall_mem_cons.2 ⟨.inr ⟨Tw.m3, Tw.nee⟩, (List.forall_mem_nil _)⟩)⟩)⟩)⟩)) ?_
             refine wpV_done Tw.kr (fun W5 hW5 => ?_) _
             exact ⟨gb14, gb18, Tw.nee, Tw.nee, Tw.nee, Tw.nee, Tw.nee, Tw.nee, Tw.nee, join_mk Tw.kr (hW5.sub (fun p hp => by simp only [List.mem_cons, List.mem_append, List.nil_append, List.not_mem_nil, or_assoc, or_false, false_or] at hp ⊢; grind))⟩
       · refine stepV_s [(gb18, .cells (frcC false 0 0) 34 (0, 0)), (gb14, .cells (frcC s1 n1 d1) 34 (0, 0)), (g2, .cells (frcC s2 n2 d2) 25 (0, 0)), (g1, .cells (frcC s1 n1 d1) 25 (0, 0))] (i := 4) rfl rfl rfl rfl (st_all zfz (by exact frc_onec) rfl Tw.kr Tw.kr Tw.m1 Bgb14 zfs (List.forall_mem_cons.2 ⟨.inr ⟨Tw.m0, Tw.nee⟩, (List.forall_mem_cons.2 ⟨.inl rfl, (List.forall_mem_cons.2 ⟨.inr ⟨Tw.m2, Tw.nee⟩, (List.forall_mem_cons.2 ⟨.inr ⟨Tw.m3, Tw.nee⟩, (List.forall_mem_nil _)⟩)⟩)⟩)⟩)) ?_
         refine wpV_s1 (i := 1) Tw.kr ?_
         · refine stepV_v (i := 1) (v := .agg (frcC s2 n2 d2)) rfl rfl Tw.kr rfl (yb_all rfl Tw.kr Tw.m2 Tryz.underlying25 rfl zfs) Tw.pu ?_
           refine wpV_s1 (i := 5) Tw.kr ?_
           · refine stepV_s [(gb18, .cells (frcC s2 n2 d2) 34 (0, 0)), (gb14, .cells (frcC s1 n1 d1) 34 (0, 0)), (g2, .cells (frcC s2 n2 d2) 25 (0, 0)), (g1, .cells (frcC s1 n1 d1) 25 (0, 0))] (i := 5) rfl rfl rfl rfl (st_all zfz (by exact frc_onec) rfl Tw.kr Tw.kr Tw.m0 Bgb18 zfs (List.forall_mem_cons.2 ⟨.inl rfl, (List.forall_mem_cons.2 ⟨.inr ⟨Tw.m1, Tw.nee⟩, (List.forall_mem_cons.2 ⟨.inr ⟨Tw.m2, Tw.nee⟩, (List.forall_mem_cons.2 ⟨.inr ⟨Tw.m3, Tw.nee⟩, (List.forall_mem_nil _)⟩)⟩)⟩)⟩)) ?_
             refine wpV_done Tw.kr (fun W6 hW6 => ?_) _
             exact ⟨gb14, gb18, Tw.nee, Tw.nee, Tw.nee, Tw.nee, Tw.nee, Tw.nee, Tw.nee, join_mk Tw.kr (hW6.sub (fun p hp => by simp only [List.mem_cons, List.mem_append, List.nil_append, List.not_mem_nil, or_assoc, or_false, false_or] at hp ⊢; grind))⟩
   · refine stepV_new (fun g => .pointer (some ⟨g, 0, none⟩)) (obi := .cells (frcC false 0 0) 34 (0, 0)) rfl rfl rfl Tw.kf Tw.pf fun gb20 Bgb20 Fgb20 => ?_
     obtain ⟨dj21_0, dj21_1⟩ : g2 ≠ gb20 ∧ g1 ≠ gb20 := Tw.dkf Fgb20
     refine wpV_2 (i := 1) (j := 2) Tw.kr ?_ ?_
     · refine stepV_v (i := 1) (v := .agg (frcC s2 n2 d2)) rfl rfl Tw.kr rfl (yb_all rfl Tw.kr Tw.m1 Tryz.underlying25 rfl zfs) Tw.pu ?_
       refine wpV_s1 (i := 2) Tw.kr ?_
       · refine stepV_new (fun g => .pointer (some ⟨g, 0, none⟩)) (obi := .cells (frcC false 0 0) 34 (0, 0)) rfl rfl rfl Tw.kf Tw.pf fun gb22 Bgb22 Fgb22 => ?_
         obtain ⟨dj23_0, dj23_1, dj23_2⟩ : gb20 ≠ gb22 ∧ g2 ≠ gb22 ∧ g1 ≠ gb22 := Tw.dkf Fgb22
         refine wpV_s1 (i := 4) Tw.kr ?_
         · refine stepV_s [(gb22, .cells (frcC s1 n1 d1) 34 (0, 0)), (gb20, .cells (frcC false 0 0) 34 (0, 0)), (g2, .cells (frcC s2 n2 d2) 25 (0, 0)), (g1, .cells (frcC s1 n1 d1) 25 (0, 0))] (i := 4) rfl rfl rfl rfl (st_all zfz (by exact frc_onec) rfl Tw.kr Tw.kr Tw.m0 Bgb22 zfs (List.forall_mem_cons.2 ⟨.inl rfl, (List.forall_mem_cons.2 ⟨.inr ⟨Tw.m1, Tw.nee⟩, (List.forall_mem_cons.2 ⟨.inr ⟨Tw.m2, Tw.nee⟩, (List.forall_mem_cons.2 ⟨.inr ⟨Tw.m3, Tw.nee⟩, (List.forall_mem_nil _)⟩)⟩)⟩)⟩)) ?_
           refine wpV_s1 (i := 5) Tw.kr ?_
           · refine stepV_s [(gb22, .cells (frcC s1 n1 d1) 34 (0, 0)), (gb20, .cells (frcC s2 n2 d2) 34 (0, 0)), (g2, .cells (frcC s2 n2 d2) 25 (0, 0)), (g1, .cells (frcC s1 n1 d1) 25 (0, 0))] (i := 5) rfl rfl rfl rfl (st_all zfz (by exact frc_onec) rfl Tw.kr Tw.kr Tw.m1 Bgb20 zfs (List.forall_mem_cons.2 ⟨.inr ⟨Tw.m0, Tw.nee⟩, (List.forall_mem_cons.2 ⟨.inl rfl, (List.forall_mem_cons.2 ⟨.inr ⟨Tw.m2, Tw.nee⟩, (List.forall_mem_cons.2 ⟨.inr ⟨Tw.m3, Tw.nee⟩, (List.forall_mem_nil _)⟩)⟩)⟩)⟩)) ?_
             refine wpV_done Tw.kr (fun W7 hW7 => ?_) _
             exact ⟨gb22, gb20, Tw.nee, Tw.nee, Tw.nee, Tw.nee, Tw.nee, Tw.nee, Tw.nee, join_mk Tw.kr (hW7.sub (fun p hp => by simp only [List.mem_cons, List.mem_append, List.nil_append, List.not_mem_nil, or_assoc, or_false, false_or] at hp ⊢; grind))⟩
     · refine stepV_new (fun g => .pointer (some ⟨g, 0, none⟩)) (obi := .cells (frcC false 0 0) 34 (0, 0)) rfl rfl rfl Tw.kf Tw.pf fun gb24 Bgb24 Fgb24 => ?_
       obtain ⟨dj25_0, dj25_1, dj25_2⟩ : gb20 ≠ gb24 ∧ g2 ≠ gb24 ∧ g1 ≠ gb24 := Tw.dkf Fgb24
       refine wpV_2 (i := 1) (j := 4) Tw.kr ?_ ?_
       · refine stepV_v (i := 1) (v := .agg (frcC s2 n2 d2)) rfl rfl Tw.kr rfl (yb_all rfl Tw.kr Tw.m2 Tryz.underlying25 rfl zfs) Tw.pu ?_
         refine wpV_s1 (i := 4) Tw.kr ?_
         · refine stepV_s [(gb24, .cells (frcC s1 n1 d1) 34 (0, 0)), (gb20, .cells (frcC false 0 0) 34 (0, 0)), (g2, .cells (frcC s2 n2 d2) 25 (0, 0)), (g1, .cells (frcC s1 n1 d1) 25 (0, 0))] (i := 4) rfl rfl rfl rfl (st_all zfz (by exact frc_onec) rfl Tw.kr Tw.kr Tw.m0 Bgb24 zfs (List.forall_mem_cons.2 ⟨.inl rfl, (List.forall_mem_cons.2 ⟨.inr ⟨Tw.m1, Tw.nee⟩, (List.forall_mem_cons.2 ⟨.inr ⟨Tw.m2, Tw.nee⟩, (List.forall_mem_cons.2 ⟨.inr ⟨Tw.m3, Tw.nee⟩, (List.forall_mem_nil _)⟩)⟩)⟩)⟩)) ?_
           refine wpV_s1 (i := 5) Tw.kr ?_
           · refine stepV_s [(gb24, .cells (frcC s1 n1 d1) 34 (0, 0)), (gb20, .cells (frcC s2 n2 d2) 34 (0, 0)), (g2, .cells (frcC s2 n2 d2) 25 (0, 0)), (g1, .cells (frcC s1 n1 d1) 25 (0, 0))] (i := 5) rfl rfl rfl rfl (st_all zfz (by exact frc_onec) rfl Tw.kr Tw.kr Tw.m1 Bgb20 zfs (List.forall_mem_cons.2 ⟨.inr ⟨Tw.m0, Tw.nee⟩, (List.forall_mem_cons.2 ⟨.inl rfl, (List.forall_mem_cons.2 ⟨.inr ⟨Tw.m2, Tw.nee⟩, (List.forall_mem_cons.2 ⟨.inr ⟨Tw.m3, Tw.nee⟩, (List.forall_mem_nil _)⟩)⟩)⟩)⟩)) ?_
             refine wpV_done Tw.kr (fun W8 hW8 => ?_) _
             exact ⟨gb24, gb20, Tw.nee, Tw.nee, Tw.nee, Tw.nee, Tw.nee, Tw.nee, Tw.nee, join_mk Tw.kr (hW8.sub (fun p hp => by simp only [List.mem_cons, List.mem_append, List.nil_append, List.not_mem_nil, or_assoc, or_false, false_or] at hp ⊢; grind))⟩
       · refine stepV_s [(gb24, .cells (frcC s1 n1 d1) 34 (0, 0)), (gb20, .cells (frcC false 0 0) 34 (0, 0)), (g2, .cells (frcC s2 n2 d2) 25 (0, 0)), (g1, .cells (frcC s1 n1 d1) 25 (0, 0))] (i := 4) rfl rfl rfl rfl (st_all zfz (by exact frc_onec) rfl Tw.kr Tw.kr Tw.m0 Bgb24 zfs (List.forall_mem_cons.2 ⟨.inl rfl, (List.forall_mem_cons.2 ⟨.inr ⟨Tw.m1, Tw.nee⟩, (List.forall_mem_cons.2 ⟨.inr ⟨Tw.m2, Tw.nee⟩, (List.forall_mem_cons.2 ⟨.inr ⟨Tw.m3, Tw.nee⟩, (List.forall_mem_nil _)⟩)⟩)⟩)⟩)) ?_
         refine wpV_s1 (i := 1) Tw.kr ?_
         · refine stepV_v (i := 1) (v := .agg (frcC s2 n2 d2)) rfl rfl Tw.kr rfl (yb_all rfl Tw.kr Tw.m2 Tryz.underlying25 rfl zfs) Tw.pu ?_
           refine wpV_s1 (i := 5) Tw.kr ?_
           · refine stepV_s [(gb24, .cells (frcC s1 n1 d1) 34 (0, 0)), (gb20, .cells (frcC s2 n2 d2) 34 (0, 0)), (g2, .cells (frcC s2 n2 d2) 25 (0, 0)), (g1, .cells (frcC s1 n1 d1) 25 (0, 0))] (i := 5) rfl rfl rfl rfl (st_all zfz (by exact frc_onec) rfl Tw.kr Tw.kr Tw.m1 Bgb20 zfs (List.forall_mem_cons.2 ⟨.inr ⟨Tw.m0, Tw.nee⟩, (List.forall_mem_cons.2 ⟨.inl rfl, (List.forall_mem_cons.2 ⟨.inr ⟨Tw.m2, Tw.nee⟩, (List.forall_mem_cons.2 ⟨.inr ⟨Tw.m3, Tw.nee⟩, (List.forall_mem_nil _)⟩)⟩)⟩)⟩)) ?_
             refine wpV_done Tw.kr (fun W9 hW9 => ?_) _
             exact ⟨gb24, gb20, Tw.nee, Tw.nee, Tw.nee, Tw.nee, Tw.nee, Tw.nee, Tw.nee, join_mk Tw.kr (hW9.sub (fun p hp => by simp only [List.mem_cons, List.mem_append, List.nil_append, List.not_mem_nil, or_assoc, or_false, false_or] at hp ⊢; grind))⟩
 · rintro a1 W10 ⟨ga4, ga5, df0, df1, df2, df3, df4, df5, df6, ⟨zx1, rfl⟩, hW10⟩
   change Code.wp ..
   refine wp_seq ?_
   refine wp_region_L _ hW10 ?_
   refine Tw.lv (v := .agg (frcC s1 n1 d1)) rfl rfl (yb_all rfl Tw.kr Tw.m3 Tryz.underlying25 rfl zfs) ?_
   refine Tw.lv (v := .agg (frcC s2 n2 d2)) rfl rfl (yb_all rfl Tw.kr Tw.m2 Tryz.underlying25 rfl zfs) ?_
   obtain ⟨sv26, nv26, dv26, ev26, hpv26, ln26, ld26⟩ : ∃ s n d e, (if (rightB s1 n1 d1 && rightB s2 n2 d2) = true then addV s1 n1 d1 s2 n2 d2 else argV) = .tuple #[.agg (frcC s n d), .int .i64 e] ∧ n < R 8 ∧ d < R 8 := if_shape8
   refine Tw.lv (v := .tuple #[.agg (frcC sv26 nv26 dv26), .int .i64 ev26]) rfl rfl (yb_call (f := 15) (args := #[.agg (frcC s1 n1 d1), .agg (frcC s2 n2 d2)]) Tw.kf fun W hW => (by have h := Add_any s1 s2 n1 d1 n2 d2 hn1 hd1 hn2 hd2 W; rw [hpv26] at h; exact h)) ?_
   refine Tw.mm (.tuple #[.agg (frcC sv26 nv26 dv26), .int .i64 ev26]) ?_
   refine Tw.mm (.agg (frcC sv26 nv26 dv26)) ?_
   refine Tw.mm (.int .i64 ev26) ?_
   refine wpL_new (fun g => .pointer (some ⟨g, 0, none⟩)) (obi := .cells (frcC false 0 0) 25 (0, 0)) rfl rfl Tw.kf Tw.pf fun g27 Bg27 Fg27 => ?_
   obtain ⟨dj28_0, dj28_1, dj28_2, dj28_3⟩ : ga5 ≠ g27 ∧ ga4 ≠ g27 ∧ g2 ≠ g27 ∧ g1 ≠ g27 := Tw.dkf Fg27
   refine wpL_s [(g27, .cells (frcC sv26 nv26 dv26) 25 (0, 0)), (ga5, .cells (frcC s2 n2 d2) 34 (0, 0)), (ga4, .cells (frcC s1 n1 d1) 34 (0, 0)), (g2, .cells (frcC s2 n2 d2) 25 (0, 0)), (g1, .cells (frcC s1 n1 d1) 25 (0, 0))] rfl rfl (st_all zfz (by exact frc_onec) rfl Tw.kr Tw.kr Tw.m0 Bg27 zfs (List.forall_mem_cons.2 ⟨.inl rfl, (List.forall_mem_cons.2 ⟨.inr ⟨Tw.m1, Tw.nee⟩, (List.forall_mem_cons.2 ⟨.inr ⟨Tw.m2, Tw.nee⟩, (List.forall_mem_cons.2 ⟨.inr ⟨Tw.m3, Tw.nee⟩, (List.forall_mem_cons.2 ⟨.inr ⟨Tw.m4, Tw.nee⟩, (List.forall_mem_nil _)⟩)⟩)⟩)⟩)⟩)) ?_
   refine Tw.mm (.int .i64 ev26) ?_
   refine wpL_done (fun W11 hW11 => ?_)
   change Code.wp ..
   refine wp_seq ?_
   refine wp_region_L _ hW11 ?_
   refine Tw.lv (v := .agg (frcC s1 n1 d1)) rfl rfl (yb_all rfl Tw.kr Tw.m2 Tryz.underlying34 rfl zfs) ?_
   refine Tw.lv (v := .agg (frcC s2 n2 d2)) rfl rfl (yb_all rfl Tw.kr Tw.m1 Tryz.underlying34 rfl zfs) ?_
   refine Tw.lv (v := .tuple #[.agg (frcC sv26 nv26 dv26), .int .i64 ev26]) rfl rfl (yb_call (f := 16) (args := #[.agg (frcC s1 n1 d1), .agg (frcC s2 n2 d2)]) Tw.kf fun W hW => (by have h := RAdd_any s1 s2 n1 d1 n2 d2 hn1 hd1 hn2 hd2 W; rw [hpv26] at h; exact h)) ?_
   refine Tw.mm (.tuple #[.agg (frcC sv26 nv26 dv26), .int .i64 ev26]) ?_
   refine Tw.mm (.agg (frcC sv26 nv26 dv26)) ?_
   refine Tw.mm (.int .i64 ev26) ?_
   refine wpL_new (fun g => .pointer (some ⟨g, 0, none⟩)) (obi := .cells (frcC false 0 0) 34 (0, 0)) rfl rfl Tw.kf Tw.pf fun g29 Bg29 Fg29 => ?_
   obtain ⟨dj30_0, dj30_1, dj30_2, dj30_3, dj30_4⟩ : g27 ≠ g29 ∧ ga5 ≠ g29 ∧ ga4 ≠ g29 ∧ g2 ≠ g29 ∧ g1 ≠ g29 := Tw.dkf Fg29
   refine wpL_s [(g29, .cells (frcC sv26 nv26 dv26) 34 (0, 0)), (g27, .cells (frcC sv26 nv26 dv26) 25 (0, 0)), (ga5, .cells (frcC s2 n2 d2) 34 (0, 0)), (ga4, .cells (frcC s1 n1 d1) 34 (0, 0)), (g2, .cells (frcC s2 n2 d2) 25 (0, 0)), (g1, .cells (frcC s1 n1 d1) 25 (0, 0))] rfl rfl (st_all zfz (by exact frc_onec) rfl Tw.kr Tw.kr Tw.m0 Bg29 zfs (List.forall_mem_cons.2 ⟨.inl rfl, (List.forall_mem_cons.2 ⟨.inr ⟨Tw.m1, Tw.nee⟩, (List.forall_mem_cons.2 ⟨.inr ⟨Tw.m2, Tw.nee⟩, (List.forall_mem_cons.2 ⟨.inr ⟨Tw.m3, Tw.nee⟩, (List.forall_mem_cons.2 ⟨.inr ⟨Tw.m4, Tw.nee⟩, (List.forall_mem_cons.2 ⟨.inr ⟨Tw.m5, Tw.nee⟩, (List.forall_mem_nil _)⟩)⟩)⟩)⟩)⟩)⟩)) ?_
   refine Tw.mm (.int .i64 ev26) ?_
   refine wpL_done (fun W12 hW12 => ?_)
   change Code.wp ..
   refine wp_seq ?_
   refine wp_seq ?_
   refine wp_region_V _ Tw.kr hW12 ?_
   refine vv (i := 0) (v := .agg (frcC s1 n1 d1)) rfl rfl rfl (yb_all rfl Tw.kr Tw.m5 Tryz.underlying25 rfl zfs) ?_
   refine vv (i := 2) (v := .agg (frcC s1 n1 d1)) rfl rfl rfl (yb_all rfl Tw.kr Tw.m3 Tryz.underlying34 rfl zfs) ?_
   refine vv (i := 1) (v := .bool (rightB s1 n1 d1)) rfl rfl rfl (yb_call (f := 17) (args := #[.agg (frcC s1 n1 d1)]) Tw.kf fun W hW => right_any s1 n1 d1 hn1 hd1 W) ?_
   refine vv (i := 3) (v := .bool (rightB s1 n1 d1)) rfl rfl rfl (yb_call (f := 18) (args := #[.agg (frcC s1 n1 d1)]) Tw.kf fun W hW => rright_any s1 n1 d1 hn1 hd1 W) ?_
   refine vp (i := 4) (v := .bool false) rfl rfl rfl (run_bin rfl (vx := .bool (rightB s1 n1 d1)) (vy := .bool (rightB s1 n1 d1)) Tw.kr Tw.kr fun w => bb_neq w) ?_
   refine vm (i := 5) (v := .bool false) rfl rfl rfl ?_
   refine vv (i := 6) (v := .agg (frcC sv26 nv26 dv26)) rfl rfl rfl (yb_all rfl Tw.kr Tw.m1 Tryz.underlying25 rfl zfs) ?_
   refine vm (i := 7) (v := .int .i64 ev26) rfl rfl rfl ?_
   refine vv (i := 8) (v := .agg (frcC sv26 nv26 dv26)) rfl rfl rfl (yb_all rfl Tw.kr Tw.m0 Tryz.underlying34 rfl zfs) ?_
   refine vm (i := 9) (v := .int .i64 ev26) rfl rfl rfl ?_
   refine vv (i := 10) (v := .bool true) rfl rfl rfl (yb_call (f := 19) (args := #[.agg (frcC sv26 nv26 dv26), .int .i64 ev26, .agg (frcC sv26 nv26 dv26), .int .i64 ev26]) Tw.kf fun W hW => pair_same sv26 nv26 dv26 ev26 ln26 ld26 W) ?_
   refine vm (i := 11) (v := .bool false) rfl rfl rfl ?_
   refine vm (i := 12) (v := .bool false) rfl rfl rfl ?_
   refine wpV_done Tw.kr (fun W13 hW13 => ?_) _
   change Code.wp ..
   refine wp_cond_false rfl ?_
   refine wp_skip ?_
   change Code.wp ..
   refine wp_seq ?_
   refine wp_region_L _ hW13 ?_
   refine Tw.lv (v := .agg (frcC s1 n1 d1)) rfl rfl (yb_all rfl Tw.kr Tw.m5 Tryz.underlying25 rfl zfs) ?_
   refine Tw.lv (v := .agg (frcC s2 n2 d2)) rfl rfl (yb_all rfl Tw.kr Tw.m4 Tryz.underlying25 rfl zfs) ?_
   obtain ⟨sv31, nv31, dv31, ev31, hpv31, ln31, ld31⟩ : ∃ s n d e, (if (rightB s1 n1 d1 && rightB s2 n2 d2) = true then addV s1 n1 d1 (!s2) n2 d2 else argV) = .tuple #[.agg (frcC s n d), .int .i64 e] ∧ n < R 8 ∧ d < R 8 := if_shape8
   refine Tw.lv (v := .tuple #[.agg (frcC sv31 nv31 dv31), .int .i64 ev31]) rfl rfl (yb_call (f := 20) (args := #[.agg (frcC s1 n1 d1), .agg (frcC s2 n2 d2)]) Tw.kf fun W hW => (by have h := Sub_any s1 s2 n1 d1 n2 d2 hn1 hd1 hn2 hd2 W; rw [hpv31] at h; exact h)) ?_
   refine Tw.mm (.tuple #[.agg (frcC sv31 nv31 dv31), .int .i64 ev31]) ?_
   refine Tw.mm (.agg (frcC sv31 nv31 dv31)) ?_
   refine Tw.mm (.int .i64 ev31) ?_
   refine wpL_s [(g29, .cells (frcC sv26 nv26 dv26) 34 (0, 0)), (g27, .cells (frcC sv31 nv31 dv31) 25 (0, 0)), (ga5, .cells (frcC s2 n2 d2) 34 (0, 0)), (ga4, .cells (frcC s1 n1 d1) 34 (0, 0)), (g2, .cells (frcC s2 n2 d2) 25 (0, 0)), (g1, .cells (frcC s1 n1 d1) 25 (0, 0))] rfl rfl (st_all zfz (by exact frc_onec) rfl Tw.kr Tw.kr Tw.m1 Bg27 zfs (List.forall_mem_cons.2 ⟨.inr ⟨Tw.m0, Tw.nee⟩, (List.forall_mem_cons.2 ⟨.inl rfl, (List.forall_mem_cons.2 ⟨.inr ⟨Tw.m2, Tw.nee⟩, (List.forall_mem_cons.2 ⟨.inr ⟨Tw.m3, Tw.nee⟩, (List.forall_mem_cons.2 ⟨.inr ⟨Tw.m4, Tw.nee⟩, (List.forall_mem_cons.2 ⟨.inr ⟨Tw.m5, Tw.nee⟩, (List.forall_mem_nil _)⟩)⟩)⟩)⟩)⟩)⟩)) ?_
   refine Tw.mm (.int .i64 ev31) ?_
   refine wpL_done (fun W14 hW14 => ?_)
   change Code.wp ..
   refine wp_seq ?_
   refine wp_region_L _ hW14 ?_
   refine Tw.lv (v := .agg (frcC s1 n1 d1)) rfl rfl (yb_all rfl Tw.kr Tw.m3 Tryz.underlying34 rfl zfs) ?_
   refine Tw.lv (v := .agg (frcC s2 n2 d2)) rfl rfl (yb_all rfl Tw.kr Tw.m2 Tryz.underlying34 rfl zfs) ?_
   refine Tw.lv (v := .tuple #[.agg (frcC sv31 nv31 dv31), .int .i64 ev31]) rfl rfl (yb_call (f := 21) (args := #[.agg (frcC s1 n1 d1), .agg (frcC s2 n2 d2)]) Tw.kf fun W hW => (by have h := RSub_any s1 s2 n1 d1 n2 d2 hn1 hd1 hn2 hd2 W; rw [hpv31] at h; exact h)) ?_
   refine Tw.mm (.tuple #[.agg (frcC sv31 nv31 dv31), .int .i64 ev31]) ?_
   refine Tw.mm (.agg (frcC sv31 nv31 dv31)) ?_
   refine Tw.mm (.int .i64 ev31) ?_
   refine wpL_s [(g29, .cells (frcC sv31 nv31 dv31) 34 (0, 0)), (g27, .cells (frcC sv31 nv31 dv31) 25 (0, 0)), (ga5, .cells (frcC s2 n2 d2) 34 (0, 0)), (ga4, .cells (frcC s1 n1 d1) 34 (0, 0)), (g2, .cells (frcC s2 n2 d2) 25 (0, 0)), (g1, .cells (frcC s1 n1 d1) 25 (0, 0))] rfl rfl (st_all zfz (by exact frc_onec) rfl Tw.kr Tw.kr Tw.m0 Bg29 zfs (List.forall_mem_cons.2 ⟨.inl rfl, (List.forall_mem_cons.2 ⟨.inr ⟨Tw.m1, Tw.nee⟩, (List.forall_mem_cons.2 ⟨.inr ⟨Tw.m2, Tw.nee⟩, (List.forall_mem_cons.2 ⟨.inr ⟨Tw.m3, Tw.nee⟩, (List.forall_mem_cons.2 ⟨.inr ⟨Tw.m4, Tw.nee⟩, (List.forall_mem_cons.2 ⟨.inr ⟨Tw.m5, Tw.nee⟩, (List.forall_mem_nil _)⟩)⟩)⟩)⟩)⟩)⟩)) ?_
   refine Tw.mm (.int .i64 ev31) ?_
   refine wpL_done (fun W15 hW15 => ?_)
   change Code.wp ..
   refine wp_seq ?_
   refine wp_seq ?_
   refine wp_region_L _ hW15 ?_
   refine Tw.lv (v := .agg (frcC sv31 nv31 dv31)) rfl rfl (yb_all rfl Tw.kr Tw.m1 Tryz.underlying25 rfl zfs) ?_
   refine Tw.mm (.int .i64 ev31) ?_
   refine Tw.lv (v := .agg (frcC sv31 nv31 dv31)) rfl rfl (yb_all rfl Tw.kr Tw.m0 Tryz.underlying34 rfl zfs) ?_
   refine Tw.mm (.int .i64 ev31) ?_
   refine Tw.lv (v := .bool true) rfl rfl (yb_call (f := 19) (args := #[.agg (frcC sv31 nv31 dv31), .int .i64 ev31, .agg (frcC sv31 nv31 dv31), .int .i64 ev31]) Tw.kf fun W hW => pair_same sv31 nv31 dv31 ev31 ln31 ld31 W) ?_
   refine Tw.mm (.bool false) ?_
   refine wpL_done (fun W16 hW16 => ?_)
   change Code.wp ..
   refine wp_cond_false rfl ?_
   refine wp_skip ?_
   change Code.wp ..
   refine wp_seq ?_
   refine wp_region_L _ hW16 ?_
   refine Tw.lv (v := .agg (frcC s1 n1 d1)) rfl rfl (yb_all rfl Tw.kr Tw.m5 Tryz.underlying25 rfl zfs) ?_
   refine Tw.lv (v := .agg (frcC s2 n2 d2)) rfl rfl (yb_all rfl Tw.kr Tw.m4 Tryz.underlying25 rfl zfs) ?_
   obtain ⟨sv32, nv32, dv32, ev32, hpv32, ln32, ld32⟩ : ∃ s n d e, (if (rightB s1 n1 d1 && rightB s2 n2 d2) = true then mulV s1 n1 d1 s2 n2 d2 else argV) = .tuple #[.agg (frcC s n d), .int .i64 e] ∧ n < R 8 ∧ d < R 8 := if_shape8
   refine Tw.lv (v := .tuple #[.agg (frcC sv32 nv32 dv32), .int .i64 ev32]) rfl rfl (yb_call (f := 22) (args := #[.agg (frcC s1 n1 d1), .agg (frcC s2 n2 d2)]) Tw.kf fun W hW => (by have h := Mul_any s1 s2 n1 d1 n2 d2 hn1 hd1 hn2 hd2 W; rw [hpv32] at h; exact h)) ?_
   refine Tw.mm (.tuple #[.agg (frcC sv32 nv32 dv32), .int .i64 ev32]) ?_
   refine Tw.mm (.agg (frcC sv32 nv32 dv32)) ?_
   refine Tw.mm (.int .i64 ev32) ?_
   refine wpL_s [(g29, .cells (frcC sv31 nv31 dv31) 34 (0, 0)), (g27, .cells (frcC sv32 nv32 dv32) 25 (0, 0)), (ga5, .cells (frcC s2 n2 d2) 34 (0, 0)), (ga4, .cells (frcC s1 n1 d1) 34 (0, 0)), (g2, .cells (frcC s2 n2 d2) 25 (0, 0)), (g1, .cells (frcC s1 n1 d1) 25 (0, 0))] rfl rfl (st_all zfz (by exact frc_onec) rfl Tw.kr Tw.kr Tw.m1 Bg27 zfs (List.forall_mem_cons.2 ⟨.inr ⟨Tw.m0, Tw.nee⟩, (List.forall_mem_cons.2 ⟨.inl rfl, (List.forall_mem_cons.2 ⟨.inr ⟨Tw.m2, Tw.nee⟩, (List.forall_mem_cons.2 ⟨.inr ⟨Tw.m3, Tw.nee⟩, (List.forall_mem_cons.2 ⟨.inr ⟨Tw.m4, Tw.nee⟩, (List.forall_mem_cons.2 ⟨.inr ⟨Tw.m5, Tw.nee⟩, (List.forall_mem_nil _)⟩)⟩)⟩)⟩)⟩)⟩)) ?_
   refine Tw.mm (.int .i64 ev32) ?_
   refine wpL_done (fun W17 hW17 => ?_)
   change Code.wp ..
   refine wp_seq ?_
   refine wp_region_L _ hW17 ?_
   refine Tw.lv (v := .agg (frcC s1 n1 d1)) rfl rfl (yb_all rfl Tw.kr Tw.m3 Tryz.underlying34 rfl zfs) ?_
   refine Tw.lv (v := .agg (frcC s2 n2 d2)) rfl rfl (yb_all rfl Tw.kr Tw.m2 Tryz.underlying34 rfl zfs) ?_
   refine Tw.lv (v := .tuple #[.agg (frcC sv32 nv32 dv32), .int .i64 ev32]) rfl rfl (yb_call (f := 23) (args := #[.agg (frcC s1 n1 d1), .agg (frcC s2 n2 d2)]) Tw.kf fun W hW => (by have h := RMul_any s1 s2 n1 d1 n2 d2 hn1 hd1 hn2 hd2 W; rw [hpv32] at h; exact h)) ?_
   refine Tw.mm (.tuple #[.agg (frcC sv32 nv32 dv32), .int .i64 ev32]) ?_
   refine Tw.mm (.agg (frcC sv32 nv32 dv32)) ?_
   refine Tw.mm (.int .i64 ev32) ?_
   refine wpL_s [(g29, .cells (frcC sv32 nv32 dv32) 34 (0, 0)), (g27, .cells (frcC sv32 nv32 dv32) 25 (0, 0)), (ga5, .cells (frcC s2 n2 d2) 34 (0, 0)), (ga4, .cells (frcC s1 n1 d1) 34 (0, 0)), (g2, .cells (frcC s2 n2 d2) 25 (0, 0)), (g1, .cells (frcC s1 n1 d1) 25 (0, 0))] rfl rfl (st_all zfz (by exact frc_onec) rfl Tw.kr Tw.kr Tw.m0 Bg29 zfs (List.forall_mem_cons.2 ⟨.inl rfl, (List.forall_mem_cons.2 ⟨.inr ⟨Tw.m1, Tw.nee⟩, (List.forall_mem_cons.2 ⟨.inr ⟨Tw.m2, Tw.nee⟩, (List.forall_mem_cons.2 ⟨.inr ⟨Tw.m3, Tw.nee⟩, (List.forall_mem_cons.2 ⟨.inr ⟨Tw.m4, Tw.nee⟩, (List.forall_mem_cons.2 ⟨.inr ⟨Tw.m5, Tw.nee⟩, (List.forall_mem_nil _)⟩)⟩)⟩)⟩)⟩)⟩)) ?_
   refine Tw.mm (.int .i64 ev32) ?_
   refine wpL_done (fun W18 hW18 => ?_)
   change Code.wp ..
   refine wp_seq ?_
   refine wp_seq ?_
   refine wp_region_L _ hW18 ?_
   refine Tw.lv (v := .agg (frcC sv32 nv32 dv32)) rfl rfl (yb_all rfl Tw.kr Tw.m1 Tryz.underlying25 rfl zfs) ?_
   refine Tw.mm (.int .i64 ev32) ?_
   refine Tw.lv (v := .agg (frcC sv32 nv32 dv32)) rfl rfl (yb_all rfl Tw.kr Tw.m0 Tryz.underlying34 rfl zfs) ?_
   refine Tw.mm (.int .i64 ev32) ?_
   refine Tw.lv (v := .bool true) rfl rfl (yb_call (f := 19) (args := #[.agg (frcC sv32 nv32 dv32), .int .i64 ev32, .agg (frcC sv32 nv32 dv32), .int .i64 ev32]) Tw.kf fun W hW => pair_same sv32 nv32 dv32 ev32 ln32 ld32 W) ?_
   refine Tw.mm (.bool false) ?_
   refine wpL_done (fun W19 hW19 => ?_)
   change Code.wp ..
   refine wp_cond_false rfl ?_
   refine wp_skip ?_
   change Code.wp ..
   refine wp_seq ?_
   refine wp_region_L _ hW19 ?_
   refine Tw.lv (v := .agg (frcC s1 n1 d1)) rfl rfl (yb_all rfl Tw.kr Tw.m5 Tryz.underlying25 rfl zfs) ?_
   refine Tw.lv (v := .agg (frcC s2 n2 d2)) rfl rfl (yb_all rfl Tw.kr Tw.m4 Tryz.underlying25 rfl zfs) ?_
   obtain ⟨sv33, nv33, dv33, ev33, hpv33, ln33, ld33⟩ : ∃ s n d e, (if rightB s1 n1 d1 = true ∧ rightB s2 n2 d2 = true ∧ n2 ≠ 0 then mulV s1 n1 d1 s2 d2 n2 else argV) = .tuple #[.agg (frcC s n d), .int .i64 e] ∧ n < R 8 ∧ d < R 8 := if_shape8
   refine Tw.lv (v := .tuple #[.agg (frcC sv33 nv33 dv33), .int .i64 ev33]) rfl rfl (yb_call (f := 24) (args := #[.agg (frcC s1 n1 d1), .agg (frcC s2 n2 d2)]) Tw.kf fun W hW => (by have h := Div_any s1 s2 n1 d1 n2 d2 hn1 hd1 hn2 hd2 W; rw [hpv33] at h; exact h)) ?_
   refine Tw.mm (.tuple #[.agg (frcC sv33 nv33 dv33), .int .i64 ev33]) ?_
   refine Tw.mm (.agg (frcC sv33 nv33 dv33)) ?_
   refine Tw.mm (.int .i64 ev33) ?_
   refine wpL_s [(g29, .cells (frcC sv32 nv32 dv32) 34 (0, 0)), (g27, .cells (frcC sv33 nv33 dv33) 25 (0, 0)), (ga5, .cells (frcC s2 n2 d2) 34 (0, 0)), (ga4, .cells (frcC s1 n1 d1) 34 (0, 0)), (g2, .cells (frcC s2 n2 d2) 25 (0, 0)), (g1, .cells (frcC s1 n1 d1) 25 (0, 0))] rfl rfl (st_all zfz (by exact frc_onec) rfl Tw.kr Tw.kr Tw.m1 Bg27 zfs (List.forall_mem_cons.2 ⟨.inr ⟨Tw.m0, Tw.nee⟩, (List.forall_mem_cons.2 ⟨.inl rfl, (List.forall_mem_cons.2 ⟨.inr ⟨Tw.m2, Tw.nee⟩, (List.forall_mem_cons.2 ⟨.inr ⟨Tw.m3, Tw.nee⟩, (List.forall_mem_cons.2 ⟨.inr ⟨Tw.m4, Tw.nee⟩, (List.forall_mem_cons.2 ⟨.inr ⟨Tw.m5, Tw.nee⟩, (List.forall_mem_nil _)⟩)⟩)⟩)⟩)⟩)⟩)) ?_
   refine Tw.mm (.int .i64 ev33) ?_
   refine wpL_done (fun W20 hW20 => ?_)
   change Code.wp ..
   refine wp_seq ?_
   refine wp_region_L _ hW20 ?_
   refine Tw.lv (v := .agg (frcC s1 n1 d1)) rfl rfl (yb_all rfl Tw.kr Tw.m3 Tryz.underlying34 rfl zfs) ?_
   refine Tw.lv (v := .agg (frcC s2 n2 d2)) rfl rfl (yb_all rfl Tw.kr Tw.m2 Tryz.underlying34 rfl zfs) ?_
   refine Tw.lv (v := .tuple #[.agg (frcC sv33 nv33 dv33), .int .i64 ev33]) rfl rfl (yb_call (f := 25) (args := #[.agg (frcC s1 n1 d1), .agg (frcC s2 n2 d2)]) Tw.kf fun W hW => (by have h := RDiv_any s1 s2 n1 d1 n2 d2 hn1 hd1 hn2 hd2 W; rw [hpv33] at h; exact h)) ?_
   refine Tw.mm (.tuple #[.agg (frcC sv33 nv33 dv33), .int .i64 ev33]) ?_
   refine Tw.mm (.agg (frcC sv33 nv33 dv33)) ?_
   refine Tw.mm (.int .i64 ev33) ?_
   refine wpL_s [(g29, .cells (frcC sv33 nv33 dv33) 34 (0, 0)), (g27, .cells (frcC sv33 nv33 dv33) 25 (0, 0)), (ga5, .cells (frcC s2 n2 d2) 34 (0, 0)), (ga4, .cells (frcC s1 n1 d1) 34 (0, 0)), (g2, .cells (frcC s2 n2 d2) 25 (0, 0)), (g1, .cells (frcC s1 n1 d1) 25 (0, 0))] rfl rfl (st_all zfz (by exact frc_onec) rfl Tw.kr Tw.kr Tw.m0 Bg29 zfs (List.forall_mem_cons.2 ⟨.inl rfl, (List.forall_mem_cons.2 ⟨.inr ⟨Tw.m1, Tw.nee⟩, (List.forall_mem_cons.2 ⟨.inr ⟨Tw.m2, Tw.nee⟩, (List.forall_mem_cons.2 ⟨.inr ⟨Tw.m3, Tw.nee⟩, (List.forall_mem_cons.2 ⟨.inr ⟨Tw.m4, Tw.nee⟩, (List.forall_mem_cons.2 ⟨.inr ⟨Tw.m5, Tw.nee⟩, (List.forall_mem_nil _)⟩)⟩)⟩)⟩)⟩)⟩)) ?_
   refine Tw.mm (.int .i64 ev33) ?_
   refine wpL_done (fun W21 hW21 => ?_)
   change Code.wp ..
   refine wp_seq ?_
   refine wp_seq ?_
   refine wp_region_L _ hW21 ?_
   refine Tw.lv (v := .agg (frcC sv33 nv33 dv33)) rfl rfl (yb_all rfl Tw.kr Tw.m1 Tryz.underlying25 rfl zfs) ?_
   refine Tw.mm (.int .i64 ev33) ?_
   refine Tw.lv (v := .agg (frcC sv33 nv33 dv33)) rfl rfl (yb_all rfl Tw.kr Tw.m0 Tryz.underlying34 rfl zfs) ?_
   refine Tw.mm (.int .i64 ev33) ?_
   refine Tw.lv (v := .bool true) rfl rfl (yb_call (f := 19) (args := #[.agg (frcC sv33 nv33 dv33), .int .i64 ev33, .agg (frcC sv33 nv33 dv33), .int .i64 ev33]) Tw.kf fun W hW => pair_same sv33 nv33 dv33 ev33 ln33 ld33 W) ?_
   refine Tw.mm (.bool false) ?_
   refine wpL_done (fun W22 hW22 => ?_)
   change Code.wp ..
   refine wp_cond_false rfl ?_
   refine wp_skip ?_
   change Code.wp ..
   refine wp_seq ?_
   refine wp_region_L _ hW22 ?_
   refine Tw.lv (v := .agg (frcC s1 n1 d1)) rfl rfl (yb_all rfl Tw.kr Tw.m5 Tryz.underlying25 rfl zfs) ?_
   refine Tw.lv (v := .agg (frcC s2 n2 d2)) rfl rfl (yb_all rfl Tw.kr Tw.m4 Tryz.underlying25 rfl zfs) ?_
   obtain ⟨xv34, ev34, hpv34⟩ := cmp_shape (c := rightB s1 n1 d1 = true ∧ rightB s2 n2 d2 = true) (a := cmpI s1 n1 d1 s2 n2 d2)
   refine Tw.lv (v := .tuple #[.int .i64 xv34, .int .i64 ev34]) rfl rfl (yb_call (f := 26) (args := #[.agg (frcC s1 n1 d1), .agg (frcC s2 n2 d2)]) Tw.kf fun W hW => (by have h := Cmp_any s1 s2 n1 d1 n2 d2 hn1 hd1 hn2 hd2 W; rw [hpv34] at h; exact h)) ?_
   refine Tw.mm (.tuple #[.int .i64 xv34, .int .i64 ev34]) ?_
   refine Tw.mm (.int .i64 xv34) ?_
   refine Tw.mm (.int .i64 ev34) ?_
   refine Tw.mm (.int .i64 xv34) ?_
   refine Tw.mm (.int .i64 ev34) ?_
   refine wpL_done (fun W23 hW23 => ?_)
   change Code.wp ..
   refine wp_seq ?_
   refine wp_region_L _ hW23 ?_
   refine Tw.lv (v := .agg (frcC s1 n1 d1)) rfl rfl (yb_all rfl Tw.kr Tw.m3 Tryz.underlying34 rfl zfs) ?_
   refine Tw.lv (v := .agg (frcC s2 n2 d2)) rfl rfl (yb_all rfl Tw.kr Tw.m2 Tryz.underlying34 rfl zfs) ?_
   refine Tw.lv (v := .tuple #[.int .i64 xv34, .int .i64 ev34]) rfl rfl (yb_call (f := 27) (args := #[.agg (frcC s1 n1 d1), .agg (frcC s2 n2 d2)]) Tw.kf fun W hW => (by have h := RCmp_any s1 s2 n1 d1 n2 d2 hn1 hd1 hn2 hd2 W; rw [hpv34] at h; exact h)) ?_
   refine Tw.mm (.tuple #[.int .i64 xv34, .int .i64 ev34]) ?_
   refine Tw.mm (.int .i64 xv34) ?_
   refine Tw.mm (.int .i64 ev34) ?_
   refine Tw.mm (.int .i64 xv34) ?_
   refine Tw.mm (.int .i64 ev34) ?_
   refine wpL_done (fun W24 hW24 => ?_)
   change Code.wp ..
   refine wp_seq ?_
   refine wp_region_L _ hW24 ?_
   refine Tw.lv (v := .agg (frcC s1 n1 d1)) rfl rfl (yb_all rfl Tw.kr Tw.m5 Tryz.underlying25 rfl zfs) ?_
   obtain ⟨xv35, ev35, hpv35⟩ := floor_shape (s := s1) (n := n1) (d := d1)
   refine Tw.lv (v := .tuple #[.int .i64 xv35, .int .i64 ev35]) rfl rfl (yb_call (f := 28) (args := #[.agg (frcC s1 n1 d1)]) Tw.kf fun W hW => (by have h := floor_any s1 n1 d1 hn1 hd1 W; rw [hpv35] at h; exact h)) ?_
   refine Tw.mm (.tuple #[.int .i64 xv35, .int .i64 ev35]) ?_
   refine Tw.mm (.int .i64 xv35) ?_
   refine Tw.mm (.int .i64 ev35) ?_
   refine Tw.mm (.int .i64 xv35) ?_
   refine Tw.mm (.int .i64 ev35) ?_
   refine wpL_done (fun W25 hW25 => ?_)
   change Code.wp ..
   refine wp_seq ?_
   refine wp_region_L _ hW25 ?_
   refine Tw.lv (v := .agg (frcC s1 n1 d1)) rfl rfl (yb_all rfl Tw.kr Tw.m3 Tryz.underlying34 rfl zfs) ?_
   refine Tw.lv (v := .tuple #[.int .i64 xv35, .int .i64 ev35]) rfl rfl (yb_call (f := 29) (args := #[.agg (frcC s1 n1 d1)]) Tw.kf fun W hW => (by have h := RFloor_any s1 n1 d1 hn1 hd1 W; rw [hpv35] at h; exact h)) ?_
   refine Tw.mm (.tuple #[.int .i64 xv35, .int .i64 ev35]) ?_
   refine Tw.mm (.int .i64 xv35) ?_
   refine Tw.mm (.int .i64 ev35) ?_
   refine Tw.mm (.int .i64 xv35) ?_
   refine Tw.mm (.int .i64 ev35) ?_
   refine wpL_done (fun W26 hW26 => ?_)
   change Code.wp ..
   refine wp_seq ?_
   refine wp_region_L _ hW26 ?_
   refine Tw.lv (v := .agg (frcC s1 n1 d1)) rfl rfl (yb_all rfl Tw.kr Tw.m5 Tryz.underlying25 rfl zfs) ?_
   obtain ⟨xv36, ev36, hpv36⟩ := text_shape (s := s1) (n := n1) (d := d1)
   refine Tw.lv (v := .tuple #[strV xv36, .int .i64 ev36]) rfl rfl (yb_call (f := 30) (args := #[.agg (frcC s1 n1 d1)]) Tw.kf fun W hW => (by have h := ltext_any s1 n1 d1 hn1 hd1 W (HE.out.keep hW.1); rw [hpv36] at h; exact h)) ?_
   refine Tw.mm (.tuple #[strV xv36, .int .i64 ev36]) ?_
   refine Tw.mm (strV xv36) ?_
   refine Tw.mm (.int .i64 ev36) ?_
   refine Tw.mm (strV xv36) ?_
   refine Tw.mm (.int .i64 ev36) ?_
   refine wpL_done (fun W27 hW27 => ?_)
   change Code.wp ..
   refine wp_seq ?_
   refine wp_region_L _ hW27 ?_
   refine Tw.lv (v := .agg (frcC s1 n1 d1)) rfl rfl (yb_all rfl Tw.kr Tw.m3 Tryz.underlying34 rfl zfs) ?_
   refine Tw.lv (v := .tuple #[strV xv36, .int .i64 ev36]) rfl rfl (yb_call (f := 31) (args := #[.agg (frcC s1 n1 d1)]) Tw.kf fun W hW => (by have h := RText_any s1 n1 d1 hn1 hd1 W; rw [hpv36] at h; exact h)) ?_
   refine Tw.mm (.tuple #[strV xv36, .int .i64 ev36]) ?_
   refine Tw.mm (strV xv36) ?_
   refine Tw.mm (.int .i64 ev36) ?_
   refine Tw.mm (strV xv36) ?_
   refine Tw.mm (.int .i64 ev36) ?_
   refine wpL_done (fun W28 hW28 => ?_)
   change Code.wp ..
   refine wp_seq ?_
   refine wp_region_L _ hW28 ?_
   refine Tw.mm (.int .i64 xv34) ?_
   refine Tw.mm (.int .i64 xv34) ?_
   refine Tw.lp (v := .bool true) rfl rfl (run_bin rfl (vx := (.int .i64 xv34)) (vy := (.int .i64 xv34)) Tw.kr Tw.kr fun w => bi_eql (decide_eq_true rfl) w) ?_
   refine Tw.mm (.bool true) ?_
   refine Tw.mm (.int .i64 ev34) ?_
   refine Tw.mm (.int .i64 ev34) ?_
   refine Tw.lp (v := .bool true) rfl rfl (run_bin rfl (vx := (.int .i64 ev34)) (vy := (.int .i64 ev34)) Tw.kr Tw.kr fun w => bi_eql (decide_eq_true rfl) w) ?_
   refine Tw.mm (.bool true) ?_
   refine Tw.mm (.bool true) ?_
   refine Tw.mm (.int .i64 xv35) ?_
   refine Tw.mm (.int .i64 xv35) ?_
   refine Tw.lp (v := .bool true) rfl rfl (run_bin rfl (vx := (.int .i64 xv35)) (vy := (.int .i64 xv35)) Tw.kr Tw.kr fun w => bi_eql (decide_eq_true rfl) w) ?_
   refine Tw.mm (.bool true) ?_
   refine Tw.mm (.bool true) ?_
   refine Tw.mm (.int .i64 ev35) ?_
   refine Tw.mm (.int .i64 ev35) ?_
   refine Tw.lp (v := .bool true) rfl rfl (run_bin rfl (vx := (.int .i64 ev35)) (vy := (.int .i64 ev35)) Tw.kr Tw.kr fun w => bi_eql (decide_eq_true rfl) w) ?_
   refine Tw.mm (.bool true) ?_
   refine Tw.mm (.bool true) ?_
   refine Tw.mm (strV xv36) ?_
   refine Tw.mm (strV xv36) ?_
   refine Tw.lp (v := .bool true) rfl rfl (run_bin rfl (vx := strV xv36) (vy := strV xv36) Tw.kr Tw.kr fun w => bs_eql (decide_eq_true rfl) w) ?_
   refine Tw.mm (.bool true) ?_
   refine Tw.mm (.bool true) ?_
   refine Tw.mm (.int .i64 ev36) ?_
   refine Tw.mm (.int .i64 ev36) ?_
   refine Tw.lp (v := .bool true) rfl rfl (run_bin rfl (vx := (.int .i64 ev36)) (vy := (.int .i64 ev36)) Tw.kr Tw.kr fun w => bi_eql (decide_eq_true rfl) w) ?_
   refine Tw.mm (.bool true) ?_
   refine Tw.mm (.bool true) ?_
   refine wpL_done (fun W29 hW29 => ?_)
   change Code.wp ..
   refine wp_ret ?_
   try simp only [inBlock_ret, then_ret]
   refine bodyPost_ret (v := .bool true) ?_ rfl ?_
   · kernel_rfl
   · exact ⟨rfl, hW29.1⟩
end Go.Proofs.YtalmflgkbmnghaaGreatDoor
namespace Go.Proofs.YtalmflgkbmnghaaGreatDoor
open Go Go.RowKit Tw
open Tf (dg R R_pos R_le R_succ dg_of_lt setd setd_eq)
abbrev Fr := Bool × Nat × Nat
def frOk (x : Fr) : Prop := x.2.1 < R 8 ∧ x.2.2 < R 8
def fv (x : Fr) : List Value := (frcC x.1 x.2.1 x.2.2).toList
def fcs (l : List Fr) : List Value := l.flatMap fv
theorem fv_len (x : Fr) : (fv x).length = 17 := by simp [fv, frcC]
theorem fcs_len (l : List Fr) : (fcs l).length = l.length * 17 := by
 induction l with
 | nil => rfl
 | cons x r ih => simp only [fcs, List.flatMap_cons, List.length_append] at ih ⊢; rw [ih, fv_len, List.length_cons, Nat.add_mul]; omega
theorem fcs_app (l m : List Fr) : fcs (l ++ m) = fcs l ++ fcs m := by simp [fcs]
theorem fcs_snoc (l : List Fr) (s : Bool) (n d : Nat) : fcs (l ++ [(s, n, d)]) = fcs l ++ (frcC s n d).toList := by simp [fcs, fv]
theorem fcs_one (l : List Fr) : ∀ u ∈ fcs l, u.oneCell' = true := by
 intro u hu
 obtain ⟨x, _, hx⟩ := List.mem_flatMap.1 hu
 exact frc_onec u hx
theorem fcs_get {l : List Fr} {i : Nat} {x : Fr} (h : l[i]? = some x) {j : Nat} {v : Value} (hv : (fv x)[j]? = some v) : (fcs l)[i * 17 + j]? = some v := by
 have hj := (List.getElem?_eq_some_iff.1 hv).1
 induction l generalizing i with
 | nil => simp at h
 | cons y r ih =>
   have e : fcs (y :: r) = fv y ++ fcs r := by simp only [fcs, List.flatMap_cons]
   rw [e]
   cases i with
   | zero =>
     simp only [List.getElem?_cons_zero, Option.some.injEq] at h
     subst h
     rw [Nat.zero_mul, Nat.zero_add, List.getElem?_append_left hj]
     exact hv
   | succ i =>
     simp only [List.getElem?_cons_succ] at h
     rw [List.getElem?_append_right (by rw [fv_len]; omega), fv_len, show (i + 1) * 17 + j - 17 = i * 17 + j from by omega]
     exact ih h
def FS (W0 : Base) (p : Option Addr) (l : List Fr) (T : List (Nat × Obj)) : Prop := ∀ W, KS W0 T W → SLV W p (fcs l)
section
variable {W0 : Base} {T K : List (Nat × Obj)} {p : Option Addr} {l : List Fr}
theorem FS.mono (h : FS W0 p l T) (hs : ∀ q ∈ T, q ∈ K) : FS W0 p l K := fun W hW => h W (hW.sub hs)
theorem FS.base {W : World} (h : SLV W p (fcs l)) : FS (W : Base) p l [] := fun _ hW => h.keep hW.1
theorem fcs_ne {k : Nat} (hk : k < l.length) : fcs l ≠ [] := fun e => by have := fcs_len l; rw [e] at this; simp at this; omega
theorem FS.at {W : World} {k : Nat} (h : FS W0 p l T) (hW : KS W0 T W) (hk : k < l.length) : ∃ b off, p = some ⟨b, off, none⟩ ∧ ∀ W, KS W0 T W → ∀ (i : Nat) (x : Fr), l[i]? = some x → ∀ (j : Nat) (v : Value), (fv x)[j]? = some v → W.cell? ⟨b, off + i * 17 + j, none⟩ = some v := by
 rcases h W hW with h0 | ⟨b, off, rfl, _, _⟩
 · exact absurd h0 (fcs_ne hk)
 · refine ⟨b, off, rfl, fun W2 hW2 i x hx j v hv => ?_⟩
   rcases h W2 hW2 with h0 | ⟨b', off', he, _, hc⟩
   · exact absurd h0 (fcs_ne hk)
   · cases he
     rw [Nat.add_assoc]
     exact hc _ _ (fcs_get hx hv)
theorem own_fs {E : TypeId} {v : Value} {n : Nat} (h : OwnL W0 E 17 v n (fcs l) T) : ∃ p c, v = .slice p n c ∧ n ≤ c ∧ FS W0 p l T := by
 rcases h with ⟨rfl, h2, rfl, rfl⟩ | ⟨g, cap, cur, rfl, hB, hR, rfl⟩
 · exact ⟨none, 0, rfl, Nat.le_refl _, fun _ _ => .inl h2⟩
 · refine ⟨_, cap, rfl, hR.2.2.1, fun W hW => ?_⟩
   have hb := hW.2 _ Tw.m0
   exact .inr ⟨g, 0, rfl, lt_of_block hb, hR.cel hb⟩
theorem own_none {E : TypeId} {g : Nat} (hB : W0.B ≤ g) : OwnL W0 E 17 (.slice (some ⟨g, 0, none⟩) 0 0) 0 (fcs []) [(g, .cells #[] E (0, 0))] :=
 .inr ⟨g, 0, _, rfl, hB, ⟨by simp, by unfold maxLen; omega, Nat.le_refl _, rfl, rfl⟩, rfl⟩
end
section
variable {P : Program} {T E : TypeId} {W0 : Base}
theorem src_fs {K : List (Nat × Obj)} {U : TypeId} {p : Option Addr} {l : List Fr} {m c : Nat} (hU : P.underlying U = some (.slice E)) (h : FS W0 p l K) (hm : m = l.length) : ∀ w, KS W0 K w → Src P 17 U (.slice p m c) m (fcs l) w := by
 intro w hw
 subst hm
 rcases h w hw with h0 | ⟨b, off, rfl, hlt, hc⟩
 · have hl : l = [] := by
     have := fcs_len l; rw [h0] at this; exact List.eq_nil_of_length_eq_zero (by simp at this; omega)
   subst hl
   cases p with
   | none => exact Src.ofNil w hU c
   | some ad => exact Src.ofSlice w hU ad 0 c [] (by simp) (fun j u h => by simp at h) (fun u hu => by cases hu)
 · exact Src.ofSlice w hU ⟨b, off, none⟩ l.length c (fcs l) (by simp [fcs_len]) (fun j u hj => by rw [addr_add]; exact hc j u hj) (fcs_one l)
theorem yb_fr {o : Oper} {a : Act} {K : List (Nat × Obj)} {ty : TypeId} {x : Operand} {g off : Nat} {s : Bool} {n d : Nat} {D : TypeDesc} (ho : o.op = .load ty x) (hx : a.eval x = .pointer (some ⟨g, off, none⟩))
   (hc0 : ∀ w, KS W0 K w → ∀ (j : Nat) (v : Value), (fv (s, n, d))[j]? = some v → w.cell? ⟨g, off + j, none⟩ = some v) (hu : P.underlying ty = some D) (hd : aggD D = true) (hi : (P.info? ty).map (·.size) = some 17) :
   ∀ w, KS W0 K w → ∀ K' : Act → World → Prop, (∀ w', Below w.heap.size w w' → K' (a.put o.dst (.agg (frcC s n d))) w') → Oper.wp P o a w K' (fun _ _ _ => False) := by
 intro w hw K' hk
 have hr := run_loadVar_list (P := P) (ty := ty) (cs := fv (s, n, d)) (g := g) (off := off) w (fun j v hj => hc0 w hw j v hj) hu hd (by rw [fv_len]; exact hi)
 have e : (fv (s, n, d)).toArray = frcC s n d := by unfold fv; simp only [Array.toArray_toList]
 rw [e] at hr
 unfold Oper.wp execOp
 simp only [ho, hx, Instr.loadAt, Instr.sureAddr, Sem.run_bind, Sem.run_pure, Result.andThen_ok, hr]
 exact hk w (Below.refl _ _)
end
def addF (x y : Fr) : Option Fr :=
 let N := psN x.1 y.1 (x.2.1 * (y.2.2 / Nat.gcd x.2.2 y.2.2)) (y.2.1 * (x.2.2 / Nat.gcd x.2.2 y.2.2))
 let S := psS x.1 y.1 (x.2.1 * (y.2.2 / Nat.gcd x.2.2 y.2.2)) (y.2.1 * (x.2.2 / Nat.gcd x.2.2 y.2.2))
 let n := N / Nat.gcd N (Nat.gcd x.2.2 y.2.2)
 let d := x.2.2 / Nat.gcd x.2.2 y.2.2 * (y.2.2 / Nat.gcd N (Nat.gcd x.2.2 y.2.2))
 if n < R 8 ∧ d < R 8 then some (S && decide (n ≠ 0), n, d) else none
section
variable [ShLZ]
theorem add_cases (s1 : Bool) (n1 d1 : Nat) (s2 : Bool) (n2 d2 : Nat) : ∃ s n d e, addV s1 n1 d1 s2 n2 d2 = .tuple #[.agg (frcC s n d), .int .i64 e] ∧ n < R 8 ∧ d < R 8 ∧ ((e = 0 ∧ addF (s1, n1, d1) (s2, n2, d2) = some (s, n, d)) ∨ (e = 3 ∧ addF (s1, n1, d1) (s2, n2, d2) = none)) := by
 unfold addV packV addF
 simp only
 split
 · rename_i h
   exact ⟨_, _, _, _, rfl, h.1, h.2, .inl ⟨rfl, rfl⟩⟩
 · exact ⟨_, _, _, _, rfl, R_pos 8, R_pos 8, .inr ⟨rfl, rfl⟩⟩
theorem rat_frc {s s' : Bool} {n n' d d' : Nat} (hn : n < R 8) (hd : d < R 8) (hn' : n' < R 8) (hd' : d' < R 8) (h : frcC s n d = frcC s' n' d') : s = s' ∧ n = n' ∧ d = d' := by
 have h0 : s = s' := by
   have e := congrArg (fun a => a[0]?) h
   simp only [frc_neg, Option.some.injEq, Value.bool.injEq] at e
   exact e
 have h1 : fa 8 (dg n) = fa 8 (dg n') := by rw [frc_num s n d, frc_num s' n' d', h]
 have h2 : fa 8 (dg d) = fa 8 (dg d') := by rw [frc_den s n d, frc_den s' n' d', h]
 have key : ∀ {a b : Nat}, a < R 8 → b < R 8 → fa 8 (dg a) = fa 8 (dg b) → a = b := by
   intro a b ha hb e
   have hi : ∀ i, i < 8 → dg a i = dg b i := by
     intro i hi
     have e2 := congrArg (fun q => q[i]?) e
     simp only [fa_get _ hi, Option.some.injEq, Value.int.injEq, true_and] at e2
     omega
   rw [← Nat.mod_eq_of_lt ha, ← Nat.mod_eq_of_lt hb, ← Tf.va_dg a 8, ← Tf.va_dg b 8]
   simp only [Tf.va, hi 0 Tw.om, hi 1 Tw.om, hi 2 Tw.om, hi 3 Tw.om, hi 4 Tw.om, hi 5 Tw.om, hi 6 Tw.om, hi 7 Tw.om]
 exact ⟨h0, key hn hn' h1, key hd hd' h2⟩
theorem addF_right {x y z : Fr} (hx : rightB x.1 x.2.1 x.2.2 = true) (hy : rightB y.1 y.2.1 y.2.2 = true) (h : addF x y = some z) : rightB z.1 z.2.1 z.2.2 = true ∧ frOk z := by
 obtain ⟨s1, n1, d1⟩ := x
 obtain ⟨s2, n2, d2⟩ := y
 obtain ⟨s, n, d, e, h1, h2, h3, h4⟩ := add_cases s1 n1 d1 s2 n2 d2
 rcases h4 with ⟨rfl, h5⟩ | ⟨_, h5⟩
 · rw [h] at h5
   cases h5
   refine ⟨?_, h2, h3⟩
   obtain ⟨a, _, e2, e3, e4⟩ := right_rat hx
   obtain ⟨b, _, f2, f3, f4⟩ := right_rat hy
   simp only at e2 e3 e4 f2 f3 f4
   have h6 := addV_rat a b
   rw [e2, e3, e4, f2, f3, f4, h1] at h6
   unfold fracV at h6
   split at h6
   · rename_i hf
     simp only [Value.tuple.injEq, Array.mk.injEq, List.cons.injEq, ratV, frc, Value.agg.injEq, and_true] at h6
     obtain ⟨r1, r2, r3⟩ := rat_frc h2 h3 hf.1 hf.2 h6
     show rightB s n d = true
     rw [r1, r2, r3]
     exact rat_right _
   · simp at h6
 · rw [h] at h5; cases h5
def sumO : Fr → List Fr → Option Fr
 | a, [] => some a
 | a, x :: r => match addF a x with
   | some z => sumO z r
   | none => none
theorem sumO_some {a x z : Fr} {l : List Fr} {i : Nat} (hx : l[i]? = some x) (h : addF a x = some z) : sumO a (l.drop i) = sumO z (l.drop (i + 1)) := by
 obtain ⟨hi, he⟩ := List.getElem?_eq_some_iff.1 hx
 rw [List.drop_eq_getElem_cons hi, he, sumO, h]
theorem sumO_none {a x : Fr} {l : List Fr} {i : Nat} (hx : l[i]? = some x) (h : addF a x = none) : sumO a (l.drop i) = none := by
 obtain ⟨hi, he⟩ := List.getElem?_eq_some_iff.1 hx
 rw [List.drop_eq_getElem_cons hi, he, sumO, h]
def allR (l : List Fr) : Bool := l.all fun x => rightB x.1 x.2.1 x.2.2
def sumV (l : List Fr) : Value := if allR l = true then (match sumO (false, 0, 1) l with | some z => .tuple #[.agg (frcC z.1 z.2.1 z.2.2), .int .i64 0] | none => .tuple #[.agg (frcC false 0 0), .int .i64 3]) else .tuple #[.agg (frcC false 0 0), .int .i64 2]
theorem sumV_bad {l : List Fr} {i : Nat} {s : Bool} {n d : Nat} (hx : l[i]? = some (s, n, d)) (h : rightB s n d = false) : (Value.tuple #[.agg (frcC false 0 0), .int .i64 2]) = sumV l := by
 unfold sumV
 rw [if_neg]
 intro ha
 have := List.all_eq_true.1 ha _ (List.mem_of_getElem? hx)
 simp only [h] at this
 cases this
theorem sumV_none {l : List Fr} (ha : allR l = true) (h : sumO (false, 0, 1) l = none) : (Value.tuple #[.agg (frcC false 0 0), .int .i64 3]) = sumV l := by
 unfold sumV
 rw [if_pos ha, h]
theorem sumV_some {l : List Fr} {s : Bool} {n d : Nat} (ha : allR l = true) (h : sumO (false, 0, 1) l = some (s, n, d)) : (Value.tuple #[.agg (frcC s n d), .int .i64 0]) = sumV l := by
 unfold sumV
 rw [if_pos ha, h]
theorem allR_take {l : List Fr} {i : Nat} {s : Bool} {n d : Nat} (h : allR (l.take i) = true) (hx : l[i]? = some (s, n, d)) (hr : rightB s n d = true) : allR (l.take (i + 1)) = true := by
 unfold allR at h ⊢
 rw [List.take_add_one, hx, List.all_append, h]
 simp [hr]
theorem allR_at {l : List Fr} {i : Nat} {s : Bool} {n d : Nat} (h : allR l = true) (hx : l[i]? = some (s, n, d)) : rightB s n d = true := List.all_eq_true.1 h _ (List.mem_of_getElem? hx)
theorem sumO_ok : ∀ (l : List Fr) (a z : Fr), rightB a.1 a.2.1 a.2.2 = true → frOk a → allR l = true → sumO a l = some z → frOk z
 | [], a, z, _, ho, _, h => by simp only [sumO, Option.some.injEq] at h; rw [← h]; exact ho
 | x :: r, a, z, hr, ho, ha, h => by
   unfold allR at ha
   simp only [List.all_cons, Bool.and_eq_true] at ha
   unfold sumO at h
   cases hx : addF a x with
   | none => rw [hx] at h; cases h
   | some y =>
     rw [hx] at h
     obtain ⟨h1, h2⟩ := addF_right hr ha.1 hx
     exact sumO_ok r y z h1 h2 ha.2 h
theorem sumV_shape (l : List Fr) : ∃ s n d e, sumV l = .tuple #[.agg (frcC s n d), .int .i64 e] ∧ n < R 8 ∧ d < R 8 := by
 unfold sumV
 split
 · rename_i ha
   cases h : sumO (false, 0, 1) l with
   | none => exact ⟨_, _, _, _, rfl, R_pos 8, R_pos 8⟩
   | some z =>
     have hz := sumO_ok l (false, 0, 1) z (by rfl) ⟨R_pos 8, show 1 < R 8 from lt8 Tw.om⟩ ha h
     exact ⟨_, _, _, _, rfl, hz.1, hz.2⟩
 · exact ⟨_, _, _, _, rfl, R_pos 8, R_pos 8⟩
end
end Go.Proofs.YtalmflgkbmnghaaGreatDoor
namespace Go.Proofs.YtalmflgkbmnghaaGreatDoor
open Go Go.RowKit Tw
open Tf (dg R R_pos R_le R_succ dg_of_lt setd setd_eq)
variable [ShLZ]
theorem el_frc : Elem Tryz.prog 29 25 17 68 (.agg (frcC false 0 0)) := Elem.mk' Tryz.underlying29 Tw.kr rfl
theorem el_rfc : Elem Tryz.prog 57 34 17 68 (.agg (frcC false 0 0)) := Elem.mk' Tryz.underlying57 Tw.kr rfl
theorem prOf0 (W : World) : Calls Tryz.prog 39 #[.int .i64 0] W fun e w' => e = .returned (.agg (frcC false 0 1)) ∧ Below W.heap.size W w' := of_any 0 Tw.om Tw.om W
set_option maxRecDepth 100000 in
set_option maxHeartbeats 20000000 in
theorem psum_any (l : List Fr) (p : Option Addr) (c : Nat) (hl : l.length ≤ 1000000) (hok : ∀ x ∈ l, frOk x) (w : World) (hp : SLV w p (fcs l)) : Calls Tryz.prog 35 #[.slice p l.length c] w fun e w' => e = .returned (sumV l) ∧ Below w.heap.size w w' := by
 have HP : FS (w : Base) p l [] := FS.base hp
 clear hp
 obtain ⟨V, hV⟩ : ∃ V : Value, V = sumV l := ⟨_, rfl⟩
 rw [← hV]
 go_enter Tryz.func35, Tryz.ntmps35
 refine wp_seq ?_
 refine wp_region_L [] (KS.start w) ?_
 refine wpL_new (fun g => .pointer (some ⟨g, 0, none⟩)) (obi := .cells (frcC false 0 0) 25 (0, 0)) rfl rfl Tw.kf Tw.pf fun g1 Bg1 Fg1 => ?_
 refine Tw.mm (.int .i64 0) ?_
 refine wpL_done (fun W1 hW1 => ?_)
 change Code.wp ..
 refine wp_seq ?_
 refine wp_seq ?_
 refine wp_region_L _ hW1 ?_
 refine Tw.mm (.slice p l.length c) ?_
 refine Tw.lp (v := .int .i64 ((l.length : Nat) : Int)) rfl rfl (run_lenL (p := p) (cap := c) (n := l.length) rfl Tryz.underlying29 Tw.kr) ?_
 refine Tw.mm (.int .i64 0) ?_
 refine wpL_done (fun W2 hW2 => ?_)
 change Code.wp ..
 refine wp_block ?_
 go_loopw [13] (fun u13 wr => ∃ (i : Nat), (i ≤ l.length) ∧ (allR (l.take i) = true) ∧ u13 = .int .i64 ((i : Nat) : Int) ∧ KS w [(g1, .cells (frcC false 0 0) 25 (0, 0))] wr) (fun u13 _ => l.length - (intOf u13).toNat)
 case atStart => exact ⟨0, (Nat.zero_le _), rfl, rfl, (hW2.sub Tw.sb)⟩
 case round =>
   obtain ⟨i, hi, hR, rfl, hL3⟩ := hrel
   refine wp_seq ?_
   refine wp_region_L _ hL3 ?_
   refine Tw.lp (v := .bool (decide (i < l.length))) rfl rfl (run_bin rfl (vx := (.int .i64 ((i : Nat) : Int))) (vy := (.int .i64 ((l.length : Nat) : Int))) Tw.kr Tw.kr fun w => bn_lss rfl w) ?_
   refine wpL_done (fun W4 hW4 => ?_)
   change Code.wp ..
   refine wp_seq ?_
   cases hd1 : (decide (i < l.length)) with
   | false =>
     have h1 : ¬ (i < l.length) := of_decide_eq_false hd1
     clear hd1
     refine wp_cond_false rfl ?_
     refine wp_exit ?_
     change Code.wp ..
     refine wp_seq ?_
     refine wp_region_L _ hW4 ?_
     refine Tw.lv (v := .agg (frcC false 0 1)) rfl rfl (yb_call (f := 39) (args := #[.int .i64 0]) Tw.kf fun W hW => prOf0 W) ?_
     refine wpL_new (fun g => .pointer (some ⟨g, 0, none⟩)) (obi := .cells (frcC false 0 0) 25 (0, 0)) rfl rfl Tw.kf Tw.pf fun g2 Bg2 Fg2 => ?_
     obtain dj3_0 : g1 ≠ g2 := Tw.dkf Fg2
     refine wpL_s [(g2, .cells (frcC false 0 1) 25 (0, 0)), (g1, .cells (frcC false 0 0) 25 (0, 0))] rfl rfl (st_all zfz (by exact frc_onec) rfl Tw.kr Tw.kr Tw.m0 Bg2 zfs (List.forall_mem_cons.2 ⟨.inl rfl, (List.forall_mem_cons.2 ⟨.inr ⟨Tw.m1, Tw.nee⟩, (List.forall_mem_nil _)⟩)⟩)) ?_
     refine wpL_done (fun W5 hW5 => ?_)
     change Code.wp ..
     refine wp_seq ?_
     refine wp_seq ?_
     refine wp_region_L _ hW5 ?_
     refine Tw.mm (.slice p l.length c) ?_
     refine Tw.lp (v := .int .i64 ((l.length : Nat) : Int)) rfl rfl (run_lenL (p := p) (cap := c) (n := l.length) rfl Tryz.underlying29 Tw.kr) ?_
     refine Tw.mm (.int .i64 0) ?_
     refine wpL_done (fun W6 hW6 => ?_)
     change Code.wp ..
     refine wp_block ?_
     have hall : allR l = true := by rw [List.take_of_length_le Tw.om] at hR; exact hR
     go_loopw [25] (fun u25 wr => ∃ (i2 : Nat) (sa : Bool) (na da : Nat), (i2 ≤ l.length) ∧ (sumO (false, 0, 1) l = sumO (sa, na, da) (l.drop i2)) ∧ (rightB sa na da = true) ∧ (na < R 8 ∧ da < R 8) ∧ u25 = .int .i64 ((i2 : Nat) : Int) ∧ KS w [(g2, .cells (frcC sa na da) 25 (0, 0)), (g1, .cells (frcC false 0 0) 25 (0, 0))] wr) (fun u25 _ => l.length - (intOf u25).toNat)
     case atStart => exact ⟨0, false, 0, 1, (Nat.zero_le _), (by rw [List.drop_zero]), rfl, ⟨R_pos 8, lt8 Tw.om⟩, rfl, (hW6.sub Tw.sb)⟩
     case round =>
       obtain ⟨i2, sa, na, da, hi2, hsum, har, hao, rfl, hL7⟩ := hrel
       refine wp_seq ?_
       refine wp_region_L _ hL7 ?_
       refine Tw.lp (v := .bool (decide (i2 < l.length))) rfl rfl (run_bin rfl (vx := (.int .i64 ((i2 : Nat) : Int))) (vy := (.int .i64 ((l.length : Nat) : Int))) Tw.kr Tw.kr fun w => bn_lss rfl w) ?_
       refine wpL_done (fun W8 hW8 => ?_)
       change Code.wp ..
       refine wp_seq ?_
       cases hd2 : (decide (i2 < l.length)) with
       | false =>
         have h2 : ¬ (i2 < l.length) := of_decide_eq_false hd2
         clear hd2
         refine wp_cond_false rfl ?_
         refine wp_exit ?_
         change Code.wp ..
         refine wp_seq ?_
         refine wp_region_L _ hW8 ?_
         refine Tw.lv (v := .agg (frcC sa na da)) rfl rfl (yb_all rfl Tw.kr Tw.m0 Tryz.underlying25 rfl zfs) ?_
         refine wpL_s [(g2, .cells (frcC sa na da) 25 (0, 0)), (g1, .cells (frcC sa na da) 25 (0, 0))] rfl rfl (st_all zfz (by exact frc_onec) rfl Tw.kr Tw.kr Tw.m1 Bg1 zfs (List.forall_mem_cons.2 ⟨.inr ⟨Tw.m0, Tw.nee⟩, (List.forall_mem_cons.2 ⟨.inl rfl, (List.forall_mem_nil _)⟩)⟩)) ?_
         refine Tw.mm (.int .i64 0) ?_
         refine wpL_done (fun W9 hW9 => ?_)
         change Code.wp ..
         refine wp_ret ?_
         try simp only [inBlock_ret, then_ret]
         refine bodyPost_ret (v := .tuple #[.agg (frcC sa na da), .int .i64 0]) ?_ rfl ?_
         · exact (res_cell_tmp (p := 2) (q := 3) rfl rfl (hW9.2 _ Tw.m1) Tryz.underlying25 rfl zfs)
         · exact ⟨(ret_v ((sumV_some hall (hsum.trans (by rw [List.drop_of_length_le Tw.om]; rfl))).trans hV.symm)), hW9.1⟩
       | true =>
         have h2 : i2 < l.length := of_decide_eq_true hd2
         clear hd2
         refine wp_cond_true rfl ?_
         refine wp_skip ?_
         change Code.wp ..
         refine wp_seq ?_
         refine wp_block ?_
         refine wp_seq ?_
         refine wp_region_L _ hW8 ?_
         obtain ⟨b4, f4, hp4, hc4⟩ := HP.at (hW8.sub (fun q hq => by cases hq)) (k := i2) Tw.om
         refine Tw.lp (v := .pointer (some ⟨b4, f4 + i2 * 17, none⟩)) rfl rfl (run_idxQ (p := p) (cap := c) (n := l.length) (j := .i64) (k := i2) (sz := 17) rfl Tryz.underlying29 Tw.kr Tw.kr hp4 Tw.kr Tw.om) ?_
         obtain ⟨⟨es5, en5, ed5⟩, hx5⟩ : ∃ x, (l : List Fr)[i2]? = some x := ⟨_, List.getElem?_eq_getElem Tw.om⟩
         have eb5 : en5 < R 8 ∧ ed5 < R 8 := hok _ (List.mem_of_getElem? hx5)
         refine Tw.lv (v := .agg (frcC es5 en5 ed5)) rfl rfl (yb_fr (off := f4 + i2 * 17) rfl Tw.kr (fun W hW j v hv => hc4 W (hW.sub (fun q hq => by cases hq)) i2 _ hx5 j v hv) Tryz.underlying25 rfl Tw.kr) ?_
         refine wpL_new (fun g => .pointer (some ⟨g, 0, none⟩)) (obi := .cells (frcC false 0 0) 25 (0, 0)) rfl rfl Tw.kf Tw.pf fun g6 Bg6 Fg6 => ?_
         obtain ⟨dj7_0, dj7_1⟩ : g2 ≠ g6 ∧ g1 ≠ g6 := Tw.dkf Fg6
         refine wpL_s [(g6, .cells (frcC es5 en5 ed5) 25 (0, 0)), (g2, .cells (frcC sa na da) 25 (0, 0)), (g1, .cells (frcC false 0 0) 25 (0, 0))] rfl rfl (st_all zfz (by exact frc_onec) rfl Tw.kr Tw.kr Tw.m0 Bg6 zfs (List.forall_mem_cons.2 ⟨.inl rfl, (List.forall_mem_cons.2 ⟨.inr ⟨Tw.m1, Tw.nee⟩, (List.forall_mem_cons.2 ⟨.inr ⟨Tw.m2, Tw.nee⟩, (List.forall_mem_nil _)⟩)⟩)⟩)) ?_
         refine wpL_done (fun W10 hW10 => ?_)
         change Code.wp ..
         refine wp_seq ?_
         refine wp_region_L _ hW10 ?_
         refine Tw.lv (v := .agg (frcC sa na da)) rfl rfl (yb_all rfl Tw.kr Tw.m1 Tryz.underlying25 rfl zfs) ?_
         refine Tw.lv (v := .agg (frcC es5 en5 ed5)) rfl rfl (yb_all rfl Tw.kr Tw.m0 Tryz.underlying25 rfl zfs) ?_
         obtain ⟨sv8, nv8, dv8, ev8, hpv8, lnv8, ldv8, hcs8⟩ := add_cases sa na da es5 en5 ed5
         have hxr := allR_at hall hx5
         refine Tw.lv (v := .tuple #[.agg (frcC sv8 nv8 dv8), .int .i64 ev8]) rfl rfl (yb_call (f := 42) (args := #[.agg (frcC sa na da), .agg (frcC es5 en5 ed5)]) Tw.kf fun W hW => (by have h := add_any sa es5 na da en5 ed5 hao.1 hao.2 eb5.1 eb5.2 (right_den har) (right_den hxr) W; rw [hpv8] at h; exact h)) ?_
         refine Tw.mm (.tuple #[.agg (frcC sv8 nv8 dv8), .int .i64 ev8]) ?_
         refine Tw.mm (.agg (frcC sv8 nv8 dv8)) ?_
         refine Tw.mm (.int .i64 ev8) ?_
         refine wpL_new (fun g => .pointer (some ⟨g, 0, none⟩)) (obi := .cells (frcC false 0 0) 25 (0, 0)) rfl rfl Tw.kf Tw.pf fun g9 Bg9 Fg9 => ?_
         obtain ⟨dj10_0, dj10_1, dj10_2⟩ : g6 ≠ g9 ∧ g2 ≠ g9 ∧ g1 ≠ g9 := Tw.dkf Fg9
         refine wpL_s [(g9, .cells (frcC sv8 nv8 dv8) 25 (0, 0)), (g6, .cells (frcC es5 en5 ed5) 25 (0, 0)), (g2, .cells (frcC sa na da) 25 (0, 0)), (g1, .cells (frcC false 0 0) 25 (0, 0))] rfl rfl (st_all zfz (by exact frc_onec) rfl Tw.kr Tw.kr Tw.m0 Bg9 zfs (List.forall_mem_cons.2 ⟨.inl rfl, (List.forall_mem_cons.2 ⟨.inr ⟨Tw.m1, Tw.nee⟩, (List.forall_mem_cons.2 ⟨.inr ⟨Tw.m2, Tw.nee⟩, (List.forall_mem_cons.2 ⟨.inr ⟨Tw.m3, Tw.nee⟩, (List.forall_mem_nil _)⟩)⟩)⟩)⟩)) ?_
         refine Tw.mm (.int .i64 ev8) ?_
         refine wpL_done (fun W11 hW11 => ?_)
         change Code.wp ..
         refine wp_seq ?_
         refine wp_seq ?_
         refine wp_region_L _ hW11 ?_
         refine Tw.mm (.int .i64 ev8) ?_
         refine Tw.lp (v := .bool (!(decide (ev8 = 0)))) rfl rfl (run_bin rfl (vx := (.int .i64 ev8)) (vy := (.int .i64 0)) Tw.kr Tw.kr fun w => bi_neq rfl w) ?_
         refine wpL_done (fun W12 hW12 => ?_)
         change Code.wp ..
         cases hd3 : (decide (ev8 = 0)) with
         | false =>
           have h3 : ¬ (ev8 = 0) := of_decide_eq_false hd3
           clear hd3
           have hz := (hcs8.elim (fun h => absurd h.1 h3) (fun h => h.2))
           have hz3 : ev8 = 3 := hcs8.elim (fun h => absurd h.1 h3) (fun h => h.1)
           refine wp_cond_true rfl ?_
           refine wp_seq ?_
           refine wp_region_L _ hW12 ?_
           refine Tw.mm (.agg (frcC false 0 0)) ?_
           refine Tw.mm (.int .i64 ev8) ?_
           refine wpL_s [(g9, .cells (frcC sv8 nv8 dv8) 25 (0, 0)), (g6, .cells (frcC es5 en5 ed5) 25 (0, 0)), (g2, .cells (frcC sa na da) 25 (0, 0)), (g1, .cells (frcC false 0 0) 25 (0, 0))] rfl rfl (st_all zfz (by exact frc_onec) rfl Tw.kr Tw.kr Tw.m3 Bg1 zfs (List.forall_mem_cons.2 ⟨.inr ⟨Tw.m0, Tw.nee⟩, (List.forall_mem_cons.2 ⟨.inr ⟨Tw.m1, Tw.nee⟩, (List.forall_mem_cons.2 ⟨.inr ⟨Tw.m2, Tw.nee⟩, (List.forall_mem_cons.2 ⟨.inl rfl, (List.forall_mem_nil _)⟩)⟩)⟩)⟩)) ?_
           refine Tw.mm (.int .i64 ev8) ?_
           refine wpL_done (fun W13 hW13 => ?_)
           change Code.wp ..
           refine wp_ret ?_
           try simp only [inBlock_ret, then_ret]
           refine bodyPost_ret (v := .tuple #[.agg (frcC false 0 0), .int .i64 ev8]) ?_ rfl ?_
           · exact (res_cell_tmp (p := 2) (q := 3) rfl rfl (hW13.2 _ Tw.m3) Tryz.underlying25 rfl zfs)
           · exact ⟨(ret_v (by rw [hz3]; exact (sumV_none hall (hsum.trans (sumO_none hx5 hz))).trans hV.symm)), hW13.1⟩
         | true =>
           have h3 : ev8 = 0 := of_decide_eq_true hd3
           clear hd3
           have hz := (hcs8.elim (fun h => h.2) (fun h => absurd h.1 Tw.om))
           refine wp_cond_false rfl ?_
           refine wp_skip ?_
           change Code.wp ..
           refine wp_region_L _ hW12 ?_
           refine Tw.lv (v := .agg (frcC sv8 nv8 dv8)) rfl rfl (yb_all rfl Tw.kr Tw.m0 Tryz.underlying25 rfl zfs) ?_
           refine wpL_s [(g9, .cells (frcC sv8 nv8 dv8) 25 (0, 0)), (g6, .cells (frcC es5 en5 ed5) 25 (0, 0)), (g2, .cells (frcC sv8 nv8 dv8) 25 (0, 0)), (g1, .cells (frcC false 0 0) 25 (0, 0))] rfl rfl (st_all zfz (by exact frc_onec) rfl Tw.kr Tw.kr Tw.m2 Bg2 zfs (List.forall_mem_cons.2 ⟨.inr ⟨Tw.m0, Tw.nee⟩, (List.forall_mem_cons.2 ⟨.inr ⟨Tw.m1, Tw.nee⟩, (List.forall_mem_cons.2 ⟨.inl rfl, (List.forall_mem_cons.2 ⟨.inr ⟨Tw.m3, Tw.nee⟩, (List.forall_mem_nil _)⟩)⟩)⟩)⟩)) ?_
           refine wpL_done (fun W14 hW14 => ?_)
           change Code.wp ..
           refine wp_region_L _ hW14 ?_
           refine Tw.lp (v := .int .i64 (((i2 + 1) : Nat) : Int)) rfl rfl (run_bin rfl (vx := (.int .i64 ((i2 : Nat) : Int))) (vy := (.int .i64 ((1 : Nat) : Int))) Tw.kr Tw.kr fun w => bn_add (z := (i2 + 1)) rfl (wr_i64 Tw.om) w) ?_
           refine Tw.mm (.int .i64 (((i2 + 1) : Nat) : Int)) ?_
           refine wpL_done (fun W15 hW15 => ?_)
           go_roundw
           case rel =>
             repeat apply Exists.intro
             exact ⟨⟨i2 + 1, sv8, nv8, dv8, Tw.om, (hsum.trans (sumO_some hx5 hz)), (addF_right har (allR_at hall hx5) hz).1, (addF_right har (allR_at hall hx5) hz).2, rfl, (hW15.sub Tw.sb)⟩, rfl⟩
           case measure => (show l.length - (intOf (.int .i64 (((i2 + 1) : Nat) : Int))).toNat < l.length - (intOf (.int .i64 ((i2 : Nat) : Int))).toNat); simp only [intOf]; omega
   | true =>
     have h1 : i < l.length := of_decide_eq_true hd1
     clear hd1
     refine wp_cond_true rfl ?_
     refine wp_skip ?_
     change Code.wp ..
     refine wp_seq ?_
     refine wp_block ?_
     refine wp_seq ?_
     refine wp_region_L _ hW4 ?_
     obtain ⟨b11, f11, hp11, hc11⟩ := HP.at (hW4.sub (fun q hq => by cases hq)) (k := i) Tw.om
     refine Tw.lp (v := .pointer (some ⟨b11, f11 + i * 17, none⟩)) rfl rfl (run_idxQ (p := p) (cap := c) (n := l.length) (j := .i64) (k := i) (sz := 17) rfl Tryz.underlying29 Tw.kr Tw.kr hp11 Tw.kr Tw.om) ?_
     obtain ⟨⟨es12, en12, ed12⟩, hx12⟩ : ∃ x, (l : List Fr)[i]? = some x := ⟨_, List.getElem?_eq_getElem Tw.om⟩
     have eb12 : en12 < R 8 ∧ ed12 < R 8 := hok _ (List.mem_of_getElem? hx12)
     refine Tw.lv (v := .agg (frcC es12 en12 ed12)) rfl rfl (yb_fr (off := f11 + i * 17) rfl Tw.kr (fun W hW j v hv => hc11 W (hW.sub (fun q hq => by cases hq)) i _ hx12 j v hv) Tryz.underlying25 rfl Tw.kr) ?_
     refine wpL_new (fun g => .pointer (some ⟨g, 0, none⟩)) (obi := .cells (frcC false 0 0) 25 (0, 0)) rfl rfl Tw.kf Tw.pf fun g13 Bg13 Fg13 => ?_
     obtain dj14_0 : g1 ≠ g13 := Tw.dkf Fg13
     refine wpL_s [(g13, .cells (frcC es12 en12 ed12) 25 (0, 0)), (g1, .cells (frcC false 0 0) 25 (0, 0))] rfl rfl (st_all zfz (by exact frc_onec) rfl Tw.kr Tw.kr Tw.m0 Bg13 zfs (List.forall_mem_cons.2 ⟨.inl rfl, (List.forall_mem_cons.2 ⟨.inr ⟨Tw.m1, Tw.nee⟩, (List.forall_mem_nil _)⟩)⟩)) ?_
     refine wpL_done (fun W16 hW16 => ?_)
     change Code.wp ..
     refine wp_seq ?_
     refine wp_region_L _ hW16 ?_
     refine Tw.lv (v := .agg (frcC es12 en12 ed12)) rfl rfl (yb_all rfl Tw.kr Tw.m0 Tryz.underlying25 rfl zfs) ?_
     refine Tw.lv (v := .bool (rightB es12 en12 ed12)) rfl rfl (yb_call (f := 17) (args := #[.agg (frcC es12 en12 ed12)]) Tw.kf fun W hW => right_any es12 en12 ed12 eb12.1 eb12.2 W) ?_
     refine Tw.lp (v := .bool (!(rightB es12 en12 ed12))) rfl rfl (run_un rfl Tw.kr fun w => un_not w) ?_
     refine wpL_done (fun W17 hW17 => ?_)
     change Code.wp ..
     cases h4 : (rightB es12 en12 ed12) with
     | false =>
       refine wp_cond_true rfl ?_
       refine wp_seq ?_
       refine wp_region_L _ hW17 ?_
       refine Tw.mm (.agg (frcC false 0 0)) ?_
       refine wpL_s [(g13, .cells (frcC es12 en12 ed12) 25 (0, 0)), (g1, .cells (frcC false 0 0) 25 (0, 0))] rfl rfl (st_all zfz (by exact frc_onec) rfl Tw.kr Tw.kr Tw.m1 Bg1 zfs (List.forall_mem_cons.2 ⟨.inr ⟨Tw.m0, Tw.nee⟩, (List.forall_mem_cons.2 ⟨.inl rfl, (List.forall_mem_nil _)⟩)⟩)) ?_
       refine Tw.mm (.int .i64 2) ?_
       refine wpL_done (fun W18 hW18 => ?_)
       change Code.wp ..
       refine wp_ret ?_
       try simp only [inBlock_ret, then_ret]
       refine bodyPost_ret (v := .tuple #[.agg (frcC false 0 0), .int .i64 2]) ?_ rfl ?_
       · exact (res_cell_tmp (p := 2) (q := 3) rfl rfl (hW18.2 _ Tw.m1) Tryz.underlying25 rfl zfs)
       · exact ⟨(ret_v ((sumV_bad hx12 h4).trans hV.symm)), hW18.1⟩
     | true =>
       refine wp_cond_false rfl ?_
       refine wp_skip ?_
       change Code.wp ..
       refine wp_region_L _ hW17 ?_
       refine Tw.lp (v := .int .i64 (((i + 1) : Nat) : Int)) rfl rfl (run_bin rfl (vx := (.int .i64 ((i : Nat) : Int))) (vy := (.int .i64 ((1 : Nat) : Int))) Tw.kr Tw.kr fun w => bn_add (z := (i + 1)) rfl (wr_i64 Tw.om) w) ?_
       refine Tw.mm (.int .i64 (((i + 1) : Nat) : Int)) ?_
       refine wpL_done (fun W19 hW19 => ?_)
       go_roundw
       case rel =>
         repeat apply Exists.intro
         exact ⟨⟨i + 1, Tw.om, (allR_take hR hx12 h4), rfl, (hW19.sub Tw.sb)⟩, rfl⟩
       case measure => (show l.length - (intOf (.int .i64 (((i + 1) : Nat) : Int))).toNat < l.length - (intOf (.int .i64 ((i : Nat) : Int))).toNat); simp only [intOf]; omega
end Go.Proofs.YtalmflgkbmnghaaGreatDoor
namespace Go.Proofs.YtalmflgkbmnghaaGreatDoor
open Go Go.RowKit Tw
open Tf (dg R R_pos R_le R_succ dg_of_lt setd setd_eq)
variable [ShLZ]
theorem rrOf0 (W : World) : Calls Tryz.prog 40 #[.int .i64 0] W fun e w' => e = .returned (.agg (frcC false 0 1)) ∧ Below W.heap.size W w' := ROf_any 0 Tw.om Tw.om W
set_option maxRecDepth 100000 in
set_option maxHeartbeats 20000000 in
theorem rsum_any (l : List Fr) (p : Option Addr) (c : Nat) (hl : l.length ≤ 1000000) (hok : ∀ x ∈ l, frOk x) (w : World) (hp : SLV w p (fcs l)) : Calls Tryz.prog 36 #[.slice p l.length c] w fun e w' => e = .returned (sumV l) ∧ Below w.heap.size w w' := by
 have HP : FS (w : Base) p l [] := FS.base hp
 clear hp
 obtain ⟨V, hV⟩ : ∃ V : Value, V = sumV l := ⟨_, rfl⟩
 rw [← hV]
 go_enter Tryz.func36, Tryz.ntmps36
 refine wp_seq ?_
 refine wp_region_L [] (KS.start w) ?_
 refine wpL_new (fun g => .pointer (some ⟨g, 0, none⟩)) (obi := .cells (frcC false 0 0) 34 (0, 0)) rfl rfl Tw.kf Tw.pf fun g1 Bg1 Fg1 => ?_
 refine Tw.mm (.int .i64 0) ?_
 refine wpL_done (fun W1 hW1 => ?_)
 change Code.wp ..
 refine wp_seq ?_
 refine wp_region_L _ hW1 ?_
 refine Tw.lv (v := .agg (frcC false 0 1)) rfl rfl (yb_call (f := 40) (args := #[.int .i64 0]) Tw.kf fun W hW => rrOf0 W) ?_
 refine wpL_new (fun g => .pointer (some ⟨g, 0, none⟩)) (obi := .cells (frcC false 0 0) 34 (0, 0)) rfl rfl Tw.kf Tw.pf fun g2 Bg2 Fg2 => ?_
 obtain dj3_0 : g1 ≠ g2 := Tw.dkf Fg2
 refine wpL_s [(g2, .cells (frcC false 0 1) 34 (0, 0)), (g1, .cells (frcC false 0 0) 34 (0, 0))] rfl rfl (st_all zfz (by exact frc_onec) rfl Tw.kr Tw.kr Tw.m0 Bg2 zfs (List.forall_mem_cons.2 ⟨.inl rfl, (List.forall_mem_cons.2 ⟨.inr ⟨Tw.m1, Tw.nee⟩, (List.forall_mem_nil _)⟩)⟩)) ?_
 refine wpL_done (fun W2 hW2 => ?_)
 change Code.wp ..
 refine wp_seq ?_
 refine wp_seq ?_
 refine wp_region_L _ hW2 ?_
 refine Tw.mm (.int .i64 0) ?_
 refine wpL_done (fun W3 hW3 => ?_)
 change Code.wp ..
 refine wp_block ?_
 go_loopw [5] (fun u5 wr => ∃ (i : Nat), (i ≤ l.length) ∧ (allR (l.take i) = true) ∧ u5 = .int .i64 ((i : Nat) : Int) ∧ KS w [(g2, .cells (frcC false 0 1) 34 (0, 0)), (g1, .cells (frcC false 0 0) 34 (0, 0))] wr) (fun u5 _ => l.length - (intOf u5).toNat)
 case atStart => exact ⟨0, (Nat.zero_le _), rfl, rfl, (hW3.sub Tw.sb)⟩
 case round =>
   obtain ⟨i, hi, hR, rfl, hL4⟩ := hrel
   refine wp_seq ?_
   refine wp_seq ?_
   refine wp_region_L _ hL4 ?_
   refine Tw.mm (.int .i64 ((i : Nat) : Int)) ?_
   refine Tw.mm (.slice p l.length c) ?_
   refine Tw.lp (v := .int .i64 ((l.length : Nat) : Int)) rfl rfl (run_lenL (p := p) (cap := c) (n := l.length) rfl Tryz.underlying57 Tw.kr) ?_
   refine Tw.lp (v := .bool (decide (i < l.length))) rfl rfl (run_bin rfl (vx := (.int .i64 ((i : Nat) : Int))) (vy := (.int .i64 ((l.length : Nat) : Int))) Tw.kr Tw.kr fun w => bn_lss rfl w) ?_
   refine wpL_done (fun W5 hW5 => ?_)
   change Code.wp ..
   cases hd1 : (decide (i < l.length)) with
   | false =>
     have h1 : ¬ (i < l.length) := of_decide_eq_false hd1
     clear hd1
     refine wp_cond_false rfl ?_
     refine wp_exit ?_
     change Code.wp ..
     refine wp_seq ?_
     refine wp_seq ?_
     refine wp_region_L _ hW5 ?_
     refine Tw.mm (.int .i64 0) ?_
     refine wpL_done (fun W6 hW6 => ?_)
     change Code.wp ..
     refine wp_block ?_
     have hall : allR l = true := by rw [List.take_of_length_le Tw.om] at hR; exact hR
     go_loopw [6] (fun u6 wr => ∃ (i2 : Nat) (sa : Bool) (na da : Nat), (i2 ≤ l.length) ∧ (sumO (false, 0, 1) l = sumO (sa, na, da) (l.drop i2)) ∧ (rightB sa na da = true) ∧ (na < R 8 ∧ da < R 8) ∧ u6 = .int .i64 ((i2 : Nat) : Int) ∧ KS w [(g2, .cells (frcC sa na da) 34 (0, 0)), (g1, .cells (frcC false 0 0) 34 (0, 0))] wr) (fun u6 _ => l.length - (intOf u6).toNat)
     case atStart => exact ⟨0, false, 0, 1, (Nat.zero_le _), (by rw [List.drop_zero]), rfl, ⟨R_pos 8, lt8 Tw.om⟩, rfl, (hW6.sub Tw.sb)⟩
     case round =>
       obtain ⟨i2, sa, na, da, hi2, hsum, har, hao, rfl, hL7⟩ := hrel
       refine wp_seq ?_
       refine wp_seq ?_
       refine wp_region_L _ hL7 ?_
       refine Tw.mm (.int .i64 ((i2 : Nat) : Int)) ?_
       refine Tw.mm (.slice p l.length c) ?_
       refine Tw.lp (v := .int .i64 ((l.length : Nat) : Int)) rfl rfl (run_lenL (p := p) (cap := c) (n := l.length) rfl Tryz.underlying57 Tw.kr) ?_
       refine Tw.lp (v := .bool (decide (i2 < l.length))) rfl rfl (run_bin rfl (vx := (.int .i64 ((i2 : Nat) : Int))) (vy := (.int .i64 ((l.length : Nat) : Int))) Tw.kr Tw.kr fun w => bn_lss rfl w) ?_
       refine wpL_done (fun W8 hW8 => ?_)
       change Code.wp ..
       cases hd2 : (decide (i2 < l.length)) with
       | false =>
         have h2 : ¬ (i2 < l.length) := of_decide_eq_false hd2
         clear hd2
         refine wp_cond_false rfl ?_
         refine wp_exit ?_
         change Code.wp ..
         refine wp_seq ?_
         refine wp_region_L _ hW8 ?_
         refine Tw.lv (v := .agg (frcC sa na da)) rfl rfl (yb_all rfl Tw.kr Tw.m0 Tryz.underlying34 rfl zfs) ?_
         refine wpL_s [(g2, .cells (frcC sa na da) 34 (0, 0)), (g1, .cells (frcC sa na da) 34 (0, 0))] rfl rfl (st_all zfz (by exact frc_onec) rfl Tw.kr Tw.kr Tw.m1 Bg1 zfs (List.forall_mem_cons.2 ⟨.inr ⟨Tw.m0, Tw.nee⟩, (List.forall_mem_cons.2 ⟨.inl rfl, (List.forall_mem_nil _)⟩)⟩)) ?_
         refine Tw.mm (.int .i64 0) ?_
         refine wpL_done (fun W9 hW9 => ?_)
         change Code.wp ..
         refine wp_ret ?_
         try simp only [inBlock_ret, then_ret]
         refine bodyPost_ret (v := .tuple #[.agg (frcC sa na da), .int .i64 0]) ?_ rfl ?_
         · exact (res_cell_tmp (p := 2) (q := 3) rfl rfl (hW9.2 _ Tw.m1) Tryz.underlying34 rfl zfs)
         · exact ⟨(ret_v ((sumV_some hall (hsum.trans (by rw [List.drop_of_length_le Tw.om]; rfl))).trans hV.symm)), hW9.1⟩
       | true =>
         have h2 : i2 < l.length := of_decide_eq_true hd2
         clear hd2
         refine wp_cond_true rfl ?_
         refine wp_skip ?_
         change Code.wp ..
         refine wp_seq ?_
         refine wp_block ?_
         refine wp_seq ?_
         refine wp_region_V _ Tw.kr hW8 ?_
         refine vv (i := 0) (v := .agg (frcC sa na da)) rfl rfl rfl (yb_all rfl Tw.kr Tw.m0 Tryz.underlying34 rfl zfs) ?_
         refine vm (i := 1) (v := .slice p l.length c) rfl rfl rfl ?_
         refine vm (i := 2) (v := .int .i64 ((i2 : Nat) : Int)) rfl rfl rfl ?_
         obtain ⟨b4, f4, hp4, hc4⟩ := HP.at (hW8.sub (fun q hq => by cases hq)) (k := i2) Tw.om
         refine vp (i := 3) (v := .pointer (some ⟨b4, f4 + i2 * 17, none⟩)) rfl rfl rfl (run_idxQ (p := p) (cap := c) (n := l.length) (j := .i64) (k := i2) (sz := 17) rfl Tryz.underlying57 Tw.kr Tw.kr hp4 Tw.kr Tw.om) ?_
         obtain ⟨⟨es5, en5, ed5⟩, hx5⟩ : ∃ x, (l : List Fr)[i2]? = some x := ⟨_, List.getElem?_eq_getElem Tw.om⟩
         have eb5 : en5 < R 8 ∧ ed5 < R 8 := hok _ (List.mem_of_getElem? hx5)
         refine vb (i := 4) (v := .agg (frcC es5 en5 ed5)) rfl rfl rfl (yb_fr (off := f4 + i2 * 17) rfl Tw.kr (fun W hW j v hv => hc4 W hW i2 _ hx5 j v hv) Tryz.underlying34 rfl Tw.kr) ?_
         obtain ⟨sv6, nv6, dv6, ev6, hpv6, lnv6, ldv6, hcs6⟩ := add_cases sa na da es5 en5 ed5
         have hxr := allR_at hall hx5
         refine vv (i := 5) (v := .tuple #[.agg (frcC sv6 nv6 dv6), .int .i64 ev6]) rfl rfl rfl (yb_call (f := 16) (args := #[.agg (frcC sa na da), .agg (frcC es5 en5 ed5)]) Tw.kf fun W hW => (by have h := RAdd_any sa es5 na da en5 ed5 hao.1 hao.2 eb5.1 eb5.2 W; rw [if_pos (by rw [har, hxr]; rfl), hpv6] at h; exact h)) ?_
         refine vm (i := 6) (v := .tuple #[.agg (frcC sv6 nv6 dv6), .int .i64 ev6]) rfl rfl rfl ?_
         refine vm (i := 7) (v := .agg (frcC sv6 nv6 dv6)) rfl rfl rfl ?_
         refine vm (i := 8) (v := .int .i64 ev6) rfl rfl rfl ?_
         refine wpV_ns (fun g => .pointer (some ⟨g, 0, none⟩)) (i := 9) (obi := .cells (frcC false 0 0) 34 (0, 0)) rfl rfl rfl Tw.kr Tw.kf Tw.pf fun g7 Bg7 Fg7 => ?_
         obtain ⟨dj8_0, dj8_1⟩ : g2 ≠ g7 ∧ g1 ≠ g7 := Tw.dkf Fg7
         refine wpV_s [(g7, .cells (frcC sv6 nv6 dv6) 34 (0, 0)), (g2, .cells (frcC sa na da) 34 (0, 0)), (g1, .cells (frcC false 0 0) 34 (0, 0))] (i := 10) rfl Tw.kr rfl rfl rfl (st_all zfz (by exact frc_onec) rfl Tw.kr Tw.kr Tw.m0 Bg7 zfs (List.forall_mem_cons.2 ⟨.inl rfl, (List.forall_mem_cons.2 ⟨.inr ⟨Tw.m1, Tw.nee⟩, (List.forall_mem_cons.2 ⟨.inr ⟨Tw.m2, Tw.nee⟩, (List.forall_mem_nil _)⟩)⟩)⟩)) ?_
         refine vm (i := 11) (v := .int .i64 ev6) rfl rfl rfl ?_
         refine wpV_done Tw.kr (fun W10 hW10 => ?_) _
         change Code.wp ..
         refine wp_seq ?_
         refine wp_seq ?_
         refine wp_region_L _ hW10 ?_
         refine Tw.mm (.int .i64 ev6) ?_
         refine Tw.lp (v := .bool (!(decide (ev6 = 0)))) rfl rfl (run_bin rfl (vx := (.int .i64 ev6)) (vy := (.int .i64 0)) Tw.kr Tw.kr fun w => bi_neq rfl w) ?_
         refine wpL_done (fun W11 hW11 => ?_)
         change Code.wp ..
         cases hd3 : (decide (ev6 = 0)) with
         | false =>
           have h3 : ¬ (ev6 = 0) := of_decide_eq_false hd3
           clear hd3
           have hz := (hcs6.elim (fun h => absurd h.1 h3) (fun h => h.2))
           have hz3 : ev6 = 3 := hcs6.elim (fun h => absurd h.1 h3) (fun h => h.1)
           refine wp_cond_true rfl ?_
           refine wp_seq ?_
           refine wp_region_L _ hW11 ?_
           refine Tw.mm (.agg (frcC false 0 0)) ?_
           refine Tw.mm (.int .i64 ev6) ?_
           refine wpL_s [(g7, .cells (frcC sv6 nv6 dv6) 34 (0, 0)), (g2, .cells (frcC sa na da) 34 (0, 0)), (g1, .cells (frcC false 0 0) 34 (0, 0))] rfl rfl (st_all zfz (by exact frc_onec) rfl Tw.kr Tw.kr Tw.m2 Bg1 zfs (List.forall_mem_cons.2 ⟨.inr ⟨Tw.m0, Tw.nee⟩, (List.forall_mem_cons.2 ⟨.inr ⟨Tw.m1, Tw.nee⟩, (List.forall_mem_cons.2 ⟨.inl rfl, (List.forall_mem_nil _)⟩)⟩)⟩)) ?_
           refine Tw.mm (.int .i64 ev6) ?_
           refine wpL_done (fun W12 hW12 => ?_)
           change Code.wp ..
           refine wp_ret ?_
           try simp only [inBlock_ret, then_ret]
           refine bodyPost_ret (v := .tuple #[.agg (frcC false 0 0), .int .i64 ev6]) ?_ rfl ?_
           · exact (res_cell_tmp (p := 2) (q := 3) rfl rfl (hW12.2 _ Tw.m2) Tryz.underlying34 rfl zfs)
           · exact ⟨(ret_v (by rw [hz3]; exact (sumV_none hall (hsum.trans (sumO_none hx5 hz))).trans hV.symm)), hW12.1⟩
         | true =>
           have h3 : ev6 = 0 := of_decide_eq_true hd3
           clear hd3
           have hz := (hcs6.elim (fun h => h.2) (fun h => absurd h.1 Tw.om))
           refine wp_cond_false rfl ?_
           refine wp_skip ?_
           change Code.wp ..
           refine wp_region_L _ hW11 ?_
           refine Tw.lv (v := .agg (frcC sv6 nv6 dv6)) rfl rfl (yb_all rfl Tw.kr Tw.m0 Tryz.underlying34 rfl zfs) ?_
           refine wpL_s [(g7, .cells (frcC sv6 nv6 dv6) 34 (0, 0)), (g2, .cells (frcC sv6 nv6 dv6) 34 (0, 0)), (g1, .cells (frcC false 0 0) 34 (0, 0))] rfl rfl (st_all zfz (by exact frc_onec) rfl Tw.kr Tw.kr Tw.m1 Bg2 zfs (List.forall_mem_cons.2 ⟨.inr ⟨Tw.m0, Tw.nee⟩, (List.forall_mem_cons.2 ⟨.inl rfl, (List.forall_mem_cons.2 ⟨.inr ⟨Tw.m2, Tw.nee⟩, (List.forall_mem_nil _)⟩)⟩)⟩)) ?_
           refine wpL_done (fun W13 hW13 => ?_)
           change Code.wp ..
           refine wp_region_L _ hW13 ?_
           refine Tw.mm (.int .i64 ((i2 : Nat) : Int)) ?_
           refine Tw.lp (v := .int .i64 (((i2 + 1) : Nat) : Int)) rfl rfl (run_bin rfl (vx := (.int .i64 ((i2 : Nat) : Int))) (vy := (.int .i64 ((1 : Nat) : Int))) Tw.kr Tw.kr fun w => bn_add (z := (i2 + 1)) rfl (wr_i64 Tw.om) w) ?_
           refine Tw.mm (.int .i64 (((i2 + 1) : Nat) : Int)) ?_
           refine wpL_done (fun W14 hW14 => ?_)
           go_roundw
           case rel =>
             repeat apply Exists.intro
             exact ⟨⟨i2 + 1, sv6, nv6, dv6, Tw.om, (hsum.trans (sumO_some hx5 hz)), (addF_right har (allR_at hall hx5) hz).1, (addF_right har (allR_at hall hx5) hz).2, rfl, (hW14.sub Tw.sb)⟩, rfl⟩
           case measure => (show l.length - (intOf (.int .i64 (((i2 + 1) : Nat) : Int))).toNat < l.length - (intOf (.int .i64 ((i2 : Nat) : Int))).toNat); simp only [intOf]; omega
   | true =>
     have h1 : i < l.length := of_decide_eq_true hd1
     clear hd1
     refine wp_cond_true rfl ?_
     refine wp_skip ?_
     change Code.wp ..
     refine wp_seq ?_
     refine wp_block ?_
     refine wp_seq ?_
     refine wp_region_L _ hW5 ?_
     refine Tw.mm (.slice p l.length c) ?_
     refine Tw.mm (.int .i64 ((i : Nat) : Int)) ?_
     obtain ⟨b9, f9, hp9, hc9⟩ := HP.at (hW5.sub (fun q hq => by cases hq)) (k := i) Tw.om
     refine Tw.lp (v := .pointer (some ⟨b9, f9 + i * 17, none⟩)) rfl rfl (run_idxQ (p := p) (cap := c) (n := l.length) (j := .i64) (k := i) (sz := 17) rfl Tryz.underlying57 Tw.kr Tw.kr hp9 Tw.kr Tw.om) ?_
     obtain ⟨⟨es10, en10, ed10⟩, hx10⟩ : ∃ x, (l : List Fr)[i]? = some x := ⟨_, List.getElem?_eq_getElem Tw.om⟩
     have eb10 : en10 < R 8 ∧ ed10 < R 8 := hok _ (List.mem_of_getElem? hx10)
     refine Tw.lv (v := .agg (frcC es10 en10 ed10)) rfl rfl (yb_fr (off := f9 + i * 17) rfl Tw.kr (fun W hW j v hv => hc9 W (hW.sub (fun q hq => by cases hq)) i _ hx10 j v hv) Tryz.underlying34 rfl Tw.kr) ?_
     refine Tw.lv (v := .bool (rightB es10 en10 ed10)) rfl rfl (yb_call (f := 18) (args := #[.agg (frcC es10 en10 ed10)]) Tw.kf fun W hW => rright_any es10 en10 ed10 eb10.1 eb10.2 W) ?_
     refine Tw.lp (v := .bool (!(rightB es10 en10 ed10))) rfl rfl (run_un rfl Tw.kr fun w => un_not w) ?_
     refine wpL_done (fun W15 hW15 => ?_)
     change Code.wp ..
     cases h4 : (rightB es10 en10 ed10) with
     | false =>
       refine wp_cond_true rfl ?_
       refine wp_seq ?_
       refine wp_region_L _ hW15 ?_
       refine Tw.mm (.agg (frcC false 0 0)) ?_
       refine wpL_s [(g2, .cells (frcC false 0 1) 34 (0, 0)), (g1, .cells (frcC false 0 0) 34 (0, 0))] rfl rfl (st_all zfz (by exact frc_onec) rfl Tw.kr Tw.kr Tw.m1 Bg1 zfs (List.forall_mem_cons.2 ⟨.inr ⟨Tw.m0, Tw.nee⟩, (List.forall_mem_cons.2 ⟨.inl rfl, (List.forall_mem_nil _)⟩)⟩)) ?_
       refine Tw.mm (.int .i64 2) ?_
       refine wpL_done (fun W16 hW16 => ?_)
       change Code.wp ..
       refine wp_ret ?_
       try simp only [inBlock_ret, then_ret]
       refine bodyPost_ret (v := .tuple #[.agg (frcC false 0 0), .int .i64 2]) ?_ rfl ?_
       · exact (res_cell_tmp (p := 2) (q := 3) rfl rfl (hW16.2 _ Tw.m1) Tryz.underlying34 rfl zfs)
       · exact ⟨(ret_v ((sumV_bad hx10 h4).trans hV.symm)), hW16.1⟩
     | true =>
       refine wp_cond_false rfl ?_
       refine wp_skip ?_
       change Code.wp ..
       refine wp_region_L _ hW15 ?_
       refine Tw.mm (.int .i64 ((i : Nat) : Int)) ?_
       refine Tw.lp (v := .int .i64 (((i + 1) : Nat) : Int)) rfl rfl (run_bin rfl (vx := (.int .i64 ((i : Nat) : Int))) (vy := (.int .i64 ((1 : Nat) : Int))) Tw.kr Tw.kr fun w => bn_add (z := (i + 1)) rfl (wr_i64 Tw.om) w) ?_
       refine Tw.mm (.int .i64 (((i + 1) : Nat) : Int)) ?_
       refine wpL_done (fun W17 hW17 => ?_)
       go_roundw
       case rel =>
         repeat apply Exists.intro
         exact ⟨⟨i + 1, Tw.om, (allR_take hR hx10 h4), rfl, (hW17.sub Tw.sb)⟩, rfl⟩
       case measure => (show l.length - (intOf (.int .i64 (((i + 1) : Nat) : Int))).toNat < l.length - (intOf (.int .i64 ((i : Nat) : Int))).toNat); simp only [intOf]; omega
end Go.Proofs.YtalmflgkbmnghaaGreatDoor
