import Derived.Test.YtppegdbelgobiaaDcz01
import Derived.Test.YtppegdbelgobiaaDcz00
import Derived.Test.YtppegdbelgobiaaG03
import Derived.Test.YtppegdbelgobiaaG04
import Derived.Test.YtppegdbelgobiaaG01
/- LexReads: the law holds for every input; no condition but the row's own. -/
set_option linter.unusedVariables false
set_option linter.unusedSimpArgs false
set_option linter.unusedSectionVars false
namespace Go.Proofs.Ytppegdbelgobiaa
open Go Go.RowKit Tw
set_option maxRecDepth 100000 in
set_option maxHeartbeats 40000000 in
theorem RSeg_any {W0 : Base} (l : List UInt8) (f0 e0 : Nat) (lc : l.length ≤ 4000000) (hf : f0 ≤ e0) (he : e0 ≤ l.length) (hq : Tqe l e0 f0) (R : List (Nat × Obj)) (w : World) (hw : KS W0 R w) : Calls Try.prog 35 #[strV l, .int .i64 ((f0 : Nat) : Int), .int .i64 ((e0 : Nat) : Int)] w fun e w' => ∃ v T sg fa fr fe, e = .returned (.tuple #[v, .agg #[.int .i64 ((fa : Nat) : Int), .int .i64 ((fr : Nat) : Int), .int .i64 ((fe : Nat) : Int)]]) ∧ KS W0 (R ++ T) w' ∧ Dj R T ∧ MkV ElR W0 v sg T ∧ SegA (segR f0 (rest l e0 f0)) f0 e0 sg fa fr fe := by
  obtain ⟨x, hx⟩ : ∃ x, x = segR f0 (rest l e0 f0) := ⟨_, rfl⟩
  rw [← hx]
  obtain ⟨Q, hQ⟩ : ∃ Q, Q = (splitU 43 (rest l e0 f0)).1 :: (splitU 43 (rest l e0 f0)).2 := ⟨_, rfl⟩
  have hP : Prt l 43 f0 e0 Q := by rw [hQ]; exact prt_of (by decide) he hf hq
  have hx : x = sgR f0 [] Q := by rw [hx, hQ]; rfl
  have hP0 : 0 < (cutL 43 f0 e0 l).length := by rw [hP.len]; exact hP.pos
  have hP1 := hP.pos
  have hQl : Q.length ≤ e0 + 1 := by
    have h1 := hP.len
    have h2 : (cutL 43 f0 e0 l).length ≤ e0 + 1 := cutL_len hf he
    omega
  go_enter Try.func35, Try.ntmps35
  refine wp_seq ?_
  refine wp_region_L (W0 := W0) R (hw) ?_
  refine lm (v := .slice none 0 0) rfl rfl ?_
  refine wpL_new (fun g => .pointer (some ⟨g, 0, none⟩)) (obi := .cells #[.int .i64 0, .int .i64 0, .int .i64 0] 71 (0, 0)) rfl rfl (fun _ => by kernel_rfl) (fun _ => by simp only [List.setIfInBounds_toArray, List.set_cons_succ, List.set_cons_zero] <;> rfl) fun g1 Bg1 Fg1 => ?_
  obtain dj2_0 : Dk g1 R := by simpa only [dj_app_l, dj_app_r, dj_cons_l, dj_cons_r, dj_nil_l, dj_nil_r, dk_app, dk_cons, dk_nil, and_true, true_and, and_assoc] using (show Dk g1 R from Fg1)
  refine wpL_done (fun W1 hW1 => ?_)
  refine (show Code.wp _ _ _ _ _ from ?_)
  refine wp_seq ?_
  refine wp_region_L (W0 := W0) ((g1, .cells #[.int .i64 0, .int .i64 0, .int .i64 0] 71 (0, 0)) :: R) (hW1) ?_
  refine lm (v := .slice none 0 0) rfl rfl ?_
  refine wpL_done (fun W2 hW2 => ?_)
  refine (show Code.wp _ _ _ _ _ from ?_)
  refine wp_seq ?_
  refine wp_region_L (W0 := W0) ((g1, .cells #[.int .i64 0, .int .i64 0, .int .i64 0] 71 (0, 0)) :: R) (hW2) ?_
  refine wpL_new (fun g => .pointer (some ⟨g, 0, none⟩)) (obi := .cells #[.int .i64 0, .int .i64 0, .int .i64 0] 71 (0, 0)) rfl rfl (fun _ => by kernel_rfl) (fun _ => by simp only [List.setIfInBounds_toArray, List.set_cons_succ, List.set_cons_zero] <;> rfl) fun g3 Bg3 Fg3 => ?_
  obtain ⟨dj4_0, dj4_1⟩ : g1 ≠ g3 ∧ Dk g3 R := by simpa only [dj_app_l, dj_app_r, dj_cons_l, dj_cons_r, dj_nil_l, dj_nil_r, dk_app, dk_cons, dk_nil, and_true, true_and, and_assoc] using (show Dk g3 ((g1, .cells #[.int .i64 0, .int .i64 0, .int .i64 0] 71 (0, 0)) :: R) from Fg3)
  refine wpL_done (fun W3 hW3 => ?_)
  refine (show Code.wp _ _ _ _ _ from ?_)
  refine wp_seq ?_
  refine wp_region_L (W0 := W0) ((g3, .cells #[.int .i64 0, .int .i64 0, .int .i64 0] 71 (0, 0)) :: (g1, .cells #[.int .i64 0, .int .i64 0, .int .i64 0] 71 (0, 0)) :: R) (hW3) ?_
  refine lm (v := strV l) rfl rfl ?_
  refine lm (v := .int .i64 ((f0 : Nat) : Int)) rfl rfl ?_
  refine lm (v := .int .i64 ((e0 : Nat) : Int)) rfl rfl ?_
  refine wpL_c (f := 46) (args := #[strV l, .int .i64 ((f0 : Nat) : Int), .int .i64 ((e0 : Nat) : Int), .int .u8 43]) (fun v K2 => ∃ Kl, OwnL W0 3 1 v (cutL 43 f0 e0 l).length (ints (cutL 43 f0 e0 l)) Kl ∧ (∀ p ∈ ((g3, .cells #[.int .i64 0, .int .i64 0, .int .i64 0] 71 (0, 0)) :: (g1, .cells #[.int .i64 0, .int .i64 0, .int .i64 0] 71 (0, 0)) :: R), ∀ q ∈ Kl, q.1 ≠ p.1) ∧ K2 = ((g3, .cells #[.int .i64 0, .int .i64 0, .int .i64 0] 71 (0, 0)) :: (g1, .cells #[.int .i64 0, .int .i64 0, .int .i64 0] 71 (0, 0)) :: R) ++ Kl) rfl (by kernel_rfl) (fun _ => (by kernel_rfl)) (fun W hW => (cut_any l f0 e0 43 lc (by omega) (by omega) W).mono fun e w2 ⟨v, he, hO, hb⟩ => (let ⟨Kl, a1, a2, a3⟩ := hO.own hW hb; ⟨v, _, he, a3, Kl, a1, a2, rfl⟩)) (fun _ => by simp only [List.setIfInBounds_toArray, List.set_cons_succ, List.set_cons_zero] <;> rfl) ?_
  rintro v5 _ ⟨Kl5, O5, N5, rfl⟩
  obtain ⟨g5, cap5, cur5, rfl, B5, R5, rfl⟩ := O5.resolve_left (fun h => by have := hP0; omega)
  obtain ⟨dj6_0, dj6_1, dj6_2⟩ : g3 ≠ g5 ∧ g1 ≠ g5 ∧ Dk g5 R := by simpa only [dj_app_l, dj_app_r, dj_cons_l, dj_cons_r, dj_nil_l, dj_nil_r, dk_app, dk_cons, dk_nil, and_true, true_and, and_assoc] using (show Dk g5 ((g3, .cells #[.int .i64 0, .int .i64 0, .int .i64 0] 71 (0, 0)) :: (g1, .cells #[.int .i64 0, .int .i64 0, .int .i64 0] 71 (0, 0)) :: R) from (fun p hp e => N5 p hp _ (.head _) e.symm))
  refine lm (v := .slice (some ⟨g5, 0, none⟩) (cutL 43 f0 e0 l).length cap5) rfl rfl ?_
  refine wpL_done (fun W4 hW4 => ?_)
  refine (show Code.wp _ _ _ _ _ from ?_)
  refine wp_seq ?_
  refine wp_seq ?_
  refine wp_region_L (W0 := W0) ((g3, .cells #[.int .i64 0, .int .i64 0, .int .i64 0] 71 (0, 0)) :: (g1, .cells #[.int .i64 0, .int .i64 0, .int .i64 0] 71 (0, 0)) :: (g5, .cells cur5 3 (0, 0)) :: R) ((hW4.sub (fun p hp => by simp only [List.mem_cons, List.mem_append, List.nil_append, List.not_mem_nil, or_assoc, or_false, false_or, List.cons_append, List.append_assoc] at hp ⊢ <;> grind))) ?_
  refine lm (v := .int .i64 0) rfl rfl ?_
  refine wpL_done (fun W5 hW5 => ?_)
  refine (show Code.wp _ _ _ _ _ from ?_)
  refine wp_block ?_
  go_loopw [11, 8] (fun u11 u8 wr => ∃ (i a : Nat) (es : List Elt) (fa fr fe : Nat) (vo : Value) (xo : List Value) (To Ko : List (Nat × Obj)), (i ≤ Q.length) ∧ (es.length = i) ∧ (a ≤ e0 + 1 ∧ f0 ≤ a ∧ (0 < i → 1 ≤ a)) ∧ (i < Q.length → (cutL 43 f0 e0 l)[i]? = some a) ∧ (¬ i < Q.length → a = e0 + 1) ∧ (SI x f0 i a es (Q.drop i) fa fr fe) ∧ (OwnL W0 43 1 vo es.length xo Ko) ∧ (MkE TxR W0 xo es To) ∧ (Dk g3 To) ∧ (Dk g1 To) ∧ (Dk g5 To) ∧ (Dj R To) ∧ (Dk g3 Ko) ∧ (Dk g1 Ko) ∧ (Dk g5 Ko) ∧ (Dj R Ko) ∧ (Dj To Ko) ∧ u11 = .int .i64 ((i : Nat) : Int) ∧ vo = u8 ∧ KS W0 ((g3, .cells #[.int .i64 ((fa : Nat) : Int), .int .i64 ((fr : Nat) : Int), .int .i64 ((fe : Nat) : Int)] 71 (0, 0)) :: (g1, .cells #[.int .i64 0, .int .i64 0, .int .i64 0] 71 (0, 0)) :: (g5, .cells cur5 3 (0, 0)) :: (R ++ (To ++ Ko))) wr) (fun u11 _ _ => Q.length - (intOf u11).toNat)
  case atStart => exact ⟨0, f0, [], 0, 0, 0, (.slice none 0 0), [], [], [], (Nat.zero_le _), rfl, (by omega), (fun _ => hP.nil), (by omega), (.inl ⟨rfl, by omega, by rw [hx, List.drop_zero]⟩), (OwnL.nil _ _ _), MkE.nil, (show Dk g3 [] from (by (try simp only [dj_app_l, dj_app_r, dj_cons_l, dj_cons_r, dj_nil_l, dj_nil_r, dk_app, dk_cons, dk_nil, and_true, true_and, and_assoc]); repeat' (first | trivial | assumption | exact Dj.symm (by assumption) | exact Ne.symm (by assumption) | apply And.intro))), (show Dk g1 [] from (by (try simp only [dj_app_l, dj_app_r, dj_cons_l, dj_cons_r, dj_nil_l, dj_nil_r, dk_app, dk_cons, dk_nil, and_true, true_and, and_assoc]); repeat' (first | trivial | assumption | exact Dj.symm (by assumption) | exact Ne.symm (by assumption) | apply And.intro))), (show Dk g5 [] from (by (try simp only [dj_app_l, dj_app_r, dj_cons_l, dj_cons_r, dj_nil_l, dj_nil_r, dk_app, dk_cons, dk_nil, and_true, true_and, and_assoc]); repeat' (first | trivial | assumption | exact Dj.symm (by assumption) | exact Ne.symm (by assumption) | apply And.intro))), (show Dj R [] from (by (try simp only [dj_app_l, dj_app_r, dj_cons_l, dj_cons_r, dj_nil_l, dj_nil_r, dk_app, dk_cons, dk_nil, and_true, true_and, and_assoc]); repeat' (first | trivial | assumption | exact Dj.symm (by assumption) | exact Ne.symm (by assumption) | apply And.intro))), (show Dk g3 [] from (by (try simp only [dj_app_l, dj_app_r, dj_cons_l, dj_cons_r, dj_nil_l, dj_nil_r, dk_app, dk_cons, dk_nil, and_true, true_and, and_assoc]); repeat' (first | trivial | assumption | exact Dj.symm (by assumption) | exact Ne.symm (by assumption) | apply And.intro))), (show Dk g1 [] from (by (try simp only [dj_app_l, dj_app_r, dj_cons_l, dj_cons_r, dj_nil_l, dj_nil_r, dk_app, dk_cons, dk_nil, and_true, true_and, and_assoc]); repeat' (first | trivial | assumption | exact Dj.symm (by assumption) | exact Ne.symm (by assumption) | apply And.intro))), (show Dk g5 [] from (by (try simp only [dj_app_l, dj_app_r, dj_cons_l, dj_cons_r, dj_nil_l, dj_nil_r, dk_app, dk_cons, dk_nil, and_true, true_and, and_assoc]); repeat' (first | trivial | assumption | exact Dj.symm (by assumption) | exact Ne.symm (by assumption) | apply And.intro))), (show Dj R [] from (by (try simp only [dj_app_l, dj_app_r, dj_cons_l, dj_cons_r, dj_nil_l, dj_nil_r, dk_app, dk_cons, dk_nil, and_true, true_and, and_assoc]); repeat' (first | trivial | assumption | exact Dj.symm (by assumption) | exact Ne.symm (by assumption) | apply And.intro))), (show Dj [] [] from (by (try simp only [dj_app_l, dj_app_r, dj_cons_l, dj_cons_r, dj_nil_l, dj_nil_r, dk_app, dk_cons, dk_nil, and_true, true_and, and_assoc]); repeat' (first | trivial | assumption | exact Dj.symm (by assumption) | exact Ne.symm (by assumption) | apply And.intro))), rfl, rfl, (hW5.sub (fun p hp => by first | exact hp | (simp only [List.mem_cons, List.mem_append, List.nil_append, List.not_mem_nil, or_assoc, or_false, false_or, List.cons_append, List.append_assoc] at hp ⊢ <;> grind)))⟩
  case round =>
    obtain ⟨i, a, es, fa, fr, fe, vo, xo, To, Ko, hi, hes, ha, hPi, haQ, hI, hOo, hEo, dh7_0, dh7_1, dh7_2, dh7_3, dh7_4, dh7_5, dh7_6, dh7_7, dh7_8, rfl, rfl, hL6⟩ := hrel
    refine wp_seq ?_
    refine wp_seq ?_
    refine wp_region_L (W0 := W0) ((g3, .cells #[.int .i64 ((fa : Nat) : Int), .int .i64 ((fr : Nat) : Int), .int .i64 ((fe : Nat) : Int)] 71 (0, 0)) :: (g1, .cells #[.int .i64 0, .int .i64 0, .int .i64 0] 71 (0, 0)) :: (g5, .cells cur5 3 (0, 0)) :: (R ++ (To ++ Ko))) (hL6) ?_
    refine lm (v := .int .i64 ((i : Nat) : Int)) rfl rfl ?_
    refine lm (v := .slice (some ⟨g5, 0, none⟩) (cutL 43 f0 e0 l).length cap5) rfl rfl ?_
    refine lp (v := .int .i64 ((Q.length : Nat) : Int)) rfl rfl (fun w => (run_lenL (p := (some ⟨g5, 0, none⟩)) (cap := cap5) (n := (cutL 43 f0 e0 l).length) rfl Try.underlying84 (by kernel_rfl) w).trans (by rw [hP.len])) ?_
    refine lp (v := .bool (decide (i < Q.length))) rfl rfl (run_bin rfl (vx := (.int .i64 ((i : Nat) : Int))) (vy := (.int .i64 ((Q.length : Nat) : Int))) (by kernel_rfl) (by kernel_rfl) fun w => bn_lss rfl w) ?_
    refine wpL_done (fun W7 hW7 => ?_)
    refine (show Code.wp _ _ _ _ _ from ?_)
    cases hd1 : (decide (i < Q.length)) with
    | false =>
      have h1 : ¬ (i < Q.length) := of_decide_eq_false hd1
      clear hd1
      refine wp_cond_false rfl ?_
      refine wp_exit ?_
      refine (show Code.wp _ _ _ _ _ from ?_)
      refine wp_seq ?_
      refine wp_region_V (W0 := W0) ((g3, .cells #[.int .i64 ((fa : Nat) : Int), .int .i64 ((fr : Nat) : Int), .int .i64 ((fe : Nat) : Int)] 71 (0, 0)) :: (g1, .cells #[.int .i64 0, .int .i64 0, .int .i64 0] 71 (0, 0)) :: (g5, .cells cur5 3 (0, 0)) :: (R ++ (To ++ Ko))) (by kernel_rfl) (hW7) ?_
      refine vm (i := 0) (v := vo) rfl rfl rfl ?_
      refine vv (i := 1) (v := .agg #[.int .i64 ((fa : Nat) : Int), .int .i64 ((fr : Nat) : Int), .int .i64 ((fe : Nat) : Int)]) rfl rfl rfl (yb_load (n := 3) (off := 0) rfl (by kernel_rfl) (.head _) Try.underlying71 rfl (by kernel_rfl) (by simp) (by kernel_rfl)) ?_
      refine vm (i := 2) (v := vo) rfl rfl rfl ?_
      refine wpV_s ((g3, .cells #[.int .i64 ((fa : Nat) : Int), .int .i64 ((fr : Nat) : Int), .int .i64 ((fe : Nat) : Int)] 71 (0, 0)) :: (g1, .cells #[.int .i64 ((fa : Nat) : Int), .int .i64 ((fr : Nat) : Int), .int .i64 ((fe : Nat) : Int)] 71 (0, 0)) :: (g5, .cells cur5 3 (0, 0)) :: (R ++ (To ++ Ko))) (i := 3) rfl (by kernel_rfl) rfl rfl rfl (st_row (off := 0) (v := .agg #[.int .i64 ((fa : Nat) : Int), .int .i64 ((fr : Nat) : Int), .int .i64 ((fe : Nat) : Int)]) rfl (by kernel_rfl) (by kernel_rfl) (.tail _ (.head _)) Bg1 (by kernel_rfl) (by simp [Value.cells]) (by intro v hv; simp [Value.cells] at hv; first | (subst hv; rfl) | (rcases hv with rfl | rfl | rfl <;> rfl)) (by kernel_rfl) (List.forall_mem_cons.2 ⟨.inr ⟨(.head _), (by first | assumption | exact Ne.symm (by assumption))⟩, (List.forall_mem_cons.2 ⟨.inl rfl, (List.forall_mem_cons.2 ⟨.inr ⟨(.tail _ (.tail _ (.head _))), (by first | assumption | exact Ne.symm (by assumption))⟩, (fun p hp => .inr ⟨(.tail _ (.tail _ (.tail _ hp))), ((show Dk g1 (R ++ (To ++ Ko)) from (by (try simp only [dj_app_l, dj_app_r, dj_cons_l, dj_cons_r, dj_nil_l, dj_nil_r, dk_app, dk_cons, dk_nil, and_true, true_and, and_assoc]); repeat' (first | trivial | assumption | exact Dj.symm (by assumption) | exact Ne.symm (by assumption) | apply And.intro))) _ hp)⟩)⟩)⟩)⟩)) ?_
      refine wpV_done (by kernel_rfl) (fun W8 hW8 => ?_) _
      refine (show Code.wp _ _ _ _ _ from ?_)
      refine wp_ret ?_
      try simp only [inBlock_ret, then_ret]
      refine bodyPost_ret (v := .tuple #[vo, .agg #[.int .i64 ((fa : Nat) : Int), .int .i64 ((fr : Nat) : Int), .int .i64 ((fe : Nat) : Int)]]) ?_ rfl ?_
      · exact (res_tmp_cell (p := 7) (q := 6) rfl rfl (hW8.2 _ (.tail _ (.head _))) Try.underlying71 rfl (by kernel_rfl))
      · exact ⟨_, To ++ Ko, es, fa, fr, fe, rfl, (hW8.sub (fun p hp => by simp only [List.mem_cons, List.mem_append, List.nil_append, List.not_mem_nil, or_assoc, or_false, false_or, List.cons_append, List.append_assoc] at hp ⊢ <;> grind)), (show Dj R (To ++ Ko) from (by (try simp only [dj_app_l, dj_app_r, dj_cons_l, dj_cons_r, dj_nil_l, dj_nil_r, dk_app, dk_cons, dk_nil, and_true, true_and, and_assoc]); repeat' (first | trivial | assumption | exact Dj.symm (by assumption) | exact Ne.symm (by assumption) | apply And.intro))), (MkE.mk hOo hEo rfl), sega_of hI h1 (haQ h1)⟩
    | true =>
      have h1 : i < Q.length := of_decide_eq_true hd1
      clear hd1
      obtain ⟨p, q, hq1, hq2, hq3, hq4, hq5, hq6, hqT, hq7, hq8⟩ := hP.nth i h1
      obtain rfl : a = p := Option.some.inj ((hPi h1).symm.trans hq1)
      obtain ⟨Q', hQ2⟩ : ∃ Q', Q' = (splitU 58 q).1 :: (splitU 58 q).2 := ⟨_, rfl⟩
      refine wp_cond_true rfl ?_
      refine wp_skip ?_
      refine (show Code.wp _ _ _ _ _ from ?_)
      refine wp_seq ?_
      refine wp_block ?_
      refine wp_joins (fun az wz => ∃ (ja jr je : Nat), (SJ x f0 0 a (a + q.length + 1) es [] (Q.drop (i + 1)) Q' ja jr je) ∧ JoinR (fun zq => List.toArray ((strV l) :: (.int .i64 ((f0 : Nat) : Int)) :: (.int .i64 ((e0 : Nat) : Int)) :: undef :: undef :: undef :: (.slice none 0 0) :: (.pointer (some ⟨g1, 0, none⟩)) :: (vo) :: (.pointer (some ⟨g3, 0, none⟩)) :: (.slice (some ⟨g5, 0, none⟩) (cutL 43 f0 e0 l).length cap5) :: (.int .i64 ((i : Nat) : Int)) :: zq 12 :: zq 13 :: zq 14 :: zq 15 :: zq 16 :: zq 17 :: zq 18 :: (strV l) :: (.int .i64 ((f0 : Nat) : Int)) :: (.int .i64 ((e0 : Nat) : Int)) :: (.slice (some ⟨g5, 0, none⟩) (cutL 43 f0 e0 l).length cap5) :: (.int .i64 ((i : Nat) : Int)) :: (.slice (some ⟨g5, 0, none⟩) (cutL 43 f0 e0 l).length cap5) :: (.int .i64 ((Q.length : Nat) : Int)) :: (.bool true) :: zq 27 :: zq 28 :: zq 29 :: zq 30 :: zq 31 :: zq 32 :: zq 33 :: zq 34 :: zq 35 :: zq 36 :: zq 37 :: zq 38 :: zq 39 :: zq 40 :: zq 41 :: zq 42 :: zq 43 :: zq 44 :: zq 45 :: zq 46 :: zq 47 :: zq 48 :: zq 49 :: zq 50 :: zq 51 :: zq 52 :: zq 53 :: zq 54 :: zq 55 :: zq 56 :: zq 57 :: zq 58 :: zq 59 :: zq 60 :: zq 61 :: zq 62 :: zq 63 :: zq 64 :: zq 65 :: zq 66 :: zq 67 :: zq 68 :: zq 69 :: zq 70 :: zq 71 :: zq 72 :: zq 73 :: zq 74 :: zq 75 :: zq 76 :: zq 77 :: zq 78 :: zq 79 :: zq 80 :: zq 81 :: zq 82 :: zq 83 :: zq 84 :: zq 85 :: zq 86 :: zq 87 :: zq 88 :: zq 89 :: zq 90 :: zq 91 :: zq 92 :: zq 93 :: zq 94 :: zq 95 :: zq 96 :: zq 97 :: zq 98 :: zq 99 :: zq 100 :: zq 101 :: zq 102 :: zq 103 :: zq 104 :: zq 105 :: zq 106 :: undef :: undef :: [])) W0 ((g3, .cells #[.int .i64 ((ja : Nat) : Int), .int .i64 ((jr : Nat) : Int), .int .i64 ((je : Nat) : Int)] 71 (0, 0)) :: (g1, .cells #[.int .i64 0, .int .i64 0, .int .i64 0] 71 (0, 0)) :: (g5, .cells cur5 3 (0, 0)) :: (R ++ (To ++ Ko))) az wz) 1 ?_ ?_
      · refine (show Code.wp _ _ _ _ _ from ?_)
        refine wp_seq ?_
        refine wp_region_L (W0 := W0) ((g3, .cells #[.int .i64 ((fa : Nat) : Int), .int .i64 ((fr : Nat) : Int), .int .i64 ((fe : Nat) : Int)] 71 (0, 0)) :: (g1, .cells #[.int .i64 0, .int .i64 0, .int .i64 0] 71 (0, 0)) :: (g5, .cells cur5 3 (0, 0)) :: (R ++ (To ++ Ko))) (hW7) ?_
        refine lm (v := .int .i64 ((i : Nat) : Int)) rfl rfl ?_
        refine lp (v := .bool (decide (i = 30))) rfl rfl (run_bin rfl (vx := (.int .i64 ((i : Nat) : Int))) (vy := (.int .i64 ((30 : Nat) : Int))) (by kernel_rfl) (by kernel_rfl) fun w => bn_eql rfl w) ?_
        refine wpL_done (fun W9 hW9 => ?_)
        refine (show Code.wp _ _ _ _ _ from ?_)
        cases hd2 : (decide (i = 30)) with
        | false =>
          have h2 : ¬ (i = 30) := of_decide_eq_false hd2
          clear hd2
          refine wp_cond_false rfl ?_
          refine wp_skip ?_
          exact ⟨fa, fr, fe, (sj_start hI hq2 h2 hes hQ2), join_mk (by kernel_rfl) (hW9.sub (fun p hp => by first | exact hp | (simp only [List.mem_cons, List.mem_append, List.nil_append, List.not_mem_nil, or_assoc, or_false, false_or, List.cons_append, List.append_assoc] at hp ⊢ <;> grind)))⟩
        | true =>
          have h2 : i = 30 := of_decide_eq_true hd2
          clear hd2
          refine wp_cond_true rfl ?_
          refine wp_region_V (W0 := W0) ((g3, .cells #[.int .i64 ((fa : Nat) : Int), .int .i64 ((fr : Nat) : Int), .int .i64 ((fe : Nat) : Int)] 71 (0, 0)) :: (g1, .cells #[.int .i64 0, .int .i64 0, .int .i64 0] 71 (0, 0)) :: (g5, .cells cur5 3 (0, 0)) :: (R ++ (To ++ Ko))) (by kernel_rfl) (hW9) ?_
          refine vv (i := 0) (v := .agg #[.int .i64 ((fa : Nat) : Int), .int .i64 ((fr : Nat) : Int), .int .i64 ((fe : Nat) : Int)]) rfl rfl rfl (yb_load (n := 3) (off := 0) rfl (by kernel_rfl) (.head _) Try.underlying71 rfl (by kernel_rfl) (by simp) (by kernel_rfl)) ?_
          refine vm (i := 1) (v := .slice (some ⟨g5, 0, none⟩) (cutL 43 f0 e0 l).length cap5) rfl rfl rfl ?_
          refine vm (i := 2) (v := .int .i64 ((i : Nat) : Int)) rfl rfl rfl ?_
          refine vp (i := 3) (v := .pointer (some ⟨g5, 0 + i * 1, none⟩)) rfl rfl rfl (run_idxL (j := .i64) (n := (cutL 43 f0 e0 l).length) (cap := cap5) (b := g5) (off := 0) (k := i) (sz := 1) rfl Try.underlying84 (by kernel_rfl) (by kernel_rfl) (by kernel_rfl) (by rw [hP.len]; omega)) ?_
          refine vv (i := 4) (v := .int .i64 ((a : Nat) : Int)) rfl rfl rfl (yb_cell (off := 0 + i * 1) rfl (by kernel_rfl) (.tail _ (.tail _ (.head _))) Try.underlying3 rfl (by rw [Nat.zero_add, Nat.mul_one]; exact R5.get (ints_get hq1))) ?_
          refine vp (i := 5) (v := .int .i64 (((a - 1) : Nat) : Int)) rfl rfl rfl (run_bin rfl (vx := (.int .i64 ((a : Nat) : Int))) (vy := (.int .i64 ((1 : Nat) : Int))) (by kernel_rfl) (by kernel_rfl) fun w => bn_sub (z := (a - 1)) rfl (by omega) (wr_i64 (by omega)) w) ?_
          refine vm (i := 6) (v := .agg #[.int .i64 (((a - 1) : Nat) : Int), .int .i64 1, .int .i64 5]) rfl rfl rfl ?_
          cases hd3 : (decide (fe = 0)) with
          | false =>
            have h3 : ¬ (fe = 0) := of_decide_eq_false hd3
            clear hd3
            obtain ⟨hB, hff, hfr, hfa⟩ := hI.bad h3
            refine vv (i := 7) (v := .agg #[.int .i64 ((fa : Nat) : Int), .int .i64 ((fr : Nat) : Int), .int .i64 ((fe : Nat) : Int)]) rfl rfl rfl (yb_call (f := 36) (args := #[.agg #[.int .i64 ((fa : Nat) : Int), .int .i64 ((fr : Nat) : Int), .int .i64 ((fe : Nat) : Int)], .agg #[.int .i64 (((a - 1) : Nat) : Int), .int .i64 1, .int .i64 5]]) (fun _ => by kernel_rfl) fun W hW => worse_keep fa fr fe (a - 1) 1 5 h3 (by first | omega | exact (.inl rfl)) W) ?_
            refine wpV_s ((g3, .cells #[.int .i64 ((fa : Nat) : Int), .int .i64 ((fr : Nat) : Int), .int .i64 ((fe : Nat) : Int)] 71 (0, 0)) :: (g1, .cells #[.int .i64 0, .int .i64 0, .int .i64 0] 71 (0, 0)) :: (g5, .cells cur5 3 (0, 0)) :: (R ++ (To ++ Ko))) (i := 8) rfl (by kernel_rfl) rfl rfl rfl (st_row (off := 0) (v := .agg #[.int .i64 ((fa : Nat) : Int), .int .i64 ((fr : Nat) : Int), .int .i64 ((fe : Nat) : Int)]) rfl (by kernel_rfl) (by kernel_rfl) (.head _) Bg3 (by kernel_rfl) (by simp [Value.cells]) (by intro v hv; simp [Value.cells] at hv; first | (subst hv; rfl) | (rcases hv with rfl | rfl | rfl <;> rfl)) (by kernel_rfl) (List.forall_mem_cons.2 ⟨.inl rfl, (List.forall_mem_cons.2 ⟨.inr ⟨(.tail _ (.head _)), (by first | assumption | exact Ne.symm (by assumption))⟩, (List.forall_mem_cons.2 ⟨.inr ⟨(.tail _ (.tail _ (.head _))), (by first | assumption | exact Ne.symm (by assumption))⟩, (fun p hp => .inr ⟨(.tail _ (.tail _ (.tail _ hp))), ((show Dk g3 (R ++ (To ++ Ko)) from (by (try simp only [dj_app_l, dj_app_r, dj_cons_l, dj_cons_r, dj_nil_l, dj_nil_r, dk_app, dk_cons, dk_nil, and_true, true_and, and_assoc]); repeat' (first | trivial | assumption | exact Dj.symm (by assumption) | exact Ne.symm (by assumption) | apply And.intro))) _ hp)⟩)⟩)⟩)⟩)) ?_
            refine wpV_done (by kernel_rfl) (fun W10 hW10 => ?_) _
            exact ⟨fa, fr, fe, (.inr ⟨h3, hB, by omega, by omega, .inl ⟨rfl, by omega⟩⟩), join_mk (by kernel_rfl) (hW10.sub (fun p hp => by first | exact hp | (simp only [List.mem_cons, List.mem_append, List.nil_append, List.not_mem_nil, or_assoc, or_false, false_or, List.cons_append, List.append_assoc] at hp ⊢ <;> grind)))⟩
          | true =>
            have h3 : fe = 0 := of_decide_eq_true hd3
            clear hd3
            obtain ⟨hi30, hR⟩ := hI.ok h3
            refine vv (i := 7) (v := .agg #[.int .i64 (((a - 1) : Nat) : Int), .int .i64 1, .int .i64 5]) rfl rfl rfl (yb_call (f := 36) (args := #[.agg #[.int .i64 ((fa : Nat) : Int), .int .i64 ((fr : Nat) : Int), .int .i64 ((fe : Nat) : Int)], .agg #[.int .i64 (((a - 1) : Nat) : Int), .int .i64 1, .int .i64 5]]) (fun _ => by kernel_rfl) fun W hW => worse_new fa fr fe (a - 1) 1 5 h3 W) ?_
            refine wpV_s ((g3, .cells #[.int .i64 (((a - 1) : Nat) : Int), .int .i64 1, .int .i64 5] 71 (0, 0)) :: (g1, .cells #[.int .i64 0, .int .i64 0, .int .i64 0] 71 (0, 0)) :: (g5, .cells cur5 3 (0, 0)) :: (R ++ (To ++ Ko))) (i := 8) rfl (by kernel_rfl) rfl rfl rfl (st_row (off := 0) (v := .agg #[.int .i64 (((a - 1) : Nat) : Int), .int .i64 1, .int .i64 5]) rfl (by kernel_rfl) (by kernel_rfl) (.head _) Bg3 (by kernel_rfl) (by simp [Value.cells]) (by intro v hv; simp [Value.cells] at hv; first | (subst hv; rfl) | (rcases hv with rfl | rfl | rfl <;> rfl)) (by kernel_rfl) (List.forall_mem_cons.2 ⟨.inl rfl, (List.forall_mem_cons.2 ⟨.inr ⟨(.tail _ (.head _)), (by first | assumption | exact Ne.symm (by assumption))⟩, (List.forall_mem_cons.2 ⟨.inr ⟨(.tail _ (.tail _ (.head _))), (by first | assumption | exact Ne.symm (by assumption))⟩, (fun p hp => .inr ⟨(.tail _ (.tail _ (.tail _ hp))), ((show Dk g3 (R ++ (To ++ Ko)) from (by (try simp only [dj_app_l, dj_app_r, dj_cons_l, dj_cons_r, dj_nil_l, dj_nil_r, dk_app, dk_cons, dk_nil, and_true, true_and, and_assoc]); repeat' (first | trivial | assumption | exact Dj.symm (by assumption) | exact Ne.symm (by assumption) | apply And.intro))) _ hp)⟩)⟩)⟩)⟩)) ?_
            refine wpV_done (by kernel_rfl) (fun W11 hW11 => ?_) _
            exact ⟨(a - 1), 1, 5, (.inr ⟨by omega, by rw [hR, drop_nth hq2, sgR_many (by omega)], by omega, by omega, .inl ⟨rfl, by omega⟩⟩), join_mk (by kernel_rfl) (hW11.sub (fun p hp => by first | exact hp | (simp only [List.mem_cons, List.mem_append, List.nil_append, List.not_mem_nil, or_assoc, or_false, false_or, List.cons_append, List.append_assoc] at hp ⊢ <;> grind)))⟩
      · rintro a1 W1j ⟨ja, jr, je, hJ0, ⟨zx1, rfl⟩, hW1j⟩
        dsimp only [cutT]
        refine wp_joins (fun az wz => ∃ (la : Nat), (la = a + q.length) ∧ JoinR (fun zq => List.toArray ((strV l) :: (.int .i64 ((f0 : Nat) : Int)) :: (.int .i64 ((e0 : Nat) : Int)) :: undef :: undef :: undef :: (.slice none 0 0) :: (.pointer (some ⟨g1, 0, none⟩)) :: (vo) :: (.pointer (some ⟨g3, 0, none⟩)) :: (.slice (some ⟨g5, 0, none⟩) (cutL 43 f0 e0 l).length cap5) :: (.int .i64 ((i : Nat) : Int)) :: (.int .i64 ((la : Nat) : Int)) :: (zx1 13) :: (zx1 14) :: (zx1 15) :: (zx1 16) :: (zx1 17) :: (zx1 18) :: (strV l) :: (.int .i64 ((f0 : Nat) : Int)) :: (.int .i64 ((e0 : Nat) : Int)) :: (.slice (some ⟨g5, 0, none⟩) (cutL 43 f0 e0 l).length cap5) :: (.int .i64 ((i : Nat) : Int)) :: (.slice (some ⟨g5, 0, none⟩) (cutL 43 f0 e0 l).length cap5) :: (.int .i64 ((Q.length : Nat) : Int)) :: (.bool true) :: (zx1 27) :: (zx1 28) :: (zx1 29) :: (zx1 30) :: (zx1 31) :: (zx1 32) :: (zx1 33) :: (zx1 34) :: (zx1 35) :: (zx1 36) :: (zx1 37) :: (zx1 38) :: zq 39 :: zq 40 :: zq 41 :: zq 42 :: zq 43 :: zq 44 :: zq 45 :: zq 46 :: zq 47 :: zq 48 :: zq 49 :: zq 50 :: (zx1 51) :: (zx1 52) :: (zx1 53) :: (zx1 54) :: (zx1 55) :: (zx1 56) :: (zx1 57) :: (zx1 58) :: (zx1 59) :: (zx1 60) :: (zx1 61) :: (zx1 62) :: (zx1 63) :: (zx1 64) :: (zx1 65) :: (zx1 66) :: (zx1 67) :: (zx1 68) :: (zx1 69) :: (zx1 70) :: (zx1 71) :: (zx1 72) :: (zx1 73) :: (zx1 74) :: (zx1 75) :: (zx1 76) :: (zx1 77) :: (zx1 78) :: (zx1 79) :: (zx1 80) :: (zx1 81) :: (zx1 82) :: (zx1 83) :: (zx1 84) :: (zx1 85) :: (zx1 86) :: (zx1 87) :: (zx1 88) :: (zx1 89) :: (zx1 90) :: (zx1 91) :: (zx1 92) :: (zx1 93) :: (zx1 94) :: (zx1 95) :: (zx1 96) :: (zx1 97) :: (zx1 98) :: (zx1 99) :: (zx1 100) :: (zx1 101) :: (zx1 102) :: (zx1 103) :: (zx1 104) :: (zx1 105) :: (zx1 106) :: undef :: undef :: [])) W0 ((g3, .cells #[.int .i64 ((ja : Nat) : Int), .int .i64 ((jr : Nat) : Int), .int .i64 ((je : Nat) : Int)] 71 (0, 0)) :: (g1, .cells #[.int .i64 0, .int .i64 0, .int .i64 0] 71 (0, 0)) :: (g5, .cells cur5 3 (0, 0)) :: (R ++ (To ++ Ko))) az wz) 2 ?_ ?_
        · refine (show Code.wp _ _ _ _ _ from ?_)
          refine wp_region_L (W0 := W0) ((g3, .cells #[.int .i64 ((ja : Nat) : Int), .int .i64 ((jr : Nat) : Int), .int .i64 ((je : Nat) : Int)] 71 (0, 0)) :: (g1, .cells #[.int .i64 0, .int .i64 0, .int .i64 0] 71 (0, 0)) :: (g5, .cells cur5 3 (0, 0)) :: (R ++ (To ++ Ko))) (hW1j) ?_
          refine lm (v := .int .i64 ((e0 : Nat) : Int)) rfl rfl ?_
          refine lm (v := .int .i64 ((e0 : Nat) : Int)) rfl rfl ?_
          refine wpL_done (fun W12 hW12 => ?_)
          refine (show Code.wp _ _ _ _ _ from ?_)
          refine wp_seq ?_
          refine wp_region_L (W0 := W0) ((g3, .cells #[.int .i64 ((ja : Nat) : Int), .int .i64 ((jr : Nat) : Int), .int .i64 ((je : Nat) : Int)] 71 (0, 0)) :: (g1, .cells #[.int .i64 0, .int .i64 0, .int .i64 0] 71 (0, 0)) :: (g5, .cells cur5 3 (0, 0)) :: (R ++ (To ++ Ko))) (hW12) ?_
          refine lm (v := .int .i64 ((i : Nat) : Int)) rfl rfl ?_
          refine lp (v := .int .i64 (((i + 1) : Nat) : Int)) rfl rfl (run_bin rfl (vx := (.int .i64 ((i : Nat) : Int))) (vy := (.int .i64 ((1 : Nat) : Int))) (by kernel_rfl) (by kernel_rfl) fun w => bn_add (z := (i + 1)) rfl (wr_i64 (by omega)) w) ?_
          refine lm (v := .slice (some ⟨g5, 0, none⟩) (cutL 43 f0 e0 l).length cap5) rfl rfl ?_
          refine lp (v := .int .i64 ((Q.length : Nat) : Int)) rfl rfl (fun w => (run_lenL (p := (some ⟨g5, 0, none⟩)) (cap := cap5) (n := (cutL 43 f0 e0 l).length) rfl Try.underlying84 (by kernel_rfl) w).trans (by rw [hP.len])) ?_
          refine lp (v := .bool (decide ((i + 1) < Q.length))) rfl rfl (run_bin rfl (vx := (.int .i64 (((i + 1) : Nat) : Int))) (vy := (.int .i64 ((Q.length : Nat) : Int))) (by kernel_rfl) (by kernel_rfl) fun w => bn_lss rfl w) ?_
          refine wpL_done (fun W13 hW13 => ?_)
          refine (show Code.wp _ _ _ _ _ from ?_)
          cases hd4 : (decide ((i + 1) < Q.length)) with
          | false =>
            have h4 : ¬ ((i + 1) < Q.length) := of_decide_eq_false hd4
            clear hd4
            have hqe := hq8 h4
            refine wp_cond_false rfl ?_
            refine wp_skip ?_
            exact ⟨e0, (by omega), join_mk (by kernel_rfl) (hW13.sub (fun p hp => by first | exact hp | (simp only [List.mem_cons, List.mem_append, List.nil_append, List.not_mem_nil, or_assoc, or_false, false_or, List.cons_append, List.append_assoc] at hp ⊢ <;> grind)))⟩
          | true =>
            have h4 : (i + 1) < Q.length := of_decide_eq_true hd4
            clear hd4
            refine wp_cond_true rfl ?_
            refine wp_region_L (W0 := W0) ((g3, .cells #[.int .i64 ((ja : Nat) : Int), .int .i64 ((jr : Nat) : Int), .int .i64 ((je : Nat) : Int)] 71 (0, 0)) :: (g1, .cells #[.int .i64 0, .int .i64 0, .int .i64 0] 71 (0, 0)) :: (g5, .cells cur5 3 (0, 0)) :: (R ++ (To ++ Ko))) (hW13) ?_
            refine lm (v := .slice (some ⟨g5, 0, none⟩) (cutL 43 f0 e0 l).length cap5) rfl rfl ?_
            refine lm (v := .int .i64 ((i : Nat) : Int)) rfl rfl ?_
            refine lp (v := .int .i64 (((i + 1) : Nat) : Int)) rfl rfl (run_bin rfl (vx := (.int .i64 ((i : Nat) : Int))) (vy := (.int .i64 ((1 : Nat) : Int))) (by kernel_rfl) (by kernel_rfl) fun w => bn_add (z := (i + 1)) rfl (wr_i64 (by omega)) w) ?_
            refine lp (v := .pointer (some ⟨g5, 0 + (i + 1) * 1, none⟩)) rfl rfl (run_idxL (j := .i64) (n := (cutL 43 f0 e0 l).length) (cap := cap5) (b := g5) (off := 0) (k := (i + 1)) (sz := 1) rfl Try.underlying84 (by kernel_rfl) (by kernel_rfl) (by kernel_rfl) (by rw [hP.len]; omega)) ?_
            refine lv (v := .int .i64 (((a + q.length + 1) : Nat) : Int)) rfl rfl (yb_cell (off := 0 + (i + 1) * 1) rfl (by kernel_rfl) (.tail _ (.tail _ (.head _))) Try.underlying3 rfl (by rw [Nat.zero_add, Nat.mul_one]; exact R5.get (ints_get (hq7 h4).1))) ?_
            refine lp (v := .int .i64 (((a + q.length) : Nat) : Int)) rfl rfl (run_bin rfl (vx := (.int .i64 (((a + q.length + 1) : Nat) : Int))) (vy := (.int .i64 ((1 : Nat) : Int))) (by kernel_rfl) (by kernel_rfl) fun w => bn_sub (z := (a + q.length)) (by omega) (by omega) (wr_i64 (by omega)) w) ?_
            refine lm (v := .int .i64 (((a + q.length) : Nat) : Int)) rfl rfl ?_
            refine wpL_done (fun W14 hW14 => ?_)
            exact ⟨(a + q.length), (by omega), join_mk (by kernel_rfl) (hW14.sub (fun p hp => by first | exact hp | (simp only [List.mem_cons, List.mem_append, List.nil_append, List.not_mem_nil, or_assoc, or_false, false_or, List.cons_append, List.append_assoc] at hp ⊢ <;> grind)))⟩
        · rintro a2 W2j ⟨la, hla, ⟨zx2, rfl⟩, hW2j⟩
          dsimp only [cutT]
          have hq6b : q = rest l la a := by rw [hla]; exact hq6
          have hqTb : Tqe l la a := by rw [hla]; exact hqT
          have hP' : Prt l 58 a la Q' := by rw [hQ2]; have z := prt_of (l := l) (y := 58) (f := a) (e := la) (by decide) (by omega) (by omega) hqTb; rwa [← hq6b] at z
          have hP0' : 0 < (cutL 58 a la l).length := by rw [hP'.len]; exact hP'.pos
          have hP1' := hP'.pos
          have hQl' : Q'.length ≤ la + 1 := by
            have h1 := hP'.len
            have h2 : (cutL 58 a la l).length ≤ la + 1 := cutL_len (by omega) (by omega)
            omega
          refine wp_seq ?_
          refine wp_region_L (W0 := W0) ((g3, .cells #[.int .i64 ((ja : Nat) : Int), .int .i64 ((jr : Nat) : Int), .int .i64 ((je : Nat) : Int)] 71 (0, 0)) :: (g1, .cells #[.int .i64 0, .int .i64 0, .int .i64 0] 71 (0, 0)) :: (g5, .cells cur5 3 (0, 0)) :: (R ++ (To ++ Ko))) (hW2j) ?_
          refine lm (v := .slice none 0 0) rfl rfl ?_
          refine wpL_done (fun W15 hW15 => ?_)
          refine (show Code.wp _ _ _ _ _ from ?_)
          refine wp_seq ?_
          refine wp_region_L (W0 := W0) ((g3, .cells #[.int .i64 ((ja : Nat) : Int), .int .i64 ((jr : Nat) : Int), .int .i64 ((je : Nat) : Int)] 71 (0, 0)) :: (g1, .cells #[.int .i64 0, .int .i64 0, .int .i64 0] 71 (0, 0)) :: (g5, .cells cur5 3 (0, 0)) :: (R ++ (To ++ Ko))) (hW15) ?_
          refine lm (v := strV l) rfl rfl ?_
          refine lm (v := .slice (some ⟨g5, 0, none⟩) (cutL 43 f0 e0 l).length cap5) rfl rfl ?_
          refine lm (v := .int .i64 ((i : Nat) : Int)) rfl rfl ?_
          refine lp (v := .pointer (some ⟨g5, 0 + i * 1, none⟩)) rfl rfl (run_idxL (j := .i64) (n := (cutL 43 f0 e0 l).length) (cap := cap5) (b := g5) (off := 0) (k := i) (sz := 1) rfl Try.underlying84 (by kernel_rfl) (by kernel_rfl) (by kernel_rfl) (by rw [hP.len]; omega)) ?_
          refine lv (v := .int .i64 ((a : Nat) : Int)) rfl rfl (yb_cell (off := 0 + i * 1) rfl (by kernel_rfl) (.tail _ (.tail _ (.head _))) Try.underlying3 rfl (by rw [Nat.zero_add, Nat.mul_one]; exact R5.get (ints_get hq1))) ?_
          refine lm (v := .int .i64 ((la : Nat) : Int)) rfl rfl ?_
          refine wpL_c (f := 46) (args := #[strV l, .int .i64 ((a : Nat) : Int), .int .i64 ((la : Nat) : Int), .int .u8 58]) (fun v K2 => ∃ Kl, OwnL W0 3 1 v (cutL 58 a la l).length (ints (cutL 58 a la l)) Kl ∧ (∀ p ∈ ((g3, .cells #[.int .i64 ((ja : Nat) : Int), .int .i64 ((jr : Nat) : Int), .int .i64 ((je : Nat) : Int)] 71 (0, 0)) :: (g1, .cells #[.int .i64 0, .int .i64 0, .int .i64 0] 71 (0, 0)) :: (g5, .cells cur5 3 (0, 0)) :: (R ++ (To ++ Ko))), ∀ q ∈ Kl, q.1 ≠ p.1) ∧ K2 = ((g3, .cells #[.int .i64 ((ja : Nat) : Int), .int .i64 ((jr : Nat) : Int), .int .i64 ((je : Nat) : Int)] 71 (0, 0)) :: (g1, .cells #[.int .i64 0, .int .i64 0, .int .i64 0] 71 (0, 0)) :: (g5, .cells cur5 3 (0, 0)) :: (R ++ (To ++ Ko))) ++ Kl) rfl (by kernel_rfl) (fun _ => (by kernel_rfl)) (fun W hW => (cut_any l a la 58 lc (by omega) (by omega) W).mono fun e w2 ⟨v, he, hO, hb⟩ => (let ⟨Kl, a1, a2, a3⟩ := hO.own hW hb; ⟨v, _, he, a3, Kl, a1, a2, rfl⟩)) (fun _ => by simp only [List.setIfInBounds_toArray, List.set_cons_succ, List.set_cons_zero] <;> rfl) ?_
          rintro v8 _ ⟨Kl8, O8, N8, rfl⟩
          obtain ⟨g8, cap8, cur8, rfl, B8, R8, rfl⟩ := O8.resolve_left (fun h => by have := hP0'; omega)
          obtain ⟨dj9_0, dj9_1, dj9_2, dj9_3, dj9_4, dj9_5⟩ : g3 ≠ g8 ∧ g1 ≠ g8 ∧ g5 ≠ g8 ∧ Dk g8 R ∧ Dk g8 To ∧ Dk g8 Ko := by simpa only [dj_app_l, dj_app_r, dj_cons_l, dj_cons_r, dj_nil_l, dj_nil_r, dk_app, dk_cons, dk_nil, and_true, true_and, and_assoc] using (show Dk g8 ((g3, .cells #[.int .i64 ((ja : Nat) : Int), .int .i64 ((jr : Nat) : Int), .int .i64 ((je : Nat) : Int)] 71 (0, 0)) :: (g1, .cells #[.int .i64 0, .int .i64 0, .int .i64 0] 71 (0, 0)) :: (g5, .cells cur5 3 (0, 0)) :: (R ++ (To ++ Ko))) from (fun p hp e => N8 p hp _ (.head _) e.symm))
          refine lm (v := .slice (some ⟨g8, 0, none⟩) (cutL 58 a la l).length cap8) rfl rfl ?_
          refine wpL_done (fun W16 hW16 => ?_)
          refine (show Code.wp _ _ _ _ _ from ?_)
          refine wp_seq ?_
          refine wp_seq ?_
          refine wp_region_L (W0 := W0) ((g3, .cells #[.int .i64 ((ja : Nat) : Int), .int .i64 ((jr : Nat) : Int), .int .i64 ((je : Nat) : Int)] 71 (0, 0)) :: (g1, .cells #[.int .i64 0, .int .i64 0, .int .i64 0] 71 (0, 0)) :: (g5, .cells cur5 3 (0, 0)) :: (g8, .cells cur8 3 (0, 0)) :: (R ++ (To ++ Ko))) ((hW16.sub (fun p hp => by simp only [List.mem_cons, List.mem_append, List.nil_append, List.not_mem_nil, or_assoc, or_false, false_or, List.cons_append, List.append_assoc] at hp ⊢ <;> grind))) ?_
          refine lm (v := .int .i64 0) rfl rfl ?_
          refine wpL_done (fun W17 hW17 => ?_)
          refine (show Code.wp _ _ _ _ _ from ?_)
          refine wp_block ?_
          go_loopw [15, 13] (fun u15 u13 wr => ∃ (k b : Nat) (cs : List Cmp) (ga gr ge : Nat) (ve : Value) (Ke : List (Nat × Obj)), (k ≤ Q'.length) ∧ (cs.length = k) ∧ (b ≤ la + 1 ∧ a ≤ b ∧ (0 < k → 1 ≤ b)) ∧ (k < Q'.length → (cutL 58 a la l)[k]? = some b) ∧ (¬ k < Q'.length → b = a + q.length + 1) ∧ (SJ x f0 k b (a + q.length + 1) es cs (Q.drop (i + 1)) (Q'.drop k) ga gr ge) ∧ (OwnL W0 9 1 ve k (cs.map strV) Ke) ∧ (Dk g3 Ke) ∧ (Dk g1 Ke) ∧ (Dk g5 Ke) ∧ (Dk g8 Ke) ∧ (Dj R Ke) ∧ (Dj To Ke) ∧ (Dj Ko Ke) ∧ u15 = .int .i64 ((k : Nat) : Int) ∧ ve = u13 ∧ KS W0 ((g3, .cells #[.int .i64 ((ga : Nat) : Int), .int .i64 ((gr : Nat) : Int), .int .i64 ((ge : Nat) : Int)] 71 (0, 0)) :: (g1, .cells #[.int .i64 0, .int .i64 0, .int .i64 0] 71 (0, 0)) :: (g5, .cells cur5 3 (0, 0)) :: (g8, .cells cur8 3 (0, 0)) :: (R ++ (To ++ (Ko ++ Ke)))) wr) (fun u15 _ _ => Q'.length - (intOf u15).toNat)
          case atStart => exact ⟨0, a, [], ja, jr, je, (.slice none 0 0), [], (Nat.zero_le _), rfl, (by omega), (fun _ => hP'.nil), (by omega), hJ0, (OwnL.nil _ _ _), (show Dk g3 [] from (by (try simp only [dj_app_l, dj_app_r, dj_cons_l, dj_cons_r, dj_nil_l, dj_nil_r, dk_app, dk_cons, dk_nil, and_true, true_and, and_assoc]); repeat' (first | trivial | assumption | exact Dj.symm (by assumption) | exact Ne.symm (by assumption) | apply And.intro))), (show Dk g1 [] from (by (try simp only [dj_app_l, dj_app_r, dj_cons_l, dj_cons_r, dj_nil_l, dj_nil_r, dk_app, dk_cons, dk_nil, and_true, true_and, and_assoc]); repeat' (first | trivial | assumption | exact Dj.symm (by assumption) | exact Ne.symm (by assumption) | apply And.intro))), (show Dk g5 [] from (by (try simp only [dj_app_l, dj_app_r, dj_cons_l, dj_cons_r, dj_nil_l, dj_nil_r, dk_app, dk_cons, dk_nil, and_true, true_and, and_assoc]); repeat' (first | trivial | assumption | exact Dj.symm (by assumption) | exact Ne.symm (by assumption) | apply And.intro))), (show Dk g8 [] from (by (try simp only [dj_app_l, dj_app_r, dj_cons_l, dj_cons_r, dj_nil_l, dj_nil_r, dk_app, dk_cons, dk_nil, and_true, true_and, and_assoc]); repeat' (first | trivial | assumption | exact Dj.symm (by assumption) | exact Ne.symm (by assumption) | apply And.intro))), (show Dj R [] from (by (try simp only [dj_app_l, dj_app_r, dj_cons_l, dj_cons_r, dj_nil_l, dj_nil_r, dk_app, dk_cons, dk_nil, and_true, true_and, and_assoc]); repeat' (first | trivial | assumption | exact Dj.symm (by assumption) | exact Ne.symm (by assumption) | apply And.intro))), (show Dj To [] from (by (try simp only [dj_app_l, dj_app_r, dj_cons_l, dj_cons_r, dj_nil_l, dj_nil_r, dk_app, dk_cons, dk_nil, and_true, true_and, and_assoc]); repeat' (first | trivial | assumption | exact Dj.symm (by assumption) | exact Ne.symm (by assumption) | apply And.intro))), (show Dj Ko [] from (by (try simp only [dj_app_l, dj_app_r, dj_cons_l, dj_cons_r, dj_nil_l, dj_nil_r, dk_app, dk_cons, dk_nil, and_true, true_and, and_assoc]); repeat' (first | trivial | assumption | exact Dj.symm (by assumption) | exact Ne.symm (by assumption) | apply And.intro))), rfl, rfl, (hW17.sub (fun p hp => by first | exact hp | (simp only [List.mem_cons, List.mem_append, List.nil_append, List.not_mem_nil, or_assoc, or_false, false_or, List.cons_append, List.append_assoc] at hp ⊢ <;> grind)))⟩
          case round =>
            obtain ⟨k, b, cs, ga, gr, ge, ve, Ke, hk, hcs, hb, hPk, hbQ, hJ, hOe, dh10_0, dh10_1, dh10_2, dh10_3, dh10_4, dh10_5, dh10_6, rfl, rfl, hL18⟩ := hrel
            refine wp_seq ?_
            refine wp_seq ?_
            refine wp_region_L (W0 := W0) ((g3, .cells #[.int .i64 ((ga : Nat) : Int), .int .i64 ((gr : Nat) : Int), .int .i64 ((ge : Nat) : Int)] 71 (0, 0)) :: (g1, .cells #[.int .i64 0, .int .i64 0, .int .i64 0] 71 (0, 0)) :: (g5, .cells cur5 3 (0, 0)) :: (g8, .cells cur8 3 (0, 0)) :: (R ++ (To ++ (Ko ++ Ke)))) (hL18) ?_
            refine lm (v := .int .i64 ((k : Nat) : Int)) rfl rfl ?_
            refine lm (v := .slice (some ⟨g8, 0, none⟩) (cutL 58 a la l).length cap8) rfl rfl ?_
            refine lp (v := .int .i64 ((Q'.length : Nat) : Int)) rfl rfl (fun w => (run_lenL (p := (some ⟨g8, 0, none⟩)) (cap := cap8) (n := (cutL 58 a la l).length) rfl Try.underlying84 (by kernel_rfl) w).trans (by rw [hP'.len])) ?_
            refine lp (v := .bool (decide (k < Q'.length))) rfl rfl (run_bin rfl (vx := (.int .i64 ((k : Nat) : Int))) (vy := (.int .i64 ((Q'.length : Nat) : Int))) (by kernel_rfl) (by kernel_rfl) fun w => bn_lss rfl w) ?_
            refine wpL_done (fun W19 hW19 => ?_)
            refine (show Code.wp _ _ _ _ _ from ?_)
            cases hd5 : (decide (k < Q'.length)) with
            | false =>
              have h5 : ¬ (k < Q'.length) := of_decide_eq_false hd5
              clear hd5
              refine wp_cond_false rfl ?_
              refine wp_exit ?_
              refine (show Code.wp _ _ _ _ _ from ?_)
              refine wp_region_L (W0 := W0) ((g3, .cells #[.int .i64 ((ga : Nat) : Int), .int .i64 ((gr : Nat) : Int), .int .i64 ((ge : Nat) : Int)] 71 (0, 0)) :: (g1, .cells #[.int .i64 0, .int .i64 0, .int .i64 0] 71 (0, 0)) :: (g5, .cells cur5 3 (0, 0)) :: (g8, .cells cur8 3 (0, 0)) :: (R ++ (To ++ (Ko ++ Ke)))) (hW19) ?_
              refine lm (v := vo) rfl rfl ?_
              refine lm (v := ve) rfl rfl ?_
              obtain ⟨p11, c11, rfl⟩ := own_shape hOe
              refine wpL_new (fun g => .slice (some ⟨g, 0, none⟩) 1 1) (obi := .cells #[.slice p11 k c11] 43 (0, 0)) rfl rfl (fun _ => by kernel_rfl) (fun _ => by simp only [List.setIfInBounds_toArray, List.set_cons_succ, List.set_cons_zero] <;> rfl) fun g12 Bg12 Fg12 => ?_
              obtain ⟨dj13_0, dj13_1, dj13_2, dj13_3, dj13_4, dj13_5, dj13_6, dj13_7⟩ : g3 ≠ g12 ∧ g1 ≠ g12 ∧ g5 ≠ g12 ∧ g8 ≠ g12 ∧ Dk g12 R ∧ Dk g12 To ∧ Dk g12 Ko ∧ Dk g12 Ke := by simpa only [dj_app_l, dj_app_r, dj_cons_l, dj_cons_r, dj_nil_l, dj_nil_r, dk_app, dk_cons, dk_nil, and_true, true_and, and_assoc] using (show Dk g12 ((g3, .cells #[.int .i64 ((ga : Nat) : Int), .int .i64 ((gr : Nat) : Int), .int .i64 ((ge : Nat) : Int)] 71 (0, 0)) :: (g1, .cells #[.int .i64 0, .int .i64 0, .int .i64 0] 71 (0, 0)) :: (g5, .cells cur5 3 (0, 0)) :: (g8, .cells cur8 3 (0, 0)) :: (R ++ (To ++ (Ko ++ Ke)))) from Fg12)
              refine wpL_g (AppO W0 43 1 ((g3, .cells #[.int .i64 ((ga : Nat) : Int), .int .i64 ((gr : Nat) : Int), .int .i64 ((ge : Nat) : Int)] 71 (0, 0)) :: (g1, .cells #[.int .i64 0, .int .i64 0, .int .i64 0] 71 (0, 0)) :: (g5, .cells cur5 3 (0, 0)) :: (g8, .cells cur8 3 (0, 0)) :: (R ++ (To ++ Ke))) (es.length + 1) (xo ++ [.slice p11 k c11])) rfl rfl (app_own el_ref (m := 1) (c := 1) (news := [.slice p11 k c11]) rfl (by kernel_rfl) (by kernel_rfl) (.head _) hOo (fun p hp => by simp only [List.mem_cons, List.mem_append, List.nil_append, List.not_mem_nil, or_assoc, or_false, false_or, hp, or_true, true_or]) (fun p hp => ⟨by simp only [List.mem_cons, List.mem_append, List.nil_append, List.not_mem_nil, or_assoc, or_false, false_or] at hp ⊢ <;> grind, (show Dj ((g3, .cells #[.int .i64 ((ga : Nat) : Int), .int .i64 ((gr : Nat) : Int), .int .i64 ((ge : Nat) : Int)] 71 (0, 0)) :: (g1, .cells #[.int .i64 0, .int .i64 0, .int .i64 0] 71 (0, 0)) :: (g5, .cells cur5 3 (0, 0)) :: (g8, .cells cur8 3 (0, 0)) :: (R ++ (To ++ Ke))) Ko from (by (try simp only [dj_app_l, dj_app_r, dj_cons_l, dj_cons_r, dj_nil_l, dj_nil_r, dk_app, dk_cons, dk_nil, and_true, true_and, and_assoc]); repeat' (first | trivial | assumption | exact Dj.symm (by assumption) | exact Ne.symm (by assumption) | apply And.intro))) p hp⟩) rfl (by simp [strV, Value.oneCell']) (by omega) (by omega) (by omega)) (fun _ => by simp only [List.setIfInBounds_toArray, List.set_cons_succ, List.set_cons_zero] <;> rfl) ?_
              rintro v14 K9 ⟨Kl14, O14, N14, rfl⟩
              obtain ⟨dj15_0, dj15_1, dj15_2, dj15_3, dj15_4, dj15_5, dj15_6⟩ : Dk g3 Kl14 ∧ Dk g1 Kl14 ∧ Dk g5 Kl14 ∧ Dk g8 Kl14 ∧ Dj R Kl14 ∧ Dj To Kl14 ∧ Dj Ke Kl14 := by simpa only [dj_app_l, dj_app_r, dj_cons_l, dj_cons_r, dj_nil_l, dj_nil_r, dk_app, dk_cons, dk_nil, and_true, true_and, and_assoc] using (show Dj ((g3, .cells #[.int .i64 ((ga : Nat) : Int), .int .i64 ((gr : Nat) : Int), .int .i64 ((ge : Nat) : Int)] 71 (0, 0)) :: (g1, .cells #[.int .i64 0, .int .i64 0, .int .i64 0] 71 (0, 0)) :: (g5, .cells cur5 3 (0, 0)) :: (g8, .cells cur8 3 (0, 0)) :: (R ++ (To ++ Ke))) Kl14 from N14)
              refine lm (v := v14) rfl rfl ?_
              refine wpL_done (fun W20 hW20 => ?_)
              refine (show Code.wp _ _ _ _ _ from ?_)
              refine wp_region_L (W0 := W0) ((g3, .cells #[.int .i64 ((ga : Nat) : Int), .int .i64 ((gr : Nat) : Int), .int .i64 ((ge : Nat) : Int)] 71 (0, 0)) :: (g1, .cells #[.int .i64 0, .int .i64 0, .int .i64 0] 71 (0, 0)) :: (g5, .cells cur5 3 (0, 0)) :: (g8, .cells cur8 3 (0, 0)) :: ((R ++ (To ++ Ke)) ++ Kl14)) (hW20) ?_
              refine lm (v := .int .i64 ((i : Nat) : Int)) rfl rfl ?_
              refine lp (v := .int .i64 (((i + 1) : Nat) : Int)) rfl rfl (run_bin rfl (vx := (.int .i64 ((i : Nat) : Int))) (vy := (.int .i64 ((1 : Nat) : Int))) (by kernel_rfl) (by kernel_rfl) fun w => bn_add (z := (i + 1)) rfl (wr_i64 (by omega)) w) ?_
              refine lm (v := .int .i64 (((i + 1) : Nat) : Int)) rfl rfl ?_
              refine wpL_done (fun W21 hW21 => ?_)
              go_roundw
              case rel =>
                repeat apply Exists.intro
                exact ⟨⟨(i + 1), (a + q.length + 1), (es ++ [cs]), ga, gr, ge, v14, (xo ++ [.slice p11 k c11]), (To ++ ([] ++ Ke)), Kl14, (by omega), (by simp; omega), (by omega), (fun hn => (hq7 hn).1), (by omega), (si_of hJ h5 (hbQ h5) hes (by omega)), (own_b2 O14 (by simp)), (MkE.snoc hEo (MkE.mk hOe (MkE.strs cs) (by omega))), (show Dk g3 (To ++ ([] ++ Ke)) from (by (try simp only [dj_app_l, dj_app_r, dj_cons_l, dj_cons_r, dj_nil_l, dj_nil_r, dk_app, dk_cons, dk_nil, and_true, true_and, and_assoc]); repeat' (first | trivial | assumption | exact Dj.symm (by assumption) | exact Ne.symm (by assumption) | apply And.intro))), (show Dk g1 (To ++ ([] ++ Ke)) from (by (try simp only [dj_app_l, dj_app_r, dj_cons_l, dj_cons_r, dj_nil_l, dj_nil_r, dk_app, dk_cons, dk_nil, and_true, true_and, and_assoc]); repeat' (first | trivial | assumption | exact Dj.symm (by assumption) | exact Ne.symm (by assumption) | apply And.intro))), (show Dk g5 (To ++ ([] ++ Ke)) from (by (try simp only [dj_app_l, dj_app_r, dj_cons_l, dj_cons_r, dj_nil_l, dj_nil_r, dk_app, dk_cons, dk_nil, and_true, true_and, and_assoc]); repeat' (first | trivial | assumption | exact Dj.symm (by assumption) | exact Ne.symm (by assumption) | apply And.intro))), (show Dj R (To ++ ([] ++ Ke)) from (by (try simp only [dj_app_l, dj_app_r, dj_cons_l, dj_cons_r, dj_nil_l, dj_nil_r, dk_app, dk_cons, dk_nil, and_true, true_and, and_assoc]); repeat' (first | trivial | assumption | exact Dj.symm (by assumption) | exact Ne.symm (by assumption) | apply And.intro))), (show Dk g3 Kl14 from (by (try simp only [dj_app_l, dj_app_r, dj_cons_l, dj_cons_r, dj_nil_l, dj_nil_r, dk_app, dk_cons, dk_nil, and_true, true_and, and_assoc]); repeat' (first | trivial | assumption | exact Dj.symm (by assumption) | exact Ne.symm (by assumption) | apply And.intro))), (show Dk g1 Kl14 from (by (try simp only [dj_app_l, dj_app_r, dj_cons_l, dj_cons_r, dj_nil_l, dj_nil_r, dk_app, dk_cons, dk_nil, and_true, true_and, and_assoc]); repeat' (first | trivial | assumption | exact Dj.symm (by assumption) | exact Ne.symm (by assumption) | apply And.intro))), (show Dk g5 Kl14 from (by (try simp only [dj_app_l, dj_app_r, dj_cons_l, dj_cons_r, dj_nil_l, dj_nil_r, dk_app, dk_cons, dk_nil, and_true, true_and, and_assoc]); repeat' (first | trivial | assumption | exact Dj.symm (by assumption) | exact Ne.symm (by assumption) | apply And.intro))), (show Dj R Kl14 from (by (try simp only [dj_app_l, dj_app_r, dj_cons_l, dj_cons_r, dj_nil_l, dj_nil_r, dk_app, dk_cons, dk_nil, and_true, true_and, and_assoc]); repeat' (first | trivial | assumption | exact Dj.symm (by assumption) | exact Ne.symm (by assumption) | apply And.intro))), (show Dj (To ++ ([] ++ Ke)) Kl14 from (by (try simp only [dj_app_l, dj_app_r, dj_cons_l, dj_cons_r, dj_nil_l, dj_nil_r, dk_app, dk_cons, dk_nil, and_true, true_and, and_assoc]); repeat' (first | trivial | assumption | exact Dj.symm (by assumption) | exact Ne.symm (by assumption) | apply And.intro))), rfl, rfl, (hW21.sub (fun p hp => by first | exact hp | (simp only [List.mem_cons, List.mem_append, List.nil_append, List.not_mem_nil, or_assoc, or_false, false_or, List.cons_append, List.append_assoc] at hp ⊢ <;> grind)))⟩, rfl⟩
              case measure => (show Q.length - (intOf (.int .i64 (((i + 1) : Nat) : Int))).toNat < Q.length - (intOf (.int .i64 ((i : Nat) : Int))).toNat); simp only [intOf]; omega
            | true =>
              have h5 : k < Q'.length := of_decide_eq_true hd5
              clear hd5
              obtain ⟨p2, m, hm1, hm2, hm3, hm4, hm5, hm6, hmT, hm7, hm8⟩ := hP'.nth k h5
              obtain rfl : b = p2 := Option.some.inj ((hPk h5).symm.trans hm1)
              refine wp_cond_true rfl ?_
              refine wp_skip ?_
              refine (show Code.wp _ _ _ _ _ from ?_)
              refine wp_seq ?_
              refine wp_block ?_
              refine wp_joins (fun az wz => ∃ (ka kr ke : Nat), (SK x f0 k b (a + q.length + 1) es cs (Q.drop (i + 1)) (Q'.drop k) ka kr ke) ∧ JoinR (fun zq => List.toArray ((strV l) :: (.int .i64 ((f0 : Nat) : Int)) :: (.int .i64 ((e0 : Nat) : Int)) :: undef :: undef :: undef :: (.slice none 0 0) :: (.pointer (some ⟨g1, 0, none⟩)) :: (vo) :: (.pointer (some ⟨g3, 0, none⟩)) :: (.slice (some ⟨g5, 0, none⟩) (cutL 43 f0 e0 l).length cap5) :: (.int .i64 ((i : Nat) : Int)) :: (.int .i64 ((la : Nat) : Int)) :: (ve) :: (.slice (some ⟨g8, 0, none⟩) (cutL 58 a la l).length cap8) :: (.int .i64 ((k : Nat) : Int)) :: zq 16 :: zq 17 :: zq 18 :: (strV l) :: (.int .i64 ((f0 : Nat) : Int)) :: (.int .i64 ((e0 : Nat) : Int)) :: (.slice (some ⟨g5, 0, none⟩) (cutL 43 f0 e0 l).length cap5) :: (.int .i64 ((i : Nat) : Int)) :: (.slice (some ⟨g5, 0, none⟩) (cutL 43 f0 e0 l).length cap5) :: (.int .i64 ((Q.length : Nat) : Int)) :: (.bool true) :: (zx1 27) :: (zx1 28) :: (zx1 29) :: (zx1 30) :: (zx1 31) :: (zx1 32) :: (zx1 33) :: (zx1 34) :: (zx1 35) :: (zx1 36) :: (zx1 37) :: (zx1 38) :: (zx2 39) :: (zx2 40) :: (zx2 41) :: (zx2 42) :: (zx2 43) :: (zx2 44) :: (zx2 45) :: (zx2 46) :: (zx2 47) :: (zx2 48) :: (zx2 49) :: (zx2 50) :: (strV l) :: (.slice (some ⟨g5, 0, none⟩) (cutL 43 f0 e0 l).length cap5) :: (.int .i64 ((i : Nat) : Int)) :: (.pointer (some ⟨g5, 0 + i * 1, none⟩)) :: (.int .i64 ((a : Nat) : Int)) :: (.int .i64 ((la : Nat) : Int)) :: (.slice (some ⟨g8, 0, none⟩) (cutL 58 a la l).length cap8) :: (.int .i64 ((k : Nat) : Int)) :: (.slice (some ⟨g8, 0, none⟩) (cutL 58 a la l).length cap8) :: (.int .i64 ((Q'.length : Nat) : Int)) :: (.bool true) :: zq 62 :: zq 63 :: zq 64 :: zq 65 :: zq 66 :: zq 67 :: zq 68 :: zq 69 :: zq 70 :: zq 71 :: zq 72 :: zq 73 :: zq 74 :: zq 75 :: zq 76 :: zq 77 :: zq 78 :: zq 79 :: zq 80 :: zq 81 :: zq 82 :: zq 83 :: zq 84 :: zq 85 :: zq 86 :: zq 87 :: zq 88 :: zq 89 :: zq 90 :: zq 91 :: zq 92 :: zq 93 :: zq 94 :: zq 95 :: zq 96 :: zq 97 :: zq 98 :: zq 99 :: zq 100 :: zq 101 :: zq 102 :: (zx1 103) :: (zx1 104) :: (zx1 105) :: (zx1 106) :: undef :: undef :: [])) W0 ((g3, .cells #[.int .i64 ((ka : Nat) : Int), .int .i64 ((kr : Nat) : Int), .int .i64 ((ke : Nat) : Int)] 71 (0, 0)) :: (g1, .cells #[.int .i64 0, .int .i64 0, .int .i64 0] 71 (0, 0)) :: (g5, .cells cur5 3 (0, 0)) :: (g8, .cells cur8 3 (0, 0)) :: (R ++ (To ++ (Ko ++ Ke)))) az wz) 1 ?_ ?_
              · refine (show Code.wp _ _ _ _ _ from ?_)
                refine wp_seq ?_
                refine wp_region_L (W0 := W0) ((g3, .cells #[.int .i64 ((ga : Nat) : Int), .int .i64 ((gr : Nat) : Int), .int .i64 ((ge : Nat) : Int)] 71 (0, 0)) :: (g1, .cells #[.int .i64 0, .int .i64 0, .int .i64 0] 71 (0, 0)) :: (g5, .cells cur5 3 (0, 0)) :: (g8, .cells cur8 3 (0, 0)) :: (R ++ (To ++ (Ko ++ Ke)))) (hW19) ?_
                refine lm (v := .int .i64 ((k : Nat) : Int)) rfl rfl ?_
                refine lp (v := .bool (decide (k = 10))) rfl rfl (run_bin rfl (vx := (.int .i64 ((k : Nat) : Int))) (vy := (.int .i64 ((10 : Nat) : Int))) (by kernel_rfl) (by kernel_rfl) fun w => bn_eql rfl w) ?_
                refine wpL_done (fun W22 hW22 => ?_)
                refine (show Code.wp _ _ _ _ _ from ?_)
                cases hd6 : (decide (k = 10)) with
                | false =>
                  have h6 : ¬ (k = 10) := of_decide_eq_false hd6
                  clear hd6
                  refine wp_cond_false rfl ?_
                  refine wp_skip ?_
                  exact ⟨ga, gr, ge, (sk_of hJ h6), join_mk (by kernel_rfl) (hW22.sub (fun p hp => by first | exact hp | (simp only [List.mem_cons, List.mem_append, List.nil_append, List.not_mem_nil, or_assoc, or_false, false_or, List.cons_append, List.append_assoc] at hp ⊢ <;> grind)))⟩
                | true =>
                  have h6 : k = 10 := of_decide_eq_true hd6
                  clear hd6
                  refine wp_cond_true rfl ?_
                  refine wp_region_V (W0 := W0) ((g3, .cells #[.int .i64 ((ga : Nat) : Int), .int .i64 ((gr : Nat) : Int), .int .i64 ((ge : Nat) : Int)] 71 (0, 0)) :: (g1, .cells #[.int .i64 0, .int .i64 0, .int .i64 0] 71 (0, 0)) :: (g5, .cells cur5 3 (0, 0)) :: (g8, .cells cur8 3 (0, 0)) :: (R ++ (To ++ (Ko ++ Ke)))) (by kernel_rfl) (hW22) ?_
                  refine vv (i := 0) (v := .agg #[.int .i64 ((ga : Nat) : Int), .int .i64 ((gr : Nat) : Int), .int .i64 ((ge : Nat) : Int)]) rfl rfl rfl (yb_load (n := 3) (off := 0) rfl (by kernel_rfl) (.head _) Try.underlying71 rfl (by kernel_rfl) (by simp) (by kernel_rfl)) ?_
                  refine vm (i := 1) (v := .slice (some ⟨g8, 0, none⟩) (cutL 58 a la l).length cap8) rfl rfl rfl ?_
                  refine vm (i := 2) (v := .int .i64 ((k : Nat) : Int)) rfl rfl rfl ?_
                  refine vp (i := 3) (v := .pointer (some ⟨g8, 0 + k * 1, none⟩)) rfl rfl rfl (run_idxL (j := .i64) (n := (cutL 58 a la l).length) (cap := cap8) (b := g8) (off := 0) (k := k) (sz := 1) rfl Try.underlying84 (by kernel_rfl) (by kernel_rfl) (by kernel_rfl) (by rw [hP'.len]; omega)) ?_
                  refine vv (i := 4) (v := .int .i64 ((b : Nat) : Int)) rfl rfl rfl (yb_cell (off := 0 + k * 1) rfl (by kernel_rfl) (.tail _ (.tail _ (.tail _ (.head _)))) Try.underlying3 rfl (by rw [Nat.zero_add, Nat.mul_one]; exact R8.get (ints_get hm1))) ?_
                  refine vp (i := 5) (v := .int .i64 (((b - 1) : Nat) : Int)) rfl rfl rfl (run_bin rfl (vx := (.int .i64 ((b : Nat) : Int))) (vy := (.int .i64 ((1 : Nat) : Int))) (by kernel_rfl) (by kernel_rfl) fun w => bn_sub (z := (b - 1)) rfl (by omega) (wr_i64 (by omega)) w) ?_
                  refine vm (i := 6) (v := .agg #[.int .i64 (((b - 1) : Nat) : Int), .int .i64 1, .int .i64 5]) rfl rfl rfl ?_
                  cases hd7 : (decide (ge = 0)) with
                  | false =>
                    have h7 : ¬ (ge = 0) := of_decide_eq_false hd7
                    clear hd7
                    obtain ⟨hBj, hgf, hgr, hga⟩ := hJ.bad h7
                    refine vv (i := 7) (v := .agg #[.int .i64 ((ga : Nat) : Int), .int .i64 ((gr : Nat) : Int), .int .i64 ((ge : Nat) : Int)]) rfl rfl rfl (yb_call (f := 36) (args := #[.agg #[.int .i64 ((ga : Nat) : Int), .int .i64 ((gr : Nat) : Int), .int .i64 ((ge : Nat) : Int)], .agg #[.int .i64 (((b - 1) : Nat) : Int), .int .i64 1, .int .i64 5]]) (fun _ => by kernel_rfl) fun W hW => worse_keep ga gr ge (b - 1) 1 5 h7 (by first | omega | exact (.inl rfl)) W) ?_
                    refine wpV_s ((g3, .cells #[.int .i64 ((ga : Nat) : Int), .int .i64 ((gr : Nat) : Int), .int .i64 ((ge : Nat) : Int)] 71 (0, 0)) :: (g1, .cells #[.int .i64 0, .int .i64 0, .int .i64 0] 71 (0, 0)) :: (g5, .cells cur5 3 (0, 0)) :: (g8, .cells cur8 3 (0, 0)) :: (R ++ (To ++ (Ko ++ Ke)))) (i := 8) rfl (by kernel_rfl) rfl rfl rfl (st_row (off := 0) (v := .agg #[.int .i64 ((ga : Nat) : Int), .int .i64 ((gr : Nat) : Int), .int .i64 ((ge : Nat) : Int)]) rfl (by kernel_rfl) (by kernel_rfl) (.head _) Bg3 (by kernel_rfl) (by simp [Value.cells]) (by intro v hv; simp [Value.cells] at hv; first | (subst hv; rfl) | (rcases hv with rfl | rfl | rfl <;> rfl)) (by kernel_rfl) (List.forall_mem_cons.2 ⟨.inl rfl, (List.forall_mem_cons.2 ⟨.inr ⟨(.tail _ (.head _)), (by first | assumption | exact Ne.symm (by assumption))⟩, (List.forall_mem_cons.2 ⟨.inr ⟨(.tail _ (.tail _ (.head _))), (by first | assumption | exact Ne.symm (by assumption))⟩, (List.forall_mem_cons.2 ⟨.inr ⟨(.tail _ (.tail _ (.tail _ (.head _)))), (by first | assumption | exact Ne.symm (by assumption))⟩, (fun p hp => .inr ⟨(.tail _ (.tail _ (.tail _ (.tail _ hp)))), ((show Dk g3 (R ++ (To ++ (Ko ++ Ke))) from (by (try simp only [dj_app_l, dj_app_r, dj_cons_l, dj_cons_r, dj_nil_l, dj_nil_r, dk_app, dk_cons, dk_nil, and_true, true_and, and_assoc]); repeat' (first | trivial | assumption | exact Dj.symm (by assumption) | exact Ne.symm (by assumption) | apply And.intro))) _ hp)⟩)⟩)⟩)⟩)⟩)) ?_
                    refine wpV_done (by kernel_rfl) (fun W23 hW23 => ?_) _
                    exact ⟨ga, gr, ge, (.inr ⟨h7, hBj, by omega, by omega, by omega⟩), join_mk (by kernel_rfl) (hW23.sub (fun p hp => by first | exact hp | (simp only [List.mem_cons, List.mem_append, List.nil_append, List.not_mem_nil, or_assoc, or_false, false_or, List.cons_append, List.append_assoc] at hp ⊢ <;> grind)))⟩
                  | true =>
                    have h7 : ge = 0 := of_decide_eq_true hd7
                    clear hd7
                    obtain ⟨hk10, hes3, hRj⟩ := hJ.ok h7
                    refine vv (i := 7) (v := .agg #[.int .i64 (((b - 1) : Nat) : Int), .int .i64 1, .int .i64 5]) rfl rfl rfl (yb_call (f := 36) (args := #[.agg #[.int .i64 ((ga : Nat) : Int), .int .i64 ((gr : Nat) : Int), .int .i64 ((ge : Nat) : Int)], .agg #[.int .i64 (((b - 1) : Nat) : Int), .int .i64 1, .int .i64 5]]) (fun _ => by kernel_rfl) fun W hW => worse_new ga gr ge (b - 1) 1 5 h7 W) ?_
                    refine wpV_s ((g3, .cells #[.int .i64 (((b - 1) : Nat) : Int), .int .i64 1, .int .i64 5] 71 (0, 0)) :: (g1, .cells #[.int .i64 0, .int .i64 0, .int .i64 0] 71 (0, 0)) :: (g5, .cells cur5 3 (0, 0)) :: (g8, .cells cur8 3 (0, 0)) :: (R ++ (To ++ (Ko ++ Ke)))) (i := 8) rfl (by kernel_rfl) rfl rfl rfl (st_row (off := 0) (v := .agg #[.int .i64 (((b - 1) : Nat) : Int), .int .i64 1, .int .i64 5]) rfl (by kernel_rfl) (by kernel_rfl) (.head _) Bg3 (by kernel_rfl) (by simp [Value.cells]) (by intro v hv; simp [Value.cells] at hv; first | (subst hv; rfl) | (rcases hv with rfl | rfl | rfl <;> rfl)) (by kernel_rfl) (List.forall_mem_cons.2 ⟨.inl rfl, (List.forall_mem_cons.2 ⟨.inr ⟨(.tail _ (.head _)), (by first | assumption | exact Ne.symm (by assumption))⟩, (List.forall_mem_cons.2 ⟨.inr ⟨(.tail _ (.tail _ (.head _))), (by first | assumption | exact Ne.symm (by assumption))⟩, (List.forall_mem_cons.2 ⟨.inr ⟨(.tail _ (.tail _ (.tail _ (.head _)))), (by first | assumption | exact Ne.symm (by assumption))⟩, (fun p hp => .inr ⟨(.tail _ (.tail _ (.tail _ (.tail _ hp)))), ((show Dk g3 (R ++ (To ++ (Ko ++ Ke))) from (by (try simp only [dj_app_l, dj_app_r, dj_cons_l, dj_cons_r, dj_nil_l, dj_nil_r, dk_app, dk_cons, dk_nil, and_true, true_and, and_assoc]); repeat' (first | trivial | assumption | exact Dj.symm (by assumption) | exact Ne.symm (by assumption) | apply And.intro))) _ hp)⟩)⟩)⟩)⟩)⟩)) ?_
                    refine wpV_done (by kernel_rfl) (fun W24 hW24 => ?_) _
                    exact ⟨(b - 1), 1, 5, (.inr ⟨by omega, by rw [hRj, drop_nth hm2, elR_many (by omega)]; rfl, by omega, by omega, by omega⟩), join_mk (by kernel_rfl) (hW24.sub (fun p hp => by first | exact hp | (simp only [List.mem_cons, List.mem_append, List.nil_append, List.not_mem_nil, or_assoc, or_false, false_or, List.cons_append, List.append_assoc] at hp ⊢ <;> grind)))⟩
              · rintro a3 W3j ⟨ka, kr, ke, hK0, ⟨zx3, rfl⟩, hW3j⟩
                dsimp only [cutT]
                refine wp_joins (fun az wz => ∃ (lb : Nat), (lb = b + m.length) ∧ JoinR (fun zq => List.toArray ((strV l) :: (.int .i64 ((f0 : Nat) : Int)) :: (.int .i64 ((e0 : Nat) : Int)) :: undef :: undef :: undef :: (.slice none 0 0) :: (.pointer (some ⟨g1, 0, none⟩)) :: (vo) :: (.pointer (some ⟨g3, 0, none⟩)) :: (.slice (some ⟨g5, 0, none⟩) (cutL 43 f0 e0 l).length cap5) :: (.int .i64 ((i : Nat) : Int)) :: (.int .i64 ((la : Nat) : Int)) :: (ve) :: (.slice (some ⟨g8, 0, none⟩) (cutL 58 a la l).length cap8) :: (.int .i64 ((k : Nat) : Int)) :: (.int .i64 ((lb : Nat) : Int)) :: (zx3 17) :: (zx3 18) :: (strV l) :: (.int .i64 ((f0 : Nat) : Int)) :: (.int .i64 ((e0 : Nat) : Int)) :: (.slice (some ⟨g5, 0, none⟩) (cutL 43 f0 e0 l).length cap5) :: (.int .i64 ((i : Nat) : Int)) :: (.slice (some ⟨g5, 0, none⟩) (cutL 43 f0 e0 l).length cap5) :: (.int .i64 ((Q.length : Nat) : Int)) :: (.bool true) :: (zx1 27) :: (zx1 28) :: (zx1 29) :: (zx1 30) :: (zx1 31) :: (zx1 32) :: (zx1 33) :: (zx1 34) :: (zx1 35) :: (zx1 36) :: (zx1 37) :: (zx1 38) :: (zx2 39) :: (zx2 40) :: (zx2 41) :: (zx2 42) :: (zx2 43) :: (zx2 44) :: (zx2 45) :: (zx2 46) :: (zx2 47) :: (zx2 48) :: (zx2 49) :: (zx2 50) :: (strV l) :: (.slice (some ⟨g5, 0, none⟩) (cutL 43 f0 e0 l).length cap5) :: (.int .i64 ((i : Nat) : Int)) :: (.pointer (some ⟨g5, 0 + i * 1, none⟩)) :: (.int .i64 ((a : Nat) : Int)) :: (.int .i64 ((la : Nat) : Int)) :: (.slice (some ⟨g8, 0, none⟩) (cutL 58 a la l).length cap8) :: (.int .i64 ((k : Nat) : Int)) :: (.slice (some ⟨g8, 0, none⟩) (cutL 58 a la l).length cap8) :: (.int .i64 ((Q'.length : Nat) : Int)) :: (.bool true) :: (zx3 62) :: (zx3 63) :: (zx3 64) :: (zx3 65) :: (zx3 66) :: (zx3 67) :: (zx3 68) :: (zx3 69) :: (zx3 70) :: (zx3 71) :: (zx3 72) :: (zx3 73) :: zq 74 :: zq 75 :: zq 76 :: zq 77 :: zq 78 :: zq 79 :: zq 80 :: zq 81 :: zq 82 :: zq 83 :: zq 84 :: zq 85 :: (zx3 86) :: (zx3 87) :: (zx3 88) :: (zx3 89) :: (zx3 90) :: (zx3 91) :: (zx3 92) :: (zx3 93) :: (zx3 94) :: (zx3 95) :: (zx3 96) :: (zx3 97) :: (zx3 98) :: (zx3 99) :: (zx3 100) :: (zx3 101) :: (zx3 102) :: (zx1 103) :: (zx1 104) :: (zx1 105) :: (zx1 106) :: undef :: undef :: [])) W0 ((g3, .cells #[.int .i64 ((ka : Nat) : Int), .int .i64 ((kr : Nat) : Int), .int .i64 ((ke : Nat) : Int)] 71 (0, 0)) :: (g1, .cells #[.int .i64 0, .int .i64 0, .int .i64 0] 71 (0, 0)) :: (g5, .cells cur5 3 (0, 0)) :: (g8, .cells cur8 3 (0, 0)) :: (R ++ (To ++ (Ko ++ Ke)))) az wz) 2 ?_ ?_
                · refine (show Code.wp _ _ _ _ _ from ?_)
                  refine wp_region_L (W0 := W0) ((g3, .cells #[.int .i64 ((ka : Nat) : Int), .int .i64 ((kr : Nat) : Int), .int .i64 ((ke : Nat) : Int)] 71 (0, 0)) :: (g1, .cells #[.int .i64 0, .int .i64 0, .int .i64 0] 71 (0, 0)) :: (g5, .cells cur5 3 (0, 0)) :: (g8, .cells cur8 3 (0, 0)) :: (R ++ (To ++ (Ko ++ Ke)))) (hW3j) ?_
                  refine lm (v := .int .i64 ((la : Nat) : Int)) rfl rfl ?_
                  refine lm (v := .int .i64 ((la : Nat) : Int)) rfl rfl ?_
                  refine wpL_done (fun W25 hW25 => ?_)
                  refine (show Code.wp _ _ _ _ _ from ?_)
                  refine wp_seq ?_
                  refine wp_region_L (W0 := W0) ((g3, .cells #[.int .i64 ((ka : Nat) : Int), .int .i64 ((kr : Nat) : Int), .int .i64 ((ke : Nat) : Int)] 71 (0, 0)) :: (g1, .cells #[.int .i64 0, .int .i64 0, .int .i64 0] 71 (0, 0)) :: (g5, .cells cur5 3 (0, 0)) :: (g8, .cells cur8 3 (0, 0)) :: (R ++ (To ++ (Ko ++ Ke)))) (hW25) ?_
                  refine lm (v := .int .i64 ((k : Nat) : Int)) rfl rfl ?_
                  refine lp (v := .int .i64 (((k + 1) : Nat) : Int)) rfl rfl (run_bin rfl (vx := (.int .i64 ((k : Nat) : Int))) (vy := (.int .i64 ((1 : Nat) : Int))) (by kernel_rfl) (by kernel_rfl) fun w => bn_add (z := (k + 1)) rfl (wr_i64 (by omega)) w) ?_
                  refine lm (v := .slice (some ⟨g8, 0, none⟩) (cutL 58 a la l).length cap8) rfl rfl ?_
                  refine lp (v := .int .i64 ((Q'.length : Nat) : Int)) rfl rfl (fun w => (run_lenL (p := (some ⟨g8, 0, none⟩)) (cap := cap8) (n := (cutL 58 a la l).length) rfl Try.underlying84 (by kernel_rfl) w).trans (by rw [hP'.len])) ?_
                  refine lp (v := .bool (decide ((k + 1) < Q'.length))) rfl rfl (run_bin rfl (vx := (.int .i64 (((k + 1) : Nat) : Int))) (vy := (.int .i64 ((Q'.length : Nat) : Int))) (by kernel_rfl) (by kernel_rfl) fun w => bn_lss rfl w) ?_
                  refine wpL_done (fun W26 hW26 => ?_)
                  refine (show Code.wp _ _ _ _ _ from ?_)
                  cases hd8 : (decide ((k + 1) < Q'.length)) with
                  | false =>
                    have h8 : ¬ ((k + 1) < Q'.length) := of_decide_eq_false hd8
                    clear hd8
                    have hme := hm8 h8
                    refine wp_cond_false rfl ?_
                    refine wp_skip ?_
                    exact ⟨la, (by omega), join_mk (by kernel_rfl) (hW26.sub (fun p hp => by first | exact hp | (simp only [List.mem_cons, List.mem_append, List.nil_append, List.not_mem_nil, or_assoc, or_false, false_or, List.cons_append, List.append_assoc] at hp ⊢ <;> grind)))⟩
                  | true =>
                    have h8 : (k + 1) < Q'.length := of_decide_eq_true hd8
                    clear hd8
                    refine wp_cond_true rfl ?_
                    refine wp_region_L (W0 := W0) ((g3, .cells #[.int .i64 ((ka : Nat) : Int), .int .i64 ((kr : Nat) : Int), .int .i64 ((ke : Nat) : Int)] 71 (0, 0)) :: (g1, .cells #[.int .i64 0, .int .i64 0, .int .i64 0] 71 (0, 0)) :: (g5, .cells cur5 3 (0, 0)) :: (g8, .cells cur8 3 (0, 0)) :: (R ++ (To ++ (Ko ++ Ke)))) (hW26) ?_
                    refine lm (v := .slice (some ⟨g8, 0, none⟩) (cutL 58 a la l).length cap8) rfl rfl ?_
                    refine lm (v := .int .i64 ((k : Nat) : Int)) rfl rfl ?_
                    refine lp (v := .int .i64 (((k + 1) : Nat) : Int)) rfl rfl (run_bin rfl (vx := (.int .i64 ((k : Nat) : Int))) (vy := (.int .i64 ((1 : Nat) : Int))) (by kernel_rfl) (by kernel_rfl) fun w => bn_add (z := (k + 1)) rfl (wr_i64 (by omega)) w) ?_
                    refine lp (v := .pointer (some ⟨g8, 0 + (k + 1) * 1, none⟩)) rfl rfl (run_idxL (j := .i64) (n := (cutL 58 a la l).length) (cap := cap8) (b := g8) (off := 0) (k := (k + 1)) (sz := 1) rfl Try.underlying84 (by kernel_rfl) (by kernel_rfl) (by kernel_rfl) (by rw [hP'.len]; omega)) ?_
                    refine lv (v := .int .i64 (((b + m.length + 1) : Nat) : Int)) rfl rfl (yb_cell (off := 0 + (k + 1) * 1) rfl (by kernel_rfl) (.tail _ (.tail _ (.tail _ (.head _)))) Try.underlying3 rfl (by rw [Nat.zero_add, Nat.mul_one]; exact R8.get (ints_get (hm7 h8).1))) ?_
                    refine lp (v := .int .i64 (((b + m.length) : Nat) : Int)) rfl rfl (run_bin rfl (vx := (.int .i64 (((b + m.length + 1) : Nat) : Int))) (vy := (.int .i64 ((1 : Nat) : Int))) (by kernel_rfl) (by kernel_rfl) fun w => bn_sub (z := (b + m.length)) (by omega) (by omega) (wr_i64 (by omega)) w) ?_
                    refine lm (v := .int .i64 (((b + m.length) : Nat) : Int)) rfl rfl ?_
                    refine wpL_done (fun W27 hW27 => ?_)
                    exact ⟨(b + m.length), (by omega), join_mk (by kernel_rfl) (hW27.sub (fun p hp => by first | exact hp | (simp only [List.mem_cons, List.mem_append, List.nil_append, List.not_mem_nil, or_assoc, or_false, false_or, List.cons_append, List.append_assoc] at hp ⊢ <;> grind)))⟩
                · rintro a4 W4j ⟨lb, hlb, ⟨zx4, rfl⟩, hW4j⟩
                  dsimp only [cutT]
                  have hm62 : m = rest l lb b := by rw [hlb]; exact hm6
                  have hmT2 : Tqe l lb b := by rw [hlb]; exact hmT
                  refine wp_seq ?_
                  refine wp_region_L (W0 := W0) ((g3, .cells #[.int .i64 ((ka : Nat) : Int), .int .i64 ((kr : Nat) : Int), .int .i64 ((ke : Nat) : Int)] 71 (0, 0)) :: (g1, .cells #[.int .i64 0, .int .i64 0, .int .i64 0] 71 (0, 0)) :: (g5, .cells cur5 3 (0, 0)) :: (g8, .cells cur8 3 (0, 0)) :: (R ++ (To ++ (Ko ++ Ke)))) (hW4j) ?_
                  refine lm (v := strV l) rfl rfl ?_
                  refine lm (v := .slice (some ⟨g8, 0, none⟩) (cutL 58 a la l).length cap8) rfl rfl ?_
                  refine lm (v := .int .i64 ((k : Nat) : Int)) rfl rfl ?_
                  refine lp (v := .pointer (some ⟨g8, 0 + k * 1, none⟩)) rfl rfl (run_idxL (j := .i64) (n := (cutL 58 a la l).length) (cap := cap8) (b := g8) (off := 0) (k := k) (sz := 1) rfl Try.underlying84 (by kernel_rfl) (by kernel_rfl) (by kernel_rfl) (by rw [hP'.len]; omega)) ?_
                  refine lv (v := .int .i64 ((b : Nat) : Int)) rfl rfl (yb_cell (off := 0 + k * 1) rfl (by kernel_rfl) (.tail _ (.tail _ (.tail _ (.head _)))) Try.underlying3 rfl (by rw [Nat.zero_add, Nat.mul_one]; exact R8.get (ints_get hm1))) ?_
                  refine lm (v := .int .i64 ((lb : Nat) : Int)) rfl rfl ?_
                  refine wpL_c (f := 47) (args := #[strV l, .int .i64 ((b : Nat) : Int), .int .i64 ((lb : Nat) : Int)]) (fun v K2 => K2 = ((g3, .cells #[.int .i64 ((ka : Nat) : Int), .int .i64 ((kr : Nat) : Int), .int .i64 ((ke : Nat) : Int)] 71 (0, 0)) :: (g1, .cells #[.int .i64 0, .int .i64 0, .int .i64 0] 71 (0, 0)) :: (g5, .cells cur5 3 (0, 0)) :: (g8, .cells cur8 3 (0, 0)) :: (R ++ (To ++ (Ko ++ Ke)))) ∧ ∃ c ga gr ge, v = .tuple #[strV c, .agg #[.int .i64 ((ga : Nat) : Int), .int .i64 ((gr : Nat) : Int), .int .i64 ((ge : Nat) : Int)]] ∧ CompA (compR b [] m) b lb c ga gr ge ∧ c.length ≤ lb + 1) rfl (by kernel_rfl) (fun _ => (by kernel_rfl)) (fun W hW => (RComp_any l b lb lc (by omega) (by omega) hmT2 W).mono fun e w2 ⟨c, ga, gr, ge, he, hb, hA, hl⟩ => ⟨_, _, he, hW.below hb, rfl, c, ga, gr, ge, rfl, hm62.symm ▸ hA, hl⟩) (fun _ => by simp only [List.setIfInBounds_toArray, List.set_cons_succ, List.set_cons_zero] <;> rfl) ?_
                  rintro _ _ ⟨rfl, c16, ga16, gr16, ge16, rfl, hA16, hl16⟩
                  have hk16 : ge16 = 0 ∨ (b ≤ ga16 ∧ gr16 ≤ 4 ∧ ga16 < lb) := hA16.elim (fun h => .inl h.1) (fun h => .inr ⟨h.2.2.2.1, h.2.2.2.2, h.2.2.1⟩)
                  refine lm (v := .tuple #[strV c16, .agg #[.int .i64 ((ga16 : Nat) : Int), .int .i64 ((gr16 : Nat) : Int), .int .i64 ((ge16 : Nat) : Int)]]) rfl rfl ?_
                  refine lm (v := strV c16) rfl rfl ?_
                  refine lm (v := .agg #[.int .i64 ((ga16 : Nat) : Int), .int .i64 ((gr16 : Nat) : Int), .int .i64 ((ge16 : Nat) : Int)]) rfl rfl ?_
                  refine wpL_new (fun g => .pointer (some ⟨g, 0, none⟩)) (obi := .cells #[.int .i64 0, .int .i64 0, .int .i64 0] 71 (0, 0)) rfl rfl (fun _ => by kernel_rfl) (fun _ => by simp only [List.setIfInBounds_toArray, List.set_cons_succ, List.set_cons_zero] <;> rfl) fun g17 Bg17 Fg17 => ?_
                  obtain ⟨dj18_0, dj18_1, dj18_2, dj18_3, dj18_4, dj18_5, dj18_6, dj18_7⟩ : g3 ≠ g17 ∧ g1 ≠ g17 ∧ g5 ≠ g17 ∧ g8 ≠ g17 ∧ Dk g17 R ∧ Dk g17 To ∧ Dk g17 Ko ∧ Dk g17 Ke := by simpa only [dj_app_l, dj_app_r, dj_cons_l, dj_cons_r, dj_nil_l, dj_nil_r, dk_app, dk_cons, dk_nil, and_true, true_and, and_assoc] using (show Dk g17 ((g3, .cells #[.int .i64 ((ka : Nat) : Int), .int .i64 ((kr : Nat) : Int), .int .i64 ((ke : Nat) : Int)] 71 (0, 0)) :: (g1, .cells #[.int .i64 0, .int .i64 0, .int .i64 0] 71 (0, 0)) :: (g5, .cells cur5 3 (0, 0)) :: (g8, .cells cur8 3 (0, 0)) :: (R ++ (To ++ (Ko ++ Ke)))) from Fg17)
                  refine lm (v := strV c16) rfl rfl ?_
                  refine wpL_s ((g17, .cells #[.int .i64 ((ga16 : Nat) : Int), .int .i64 ((gr16 : Nat) : Int), .int .i64 ((ge16 : Nat) : Int)] 71 (0, 0)) :: (g3, .cells #[.int .i64 ((ka : Nat) : Int), .int .i64 ((kr : Nat) : Int), .int .i64 ((ke : Nat) : Int)] 71 (0, 0)) :: (g1, .cells #[.int .i64 0, .int .i64 0, .int .i64 0] 71 (0, 0)) :: (g5, .cells cur5 3 (0, 0)) :: (g8, .cells cur8 3 (0, 0)) :: (R ++ (To ++ (Ko ++ Ke)))) rfl rfl (st_row (off := 0) (v := .agg #[.int .i64 ((ga16 : Nat) : Int), .int .i64 ((gr16 : Nat) : Int), .int .i64 ((ge16 : Nat) : Int)]) rfl (by kernel_rfl) (by kernel_rfl) (.head _) Bg17 (by kernel_rfl) (by simp [Value.cells]) (by intro v hv; simp [Value.cells] at hv; first | (subst hv; rfl) | (rcases hv with rfl | rfl | rfl <;> rfl)) (by kernel_rfl) (List.forall_mem_cons.2 ⟨.inl rfl, (List.forall_mem_cons.2 ⟨.inr ⟨(.tail _ (.head _)), (by first | assumption | exact Ne.symm (by assumption))⟩, (List.forall_mem_cons.2 ⟨.inr ⟨(.tail _ (.tail _ (.head _))), (by first | assumption | exact Ne.symm (by assumption))⟩, (List.forall_mem_cons.2 ⟨.inr ⟨(.tail _ (.tail _ (.tail _ (.head _)))), (by first | assumption | exact Ne.symm (by assumption))⟩, (List.forall_mem_cons.2 ⟨.inr ⟨(.tail _ (.tail _ (.tail _ (.tail _ (.head _))))), (by first | assumption | exact Ne.symm (by assumption))⟩, (fun p hp => .inr ⟨(.tail _ (.tail _ (.tail _ (.tail _ (.tail _ hp))))), ((show Dk g17 (R ++ (To ++ (Ko ++ Ke))) from (by (try simp only [dj_app_l, dj_app_r, dj_cons_l, dj_cons_r, dj_nil_l, dj_nil_r, dk_app, dk_cons, dk_nil, and_true, true_and, and_assoc]); repeat' (first | trivial | assumption | exact Dj.symm (by assumption) | exact Ne.symm (by assumption) | apply And.intro))) _ hp)⟩)⟩)⟩)⟩)⟩)⟩)) ?_
                  refine wpL_done (fun W28 hW28 => ?_)
                  refine (show Code.wp _ _ _ _ _ from ?_)
                  refine wp_seq ?_
                  refine wp_region_L (W0 := W0) ((g17, .cells #[.int .i64 ((ga16 : Nat) : Int), .int .i64 ((gr16 : Nat) : Int), .int .i64 ((ge16 : Nat) : Int)] 71 (0, 0)) :: (g3, .cells #[.int .i64 ((ka : Nat) : Int), .int .i64 ((kr : Nat) : Int), .int .i64 ((ke : Nat) : Int)] 71 (0, 0)) :: (g1, .cells #[.int .i64 0, .int .i64 0, .int .i64 0] 71 (0, 0)) :: (g5, .cells cur5 3 (0, 0)) :: (g8, .cells cur8 3 (0, 0)) :: (R ++ (To ++ (Ko ++ Ke)))) (hW28) ?_
                  refine lv (v := .agg #[.int .i64 ((ka : Nat) : Int), .int .i64 ((kr : Nat) : Int), .int .i64 ((ke : Nat) : Int)]) rfl rfl (yb_load (n := 3) (off := 0) rfl (by kernel_rfl) (.tail _ (.head _)) Try.underlying71 rfl (by kernel_rfl) (by simp) (by kernel_rfl)) ?_
                  refine lv (v := .agg #[.int .i64 ((ga16 : Nat) : Int), .int .i64 ((gr16 : Nat) : Int), .int .i64 ((ge16 : Nat) : Int)]) rfl rfl (yb_load (n := 3) (off := 0) rfl (by kernel_rfl) (.head _) Try.underlying71 rfl (by kernel_rfl) (by simp) (by kernel_rfl)) ?_
                  cases hd9 : (decide (ke = 0)) with
                  | false =>
                    have h9 : ¬ (ke = 0) := of_decide_eq_false hd9
                    clear hd9
                    obtain ⟨hBj, hgf, hgr, hga⟩ := hK0.bad h9
                    refine lv (v := .agg #[.int .i64 ((ka : Nat) : Int), .int .i64 ((kr : Nat) : Int), .int .i64 ((ke : Nat) : Int)]) rfl rfl (yb_call (f := 36) (args := #[.agg #[.int .i64 ((ka : Nat) : Int), .int .i64 ((kr : Nat) : Int), .int .i64 ((ke : Nat) : Int)], .agg #[.int .i64 ((ga16 : Nat) : Int), .int .i64 ((gr16 : Nat) : Int), .int .i64 ((ge16 : Nat) : Int)]]) (fun _ => by kernel_rfl) fun W hW => worse_keep ka kr ke ga16 gr16 ge16 h9 (by first | omega | exact (.inl rfl)) W) ?_
                    refine wpL_s ((g17, .cells #[.int .i64 ((ga16 : Nat) : Int), .int .i64 ((gr16 : Nat) : Int), .int .i64 ((ge16 : Nat) : Int)] 71 (0, 0)) :: (g3, .cells #[.int .i64 ((ka : Nat) : Int), .int .i64 ((kr : Nat) : Int), .int .i64 ((ke : Nat) : Int)] 71 (0, 0)) :: (g1, .cells #[.int .i64 0, .int .i64 0, .int .i64 0] 71 (0, 0)) :: (g5, .cells cur5 3 (0, 0)) :: (g8, .cells cur8 3 (0, 0)) :: (R ++ (To ++ (Ko ++ Ke)))) rfl rfl (st_row (off := 0) (v := .agg #[.int .i64 ((ka : Nat) : Int), .int .i64 ((kr : Nat) : Int), .int .i64 ((ke : Nat) : Int)]) rfl (by kernel_rfl) (by kernel_rfl) (.tail _ (.head _)) Bg3 (by kernel_rfl) (by simp [Value.cells]) (by intro v hv; simp [Value.cells] at hv; first | (subst hv; rfl) | (rcases hv with rfl | rfl | rfl <;> rfl)) (by kernel_rfl) (List.forall_mem_cons.2 ⟨.inr ⟨(.head _), (by first | assumption | exact Ne.symm (by assumption))⟩, (List.forall_mem_cons.2 ⟨.inl rfl, (List.forall_mem_cons.2 ⟨.inr ⟨(.tail _ (.tail _ (.head _))), (by first | assumption | exact Ne.symm (by assumption))⟩, (List.forall_mem_cons.2 ⟨.inr ⟨(.tail _ (.tail _ (.tail _ (.head _)))), (by first | assumption | exact Ne.symm (by assumption))⟩, (List.forall_mem_cons.2 ⟨.inr ⟨(.tail _ (.tail _ (.tail _ (.tail _ (.head _))))), (by first | assumption | exact Ne.symm (by assumption))⟩, (fun p hp => .inr ⟨(.tail _ (.tail _ (.tail _ (.tail _ (.tail _ hp))))), ((show Dk g3 (R ++ (To ++ (Ko ++ Ke))) from (by (try simp only [dj_app_l, dj_app_r, dj_cons_l, dj_cons_r, dj_nil_l, dj_nil_r, dk_app, dk_cons, dk_nil, and_true, true_and, and_assoc]); repeat' (first | trivial | assumption | exact Dj.symm (by assumption) | exact Ne.symm (by assumption) | apply And.intro))) _ hp)⟩)⟩)⟩)⟩)⟩)⟩)) ?_
                    refine wpL_done (fun W29 hW29 => ?_)
                    refine (show Code.wp _ _ _ _ _ from ?_)
                    refine wp_region_L (W0 := W0) ((g17, .cells #[.int .i64 ((ga16 : Nat) : Int), .int .i64 ((gr16 : Nat) : Int), .int .i64 ((ge16 : Nat) : Int)] 71 (0, 0)) :: (g3, .cells #[.int .i64 ((ka : Nat) : Int), .int .i64 ((kr : Nat) : Int), .int .i64 ((ke : Nat) : Int)] 71 (0, 0)) :: (g1, .cells #[.int .i64 0, .int .i64 0, .int .i64 0] 71 (0, 0)) :: (g5, .cells cur5 3 (0, 0)) :: (g8, .cells cur8 3 (0, 0)) :: (R ++ (To ++ (Ko ++ Ke)))) (hW29) ?_
                    refine lm (v := ve) rfl rfl ?_
                    refine lm (v := strV c16) rfl rfl ?_
                    refine wpL_new (fun g => .slice (some ⟨g, 0, none⟩) 1 1) (obi := .cells #[strV c16] 9 (0, 0)) rfl rfl (fun _ => by kernel_rfl) (fun _ => by simp only [List.setIfInBounds_toArray, List.set_cons_succ, List.set_cons_zero] <;> rfl) fun g19 Bg19 Fg19 => ?_
                    obtain ⟨dj20_0, dj20_1, dj20_2, dj20_3, dj20_4, dj20_5, dj20_6, dj20_7, dj20_8⟩ : g17 ≠ g19 ∧ g3 ≠ g19 ∧ g1 ≠ g19 ∧ g5 ≠ g19 ∧ g8 ≠ g19 ∧ Dk g19 R ∧ Dk g19 To ∧ Dk g19 Ko ∧ Dk g19 Ke := by simpa only [dj_app_l, dj_app_r, dj_cons_l, dj_cons_r, dj_nil_l, dj_nil_r, dk_app, dk_cons, dk_nil, and_true, true_and, and_assoc] using (show Dk g19 ((g17, .cells #[.int .i64 ((ga16 : Nat) : Int), .int .i64 ((gr16 : Nat) : Int), .int .i64 ((ge16 : Nat) : Int)] 71 (0, 0)) :: (g3, .cells #[.int .i64 ((ka : Nat) : Int), .int .i64 ((kr : Nat) : Int), .int .i64 ((ke : Nat) : Int)] 71 (0, 0)) :: (g1, .cells #[.int .i64 0, .int .i64 0, .int .i64 0] 71 (0, 0)) :: (g5, .cells cur5 3 (0, 0)) :: (g8, .cells cur8 3 (0, 0)) :: (R ++ (To ++ (Ko ++ Ke)))) from Fg19)
                    refine wpL_g (AppO W0 9 1 ((g17, .cells #[.int .i64 ((ga16 : Nat) : Int), .int .i64 ((gr16 : Nat) : Int), .int .i64 ((ge16 : Nat) : Int)] 71 (0, 0)) :: (g3, .cells #[.int .i64 ((ka : Nat) : Int), .int .i64 ((kr : Nat) : Int), .int .i64 ((ke : Nat) : Int)] 71 (0, 0)) :: (g1, .cells #[.int .i64 0, .int .i64 0, .int .i64 0] 71 (0, 0)) :: (g5, .cells cur5 3 (0, 0)) :: (g8, .cells cur8 3 (0, 0)) :: (R ++ (To ++ Ko))) (k + 1) ((cs.map strV) ++ [strV c16])) rfl rfl (app_own el_str (m := 1) (c := 1) (news := [strV c16]) rfl (by kernel_rfl) (by kernel_rfl) (.head _) hOe (fun p hp => by simp only [List.mem_cons, List.mem_append, List.nil_append, List.not_mem_nil, or_assoc, or_false, false_or, hp, or_true, true_or]) (fun p hp => ⟨by simp only [List.mem_cons, List.mem_append, List.nil_append, List.not_mem_nil, or_assoc, or_false, false_or] at hp ⊢ <;> grind, (show Dj ((g17, .cells #[.int .i64 ((ga16 : Nat) : Int), .int .i64 ((gr16 : Nat) : Int), .int .i64 ((ge16 : Nat) : Int)] 71 (0, 0)) :: (g3, .cells #[.int .i64 ((ka : Nat) : Int), .int .i64 ((kr : Nat) : Int), .int .i64 ((ke : Nat) : Int)] 71 (0, 0)) :: (g1, .cells #[.int .i64 0, .int .i64 0, .int .i64 0] 71 (0, 0)) :: (g5, .cells cur5 3 (0, 0)) :: (g8, .cells cur8 3 (0, 0)) :: (R ++ (To ++ Ko))) Ke from (by (try simp only [dj_app_l, dj_app_r, dj_cons_l, dj_cons_r, dj_nil_l, dj_nil_r, dk_app, dk_cons, dk_nil, and_true, true_and, and_assoc]); repeat' (first | trivial | assumption | exact Dj.symm (by assumption) | exact Ne.symm (by assumption) | apply And.intro))) p hp⟩) rfl (by simp [strV, Value.oneCell']) (by omega) (by omega) (by omega)) (fun _ => by simp only [List.setIfInBounds_toArray, List.set_cons_succ, List.set_cons_zero] <;> rfl) ?_
                    rintro v21 K9 ⟨Kl21, O21, N21, rfl⟩
                    obtain ⟨dj22_0, dj22_1, dj22_2, dj22_3, dj22_4, dj22_5, dj22_6, dj22_7⟩ : Dk g17 Kl21 ∧ Dk g3 Kl21 ∧ Dk g1 Kl21 ∧ Dk g5 Kl21 ∧ Dk g8 Kl21 ∧ Dj R Kl21 ∧ Dj To Kl21 ∧ Dj Ko Kl21 := by simpa only [dj_app_l, dj_app_r, dj_cons_l, dj_cons_r, dj_nil_l, dj_nil_r, dk_app, dk_cons, dk_nil, and_true, true_and, and_assoc] using (show Dj ((g17, .cells #[.int .i64 ((ga16 : Nat) : Int), .int .i64 ((gr16 : Nat) : Int), .int .i64 ((ge16 : Nat) : Int)] 71 (0, 0)) :: (g3, .cells #[.int .i64 ((ka : Nat) : Int), .int .i64 ((kr : Nat) : Int), .int .i64 ((ke : Nat) : Int)] 71 (0, 0)) :: (g1, .cells #[.int .i64 0, .int .i64 0, .int .i64 0] 71 (0, 0)) :: (g5, .cells cur5 3 (0, 0)) :: (g8, .cells cur8 3 (0, 0)) :: (R ++ (To ++ Ko))) Kl21 from N21)
                    refine lm (v := v21) rfl rfl ?_
                    refine wpL_done (fun W30 hW30 => ?_)
                    refine (show Code.wp _ _ _ _ _ from ?_)
                    refine wp_region_L (W0 := W0) ((g17, .cells #[.int .i64 ((ga16 : Nat) : Int), .int .i64 ((gr16 : Nat) : Int), .int .i64 ((ge16 : Nat) : Int)] 71 (0, 0)) :: (g3, .cells #[.int .i64 ((ka : Nat) : Int), .int .i64 ((kr : Nat) : Int), .int .i64 ((ke : Nat) : Int)] 71 (0, 0)) :: (g1, .cells #[.int .i64 0, .int .i64 0, .int .i64 0] 71 (0, 0)) :: (g5, .cells cur5 3 (0, 0)) :: (g8, .cells cur8 3 (0, 0)) :: ((R ++ (To ++ Ko)) ++ Kl21)) (hW30) ?_
                    refine lm (v := .int .i64 ((k : Nat) : Int)) rfl rfl ?_
                    refine lp (v := .int .i64 (((k + 1) : Nat) : Int)) rfl rfl (run_bin rfl (vx := (.int .i64 ((k : Nat) : Int))) (vy := (.int .i64 ((1 : Nat) : Int))) (by kernel_rfl) (by kernel_rfl) fun w => bn_add (z := (k + 1)) rfl (wr_i64 (by omega)) w) ?_
                    refine lm (v := .int .i64 (((k + 1) : Nat) : Int)) rfl rfl ?_
                    refine wpL_done (fun W31 hW31 => ?_)
                    go_roundw
                    case rel =>
                      repeat apply Exists.intro
                      exact ⟨⟨(k + 1), (b + m.length + 1), (cs ++ [c16]), ka, kr, ke, v21, Kl21, (by omega), (by simp; omega), (by omega), (fun hn => (hm7 hn).1), (by omega), (.inr ⟨h9, hBj, by omega, by omega, .inr (by omega)⟩), (own_b3 O21 map_snoc), (show Dk g3 Kl21 from (by (try simp only [dj_app_l, dj_app_r, dj_cons_l, dj_cons_r, dj_nil_l, dj_nil_r, dk_app, dk_cons, dk_nil, and_true, true_and, and_assoc]); repeat' (first | trivial | assumption | exact Dj.symm (by assumption) | exact Ne.symm (by assumption) | apply And.intro))), (show Dk g1 Kl21 from (by (try simp only [dj_app_l, dj_app_r, dj_cons_l, dj_cons_r, dj_nil_l, dj_nil_r, dk_app, dk_cons, dk_nil, and_true, true_and, and_assoc]); repeat' (first | trivial | assumption | exact Dj.symm (by assumption) | exact Ne.symm (by assumption) | apply And.intro))), (show Dk g5 Kl21 from (by (try simp only [dj_app_l, dj_app_r, dj_cons_l, dj_cons_r, dj_nil_l, dj_nil_r, dk_app, dk_cons, dk_nil, and_true, true_and, and_assoc]); repeat' (first | trivial | assumption | exact Dj.symm (by assumption) | exact Ne.symm (by assumption) | apply And.intro))), (show Dk g8 Kl21 from (by (try simp only [dj_app_l, dj_app_r, dj_cons_l, dj_cons_r, dj_nil_l, dj_nil_r, dk_app, dk_cons, dk_nil, and_true, true_and, and_assoc]); repeat' (first | trivial | assumption | exact Dj.symm (by assumption) | exact Ne.symm (by assumption) | apply And.intro))), (show Dj R Kl21 from (by (try simp only [dj_app_l, dj_app_r, dj_cons_l, dj_cons_r, dj_nil_l, dj_nil_r, dk_app, dk_cons, dk_nil, and_true, true_and, and_assoc]); repeat' (first | trivial | assumption | exact Dj.symm (by assumption) | exact Ne.symm (by assumption) | apply And.intro))), (show Dj To Kl21 from (by (try simp only [dj_app_l, dj_app_r, dj_cons_l, dj_cons_r, dj_nil_l, dj_nil_r, dk_app, dk_cons, dk_nil, and_true, true_and, and_assoc]); repeat' (first | trivial | assumption | exact Dj.symm (by assumption) | exact Ne.symm (by assumption) | apply And.intro))), (show Dj Ko Kl21 from (by (try simp only [dj_app_l, dj_app_r, dj_cons_l, dj_cons_r, dj_nil_l, dj_nil_r, dk_app, dk_cons, dk_nil, and_true, true_and, and_assoc]); repeat' (first | trivial | assumption | exact Dj.symm (by assumption) | exact Ne.symm (by assumption) | apply And.intro))), rfl, rfl, (hW31.sub (fun p hp => by first | exact hp | (simp only [List.mem_cons, List.mem_append, List.nil_append, List.not_mem_nil, or_assoc, or_false, false_or, List.cons_append, List.append_assoc] at hp ⊢ <;> grind)))⟩, rfl⟩
                    case measure => (show Q'.length - (intOf (.int .i64 (((k + 1) : Nat) : Int))).toNat < Q'.length - (intOf (.int .i64 ((k : Nat) : Int))).toNat); simp only [intOf]; omega
                  | true =>
                    have h9 : ke = 0 := of_decide_eq_true hd9
                    clear hd9
                    obtain ⟨hk10, hes3, hRj⟩ := hK0.ok h9
                    refine lv (v := .agg #[.int .i64 ((ga16 : Nat) : Int), .int .i64 ((gr16 : Nat) : Int), .int .i64 ((ge16 : Nat) : Int)]) rfl rfl (yb_call (f := 36) (args := #[.agg #[.int .i64 ((ka : Nat) : Int), .int .i64 ((kr : Nat) : Int), .int .i64 ((ke : Nat) : Int)], .agg #[.int .i64 ((ga16 : Nat) : Int), .int .i64 ((gr16 : Nat) : Int), .int .i64 ((ge16 : Nat) : Int)]]) (fun _ => by kernel_rfl) fun W hW => worse_new ka kr ke ga16 gr16 ge16 h9 W) ?_
                    refine wpL_s ((g17, .cells #[.int .i64 ((ga16 : Nat) : Int), .int .i64 ((gr16 : Nat) : Int), .int .i64 ((ge16 : Nat) : Int)] 71 (0, 0)) :: (g3, .cells #[.int .i64 ((ga16 : Nat) : Int), .int .i64 ((gr16 : Nat) : Int), .int .i64 ((ge16 : Nat) : Int)] 71 (0, 0)) :: (g1, .cells #[.int .i64 0, .int .i64 0, .int .i64 0] 71 (0, 0)) :: (g5, .cells cur5 3 (0, 0)) :: (g8, .cells cur8 3 (0, 0)) :: (R ++ (To ++ (Ko ++ Ke)))) rfl rfl (st_row (off := 0) (v := .agg #[.int .i64 ((ga16 : Nat) : Int), .int .i64 ((gr16 : Nat) : Int), .int .i64 ((ge16 : Nat) : Int)]) rfl (by kernel_rfl) (by kernel_rfl) (.tail _ (.head _)) Bg3 (by kernel_rfl) (by simp [Value.cells]) (by intro v hv; simp [Value.cells] at hv; first | (subst hv; rfl) | (rcases hv with rfl | rfl | rfl <;> rfl)) (by kernel_rfl) (List.forall_mem_cons.2 ⟨.inr ⟨(.head _), (by first | assumption | exact Ne.symm (by assumption))⟩, (List.forall_mem_cons.2 ⟨.inl rfl, (List.forall_mem_cons.2 ⟨.inr ⟨(.tail _ (.tail _ (.head _))), (by first | assumption | exact Ne.symm (by assumption))⟩, (List.forall_mem_cons.2 ⟨.inr ⟨(.tail _ (.tail _ (.tail _ (.head _)))), (by first | assumption | exact Ne.symm (by assumption))⟩, (List.forall_mem_cons.2 ⟨.inr ⟨(.tail _ (.tail _ (.tail _ (.tail _ (.head _))))), (by first | assumption | exact Ne.symm (by assumption))⟩, (fun p hp => .inr ⟨(.tail _ (.tail _ (.tail _ (.tail _ (.tail _ hp))))), ((show Dk g3 (R ++ (To ++ (Ko ++ Ke))) from (by (try simp only [dj_app_l, dj_app_r, dj_cons_l, dj_cons_r, dj_nil_l, dj_nil_r, dk_app, dk_cons, dk_nil, and_true, true_and, and_assoc]); repeat' (first | trivial | assumption | exact Dj.symm (by assumption) | exact Ne.symm (by assumption) | apply And.intro))) _ hp)⟩)⟩)⟩)⟩)⟩)⟩)) ?_
                    refine wpL_done (fun W32 hW32 => ?_)
                    refine (show Code.wp _ _ _ _ _ from ?_)
                    refine wp_region_L (W0 := W0) ((g17, .cells #[.int .i64 ((ga16 : Nat) : Int), .int .i64 ((gr16 : Nat) : Int), .int .i64 ((ge16 : Nat) : Int)] 71 (0, 0)) :: (g3, .cells #[.int .i64 ((ga16 : Nat) : Int), .int .i64 ((gr16 : Nat) : Int), .int .i64 ((ge16 : Nat) : Int)] 71 (0, 0)) :: (g1, .cells #[.int .i64 0, .int .i64 0, .int .i64 0] 71 (0, 0)) :: (g5, .cells cur5 3 (0, 0)) :: (g8, .cells cur8 3 (0, 0)) :: (R ++ (To ++ (Ko ++ Ke)))) (hW32) ?_
                    refine lm (v := ve) rfl rfl ?_
                    refine lm (v := strV c16) rfl rfl ?_
                    refine wpL_new (fun g => .slice (some ⟨g, 0, none⟩) 1 1) (obi := .cells #[strV c16] 9 (0, 0)) rfl rfl (fun _ => by kernel_rfl) (fun _ => by simp only [List.setIfInBounds_toArray, List.set_cons_succ, List.set_cons_zero] <;> rfl) fun g23 Bg23 Fg23 => ?_
                    obtain ⟨dj24_0, dj24_1, dj24_2, dj24_3, dj24_4, dj24_5, dj24_6, dj24_7, dj24_8⟩ : g17 ≠ g23 ∧ g3 ≠ g23 ∧ g1 ≠ g23 ∧ g5 ≠ g23 ∧ g8 ≠ g23 ∧ Dk g23 R ∧ Dk g23 To ∧ Dk g23 Ko ∧ Dk g23 Ke := by simpa only [dj_app_l, dj_app_r, dj_cons_l, dj_cons_r, dj_nil_l, dj_nil_r, dk_app, dk_cons, dk_nil, and_true, true_and, and_assoc] using (show Dk g23 ((g17, .cells #[.int .i64 ((ga16 : Nat) : Int), .int .i64 ((gr16 : Nat) : Int), .int .i64 ((ge16 : Nat) : Int)] 71 (0, 0)) :: (g3, .cells #[.int .i64 ((ga16 : Nat) : Int), .int .i64 ((gr16 : Nat) : Int), .int .i64 ((ge16 : Nat) : Int)] 71 (0, 0)) :: (g1, .cells #[.int .i64 0, .int .i64 0, .int .i64 0] 71 (0, 0)) :: (g5, .cells cur5 3 (0, 0)) :: (g8, .cells cur8 3 (0, 0)) :: (R ++ (To ++ (Ko ++ Ke)))) from Fg23)
                    refine wpL_g (AppO W0 9 1 ((g17, .cells #[.int .i64 ((ga16 : Nat) : Int), .int .i64 ((gr16 : Nat) : Int), .int .i64 ((ge16 : Nat) : Int)] 71 (0, 0)) :: (g3, .cells #[.int .i64 ((ga16 : Nat) : Int), .int .i64 ((gr16 : Nat) : Int), .int .i64 ((ge16 : Nat) : Int)] 71 (0, 0)) :: (g1, .cells #[.int .i64 0, .int .i64 0, .int .i64 0] 71 (0, 0)) :: (g5, .cells cur5 3 (0, 0)) :: (g8, .cells cur8 3 (0, 0)) :: (R ++ (To ++ Ko))) (k + 1) ((cs.map strV) ++ [strV c16])) rfl rfl (app_own el_str (m := 1) (c := 1) (news := [strV c16]) rfl (by kernel_rfl) (by kernel_rfl) (.head _) hOe (fun p hp => by simp only [List.mem_cons, List.mem_append, List.nil_append, List.not_mem_nil, or_assoc, or_false, false_or, hp, or_true, true_or]) (fun p hp => ⟨by simp only [List.mem_cons, List.mem_append, List.nil_append, List.not_mem_nil, or_assoc, or_false, false_or] at hp ⊢ <;> grind, (show Dj ((g17, .cells #[.int .i64 ((ga16 : Nat) : Int), .int .i64 ((gr16 : Nat) : Int), .int .i64 ((ge16 : Nat) : Int)] 71 (0, 0)) :: (g3, .cells #[.int .i64 ((ga16 : Nat) : Int), .int .i64 ((gr16 : Nat) : Int), .int .i64 ((ge16 : Nat) : Int)] 71 (0, 0)) :: (g1, .cells #[.int .i64 0, .int .i64 0, .int .i64 0] 71 (0, 0)) :: (g5, .cells cur5 3 (0, 0)) :: (g8, .cells cur8 3 (0, 0)) :: (R ++ (To ++ Ko))) Ke from (by (try simp only [dj_app_l, dj_app_r, dj_cons_l, dj_cons_r, dj_nil_l, dj_nil_r, dk_app, dk_cons, dk_nil, and_true, true_and, and_assoc]); repeat' (first | trivial | assumption | exact Dj.symm (by assumption) | exact Ne.symm (by assumption) | apply And.intro))) p hp⟩) rfl (by simp [strV, Value.oneCell']) (by omega) (by omega) (by omega)) (fun _ => by simp only [List.setIfInBounds_toArray, List.set_cons_succ, List.set_cons_zero] <;> rfl) ?_
                    rintro v25 K9 ⟨Kl25, O25, N25, rfl⟩
                    obtain ⟨dj26_0, dj26_1, dj26_2, dj26_3, dj26_4, dj26_5, dj26_6, dj26_7⟩ : Dk g17 Kl25 ∧ Dk g3 Kl25 ∧ Dk g1 Kl25 ∧ Dk g5 Kl25 ∧ Dk g8 Kl25 ∧ Dj R Kl25 ∧ Dj To Kl25 ∧ Dj Ko Kl25 := by simpa only [dj_app_l, dj_app_r, dj_cons_l, dj_cons_r, dj_nil_l, dj_nil_r, dk_app, dk_cons, dk_nil, and_true, true_and, and_assoc] using (show Dj ((g17, .cells #[.int .i64 ((ga16 : Nat) : Int), .int .i64 ((gr16 : Nat) : Int), .int .i64 ((ge16 : Nat) : Int)] 71 (0, 0)) :: (g3, .cells #[.int .i64 ((ga16 : Nat) : Int), .int .i64 ((gr16 : Nat) : Int), .int .i64 ((ge16 : Nat) : Int)] 71 (0, 0)) :: (g1, .cells #[.int .i64 0, .int .i64 0, .int .i64 0] 71 (0, 0)) :: (g5, .cells cur5 3 (0, 0)) :: (g8, .cells cur8 3 (0, 0)) :: (R ++ (To ++ Ko))) Kl25 from N25)
                    refine lm (v := v25) rfl rfl ?_
                    refine wpL_done (fun W33 hW33 => ?_)
                    refine (show Code.wp _ _ _ _ _ from ?_)
                    refine wp_region_L (W0 := W0) ((g17, .cells #[.int .i64 ((ga16 : Nat) : Int), .int .i64 ((gr16 : Nat) : Int), .int .i64 ((ge16 : Nat) : Int)] 71 (0, 0)) :: (g3, .cells #[.int .i64 ((ga16 : Nat) : Int), .int .i64 ((gr16 : Nat) : Int), .int .i64 ((ge16 : Nat) : Int)] 71 (0, 0)) :: (g1, .cells #[.int .i64 0, .int .i64 0, .int .i64 0] 71 (0, 0)) :: (g5, .cells cur5 3 (0, 0)) :: (g8, .cells cur8 3 (0, 0)) :: ((R ++ (To ++ Ko)) ++ Kl25)) (hW33) ?_
                    refine lm (v := .int .i64 ((k : Nat) : Int)) rfl rfl ?_
                    refine lp (v := .int .i64 (((k + 1) : Nat) : Int)) rfl rfl (run_bin rfl (vx := (.int .i64 ((k : Nat) : Int))) (vy := (.int .i64 ((1 : Nat) : Int))) (by kernel_rfl) (by kernel_rfl) fun w => bn_add (z := (k + 1)) rfl (wr_i64 (by omega)) w) ?_
                    refine lm (v := .int .i64 (((k + 1) : Nat) : Int)) rfl rfl ?_
                    refine wpL_done (fun W34 hW34 => ?_)
                    go_roundw
                    case rel =>
                      repeat apply Exists.intro
                      exact ⟨⟨(k + 1), (b + m.length + 1), (cs ++ [c16]), ga16, gr16, ge16, v25, Kl25, (by omega), (by simp; omega), (by omega), (fun hn => (hm7 hn).1), (by omega), (sj_step (by rw [← drop_nth hm2]; exact hRj) hes3 hcs (by omega) (by omega) (by omega) hA16), (own_b3 O25 map_snoc), (show Dk g3 Kl25 from (by (try simp only [dj_app_l, dj_app_r, dj_cons_l, dj_cons_r, dj_nil_l, dj_nil_r, dk_app, dk_cons, dk_nil, and_true, true_and, and_assoc]); repeat' (first | trivial | assumption | exact Dj.symm (by assumption) | exact Ne.symm (by assumption) | apply And.intro))), (show Dk g1 Kl25 from (by (try simp only [dj_app_l, dj_app_r, dj_cons_l, dj_cons_r, dj_nil_l, dj_nil_r, dk_app, dk_cons, dk_nil, and_true, true_and, and_assoc]); repeat' (first | trivial | assumption | exact Dj.symm (by assumption) | exact Ne.symm (by assumption) | apply And.intro))), (show Dk g5 Kl25 from (by (try simp only [dj_app_l, dj_app_r, dj_cons_l, dj_cons_r, dj_nil_l, dj_nil_r, dk_app, dk_cons, dk_nil, and_true, true_and, and_assoc]); repeat' (first | trivial | assumption | exact Dj.symm (by assumption) | exact Ne.symm (by assumption) | apply And.intro))), (show Dk g8 Kl25 from (by (try simp only [dj_app_l, dj_app_r, dj_cons_l, dj_cons_r, dj_nil_l, dj_nil_r, dk_app, dk_cons, dk_nil, and_true, true_and, and_assoc]); repeat' (first | trivial | assumption | exact Dj.symm (by assumption) | exact Ne.symm (by assumption) | apply And.intro))), (show Dj R Kl25 from (by (try simp only [dj_app_l, dj_app_r, dj_cons_l, dj_cons_r, dj_nil_l, dj_nil_r, dk_app, dk_cons, dk_nil, and_true, true_and, and_assoc]); repeat' (first | trivial | assumption | exact Dj.symm (by assumption) | exact Ne.symm (by assumption) | apply And.intro))), (show Dj To Kl25 from (by (try simp only [dj_app_l, dj_app_r, dj_cons_l, dj_cons_r, dj_nil_l, dj_nil_r, dk_app, dk_cons, dk_nil, and_true, true_and, and_assoc]); repeat' (first | trivial | assumption | exact Dj.symm (by assumption) | exact Ne.symm (by assumption) | apply And.intro))), (show Dj Ko Kl25 from (by (try simp only [dj_app_l, dj_app_r, dj_cons_l, dj_cons_r, dj_nil_l, dj_nil_r, dk_app, dk_cons, dk_nil, and_true, true_and, and_assoc]); repeat' (first | trivial | assumption | exact Dj.symm (by assumption) | exact Ne.symm (by assumption) | apply And.intro))), rfl, rfl, (hW34.sub (fun p hp => by first | exact hp | (simp only [List.mem_cons, List.mem_append, List.nil_append, List.not_mem_nil, or_assoc, or_false, false_or, List.cons_append, List.append_assoc] at hp ⊢ <;> grind)))⟩, rfl⟩
                    case measure => (show Q'.length - (intOf (.int .i64 (((k + 1) : Nat) : Int))).toNat < Q'.length - (intOf (.int .i64 ((k : Nat) : Int))).toNat); simp only [intOf]; omega
end Go.Proofs.Ytppegdbelgobiaa
namespace Go.Proofs.Ytppegdbelgobiaa
open Go Go.RowKit Tw
theorem gap_y {b : UInt8} (h : b.toNat = 10 ∨ b.toNat = 13 ∨ b.toNat = 32) : gap b = true := by
  unfold gap
  simp only [Bool.or_eq_true, decide_eq_true_eq]
  omega
theorem gap_n {b : UInt8} (h : ¬ b.toNat = 10 ∧ ¬ b.toNat = 13 ∧ ¬ b.toNat = 32) : gap b = false := by
  unfold gap
  simp only [Bool.or_eq_false_iff, decide_eq_false_iff_not]
  omega
theorem run_at {l : List UInt8} {a : Nat} {s : Sta} (hl : a ≤ l.length) (h : runS 0 (l.take a) ⟨[], .out⟩ = .ok s) : runS 0 l ⟨[], .out⟩ = runS a (l.drop a) s := by
  have z : runS 0 (l.take a ++ l.drop a) ⟨[], .out⟩ = runS (0 + (l.take a).length) (l.drop a) s := runS_ok h
  rw [List.take_append_drop, List.length_take, Nat.min_eq_left hl, Nat.zero_add] at z
  exact z
structure SegW (l : List UInt8) (segs : List Sgm) (a tz : Nat) : Prop where
  le : tz ≤ l.length
  ge : a ≤ tz
  tq : Tqe l tz a
  bad : ∀ p e, segR a (rest l tz a) = .bad p e → readT l = .bad p e
  okE : ∀ sg, segR a (rest l tz a) = .ok sg → tz = l.length → readT l = .bad tz 42
  okN : ∀ sg, segR a (rest l tz a) = .ok sg → ¬ tz = l.length → runS 0 (l.take (tz + 1)) ⟨[], .out⟩ = .ok ⟨segs ++ [sg], .out⟩
theorem segw_of {l : List UInt8} {segs : List Sgm} {a : Nat} {b : UInt8} (hl : ¬ 65536 < l.length) (h : runS 0 (l.take a) ⟨[], .out⟩ = .ok ⟨segs, .out⟩) (hb : l[a]? = some b) (hg : gap b = false) (hn : segs.length < 5000) : SegW l segs a (a + endN (l.drop a)) := by
  have ha : a < l.length := (List.getElem?_eq_some_iff.1 hb).1
  obtain ⟨n, hn'⟩ : ∃ n, n = endN (l.drop a) := ⟨_, rfl⟩
  have es := end_spec (l.drop a)
  rw [← hn'] at es ⊢
  rw [List.length_drop] at es
  have hm : rest l (a + n) a = (l.drop a).take n := by
    unfold rest
    rw [List.drop_take, show a + n - a = n from by omega]
  have hd : l.drop a = b :: l.drop (a + 1) := drop_at hb
  have hr : runS 0 l ⟨[], .out⟩ = runS a (l.drop a) ⟨segs, .ins [] [] []⟩ := by rw [run_at (by omega) h, hd, runS_begin hg hn]
  have hs : l.drop a = rest l (a + n) a ++ l.drop (a + n) := by
    rw [hm, ← List.drop_drop]
    exact (List.take_append_drop _ _).symm
  have ag := seg_run segs (rest l (a + n) a) a (by rw [hm]; exact es.2.1)
  have hrd : readT l = endS l.length (runS 0 l ⟨[], .out⟩) := if_neg hl
  have e1 : a + n = l.length → rest l (a + n) a = l.drop a := by
    intro e
    rw [e]
    unfold rest
    rw [List.take_length]
  have hT : Tqe l (a + n) a := by
    intro ht
    rcases Nat.lt_or_ge n (l.length - a) with h1 | h1
    · have := (es.2.2 h1).2
      rw [← hm, ht] at this
      cases this
    · omega
  refine ⟨by omega, by omega, hT, ?_, ?_, ?_⟩
  · intro p e hx
    rw [hx] at ag
    rcases ag with ag | ⟨hq, rfl, es', cs, c, ag⟩
    · rw [hrd, hr, hs, runS_bad ag]
      rfl
    · rw [hrd, hr, ← e1 (hT hq), ag]
      rfl
  · intro sg hx e
    rw [hx] at ag
    obtain ⟨s, ag, ⟨es', cs, c, rfl, _⟩, _⟩ := ag
    rw [hrd, hr, ← e1 e, ag, e]
    rfl
  · intro sg hx e
    rw [hx] at ag
    obtain ⟨s, ag, ⟨es', cs, c, rfl, rfl⟩, _⟩ := ag
    obtain ⟨⟨y, hy, h39⟩, _⟩ := es.2.2 (by omega)
    have hy' : l[a + n]? = some y := by rw [← hy, List.getElem?_drop]
    have e0 : rest l (a + n) a ++ [y] = b :: (l.drop (a + 1)).take n := by
      rw [hm, ← takeL hy, hd, List.take_succ_cons]
    have e2 : l.take (a + n + 1) = l.take a ++ (rest l (a + n) a ++ [y]) := by
      rw [takeL hy', ← List.append_assoc]
      congr 1
      have z := (List.take_append_drop a (l.take (a + n))).symm
      rw [List.take_take, Nat.min_eq_left (by omega)] at z
      exact z
    rw [e2, runS_ok h, List.length_take, Nat.min_eq_left (by omega), Nat.zero_add, e0, runS_begin hg hn, ← e0, runS_ok ag, runS_one]
    show inside _ y segs es' cs c = _
    unfold inside
    rw [if_neg (by rw [may_low (by omega) (by omega)]; simp), if_pos h39]
theorem sega_bad {x : Res Sgm} {f e : Nat} {sg : Sgm} {fa fr fe : Nat} (h : SegA x f e sg fa fr fe) (h0 : ¬ fe = 0) : x = .bad fa fe := by
  rcases h with h | h
  · exact absurd h.1 h0
  · exact h.2.1
theorem sega_ok {x : Res Sgm} {f e : Nat} {sg : Sgm} {fa fr fe : Nat} (h : SegA x f e sg fa fr fe) (h0 : fe = 0) : x = .ok sg := by
  rcases h with h | h
  · exact h.2
  · exact absurd h0 h.1
theorem step_gap {l : List UInt8} {a : Nat} {b : UInt8} {segs : List Sgm} (hb : l[a]? = some b) (h : runS 0 (l.take a) ⟨[], .out⟩ = .ok ⟨segs, .out⟩) (hg : gap b = true) : runS 0 (l.take (a + 1)) ⟨[], .out⟩ = .ok ⟨segs, .out⟩ := run_snoc hb h (if_pos hg)
theorem read_many {l : List UInt8} {a : Nat} {b : UInt8} {segs : List Sgm} (hl : ¬ 65536 < l.length) (hb : l[a]? = some b) (h : runS 0 (l.take a) ⟨[], .out⟩ = .ok ⟨segs, .out⟩) (hg : gap b = false) (hn : segs.length = 5000) : readT l = .bad a 5 := by
  unfold readT
  rw [if_neg hl, run_stops hb h ((if_neg (by rw [hg]; simp)).trans (if_pos (by omega)))]
  rfl
theorem read_end {l : List UInt8} {a : Nat} {segs : List Sgm} (hl : ¬ 65536 < l.length) (h : runS 0 (l.take a) ⟨[], .out⟩ = .ok ⟨segs, .out⟩) (ha : a = l.length) : readT l = .ok segs := by
  rw [ha, List.take_length] at h
  unfold readT
  rw [if_neg hl, h]
  rfl
def RdB (W0 : Base) (l : List UInt8) (v : Value) (T : List (Nat × Obj)) : Prop :=
  ∃ x, v = .tuple #[x, .int .i64 ((errAt (readT l) : Nat) : Int), .int .i64 ((errNo (readT l) : Nat) : Int)] ∧ (∀ A, readT l = .ok A → MkV SgR W0 x A T) ∧ ∀ p e, readT l = .bad p e → x = .slice none 0 0
theorem rdb_bad {W0 : Base} {l : List UInt8} {w' : World} {K : List (Nat × Obj)} (p e : Nat) (hr : readT l = .bad p e) (hk : KS W0 K w') : ∃ v T, Ending.returned (.tuple #[.slice none 0 0, .int .i64 ((p : Nat) : Int), .int .i64 ((e : Nat) : Int)]) = .returned v ∧ KS W0 T w' ∧ RdB W0 l v T := by
  refine ⟨_, [], rfl, ⟨hk.1, fun _ h => by cases h⟩, .slice none 0 0, ?_, ?_, ?_⟩
  · rw [hr]; rfl
  · intro A hA; rw [hr] at hA; cases hA
  · intro _ _ _; rfl
theorem rdb_ok {W0 : Base} {l : List UInt8} {A : List Sgm} {w' : World} {x : Value} {T : List (Nat × Obj)} (hr : readT l = .ok A) (hk : KS W0 T w') (hx : MkV SgR W0 x A T) : ∃ v T, Ending.returned (.tuple #[x, .int .i64 0, .int .i64 0]) = .returned v ∧ KS W0 T w' ∧ RdB W0 l v T := by
  refine ⟨_, T, rfl, hk, x, ?_, ?_, ?_⟩
  · rw [hr]; rfl
  · intro A' hA; rw [hr] at hA; cases hA; exact hx
  · intro p e h; rw [hr] at h; cases h
end Go.Proofs.Ytppegdbelgobiaa
namespace Go.Proofs.Ytppegdbelgobiaa
open Go Go.RowKit Tw
set_option maxRecDepth 100000 in
set_option maxHeartbeats 40000000 in
theorem RRead_any {W0 : Base} (l : List UInt8) (lc : l.length ≤ 4000000) (w : World) (hw : KS W0 [] w) : Calls Try.prog 20 #[strV l] w fun e w' => ∃ v T, e = .returned v ∧ KS W0 T w' ∧ RdB W0 l v T := by
  go_enter Try.func20, Try.ntmps20
  refine wp_seq ?_
  refine wp_region_L (W0 := W0) [] (hw) ?_
  refine lm (v := .slice none 0 0) rfl rfl ?_
  refine lm (v := .int .i64 0) rfl rfl ?_
  refine lm (v := .int .i64 0) rfl rfl ?_
  refine wpL_done (fun W1 hW1 => ?_)
  refine (show Code.wp _ _ _ _ _ from ?_)
  refine wp_seq ?_
  refine wp_seq ?_
  refine wp_region_L (W0 := W0) [] (hW1) ?_
  refine lm (v := strV l) rfl rfl ?_
  refine lp (v := .int .i64 ((l.length : Nat) : Int)) rfl rfl (run_lenS (l := l) rfl Try.underlying9 (by kernel_rfl)) ?_
  refine lp (v := .bool (decide (65536 < l.length))) rfl rfl (run_bin rfl (vx := (.int .i64 ((l.length : Nat) : Int))) (vy := (.int .i64 ((65536 : Nat) : Int))) (by kernel_rfl) (by kernel_rfl) fun w => bn_gtr rfl w) ?_
  refine wpL_done (fun W2 hW2 => ?_)
  refine (show Code.wp _ _ _ _ _ from ?_)
  cases hd1 : (decide (65536 < l.length)) with
  | false =>
    have h1 : ¬ (65536 < l.length) := of_decide_eq_false hd1
    clear hd1
    refine wp_cond_false rfl ?_
    refine wp_skip ?_
    refine (show Code.wp _ _ _ _ _ from ?_)
    refine wp_seq ?_
    refine wp_region_L (W0 := W0) [] (hW2) ?_
    refine lm (v := .slice none 0 0) rfl rfl ?_
    refine wpL_done (fun W3 hW3 => ?_)
    refine (show Code.wp _ _ _ _ _ from ?_)
    refine wp_seq ?_
    refine wp_region_L (W0 := W0) [] (hW3) ?_
    refine lm (v := .int .i64 0) rfl rfl ?_
    refine wpL_done (fun W4 hW4 => ?_)
    refine (show Code.wp _ _ _ _ _ from ?_)
    refine wp_block ?_
    go_loopw [6, 5] (fun u6 u5 wr => ∃ (a : Nat) (segs : List Sgm) (vo : Value) (xo : List Value) (To Ko : List (Nat × Obj)), (a ≤ l.length) ∧ (runS 0 (l.take a) ⟨[], .out⟩ = .ok ⟨segs, .out⟩) ∧ (segs.length ≤ 5000) ∧ (OwnL W0 36 1 vo segs.length xo Ko) ∧ (MkE ElR W0 xo segs To) ∧ (Dj To Ko) ∧ u6 = .int .i64 ((a : Nat) : Int) ∧ vo = u5 ∧ KS W0 (To ++ Ko) wr) (fun u6 _ _ => l.length + 1 - (intOf u6).toNat)
    case atStart => exact ⟨0, [], (.slice none 0 0), [], [], [], (Nat.zero_le _), rfl, (Nat.zero_le _), (OwnL.nil _ _ _), MkE.nil, (show Dj [] [] from (by (try simp only [dj_app_l, dj_app_r, dj_cons_l, dj_cons_r, dj_nil_l, dj_nil_r, dk_app, dk_cons, dk_nil, and_true, true_and, and_assoc]); repeat' (first | trivial | assumption | exact Dj.symm (by assumption) | exact Ne.symm (by assumption) | apply And.intro))), rfl, rfl, (hW4.sub (fun p hp => by first | exact hp | (simp only [List.mem_cons, List.mem_append, List.nil_append, List.not_mem_nil, or_assoc, or_false, false_or, List.cons_append, List.append_assoc] at hp ⊢ <;> grind)))⟩
    case round =>
      obtain ⟨a, segs, vo, xo, To, Ko, ha, hI, hn, hOo, hEo, dh1_0, rfl, rfl, hL5⟩ := hrel
      refine wp_block ?_
      refine wp_seq ?_
      refine wp_block ?_
      go_loopw [6] (fun u6 wr => ∃ (c : Nat), (c ≤ l.length ∧ a ≤ c) ∧ (runS 0 (l.take c) ⟨[], .out⟩ = .ok ⟨segs, .out⟩) ∧ u6 = .int .i64 ((c : Nat) : Int) ∧ KS W0 (To ++ Ko) wr) (fun u6 _ => l.length - (intOf u6).toNat)
      case atStart => exact ⟨a, (by omega), hI, rfl, (hL5.sub (fun p hp => by first | exact hp | (simp only [List.mem_cons, List.mem_append, List.nil_append, List.not_mem_nil, or_assoc, or_false, false_or, List.cons_append, List.append_assoc] at hp ⊢ <;> grind)))⟩
      case round =>
        obtain ⟨c, hc, hIc, rfl, hL6⟩ := hrel
        refine wp_seq ?_
        refine wp_seq ?_
        refine wp_region_L (W0 := W0) (To ++ Ko) (hL6) ?_
        refine lm (v := .int .i64 ((c : Nat) : Int)) rfl rfl ?_
        refine lm (v := strV l) rfl rfl ?_
        refine lp (v := .int .i64 ((l.length : Nat) : Int)) rfl rfl (run_lenS (l := l) rfl Try.underlying9 (by kernel_rfl)) ?_
        refine lp (v := .bool (decide (c < l.length))) rfl rfl (run_bin rfl (vx := (.int .i64 ((c : Nat) : Int))) (vy := (.int .i64 ((l.length : Nat) : Int))) (by kernel_rfl) (by kernel_rfl) fun w => bn_lss rfl w) ?_
        refine lm (v := .bool (decide (c < l.length))) rfl rfl ?_
        cases hd2 : (decide (c < l.length)) with
        | false =>
          have h2 : ¬ (c < l.length) := of_decide_eq_false hd2
          clear hd2
          refine ln rfl ?_
          refine ln rfl ?_
          refine ln rfl ?_
          refine ln rfl ?_
          refine ln rfl ?_
          refine ln rfl ?_
          refine ln rfl ?_
          refine ln rfl ?_
          refine ln rfl ?_
          refine ln rfl ?_
          refine ln rfl ?_
          refine ln rfl ?_
          refine ln rfl ?_
          refine ln rfl ?_
          refine ln rfl ?_
          refine ln rfl ?_
          refine lm (v := .bool false) rfl rfl ?_
          refine wpL_done (fun W7 hW7 => ?_)
          refine (show Code.wp _ _ _ _ _ from ?_)
          refine wp_cond_false rfl ?_
          refine wp_exit ?_
          refine (show Code.wp _ _ _ _ _ from ?_)
          refine wp_seq ?_
          refine wp_seq ?_
          refine wp_region_L (W0 := W0) (To ++ Ko) (hW7) ?_
          refine lm (v := .int .i64 ((c : Nat) : Int)) rfl rfl ?_
          refine lm (v := strV l) rfl rfl ?_
          refine lp (v := .int .i64 ((l.length : Nat) : Int)) rfl rfl (run_lenS (l := l) rfl Try.underlying9 (by kernel_rfl)) ?_
          refine lp (v := .bool true) rfl rfl (run_bin rfl (vx := (.int .i64 ((c : Nat) : Int))) (vy := (.int .i64 ((l.length : Nat) : Int))) (by kernel_rfl) (by kernel_rfl) fun w => bn_eql (decide_eq_true (by omega)) w) ?_
          refine wpL_done (fun W8 hW8 => ?_)
          refine (show Code.wp _ _ _ _ _ from ?_)
          refine wp_cond_true rfl ?_
          refine wp_seq ?_
          refine wp_region_L (W0 := W0) (To ++ Ko) (hW8) ?_
          refine lm (v := vo) rfl rfl ?_
          refine lm (v := vo) rfl rfl ?_
          refine lm (v := .int .i64 0) rfl rfl ?_
          refine lm (v := .int .i64 0) rfl rfl ?_
          refine wpL_done (fun W9 hW9 => ?_)
          refine (show Code.wp _ _ _ _ _ from ?_)
          refine wp_ret ?_
          try simp only [inBlock_ret, then_ret]
          refine bodyPost_ret (v := .tuple #[vo, .int .i64 0, .int .i64 0]) ?_ rfl ?_
          · kernel_rfl
          · exact rdb_ok (read_end h1 hIc (by omega)) (hW9.sub (fun p hp => by simp only [List.mem_cons, List.mem_append, List.nil_append, List.not_mem_nil, or_assoc, or_false, false_or, List.cons_append, List.append_assoc] at hp ⊢ <;> grind)) (MkE.mk hOo hEo rfl)
        | true =>
          have h2 : c < l.length := of_decide_eq_true hd2
          clear hd2
          refine lm (v := strV l) rfl rfl ?_
          refine lm (v := .int .i64 ((c : Nat) : Int)) rfl rfl ?_
          obtain ⟨b3, hb3⟩ : ∃ b, (l : List UInt8)[c]? = some b := ⟨_, List.getElem?_eq_getElem (by omega)⟩
          have lb3 := b3.toNat_lt
          refine lp (v := .int .u8 ((b3.toNat : Nat) : Int)) rfl rfl (run_idxS (j := .i64) (l := l) (k := c) (b := b3) rfl Try.underlying9 (by kernel_rfl) (by kernel_rfl) hb3) ?_
          refine lp (v := .bool (decide (b3.toNat = 10))) rfl rfl (run_bin rfl (vx := (.int .u8 ((b3.toNat : Nat) : Int))) (vy := (.int .u8 ((10 : Nat) : Int))) (by kernel_rfl) (by kernel_rfl) fun w => bn_eql rfl w) ?_
          refine lm (v := .bool (decide (b3.toNat = 10))) rfl rfl ?_
          cases hd3 : (decide (b3.toNat = 10)) with
          | false =>
            have h3 : ¬ (b3.toNat = 10) := of_decide_eq_false hd3
            clear hd3
            refine lm (v := strV l) rfl rfl ?_
            refine lm (v := .int .i64 ((c : Nat) : Int)) rfl rfl ?_
            refine lp (v := .int .u8 ((b3.toNat : Nat) : Int)) rfl rfl (run_idxS (j := .i64) (l := l) (k := c) (b := b3) rfl Try.underlying9 (by kernel_rfl) (by kernel_rfl) hb3) ?_
            refine lp (v := .bool (decide (b3.toNat = 13))) rfl rfl (run_bin rfl (vx := (.int .u8 ((b3.toNat : Nat) : Int))) (vy := (.int .u8 ((13 : Nat) : Int))) (by kernel_rfl) (by kernel_rfl) fun w => bn_eql rfl w) ?_
            refine lm (v := .bool (decide (b3.toNat = 13))) rfl rfl ?_
            refine lm (v := .bool (decide (b3.toNat = 13))) rfl rfl ?_
            cases hd4 : (decide (b3.toNat = 13)) with
            | false =>
              have h4 : ¬ (b3.toNat = 13) := of_decide_eq_false hd4
              clear hd4
              refine lm (v := strV l) rfl rfl ?_
              refine lm (v := .int .i64 ((c : Nat) : Int)) rfl rfl ?_
              refine lp (v := .int .u8 ((b3.toNat : Nat) : Int)) rfl rfl (run_idxS (j := .i64) (l := l) (k := c) (b := b3) rfl Try.underlying9 (by kernel_rfl) (by kernel_rfl) hb3) ?_
              refine lp (v := .bool (decide (b3.toNat = 32))) rfl rfl (run_bin rfl (vx := (.int .u8 ((b3.toNat : Nat) : Int))) (vy := (.int .u8 ((32 : Nat) : Int))) (by kernel_rfl) (by kernel_rfl) fun w => bn_eql rfl w) ?_
              refine lm (v := .bool (decide (b3.toNat = 32))) rfl rfl ?_
              refine lm (v := .bool (decide (b3.toNat = 32))) rfl rfl ?_
              refine wpL_done (fun W10 hW10 => ?_)
              refine (show Code.wp _ _ _ _ _ from ?_)
              cases hd5 : (decide (b3.toNat = 32)) with
              | false =>
                have h5 : ¬ (b3.toNat = 32) := of_decide_eq_false hd5
                clear hd5
                refine wp_cond_false rfl ?_
                refine wp_exit ?_
                refine (show Code.wp _ _ _ _ _ from ?_)
                refine wp_seq ?_
                refine wp_seq ?_
                refine wp_region_L (W0 := W0) (To ++ Ko) (hW10) ?_
                refine lm (v := .int .i64 ((c : Nat) : Int)) rfl rfl ?_
                refine lm (v := strV l) rfl rfl ?_
                refine lp (v := .int .i64 ((l.length : Nat) : Int)) rfl rfl (run_lenS (l := l) rfl Try.underlying9 (by kernel_rfl)) ?_
                refine lp (v := .bool false) rfl rfl (run_bin rfl (vx := (.int .i64 ((c : Nat) : Int))) (vy := (.int .i64 ((l.length : Nat) : Int))) (by kernel_rfl) (by kernel_rfl) fun w => bn_eql (decide_eq_false (by omega)) w) ?_
                refine wpL_done (fun W11 hW11 => ?_)
                refine (show Code.wp _ _ _ _ _ from ?_)
                refine wp_cond_false rfl ?_
                refine wp_skip ?_
                refine (show Code.wp _ _ _ _ _ from ?_)
                refine wp_seq ?_
                refine wp_seq ?_
                refine wp_region_L (W0 := W0) (To ++ Ko) (hW11) ?_
                refine lm (v := vo) rfl rfl ?_
                refine lp (v := .int .i64 ((segs.length : Nat) : Int)) rfl rfl (run_lenO (W0 := W0) rfl Try.underlying40 (by kernel_rfl) hOo) ?_
                refine lp (v := .bool (decide (segs.length = 5000))) rfl rfl (run_bin rfl (vx := (.int .i64 ((segs.length : Nat) : Int))) (vy := (.int .i64 ((5000 : Nat) : Int))) (by kernel_rfl) (by kernel_rfl) fun w => bn_eql rfl w) ?_
                refine wpL_done (fun W12 hW12 => ?_)
                refine (show Code.wp _ _ _ _ _ from ?_)
                cases hd6 : (decide (segs.length = 5000)) with
                | false =>
                  have h6 : ¬ (segs.length = 5000) := of_decide_eq_false hd6
                  clear hd6
                  refine wp_cond_false rfl ?_
                  refine wp_skip ?_
                  refine (show Code.wp _ _ _ _ _ from ?_)
                  refine wp_seq ?_
                  refine wp_region_L (W0 := W0) (To ++ Ko) (hW12) ?_
                  refine lm (v := strV l) rfl rfl ?_
                  refine lm (v := .int .i64 ((c : Nat) : Int)) rfl rfl ?_
                  obtain ⟨tz, hto⟩ : ∃ t, t = c + endN (l.drop c) := ⟨_, rfl⟩
                  have hSW : SegW l segs c tz := by rw [hto]; exact segw_of h1 hIc hb3 (gap_n (by omega)) (by omega)
                  have hto1 := hSW.le
                  have hto2 := hSW.ge
                  refine lv (v := .int .i64 ((tz : Nat) : Int)) rfl rfl (yb_call (f := 34) (args := #[strV l, .int .i64 ((c : Nat) : Int)]) (fun _ => by kernel_rfl) fun W hW => (by rw [hto]; exact end_any l c (by omega) (by omega) W)) ?_
                  refine lm (v := .int .i64 ((tz : Nat) : Int)) rfl rfl ?_
                  refine wpL_done (fun W13 hW13 => ?_)
                  refine (show Code.wp _ _ _ _ _ from ?_)
                  refine wp_seq ?_
                  refine wp_region_L (W0 := W0) (To ++ Ko) (hW13) ?_
                  refine lm (v := strV l) rfl rfl ?_
                  refine lm (v := .int .i64 ((c : Nat) : Int)) rfl rfl ?_
                  refine lm (v := .int .i64 ((tz : Nat) : Int)) rfl rfl ?_
                  refine wpL_c (f := 35) (args := #[strV l, .int .i64 ((c : Nat) : Int), .int .i64 ((tz : Nat) : Int)]) (fun v K2 => ∃ T4 px cx sg fa fr fe, v = .tuple #[.slice px sg.length cx, .agg #[.int .i64 ((fa : Nat) : Int), .int .i64 ((fr : Nat) : Int), .int .i64 ((fe : Nat) : Int)]] ∧ Dj (To ++ Ko) T4 ∧ MkV ElR W0 (.slice px sg.length cx) sg T4 ∧ SegA (segR c (rest l tz c)) c tz sg fa fr fe ∧ K2 = (To ++ (Ko ++ T4))) rfl (by kernel_rfl) (fun _ => (by kernel_rfl)) (fun W hW => (RSeg_any l c tz (by omega) hto2 hto1 hSW.tq (To ++ Ko) W hW).mono fun e w2 ⟨x, T4, sg, fa, fr, fe, he, hk, hd, hM, hA⟩ => by obtain ⟨px, cx, rfl, _⟩ := hM w2 (hk.sub (fun p hp => List.mem_append_right _ hp)); exact ⟨_, _, he, (hk.sub (fun p hp => by simp only [List.mem_cons, List.mem_append, List.nil_append, List.not_mem_nil, or_assoc, or_false, false_or, List.cons_append, List.append_assoc] at hp ⊢ <;> grind)), T4, px, cx, sg, fa, fr, fe, rfl, hd, hM, hA, rfl⟩) (fun _ => by simp only [List.setIfInBounds_toArray, List.set_cons_succ, List.set_cons_zero] <;> rfl) ?_
                  rintro _ _ ⟨T4, px4, cx4, sg, fa, fr, fe, rfl, hd4, hM4, hA, rfl⟩
                  have hkf : fe = 0 ∨ (c ≤ fa ∧ fr ≤ 4 ∧ fa < tz) := hA.elim (fun h => .inl h.1) (fun h => .inr ⟨h.2.2.2.1, h.2.2.2.2, h.2.2.1⟩)
                  obtain ⟨dj5_0, dj5_1⟩ : Dj To T4 ∧ Dj Ko T4 := by simpa only [dj_app_l, dj_app_r, dj_cons_l, dj_cons_r, dj_nil_l, dj_nil_r, dk_app, dk_cons, dk_nil, and_true, true_and, and_assoc] using (show Dj (To ++ Ko) T4 from hd4)
                  refine lm (v := .tuple #[.slice px4 sg.length cx4, .agg #[.int .i64 ((fa : Nat) : Int), .int .i64 ((fr : Nat) : Int), .int .i64 ((fe : Nat) : Int)]]) rfl rfl ?_
                  refine lm (v := .slice px4 sg.length cx4) rfl rfl ?_
                  refine lm (v := .agg #[.int .i64 ((fa : Nat) : Int), .int .i64 ((fr : Nat) : Int), .int .i64 ((fe : Nat) : Int)]) rfl rfl ?_
                  refine wpL_new (fun g => .pointer (some ⟨g, 0, none⟩)) (obi := .cells #[.int .i64 0, .int .i64 0, .int .i64 0] 71 (0, 0)) rfl rfl (fun _ => by kernel_rfl) (fun _ => by simp only [List.setIfInBounds_toArray, List.set_cons_succ, List.set_cons_zero] <;> rfl) fun g6 Bg6 Fg6 => ?_
                  obtain ⟨dj7_0, dj7_1, dj7_2⟩ : Dk g6 To ∧ Dk g6 Ko ∧ Dk g6 T4 := by simpa only [dj_app_l, dj_app_r, dj_cons_l, dj_cons_r, dj_nil_l, dj_nil_r, dk_app, dk_cons, dk_nil, and_true, true_and, and_assoc] using (show Dk g6 (To ++ (Ko ++ T4)) from Fg6)
                  refine lm (v := .slice px4 sg.length cx4) rfl rfl ?_
                  refine wpL_s ((g6, .cells #[.int .i64 ((fa : Nat) : Int), .int .i64 ((fr : Nat) : Int), .int .i64 ((fe : Nat) : Int)] 71 (0, 0)) :: (To ++ (Ko ++ T4))) rfl rfl (st_row (off := 0) (v := .agg #[.int .i64 ((fa : Nat) : Int), .int .i64 ((fr : Nat) : Int), .int .i64 ((fe : Nat) : Int)]) rfl (by kernel_rfl) (by kernel_rfl) (.head _) Bg6 (by kernel_rfl) (by simp [Value.cells]) (by intro v hv; simp [Value.cells] at hv; first | (subst hv; rfl) | (rcases hv with rfl | rfl | rfl <;> rfl)) (by kernel_rfl) (List.forall_mem_cons.2 ⟨.inl rfl, (fun p hp => .inr ⟨(.tail _ hp), ((show Dk g6 (To ++ (Ko ++ T4)) from (by (try simp only [dj_app_l, dj_app_r, dj_cons_l, dj_cons_r, dj_nil_l, dj_nil_r, dk_app, dk_cons, dk_nil, and_true, true_and, and_assoc]); repeat' (first | trivial | assumption | exact Dj.symm (by assumption) | exact Ne.symm (by assumption) | apply And.intro))) _ hp)⟩)⟩)) ?_
                  refine wpL_done (fun W14 hW14 => ?_)
                  refine (show Code.wp _ _ _ _ _ from ?_)
                  refine wp_seq ?_
                  refine wp_seq ?_
                  refine wp_region_L (W0 := W0) ((g6, .cells #[.int .i64 ((fa : Nat) : Int), .int .i64 ((fr : Nat) : Int), .int .i64 ((fe : Nat) : Int)] 71 (0, 0)) :: (To ++ (Ko ++ T4))) (hW14) ?_
                  refine lm (v := .int .i64 ((tz : Nat) : Int)) rfl rfl ?_
                  refine lm (v := strV l) rfl rfl ?_
                  refine lp (v := .int .i64 ((l.length : Nat) : Int)) rfl rfl (run_lenS (l := l) rfl Try.underlying9 (by kernel_rfl)) ?_
                  refine lp (v := .bool (decide (tz = l.length))) rfl rfl (run_bin rfl (vx := (.int .i64 ((tz : Nat) : Int))) (vy := (.int .i64 ((l.length : Nat) : Int))) (by kernel_rfl) (by kernel_rfl) fun w => bn_eql rfl w) ?_
                  refine wpL_done (fun W15 hW15 => ?_)
                  refine (show Code.wp _ _ _ _ _ from ?_)
                  cases hd7 : (decide (tz = l.length)) with
                  | false =>
                    have h7 : ¬ (tz = l.length) := of_decide_eq_false hd7
                    clear hd7
                    refine wp_cond_false rfl ?_
                    refine wp_skip ?_
                    refine (show Code.wp _ _ _ _ _ from ?_)
                    refine wp_seq ?_
                    refine wp_seq ?_
                    refine wp_region_L (W0 := W0) ((g6, .cells #[.int .i64 ((fa : Nat) : Int), .int .i64 ((fr : Nat) : Int), .int .i64 ((fe : Nat) : Int)] 71 (0, 0)) :: (To ++ (Ko ++ T4))) (hW15) ?_
                    refine lm (v := .pointer (some ⟨g6, 2, none⟩)) rfl rfl ?_
                    refine lv (v := .int .i64 ((fe : Nat) : Int)) rfl rfl (yb_cell (off := 2) rfl (by kernel_rfl) (.head _) Try.underlying3 rfl (by kernel_rfl)) ?_
                    refine lp (v := .bool (!(decide (fe = 0)))) rfl rfl (run_bin rfl (vx := (.int .i64 ((fe : Nat) : Int))) (vy := (.int .i64 ((0 : Nat) : Int))) (by kernel_rfl) (by kernel_rfl) fun w => bn_neq rfl w) ?_
                    refine wpL_done (fun W16 hW16 => ?_)
                    refine (show Code.wp _ _ _ _ _ from ?_)
                    cases hd8 : (decide (fe = 0)) with
                    | false =>
                      have h8 : ¬ (fe = 0) := of_decide_eq_false hd8
                      clear hd8
                      refine wp_cond_true rfl ?_
                      refine wp_seq ?_
                      refine wp_region_V (W0 := W0) ((g6, .cells #[.int .i64 ((fa : Nat) : Int), .int .i64 ((fr : Nat) : Int), .int .i64 ((fe : Nat) : Int)] 71 (0, 0)) :: (To ++ (Ko ++ T4))) (by kernel_rfl) (hW16) ?_
                      refine vm (i := 0) (v := .pointer (some ⟨g6, 0, none⟩)) rfl rfl rfl ?_
                      refine vv (i := 1) (v := .int .i64 ((fa : Nat) : Int)) rfl rfl rfl (yb_cell (off := 0) rfl (by kernel_rfl) (.head _) Try.underlying3 rfl (by kernel_rfl)) ?_
                      refine vm (i := 2) (v := .pointer (some ⟨g6, 2, none⟩)) rfl rfl rfl ?_
                      refine vv (i := 3) (v := .int .i64 ((fe : Nat) : Int)) rfl rfl rfl (yb_cell (off := 2) rfl (by kernel_rfl) (.head _) Try.underlying3 rfl (by kernel_rfl)) ?_
                      refine vm (i := 4) (v := .slice none 0 0) rfl rfl rfl ?_
                      refine vm (i := 5) (v := .int .i64 ((fa : Nat) : Int)) rfl rfl rfl ?_
                      refine vm (i := 6) (v := .int .i64 ((fe : Nat) : Int)) rfl rfl rfl ?_
                      refine wpV_done (by kernel_rfl) (fun W17 hW17 => ?_) _
                      refine (show Code.wp _ _ _ _ _ from ?_)
                      refine wp_ret ?_
                      try simp only [inBlock_ret, then_ret]
                      refine bodyPost_ret (v := .tuple #[.slice none 0 0, .int .i64 ((fa : Nat) : Int), .int .i64 ((fe : Nat) : Int)]) ?_ rfl ?_
                      · kernel_rfl
                      · exact rdb_bad fa fe (hSW.bad _ _ (sega_bad hA h8)) hW17
                    | true =>
                      have h8 : fe = 0 := of_decide_eq_true hd8
                      clear hd8
                      refine wp_cond_false rfl ?_
                      refine wp_skip ?_
                      refine (show Code.wp _ _ _ _ _ from ?_)
                      refine wp_seq ?_
                      refine wp_region_L (W0 := W0) ((g6, .cells #[.int .i64 ((fa : Nat) : Int), .int .i64 ((fr : Nat) : Int), .int .i64 ((fe : Nat) : Int)] 71 (0, 0)) :: (To ++ (Ko ++ T4))) (hW16) ?_
                      refine lm (v := vo) rfl rfl ?_
                      refine lm (v := .slice px4 sg.length cx4) rfl rfl ?_
                      refine wpL_new (fun g => .slice (some ⟨g, 0, none⟩) 1 1) (obi := .cells #[.slice px4 sg.length cx4] 36 (0, 0)) rfl rfl (fun _ => by kernel_rfl) (fun _ => by simp only [List.setIfInBounds_toArray, List.set_cons_succ, List.set_cons_zero] <;> rfl) fun g8 Bg8 Fg8 => ?_
                      obtain ⟨dj9_0, dj9_1, dj9_2, dj9_3⟩ : g6 ≠ g8 ∧ Dk g8 To ∧ Dk g8 Ko ∧ Dk g8 T4 := by simpa only [dj_app_l, dj_app_r, dj_cons_l, dj_cons_r, dj_nil_l, dj_nil_r, dk_app, dk_cons, dk_nil, and_true, true_and, and_assoc] using (show Dk g8 ((g6, .cells #[.int .i64 ((fa : Nat) : Int), .int .i64 ((fr : Nat) : Int), .int .i64 ((fe : Nat) : Int)] 71 (0, 0)) :: (To ++ (Ko ++ T4))) from Fg8)
                      refine wpL_g (AppO W0 36 1 ((g6, .cells #[.int .i64 ((fa : Nat) : Int), .int .i64 ((fr : Nat) : Int), .int .i64 ((fe : Nat) : Int)] 71 (0, 0)) :: (To ++ T4)) (segs.length + 1) (xo ++ [.slice px4 sg.length cx4])) rfl rfl (app_own el_bare (m := 1) (c := 1) (news := [.slice px4 sg.length cx4]) rfl (by kernel_rfl) (by kernel_rfl) (.head _) hOo (fun p hp => by simp only [List.mem_cons, List.mem_append, List.nil_append, List.not_mem_nil, or_assoc, or_false, false_or, hp, or_true, true_or]) (fun p hp => ⟨by simp only [List.mem_cons, List.mem_append, List.nil_append, List.not_mem_nil, or_assoc, or_false, false_or] at hp ⊢ <;> grind, (show Dj ((g6, .cells #[.int .i64 ((fa : Nat) : Int), .int .i64 ((fr : Nat) : Int), .int .i64 ((fe : Nat) : Int)] 71 (0, 0)) :: (To ++ T4)) Ko from (by (try simp only [dj_app_l, dj_app_r, dj_cons_l, dj_cons_r, dj_nil_l, dj_nil_r, dk_app, dk_cons, dk_nil, and_true, true_and, and_assoc]); repeat' (first | trivial | assumption | exact Dj.symm (by assumption) | exact Ne.symm (by assumption) | apply And.intro))) p hp⟩) rfl (by simp [strV, Value.oneCell']) (by omega) (by omega) (by omega)) (fun _ => by simp only [List.setIfInBounds_toArray, List.set_cons_succ, List.set_cons_zero] <;> rfl) ?_
                      rintro v10 K9 ⟨Kl10, O10, N10, rfl⟩
                      obtain ⟨dj11_0, dj11_1, dj11_2⟩ : Dk g6 Kl10 ∧ Dj To Kl10 ∧ Dj T4 Kl10 := by simpa only [dj_app_l, dj_app_r, dj_cons_l, dj_cons_r, dj_nil_l, dj_nil_r, dk_app, dk_cons, dk_nil, and_true, true_and, and_assoc] using (show Dj ((g6, .cells #[.int .i64 ((fa : Nat) : Int), .int .i64 ((fr : Nat) : Int), .int .i64 ((fe : Nat) : Int)] 71 (0, 0)) :: (To ++ T4)) Kl10 from N10)
                      refine lm (v := v10) rfl rfl ?_
                      refine wpL_done (fun W18 hW18 => ?_)
                      refine (show Code.wp _ _ _ _ _ from ?_)
                      refine wp_region_L (W0 := W0) ((g6, .cells #[.int .i64 ((fa : Nat) : Int), .int .i64 ((fr : Nat) : Int), .int .i64 ((fe : Nat) : Int)] 71 (0, 0)) :: ((To ++ T4) ++ Kl10)) (hW18) ?_
                      refine lm (v := .int .i64 ((tz : Nat) : Int)) rfl rfl ?_
                      refine lp (v := .int .i64 (((tz + 1) : Nat) : Int)) rfl rfl (run_bin rfl (vx := (.int .i64 ((tz : Nat) : Int))) (vy := (.int .i64 ((1 : Nat) : Int))) (by kernel_rfl) (by kernel_rfl) fun w => bn_add (z := (tz + 1)) rfl (wr_i64 (by omega)) w) ?_
                      refine lm (v := .int .i64 (((tz + 1) : Nat) : Int)) rfl rfl ?_
                      refine wpL_done (fun W19 hW19 => ?_)
                      go_roundw
                      case rel =>
                        repeat apply Exists.intro
                        exact ⟨⟨(tz + 1), (segs ++ [sg]), v10, (xo ++ [.slice px4 sg.length cx4]), (To ++ T4), Kl10, (by omega), (hSW.okN _ (sega_ok hA h8) h7), (by simp; omega), (own_b2 O10 (by simp)), (MkE.snoc hEo hM4), (show Dj (To ++ T4) Kl10 from (by (try simp only [dj_app_l, dj_app_r, dj_cons_l, dj_cons_r, dj_nil_l, dj_nil_r, dk_app, dk_cons, dk_nil, and_true, true_and, and_assoc]); repeat' (first | trivial | assumption | exact Dj.symm (by assumption) | exact Ne.symm (by assumption) | apply And.intro))), rfl, rfl, (hW19.sub (fun p hp => by first | exact hp | (simp only [List.mem_cons, List.mem_append, List.nil_append, List.not_mem_nil, or_assoc, or_false, false_or, List.cons_append, List.append_assoc] at hp ⊢ <;> grind)))⟩, rfl⟩
                      case measure => (show l.length + 1 - (intOf (.int .i64 (((tz + 1) : Nat) : Int))).toNat < l.length + 1 - (intOf (.int .i64 ((a : Nat) : Int))).toNat); simp only [intOf]; omega
                  | true =>
                    have h7 : tz = l.length := of_decide_eq_true hd7
                    clear hd7
                    refine wp_cond_true rfl ?_
                    refine wp_region_L (W0 := W0) ((g6, .cells #[.int .i64 ((fa : Nat) : Int), .int .i64 ((fr : Nat) : Int), .int .i64 ((fe : Nat) : Int)] 71 (0, 0)) :: (To ++ (Ko ++ T4))) (hW15) ?_
                    refine lv (v := .agg #[.int .i64 ((fa : Nat) : Int), .int .i64 ((fr : Nat) : Int), .int .i64 ((fe : Nat) : Int)]) rfl rfl (yb_load (n := 3) (off := 0) rfl (by kernel_rfl) (.head _) Try.underlying71 rfl (by kernel_rfl) (by simp) (by kernel_rfl)) ?_
                    refine lm (v := .int .i64 ((tz : Nat) : Int)) rfl rfl ?_
                    refine lm (v := .agg #[.int .i64 ((tz : Nat) : Int), .int .i64 5, .int .i64 42]) rfl rfl ?_
                    cases hd9 : (decide (fe = 0)) with
                    | false =>
                      have h9 : ¬ (fe = 0) := of_decide_eq_false hd9
                      clear hd9
                      refine lv (v := .agg #[.int .i64 ((fa : Nat) : Int), .int .i64 ((fr : Nat) : Int), .int .i64 ((fe : Nat) : Int)]) rfl rfl (yb_call (f := 36) (args := #[.agg #[.int .i64 ((fa : Nat) : Int), .int .i64 ((fr : Nat) : Int), .int .i64 ((fe : Nat) : Int)], .agg #[.int .i64 ((tz : Nat) : Int), .int .i64 5, .int .i64 42]]) (fun _ => by kernel_rfl) fun W hW => worse_keep fa fr fe tz 5 42 h9 (by first | omega | exact (.inl rfl)) W) ?_
                      refine wpL_s ((g6, .cells #[.int .i64 ((fa : Nat) : Int), .int .i64 ((fr : Nat) : Int), .int .i64 ((fe : Nat) : Int)] 71 (0, 0)) :: (To ++ (Ko ++ T4))) rfl rfl (st_row (off := 0) (v := .agg #[.int .i64 ((fa : Nat) : Int), .int .i64 ((fr : Nat) : Int), .int .i64 ((fe : Nat) : Int)]) rfl (by kernel_rfl) (by kernel_rfl) (.head _) Bg6 (by kernel_rfl) (by simp [Value.cells]) (by intro v hv; simp [Value.cells] at hv; first | (subst hv; rfl) | (rcases hv with rfl | rfl | rfl <;> rfl)) (by kernel_rfl) (List.forall_mem_cons.2 ⟨.inl rfl, (fun p hp => .inr ⟨(.tail _ hp), ((show Dk g6 (To ++ (Ko ++ T4)) from (by (try simp only [dj_app_l, dj_app_r, dj_cons_l, dj_cons_r, dj_nil_l, dj_nil_r, dk_app, dk_cons, dk_nil, and_true, true_and, and_assoc]); repeat' (first | trivial | assumption | exact Dj.symm (by assumption) | exact Ne.symm (by assumption) | apply And.intro))) _ hp)⟩)⟩)) ?_
                      refine wpL_done (fun W20 hW20 => ?_)
                      refine (show Code.wp _ _ _ _ _ from ?_)
                      refine wp_seq ?_
                      refine wp_seq ?_
                      refine wp_region_L (W0 := W0) ((g6, .cells #[.int .i64 ((fa : Nat) : Int), .int .i64 ((fr : Nat) : Int), .int .i64 ((fe : Nat) : Int)] 71 (0, 0)) :: (To ++ (Ko ++ T4))) (hW20) ?_
                      refine lm (v := .pointer (some ⟨g6, 2, none⟩)) rfl rfl ?_
                      refine lv (v := .int .i64 ((fe : Nat) : Int)) rfl rfl (yb_cell (off := 2) rfl (by kernel_rfl) (.head _) Try.underlying3 rfl (by kernel_rfl)) ?_
                      refine lp (v := .bool true) rfl rfl (run_bin rfl (vx := (.int .i64 ((fe : Nat) : Int))) (vy := (.int .i64 ((0 : Nat) : Int))) (by kernel_rfl) (by kernel_rfl) fun w => bn_neq (decide_eq_false (by assumption)) w) ?_
                      refine wpL_done (fun W21 hW21 => ?_)
                      refine (show Code.wp _ _ _ _ _ from ?_)
                      refine wp_cond_true rfl ?_
                      refine wp_seq ?_
                      refine wp_region_V (W0 := W0) ((g6, .cells #[.int .i64 ((fa : Nat) : Int), .int .i64 ((fr : Nat) : Int), .int .i64 ((fe : Nat) : Int)] 71 (0, 0)) :: (To ++ (Ko ++ T4))) (by kernel_rfl) (hW21) ?_
                      refine vm (i := 0) (v := .pointer (some ⟨g6, 0, none⟩)) rfl rfl rfl ?_
                      refine vv (i := 1) (v := .int .i64 ((fa : Nat) : Int)) rfl rfl rfl (yb_cell (off := 0) rfl (by kernel_rfl) (.head _) Try.underlying3 rfl (by kernel_rfl)) ?_
                      refine vm (i := 2) (v := .pointer (some ⟨g6, 2, none⟩)) rfl rfl rfl ?_
                      refine vv (i := 3) (v := .int .i64 ((fe : Nat) : Int)) rfl rfl rfl (yb_cell (off := 2) rfl (by kernel_rfl) (.head _) Try.underlying3 rfl (by kernel_rfl)) ?_
                      refine vm (i := 4) (v := .slice none 0 0) rfl rfl rfl ?_
                      refine vm (i := 5) (v := .int .i64 ((fa : Nat) : Int)) rfl rfl rfl ?_
                      refine vm (i := 6) (v := .int .i64 ((fe : Nat) : Int)) rfl rfl rfl ?_
                      refine wpV_done (by kernel_rfl) (fun W22 hW22 => ?_) _
                      refine (show Code.wp _ _ _ _ _ from ?_)
                      refine wp_ret ?_
                      try simp only [inBlock_ret, then_ret]
                      refine bodyPost_ret (v := .tuple #[.slice none 0 0, .int .i64 ((fa : Nat) : Int), .int .i64 ((fe : Nat) : Int)]) ?_ rfl ?_
                      · kernel_rfl
                      · exact rdb_bad fa fe (hSW.bad _ _ (sega_bad hA h9)) hW22
                    | true =>
                      have h9 : fe = 0 := of_decide_eq_true hd9
                      clear hd9
                      refine lv (v := .agg #[.int .i64 ((tz : Nat) : Int), .int .i64 5, .int .i64 42]) rfl rfl (yb_call (f := 36) (args := #[.agg #[.int .i64 ((fa : Nat) : Int), .int .i64 ((fr : Nat) : Int), .int .i64 ((fe : Nat) : Int)], .agg #[.int .i64 ((tz : Nat) : Int), .int .i64 5, .int .i64 42]]) (fun _ => by kernel_rfl) fun W hW => worse_new fa fr fe tz 5 42 h9 W) ?_
                      refine wpL_s ((g6, .cells #[.int .i64 ((tz : Nat) : Int), .int .i64 5, .int .i64 42] 71 (0, 0)) :: (To ++ (Ko ++ T4))) rfl rfl (st_row (off := 0) (v := .agg #[.int .i64 ((tz : Nat) : Int), .int .i64 5, .int .i64 42]) rfl (by kernel_rfl) (by kernel_rfl) (.head _) Bg6 (by kernel_rfl) (by simp [Value.cells]) (by intro v hv; simp [Value.cells] at hv; first | (subst hv; rfl) | (rcases hv with rfl | rfl | rfl <;> rfl)) (by kernel_rfl) (List.forall_mem_cons.2 ⟨.inl rfl, (fun p hp => .inr ⟨(.tail _ hp), ((show Dk g6 (To ++ (Ko ++ T4)) from (by (try simp only [dj_app_l, dj_app_r, dj_cons_l, dj_cons_r, dj_nil_l, dj_nil_r, dk_app, dk_cons, dk_nil, and_true, true_and, and_assoc]); repeat' (first | trivial | assumption | exact Dj.symm (by assumption) | exact Ne.symm (by assumption) | apply And.intro))) _ hp)⟩)⟩)) ?_
                      refine wpL_done (fun W23 hW23 => ?_)
                      refine (show Code.wp _ _ _ _ _ from ?_)
                      refine wp_seq ?_
                      refine wp_seq ?_
                      refine wp_region_L (W0 := W0) ((g6, .cells #[.int .i64 ((tz : Nat) : Int), .int .i64 5, .int .i64 42] 71 (0, 0)) :: (To ++ (Ko ++ T4))) (hW23) ?_
                      refine lm (v := .pointer (some ⟨g6, 2, none⟩)) rfl rfl ?_
                      refine lv (v := .int .i64 42) rfl rfl (yb_cell (off := 2) rfl (by kernel_rfl) (.head _) Try.underlying3 rfl (by kernel_rfl)) ?_
                      refine lm (v := .bool true) rfl rfl ?_
                      refine wpL_done (fun W24 hW24 => ?_)
                      refine (show Code.wp _ _ _ _ _ from ?_)
                      refine wp_cond_true rfl ?_
                      refine wp_seq ?_
                      refine wp_region_V (W0 := W0) ((g6, .cells #[.int .i64 ((tz : Nat) : Int), .int .i64 5, .int .i64 42] 71 (0, 0)) :: (To ++ (Ko ++ T4))) (by kernel_rfl) (hW24) ?_
                      refine vm (i := 0) (v := .pointer (some ⟨g6, 0, none⟩)) rfl rfl rfl ?_
                      refine vv (i := 1) (v := .int .i64 ((tz : Nat) : Int)) rfl rfl rfl (yb_cell (off := 0) rfl (by kernel_rfl) (.head _) Try.underlying3 rfl (by kernel_rfl)) ?_
                      refine vm (i := 2) (v := .pointer (some ⟨g6, 2, none⟩)) rfl rfl rfl ?_
                      refine vv (i := 3) (v := .int .i64 42) rfl rfl rfl (yb_cell (off := 2) rfl (by kernel_rfl) (.head _) Try.underlying3 rfl (by kernel_rfl)) ?_
                      refine vm (i := 4) (v := .slice none 0 0) rfl rfl rfl ?_
                      refine vm (i := 5) (v := .int .i64 ((tz : Nat) : Int)) rfl rfl rfl ?_
                      refine vm (i := 6) (v := .int .i64 42) rfl rfl rfl ?_
                      refine wpV_done (by kernel_rfl) (fun W25 hW25 => ?_) _
                      refine (show Code.wp _ _ _ _ _ from ?_)
                      refine wp_ret ?_
                      try simp only [inBlock_ret, then_ret]
                      refine bodyPost_ret (v := .tuple #[.slice none 0 0, .int .i64 ((tz : Nat) : Int), .int .i64 42]) ?_ rfl ?_
                      · kernel_rfl
                      · exact rdb_bad tz 42 (hSW.okE _ (sega_ok hA h9) h7) hW25
                | true =>
                  have h6 : segs.length = 5000 := of_decide_eq_true hd6
                  clear hd6
                  refine wp_cond_true rfl ?_
                  refine wp_seq ?_
                  refine wp_region_L (W0 := W0) (To ++ Ko) (hW12) ?_
                  refine lm (v := .int .i64 ((c : Nat) : Int)) rfl rfl ?_
                  refine lm (v := .slice none 0 0) rfl rfl ?_
                  refine lm (v := .int .i64 ((c : Nat) : Int)) rfl rfl ?_
                  refine lm (v := .int .i64 5) rfl rfl ?_
                  refine wpL_done (fun W26 hW26 => ?_)
                  refine (show Code.wp _ _ _ _ _ from ?_)
                  refine wp_ret ?_
                  try simp only [inBlock_ret, then_ret]
                  refine bodyPost_ret (v := .tuple #[.slice none 0 0, .int .i64 ((c : Nat) : Int), .int .i64 5]) ?_ rfl ?_
                  · kernel_rfl
                  · exact rdb_bad c 5 (read_many h1 hb3 hIc (gap_n (by omega)) h6) hW26
              | true =>
                have h5 : b3.toNat = 32 := of_decide_eq_true hd5
                clear hd5
                refine wp_cond_true rfl ?_
                refine wp_skip ?_
                refine (show Code.wp _ _ _ _ _ from ?_)
                refine wp_block ?_
                refine wp_region_L (W0 := W0) (To ++ Ko) (hW10) ?_
                refine lm (v := .int .i64 ((c : Nat) : Int)) rfl rfl ?_
                refine lp (v := .int .i64 (((c + 1) : Nat) : Int)) rfl rfl (run_bin rfl (vx := (.int .i64 ((c : Nat) : Int))) (vy := (.int .i64 ((1 : Nat) : Int))) (by kernel_rfl) (by kernel_rfl) fun w => bn_add (z := (c + 1)) rfl (wr_i64 (by omega)) w) ?_
                refine lm (v := .int .i64 (((c + 1) : Nat) : Int)) rfl rfl ?_
                refine wpL_done (fun W27 hW27 => ?_)
                go_roundw
                case rel =>
                  repeat apply Exists.intro
                  exact ⟨⟨(c + 1), (by omega), (step_gap hb3 hIc (gap_y (by omega))), rfl, (hW27.sub (fun p hp => by first | exact hp | (simp only [List.mem_cons, List.mem_append, List.nil_append, List.not_mem_nil, or_assoc, or_false, false_or, List.cons_append, List.append_assoc] at hp ⊢ <;> grind)))⟩, rfl⟩
                case measure => (show l.length - (intOf (.int .i64 (((c + 1) : Nat) : Int))).toNat < l.length - (intOf (.int .i64 ((c : Nat) : Int))).toNat); simp only [intOf]; omega
            | true =>
              have h4 : b3.toNat = 13 := of_decide_eq_true hd4
              clear hd4
              refine ln rfl ?_
              refine ln rfl ?_
              refine ln rfl ?_
              refine ln rfl ?_
              refine lm (v := .bool true) rfl rfl ?_
              refine lm (v := .bool true) rfl rfl ?_
              refine wpL_done (fun W28 hW28 => ?_)
              refine (show Code.wp _ _ _ _ _ from ?_)
              refine wp_cond_true rfl ?_
              refine wp_skip ?_
              refine (show Code.wp _ _ _ _ _ from ?_)
              refine wp_block ?_
              refine wp_region_L (W0 := W0) (To ++ Ko) (hW28) ?_
              refine lm (v := .int .i64 ((c : Nat) : Int)) rfl rfl ?_
              refine lp (v := .int .i64 (((c + 1) : Nat) : Int)) rfl rfl (run_bin rfl (vx := (.int .i64 ((c : Nat) : Int))) (vy := (.int .i64 ((1 : Nat) : Int))) (by kernel_rfl) (by kernel_rfl) fun w => bn_add (z := (c + 1)) rfl (wr_i64 (by omega)) w) ?_
              refine lm (v := .int .i64 (((c + 1) : Nat) : Int)) rfl rfl ?_
              refine wpL_done (fun W29 hW29 => ?_)
              go_roundw
              case rel =>
                repeat apply Exists.intro
                exact ⟨⟨(c + 1), (by omega), (step_gap hb3 hIc (gap_y (by omega))), rfl, (hW29.sub (fun p hp => by first | exact hp | (simp only [List.mem_cons, List.mem_append, List.nil_append, List.not_mem_nil, or_assoc, or_false, false_or, List.cons_append, List.append_assoc] at hp ⊢ <;> grind)))⟩, rfl⟩
              case measure => (show l.length - (intOf (.int .i64 (((c + 1) : Nat) : Int))).toNat < l.length - (intOf (.int .i64 ((c : Nat) : Int))).toNat); simp only [intOf]; omega
          | true =>
            have h3 : b3.toNat = 10 := of_decide_eq_true hd3
            clear hd3
            refine ln rfl ?_
            refine ln rfl ?_
            refine ln rfl ?_
            refine ln rfl ?_
            refine lm (v := .bool true) rfl rfl ?_
            refine lm (v := .bool true) rfl rfl ?_
            refine ln rfl ?_
            refine ln rfl ?_
            refine ln rfl ?_
            refine ln rfl ?_
            refine lm (v := .bool true) rfl rfl ?_
            refine lm (v := .bool true) rfl rfl ?_
            refine wpL_done (fun W30 hW30 => ?_)
            refine (show Code.wp _ _ _ _ _ from ?_)
            refine wp_cond_true rfl ?_
            refine wp_skip ?_
            refine (show Code.wp _ _ _ _ _ from ?_)
            refine wp_block ?_
            refine wp_region_L (W0 := W0) (To ++ Ko) (hW30) ?_
            refine lm (v := .int .i64 ((c : Nat) : Int)) rfl rfl ?_
            refine lp (v := .int .i64 (((c + 1) : Nat) : Int)) rfl rfl (run_bin rfl (vx := (.int .i64 ((c : Nat) : Int))) (vy := (.int .i64 ((1 : Nat) : Int))) (by kernel_rfl) (by kernel_rfl) fun w => bn_add (z := (c + 1)) rfl (wr_i64 (by omega)) w) ?_
            refine lm (v := .int .i64 (((c + 1) : Nat) : Int)) rfl rfl ?_
            refine wpL_done (fun W31 hW31 => ?_)
            go_roundw
            case rel =>
              repeat apply Exists.intro
              exact ⟨⟨(c + 1), (by omega), (step_gap hb3 hIc (gap_y (by omega))), rfl, (hW31.sub (fun p hp => by first | exact hp | (simp only [List.mem_cons, List.mem_append, List.nil_append, List.not_mem_nil, or_assoc, or_false, false_or, List.cons_append, List.append_assoc] at hp ⊢ <;> grind)))⟩, rfl⟩
            case measure => (show l.length - (intOf (.int .i64 (((c + 1) : Nat) : Int))).toNat < l.length - (intOf (.int .i64 ((c : Nat) : Int))).toNat); simp only [intOf]; omega
  | true =>
    have h1 : 65536 < l.length := of_decide_eq_true hd1
    clear hd1
    refine wp_cond_true rfl ?_
    refine wp_seq ?_
    refine wp_region_L (W0 := W0) [] (hW2) ?_
    refine lm (v := .slice none 0 0) rfl rfl ?_
    refine lm (v := .int .i64 0) rfl rfl ?_
    refine lm (v := .int .i64 3) rfl rfl ?_
    refine wpL_done (fun W32 hW32 => ?_)
    refine (show Code.wp _ _ _ _ _ from ?_)
    refine wp_ret ?_
    try simp only [inBlock_ret, then_ret]
    refine bodyPost_ret (v := .tuple #[.slice none 0 0, .int .i64 0, .int .i64 3]) ?_ rfl ?_
    · kernel_rfl
    · exact rdb_bad 0 3 (by unfold readT; rw [if_pos h1]) hW32
end Go.Proofs.Ytppegdbelgobiaa
namespace Go.Proofs.Ytppegdbelgobiaa
open Go Go.RowKit Tw
def GR {α : Type} (B : Nat) (E : TypeId) (R : World → Value → α → Prop) (W : World) (v : Value) (l : List α) : Prop :=
  ∃ p cap, v = .slice p l.length cap ∧ (0 < l.length → ∃ g cur, p = some ⟨g, 0, none⟩ ∧ B ≤ g ∧ W.heap[g]? = some (.cells cur E (0, 0)) ∧ l.length ≤ cur.size ∧ ∀ (k : Nat) (y : α), l[k]? = some y → ∃ x, cur[k]? = some x ∧ R W x y)
def NoR (_ : World) (_ : Value) (_ : Cmp) : Prop := True
abbrev G1 (B : Nat) := GR B 9 NoR
abbrev G2 (B : Nat) := GR B 43 (G1 B)
abbrev G3 (B : Nat) := GR B 37 (G2 B)
theorem gr_of {α : Type} {B : Nat} {E : TypeId} {R R' : World → Value → α → Prop} (hR : ∀ W v y, R W v y → R' W v y) (W : World) (v : Value) (l : List α) (h : OV B E R W v l) : GR B E R' W v l := by
  obtain ⟨p, cap, h1, vs, h2, h3, h4⟩ := h
  refine ⟨p, cap, h1, fun h0 => ?_⟩
  rcases h3 with rfl | ⟨g, cur, e1, e2, e3, e4⟩
  · simp at h2; omega
  · have hs : vs.length ≤ cur.size := by
      have := congrArg List.length e4
      rw [List.length_take] at this
      have h5 : cur.toList.length = cur.size := rfl
      omega
    refine ⟨g, cur, e1, e2, e3, by omega, fun k y hy => ?_⟩
    have hk : k < vs.length := by rw [h2]; exact (List.getElem?_eq_some_iff.1 hy).1
    refine ⟨vs[k], ?_, hR _ _ _ (h4 k _ y (List.getElem?_eq_getElem hk) hy)⟩
    rw [← Array.getElem?_toList, ← List.getElem?_take_of_lt hk, e4]
    exact List.getElem?_eq_getElem hk
theorem g3_of {B : Nat} (W : World) (v : Value) (l : List Sgm) (h : SgO B W v l) : G3 B W v l := gr_of (gr_of (gr_of fun _ _ _ _ => trivial)) W v l h
def Sim (B : Nat) (W W' : World) : Prop := ∀ (g : Nat) (cur : Array Value) (E : TypeId), B ≤ g → W.heap[g]? = some (.cells cur E (0, 0)) → ∃ cur', W'.heap[g]? = some (.cells cur' E (0, 0)) ∧ cur'.size = cur.size ∧ (E ≠ 9 → cur' = cur)
theorem g1_sim {B : Nat} {W W' : World} (hs : Sim B W W') (v : Value) (c : Elt) (h : G1 B W v c) : G1 B W' v c := by
  obtain ⟨p, cap, h1, h2⟩ := h
  refine ⟨p, cap, h1, fun h0 => ?_⟩
  obtain ⟨g, cur, e1, e2, e3, e4, _⟩ := h2 h0
  obtain ⟨cur', f1, f2, _⟩ := hs g cur _ e2 e3
  refine ⟨g, cur', e1, e2, f1, by omega, fun k y hy => ?_⟩
  have hk : k < cur'.size := by have := (List.getElem?_eq_some_iff.1 hy).1; omega
  exact ⟨cur'[k], Array.getElem?_eq_getElem hk, trivial⟩
theorem gr_sim {α : Type} {B : Nat} {E : TypeId} {R : World → Value → α → Prop} {W W' : World} (hs : Sim B W W') (hE : E ≠ 9) (hR : ∀ v y, R W v y → R W' v y) (v : Value) (l : List α) (h : GR B E R W v l) : GR B E R W' v l := by
  obtain ⟨p, cap, h1, h2⟩ := h
  refine ⟨p, cap, h1, fun h0 => ?_⟩
  obtain ⟨g, cur, e1, e2, e3, e4, e5⟩ := h2 h0
  obtain ⟨cur', f1, f2, f3⟩ := hs g cur _ e2 e3
  obtain rfl := f3 hE
  exact ⟨g, cur', e1, e2, f1, e4, fun k y hy => let ⟨x, a1, a2⟩ := e5 k y hy; ⟨x, a1, hR _ _ a2⟩⟩
theorem g3_sim {B : Nat} {W W' : World} (hs : Sim B W W') (v : Value) (l : List Sgm) (h : G3 B W v l) : G3 B W' v l := gr_sim hs (by decide) (gr_sim hs (by decide) (g1_sim hs)) v l h
def others (B g2 : Nat) (w : World) : List (Nat × Obj) := (List.range w.heap.size).filterMap fun g => if B ≤ g ∧ g ≠ g2 then (w.heap[g]?).map fun o => (g, o) else none
theorem mem_others {B g2 : Nat} {w : World} {p : Nat × Obj} : p ∈ others B g2 w ↔ B ≤ p.1 ∧ p.1 ≠ g2 ∧ w.heap[p.1]? = some p.2 := by
  unfold others
  rw [List.mem_filterMap]
  constructor
  · rintro ⟨g, hg, h⟩
    split at h
    · rename_i hc
      cases ho : w.heap[g]? with
      | none => rw [ho] at h; cases h
      | some o => rw [ho] at h; cases h; exact ⟨hc.1, hc.2, ho⟩
    · cases h
  · rintro ⟨h1, h2, h3⟩
    exact ⟨p.1, List.mem_range.2 (Array.getElem?_eq_some_iff.1 h3).1, by rw [if_pos ⟨h1, h2⟩, h3]; rfl⟩
section
variable {W0 : Base} {T : List (Nat × Obj)} {w : World} {A : List Sgm} {y : Sgm} {z : Elt} {i k j : Nat} {g0 cc : Nat}
theorem pos_of {α : Type} {l : List α} {i : Nat} {y : α} (h : l[i]? = some y) : 0 < l.length := by
  have := (List.getElem?_eq_some_iff.1 h).1
  omega
theorem g3_ptr {p : Option Addr} (hM : MkV (G3 W0.B) W0 (.slice p A.length cc) A T) (hk : KS W0 T w) (hy : A[i]? = some y) : ∃ g, p = some ⟨g, 0, none⟩ := by
  obtain ⟨p', cap, e, h⟩ := hM w hk
  cases e
  obtain ⟨g, cur, e1, _⟩ := h (pos_of hy)
  exact ⟨g, e1⟩
theorem g3_open (hM : MkV (G3 W0.B) W0 (.slice (some ⟨g0, 0, none⟩) A.length cc) A T) (hk : KS W0 T w) (hy : A[i]? = some y) :
    ∃ cur0 p1 c1, cur0[i]? = some (.slice p1 y.length c1) ∧ i < cur0.size ∧ W0.B ≤ g0 ∧ w.heap[g0]? = some (.cells cur0 37 (0, 0)) ∧ G2 W0.B w (.slice p1 y.length c1) y := by
  obtain ⟨p', cap, e, h⟩ := hM w hk
  cases e
  obtain ⟨g, cur, e1, e2, e3, e4, e5⟩ := h (pos_of hy)
  cases e1
  obtain ⟨x, a1, a2⟩ := e5 i y hy
  have a3 := a2
  obtain ⟨p1, c1, rfl, _⟩ := a3
  exact ⟨cur, p1, c1, a1, (Array.getElem?_eq_some_iff.1 a1).1, e2, e3, a2⟩
theorem ks_cons {K : List (Nat × Obj)} {g : Nat} {o : Obj} (hk : KS W0 K w) (h : w.heap[g]? = some o) : KS W0 ((g, o) :: K) w := ⟨hk.1, fun p hp => by
  rcases List.mem_cons.1 hp with rfl | hp
  · exact h
  · exact hk.2 p hp⟩
theorem open1 (hM : MkV (G3 W0.B) W0 (.slice (some ⟨g0, 0, none⟩) A.length cc) A T) (hk : KS W0 T w) (hy : A[i]? = some y) :
    ∃ cur0 p1 c1, cur0[i]? = some (.slice p1 y.length c1) ∧ KS W0 ((g0, .cells cur0 37 (0, 0)) :: T) w := by
  obtain ⟨cur0, p1, c1, a1, _, _, a2, _⟩ := g3_open hM hk hy
  exact ⟨cur0, p1, c1, a1, ks_cons hk a2⟩
theorem open2 (hM : MkV (G3 W0.B) W0 (.slice (some ⟨g0, 0, none⟩) A.length cc) A T) (hk : KS W0 T w) (hy : A[i]? = some y) (hz : y[k]? = some z) :
    ∃ cur0 g1 c1 cur1 p2 c2, cur0[i]? = some (.slice (some ⟨g1, 0, none⟩) y.length c1) ∧ cur1[k]? = some (.slice p2 z.length c2) ∧ KS W0 ((g0, .cells cur0 37 (0, 0)) :: (g1, .cells cur1 43 (0, 0)) :: T) w := by
  obtain ⟨cur0, p1, c1, a1, _, _, a2, p1', c1', e, h⟩ := g3_open hM hk hy
  cases e
  obtain ⟨g1, cur1, rfl, e2, e3, e4, e5⟩ := h (pos_of hz)
  obtain ⟨x, b1, p2, c2, rfl, _⟩ := e5 k z hz
  exact ⟨cur0, g1, c1, cur1, p2, c2, a1, b1, ks_cons (ks_cons hk e3) a2⟩
theorem open3 (hM : MkV (G3 W0.B) W0 (.slice (some ⟨g0, 0, none⟩) A.length cc) A T) (hk : KS W0 T w) (hy : A[i]? = some y) (hz : y[k]? = some z) (hj : j < z.length) :
    ∃ cur0 g1 c1 cur1 g2 c2 cur2 Tg, cur0[i]? = some (.slice (some ⟨g1, 0, none⟩) y.length c1) ∧ cur1[k]? = some (.slice (some ⟨g2, 0, none⟩) z.length c2) ∧ j < cur2.size ∧ W0.B ≤ g2 ∧ g0 ≠ g2 ∧ g1 ≠ g2 ∧ Dk g2 Tg ∧ KS W0 ((g0, .cells cur0 37 (0, 0)) :: (g1, .cells cur1 43 (0, 0)) :: (g2, .cells cur2 9 (0, 0)) :: Tg) w ∧
      ∀ v, MkV (G3 W0.B) W0 (.slice (some ⟨g0, 0, none⟩) A.length cc) A ((g2, .cells (cur2.setIfInBounds (0 + j * 1) v) 9 (0, 0)) :: Tg) := by
  obtain ⟨cur0, p1, c1, a1, _, _, a2, p1', c1', e, h⟩ := g3_open hM hk hy
  cases e
  obtain ⟨g1, cur1, rfl, e2, e3, e4, e5⟩ := h (pos_of hz)
  obtain ⟨x, b1, p2, c2, rfl, h2⟩ := e5 k z hz
  obtain ⟨g2, cur2, rfl, f2, f3, f4, _⟩ := h2 (by omega)
  have n1 : g0 ≠ g2 := by
    rintro rfl
    rw [f3] at a2
    cases a2
  have n2 : g1 ≠ g2 := by
    rintro rfl
    rw [f3] at e3
    cases e3
  have hO : KS W0 (others W0.B g2 w) w := ⟨hk.1, fun p hp => (mem_others.1 hp).2.2⟩
  refine ⟨cur0, g1, c1, cur1, g2, c2, cur2, others W0.B g2 w, a1, b1, by omega, f2, n1, n2, fun q hq => (mem_others.1 hq).2.1, ks_cons (ks_cons (ks_cons hO f3) e3) a2, fun v W hW => ?_⟩
  refine g3_sim (W := w) ?_ _ _ (hM w hk)
  intro g cur E hB hg
  by_cases he : g = g2
  · subst he
    rw [f3] at hg
    cases hg
    exact ⟨_, hW.2 _ (.head _), by simp, fun h => absurd rfl h⟩
  · exact ⟨cur, hW.2 (g, _) (.tail _ (mem_others.2 ⟨hB, he, hg⟩)), rfl, fun _ => rfl⟩
end
def okA : Res (List Sgm) → List Sgm
  | .ok A => A
  | .bad _ _ => []
theorem okA_right (l : List UInt8) : (okA (readT l)).all rightS = true ∧ (okA (readT l)).length ≤ 5000 := by
  cases hr : readT l with
  | ok A => exact ⟨(read_right hr).1, (read_right hr).2.1⟩
  | bad p e => exact ⟨rfl, Nat.zero_le _⟩
theorem mkv_nil {α : Type} {R : World → Value → α → Prop} {W0 : Base} {T : List (Nat × Obj)} {E : TypeId} : MkV (OV W0.B E R) W0 (.slice none 0 0) [] T := MkV.sub (MkE.own (OwnL.nil W0 E 1) MkE.nil rfl) (fun p hp => by cases hp)
theorem mkv_nil2 {α : Type} {R : World → Value → α → Prop} {W0 : Base} {T : List (Nat × Obj)} : MkV (LV R) W0 (.slice none 0 0) [] T := fun W _ => ⟨none, 0, rfl, [], .inl rfl, rfl, fun k x y h => by simp at h⟩
theorem Read_all {W0 : Base} (l : List UInt8) (ll : l.length ≤ 4000000000) (w : World) (hw : KS W0 [] w) : Calls Try.prog 15 #[strV l] w fun e w' => ∃ v T, e = .returned v ∧ KS W0 T w' ∧ ∃ p c, v = .tuple #[.slice p (okA (readT l)).length c, .int .i64 ((errAt (readT l) : Nat) : Int), .int .i64 ((errNo (readT l) : Nat) : Int)] ∧ MkV (SgO W0.B) W0 (.slice p (okA (readT l)).length c) (okA (readT l)) T := by
  refine (Read_any l ll w hw).mono fun e w' ⟨v, T, he, hk, x, hv, hM, hN⟩ => ⟨v, T, he, hk, ?_⟩
  cases hr : readT l with
  | ok A =>
    have h2 := hM A hr
    obtain ⟨p, c, rfl, _⟩ := h2 w' hk
    exact ⟨p, c, by rw [hv, hr]; rfl, h2⟩
  | bad p e =>
    have h2 := hN p e hr
    subst h2
    exact ⟨none, 0, by rw [hv, hr]; rfl, mkv_nil⟩
theorem RRead_all {W0 : Base} (l : List UInt8) (ll : l.length ≤ 4000000) (w : World) (hw : KS W0 [] w) : Calls Try.prog 20 #[strV l] w fun e w' => ∃ v T, e = .returned v ∧ KS W0 T w' ∧ ∃ p c, v = .tuple #[.slice p (okA (readT l)).length c, .int .i64 ((errAt (readT l) : Nat) : Int), .int .i64 ((errNo (readT l) : Nat) : Int)] ∧ MkV SgR W0 (.slice p (okA (readT l)).length c) (okA (readT l)) T := by
  refine (RRead_any l ll w hw).mono fun e w' ⟨v, T, he, hk, x, hv, hM, hN⟩ => ⟨v, T, he, hk, ?_⟩
  cases hr : readT l with
  | ok A =>
    have h2 := hM A hr
    obtain ⟨p, c, rfl, _⟩ := h2 w' hk
    exact ⟨p, c, by rw [hv, hr]; rfl, h2⟩
  | bad p e =>
    have h2 := hN p e hr
    subst h2
    exact ⟨none, 0, by rw [hv, hr]; rfl, mkv_nil2⟩
end Go.Proofs.Ytppegdbelgobiaa
namespace Go.Proofs.Ytppegdbelgobiaa
open Go Go.RowKit Tw
theorem Read_all2 {W0 : Base} {l : List UInt8} {A : List Sgm} {n0 e0 : Nat} (hA : A = okA (readT l)) (hn : n0 = errAt (readT l)) (he : e0 = errNo (readT l)) (ll : l.length ≤ 4000000000) (w : World) (hw : KS W0 [] w) : Calls Try.prog 15 #[strV l] w fun e w' => ∃ v T, e = .returned v ∧ KS W0 T w' ∧ ∃ p c, v = .tuple #[.slice p A.length c, .int .i64 ((n0 : Nat) : Int), .int .i64 ((e0 : Nat) : Int)] ∧ MkV (SgO W0.B) W0 (.slice p A.length c) A T := by
  subst hA hn he
  exact Read_all l ll w hw
theorem RRead_all2 {W0 : Base} {l : List UInt8} {A : List Sgm} {n0 e0 : Nat} (hA : A = okA (readT l)) (hn : n0 = errAt (readT l)) (he : e0 = errNo (readT l)) (ll : l.length ≤ 4000000) (w : World) (hw : KS W0 [] w) : Calls Try.prog 20 #[strV l] w fun e w' => ∃ v T, e = .returned v ∧ KS W0 T w' ∧ ∃ p c, v = .tuple #[.slice p A.length c, .int .i64 ((n0 : Nat) : Int), .int .i64 ((e0 : Nat) : Int)] ∧ MkV SgR W0 (.slice p A.length c) A T := by
  subst hA hn he
  exact RRead_all l ll w hw
set_option maxRecDepth 100000 in
set_option maxHeartbeats 40000000 in
theorem reads_any (l : List UInt8) (ll : l.length ≤ 4000000) (w : World) : Calls Try.prog 9 #[strV l] w fun e w' => e = .returned (.bool true) ∧ Below w.heap.size w w' := by
  obtain ⟨A, hA⟩ : ∃ A, A = okA (readT l) := ⟨_, rfl⟩
  have hrt := okA_right l
  rw [← hA] at hrt
  have lA5 := hrt.2
  have lA : A.length ≤ 4000000000 := by omega
  have lE := right_lens hrt.1
  obtain ⟨n0, hn0⟩ : ∃ n, n = errAt (readT l) := ⟨_, rfl⟩
  obtain ⟨e0, he0⟩ : ∃ n, n = errNo (readT l) := ⟨_, rfl⟩
  go_enter Try.func9, Try.ntmps9
  refine wp_seq ?_
  refine wp_region_L (W0 := w) [] (KS.start w) ?_
  refine lm (v := .bool false) rfl rfl ?_
  refine wpL_done (fun W1 hW1 => ?_)
  refine (show Code.wp _ _ _ _ _ from ?_)
  refine wp_seq ?_
  refine wp_region_L (W0 := w) [] (hW1) ?_
  refine lm (v := strV l) rfl rfl ?_
  refine wpL_c (f := 15) (args := #[strV l]) (fun v T => ∃ p c, v = .tuple #[.slice p A.length c, .int .i64 ((n0 : Nat) : Int), .int .i64 ((e0 : Nat) : Int)] ∧ MkV SgR w (.slice p A.length c) A T) rfl (by kernel_rfl) (fun _ => (by kernel_rfl)) (fun W hW => (Read_all2 hA hn0 he0 (by omega) W (hW.sub (fun _ h => by cases h))).mono fun e w2 ⟨v, T, he, hk, p, c, hv, hM⟩ => ⟨v, T, he, hk, p, c, hv, sgo_sgr hM⟩) (fun _ => by simp only [List.setIfInBounds_toArray, List.set_cons_succ, List.set_cons_zero] <;> rfl) ?_
  rintro _ T1 ⟨p1, c1, rfl, M1⟩
  refine lm (v := .tuple #[.slice p1 A.length c1, .int .i64 ((n0 : Nat) : Int), .int .i64 ((e0 : Nat) : Int)]) rfl rfl ?_
  refine lm (v := .slice p1 A.length c1) rfl rfl ?_
  refine lm (v := .int .i64 ((n0 : Nat) : Int)) rfl rfl ?_
  refine lm (v := .int .i64 ((e0 : Nat) : Int)) rfl rfl ?_
  refine lm (v := .slice p1 A.length c1) rfl rfl ?_
  refine lm (v := .int .i64 ((n0 : Nat) : Int)) rfl rfl ?_
  refine lm (v := .int .i64 ((e0 : Nat) : Int)) rfl rfl ?_
  refine wpL_done (fun W2 hW2 => ?_)
  have HB3 := Lib.hid ((lv_lvp (M1 W2 ((hW2).sub (fun p hp => by first | exact hp | (simp only [List.mem_cons, List.mem_append, List.nil_append, List.not_mem_nil, or_assoc, or_false, false_or, List.cons_append, List.append_assoc] at hp ⊢ <;> grind))))))
  have hbz2 : Below w.heap.size w W2 := (hW2).1
  refine (show Code.wp _ _ _ _ _ from ?_)
  refine wp_seq ?_
  refine wp_region_L (W0 := W2) [] (KS.start W2) ?_
  refine lm (v := strV l) rfl rfl ?_
  refine wpL_c (f := 20) (args := #[strV l]) (fun v T => ∃ p c, v = .tuple #[.slice p A.length c, .int .i64 ((n0 : Nat) : Int), .int .i64 ((e0 : Nat) : Int)] ∧ MkV SgR W2 (.slice p A.length c) A T) rfl (by kernel_rfl) (fun _ => (by kernel_rfl)) (fun W hW => (RRead_all2 hA hn0 he0 (by omega) W (hW.sub (fun _ h => by cases h))).mono fun e w2 ⟨v, T, he, hk, p, c, hv, hM⟩ => ⟨v, T, he, hk, p, c, hv, hM⟩) (fun _ => by simp only [List.setIfInBounds_toArray, List.set_cons_succ, List.set_cons_zero] <;> rfl) ?_
  rintro _ T4 ⟨p4, c4, rfl, M4⟩
  refine lm (v := .tuple #[.slice p4 A.length c4, .int .i64 ((n0 : Nat) : Int), .int .i64 ((e0 : Nat) : Int)]) rfl rfl ?_
  refine lm (v := .slice p4 A.length c4) rfl rfl ?_
  refine lm (v := .int .i64 ((n0 : Nat) : Int)) rfl rfl ?_
  refine lm (v := .int .i64 ((e0 : Nat) : Int)) rfl rfl ?_
  refine lm (v := .slice p4 A.length c4) rfl rfl ?_
  refine lm (v := .int .i64 ((n0 : Nat) : Int)) rfl rfl ?_
  refine lm (v := .int .i64 ((e0 : Nat) : Int)) rfl rfl ?_
  refine wpL_done (fun W3 hW3 => ?_)
  have HB6 := Lib.hid ((HB3.out.keep ElR.keeps (hW3).1))
  have HB7 := Lib.hid ((lv_lvp (M4 W3 ((hW3).sub (fun p hp => by first | exact hp | (simp only [List.mem_cons, List.mem_append, List.nil_append, List.not_mem_nil, or_assoc, or_false, false_or, List.cons_append, List.append_assoc] at hp ⊢ <;> grind))))))
  have hbz5 : Below w.heap.size w W3 := hbz2.trans ((hW3).1.mono hbz2.size)
  refine (show Code.wp _ _ _ _ _ from ?_)
  refine wp_seq ?_
  refine wp_region_L (W0 := W3) [] (KS.start W3) ?_
  refine lm (v := .slice none 0 0) rfl rfl ?_
  refine wpL_done (fun W4 hW4 => ?_)
  refine (show Code.wp _ _ _ _ _ from ?_)
  refine wp_seq ?_
  refine wp_seq ?_
  refine wp_region_L (W0 := W3) [] (hW4) ?_
  refine lm (v := .int .i64 0) rfl rfl ?_
  refine wpL_done (fun W5 hW5 => ?_)
  refine (show Code.wp _ _ _ _ _ from ?_)
  refine wp_block ?_
  go_loopw [10, 9] (fun u10 u9 wr => ∃ (k : Nat) (vo : Value) (xo : List Value) (Ko : List (Nat × Obj)), (k ≤ A.length) ∧ (OwnL W3 37 1 vo k xo Ko) ∧ (MkE ElR W3 xo (A.take k) []) ∧ u10 = .int .i64 ((k : Nat) : Int) ∧ vo = u9 ∧ KS W3 Ko wr) (fun u10 _ _ => A.length - (intOf u10).toNat)
  case atStart => exact ⟨0, (.slice none 0 0), [], [], (Nat.zero_le _), (OwnL.nil _ _ _), MkE.nil, rfl, rfl, (hW5.sub (fun p hp => by first | exact hp | (simp only [List.mem_cons, List.mem_append, List.nil_append, List.not_mem_nil, or_assoc, or_false, false_or, List.cons_append, List.append_assoc] at hp ⊢ <;> grind)))⟩
  case round =>
    obtain ⟨k, vo, xo, Ko, hk, hOo, hEo, rfl, rfl, hL6⟩ := hrel
    refine wp_seq ?_
    refine wp_seq ?_
    refine wp_region_L (W0 := W3) Ko (hL6) ?_
    refine lm (v := .int .i64 ((k : Nat) : Int)) rfl rfl ?_
    refine lm (v := .slice p4 A.length c4) rfl rfl ?_
    refine lp (v := .int .i64 ((A.length : Nat) : Int)) rfl rfl (run_lenL (p := p4) (cap := c4) (n := A.length) rfl Try.underlying40 (by kernel_rfl)) ?_
    refine lp (v := .bool (decide (k < A.length))) rfl rfl (run_bin rfl (vx := (.int .i64 ((k : Nat) : Int))) (vy := (.int .i64 ((A.length : Nat) : Int))) (by kernel_rfl) (by kernel_rfl) fun w => bn_lss rfl w) ?_
    refine wpL_done (fun W7 hW7 => ?_)
    refine (show Code.wp _ _ _ _ _ from ?_)
    cases hd1 : (decide (k < A.length)) with
    | false =>
      have h1 : ¬ (k < A.length) := of_decide_eq_false hd1
      clear hd1
      have hkA : k = A.length := by omega
      obtain ⟨pw, cw, ew⟩ := own_shape (own_b2 hOo hkA)
      subst ew
      have HB10 := Lib.hid ((HB6.out.keep ElR.keeps (hW7).1))
      have HB11 := Lib.hid ((HB7.out.keep ElR.keeps (hW7).1))
      have HB12 := Lib.hid ((lv_lvp ((MkE.mk (own_b2 hOo hkA) (mke_all hEo h1) rfl) W7 ((hW7).sub (fun p hp => by first | exact hp | (simp only [List.mem_cons, List.mem_append, List.nil_append, List.not_mem_nil, or_assoc, or_false, false_or, List.cons_append, List.append_assoc] at hp ⊢ <;> grind))))))
      have hbz9 : Below w.heap.size w W7 := hbz5.trans ((hW7).1.mono hbz5.size)
      refine wp_cond_false rfl ?_
      refine wp_exit ?_
      refine (show Code.wp _ _ _ _ _ from ?_)
      refine wp_seq ?_
      refine wp_seq ?_
      refine wp_region_L (W0 := W7) [] (KS.start W7) ?_
      refine lm (v := .int .i64 ((e0 : Nat) : Int)) rfl rfl ?_
      refine lm (v := .int .i64 ((e0 : Nat) : Int)) rfl rfl ?_
      refine lp (v := .bool false) rfl rfl (run_bin rfl (vx := (.int .i64 ((e0 : Nat) : Int))) (vy := (.int .i64 ((e0 : Nat) : Int))) (by kernel_rfl) (by kernel_rfl) fun w => bn_neq (decide_eq_true rfl) w) ?_
      refine lm (v := .bool false) rfl rfl ?_
      refine lm (v := .int .i64 ((n0 : Nat) : Int)) rfl rfl ?_
      refine lm (v := .int .i64 ((n0 : Nat) : Int)) rfl rfl ?_
      refine lp (v := .bool false) rfl rfl (run_bin rfl (vx := (.int .i64 ((n0 : Nat) : Int))) (vy := (.int .i64 ((n0 : Nat) : Int))) (by kernel_rfl) (by kernel_rfl) fun w => bn_neq (decide_eq_true rfl) w) ?_
      refine lm (v := .bool false) rfl rfl ?_
      refine lm (v := .bool false) rfl rfl ?_
      refine lm (v := .slice p1 A.length c1) rfl rfl ?_
      refine lm (v := .slice pw A.length cw) rfl rfl ?_
      refine lv (v := .bool true) rfl rfl (yb_call (f := 16) (args := #[.slice p1 A.length c1, .slice pw A.length cw]) (fun _ => by kernel_rfl) fun W hW => (by have z := same_any A A p1 pw c1 cw lA lE W (HB10.out.keep ElR.keeps hW.1) (HB12.out.keep ElR.keeps hW.1); rw [decide_eq_true rfl] at z; exact z)) ?_
      refine lm (v := .bool false) rfl rfl ?_
      refine lm (v := .bool false) rfl rfl ?_
      refine wpL_done (fun W8 hW8 => ?_)
      refine (show Code.wp _ _ _ _ _ from ?_)
      refine wp_cond_false rfl ?_
      refine wp_skip ?_
      refine (show Code.wp _ _ _ _ _ from ?_)
      refine wp_seq ?_
      refine wp_region_L (W0 := W7) [] (hW8) ?_
      refine lm (v := strV l) rfl rfl ?_
      refine wpL_c (f := 15) (args := #[strV l]) (fun v T => ∃ p c, v = .tuple #[.slice p A.length c, .int .i64 ((n0 : Nat) : Int), .int .i64 ((e0 : Nat) : Int)] ∧ MkV (G3 (W7 : Base).B) W7 (.slice p A.length c) A T) rfl (by kernel_rfl) (fun _ => (by kernel_rfl)) (fun W hW => (Read_all2 hA hn0 he0 (by omega) W (hW.sub (fun _ h => by cases h))).mono fun e w2 ⟨v, T, he, hk, p, c, hv, hM⟩ => ⟨v, T, he, hk, p, c, hv, fun W hW => g3_of W _ _ (hM W hW)⟩) (fun _ => by simp only [List.setIfInBounds_toArray, List.set_cons_succ, List.set_cons_zero] <;> rfl) ?_
      rintro _ T13 ⟨pc, cc, rfl, M13⟩
      refine lm (v := .tuple #[.slice pc A.length cc, .int .i64 ((n0 : Nat) : Int), .int .i64 ((e0 : Nat) : Int)]) rfl rfl ?_
      refine lm (v := .slice pc A.length cc) rfl rfl ?_
      refine lm (v := .int .i64 ((n0 : Nat) : Int)) rfl rfl ?_
      refine lm (v := .int .i64 ((e0 : Nat) : Int)) rfl rfl ?_
      refine lm (v := .slice pc A.length cc) rfl rfl ?_
      refine lm (v := .int .i64 ((n0 : Nat) : Int)) rfl rfl ?_
      refine lm (v := .int .i64 ((e0 : Nat) : Int)) rfl rfl ?_
      refine wpL_done (fun W9 hW9 => ?_)
      refine (show Code.wp _ _ _ _ _ from ?_)
      refine wp_seq ?_
      refine wp_seq ?_
      refine wp_region_L (W0 := W7) T13 (hW9) ?_
      refine lm (v := .int .i64 0) rfl rfl ?_
      refine wpL_done (fun W10 hW10 => ?_)
      refine (show Code.wp _ _ _ _ _ from ?_)
      refine wp_block ?_
      go_loopw [14] (fun u14 wr => ∃ (i : Nat) (Tc2 : List (Nat × Obj)), (i ≤ A.length) ∧ (MkV (G3 (W7 : Base).B) W7 (.slice pc A.length cc) A Tc2) ∧ u14 = .int .i64 ((i : Nat) : Int) ∧ KS W7 Tc2 wr) (fun u14 _ => A.length - (intOf u14).toNat)
      case atStart => exact ⟨0, T13, (Nat.zero_le _), M13, rfl, (hW10.sub (fun p hp => by first | exact hp | (simp only [List.mem_cons, List.mem_append, List.nil_append, List.not_mem_nil, or_assoc, or_false, false_or, List.cons_append, List.append_assoc] at hp ⊢ <;> grind)))⟩
      case round =>
        obtain ⟨i, Tc2, hi, hM2, rfl, hL11⟩ := hrel
        refine wp_seq ?_
        refine wp_seq ?_
        refine wp_region_L (W0 := W7) Tc2 (hL11) ?_
        refine lm (v := .int .i64 ((i : Nat) : Int)) rfl rfl ?_
        refine lm (v := .slice pc A.length cc) rfl rfl ?_
        refine lp (v := .int .i64 ((A.length : Nat) : Int)) rfl rfl (run_lenL (p := pc) (cap := cc) (n := A.length) rfl Try.underlying24 (by kernel_rfl)) ?_
        refine lp (v := .bool (decide (i < A.length))) rfl rfl (run_bin rfl (vx := (.int .i64 ((i : Nat) : Int))) (vy := (.int .i64 ((A.length : Nat) : Int))) (by kernel_rfl) (by kernel_rfl) fun w => bn_lss rfl w) ?_
        refine wpL_done (fun W12 hW12 => ?_)
        refine (show Code.wp _ _ _ _ _ from ?_)
        cases hd2 : (decide (i < A.length)) with
        | false =>
          have h2 : ¬ (i < A.length) := of_decide_eq_false hd2
          clear hd2
          refine wp_cond_false rfl ?_
          refine wp_exit ?_
          refine (show Code.wp _ _ _ _ _ from ?_)
          refine wp_seq ?_
          refine wp_region_L (W0 := W7) Tc2 (hW12) ?_
          refine lm (v := .slice p1 A.length c1) rfl rfl ?_
          refine lm (v := .slice pw A.length cw) rfl rfl ?_
          refine lv (v := .bool true) rfl rfl (yb_call (f := 16) (args := #[.slice p1 A.length c1, .slice pw A.length cw]) (fun _ => by kernel_rfl) fun W hW => (by have z := same_any A A p1 pw c1 cw lA lE W (HB10.out.keep ElR.keeps hW.1) (HB12.out.keep ElR.keeps hW.1); rw [decide_eq_true rfl] at z; exact z)) ?_
          refine lm (v := .bool true) rfl rfl ?_
          refine wpL_done (fun W13 hW13 => ?_)
          refine (show Code.wp _ _ _ _ _ from ?_)
          refine wp_ret ?_
          try simp only [inBlock_ret, then_ret]
          refine bodyPost_ret (v := .bool true) ?_ rfl ?_
          · kernel_rfl
          · exact ⟨rfl, (Below.trans hbz9 (Below.mono (hW13).1 hbz9.size))⟩
        | true =>
          have h2 : i < A.length := of_decide_eq_true hd2
          clear hd2
          obtain ⟨y, hy⟩ : ∃ y, A[i]? = some y := ⟨A[i], List.getElem?_eq_getElem h2⟩
          have ly := (lE y (List.mem_of_getElem? hy)).1
          obtain ⟨g0, rfl⟩ := g3_ptr hM2 hW12 hy
          refine wp_cond_true rfl ?_
          refine wp_skip ?_
          refine (show Code.wp _ _ _ _ _ from ?_)
          refine wp_seq ?_
          refine wp_block ?_
          refine wp_seq ?_
          refine wp_region_L (W0 := W7) Tc2 (hW12) ?_
          refine lm (v := .int .i64 0) rfl rfl ?_
          refine wpL_done (fun W14 hW14 => ?_)
          refine (show Code.wp _ _ _ _ _ from ?_)
          refine wp_block ?_
          go_loopw [15] (fun u15 wr => ∃ (m : Nat) (Tc3 : List (Nat × Obj)), (m ≤ y.length) ∧ (MkV (G3 (W7 : Base).B) W7 (.slice (some ⟨g0, 0, none⟩) A.length cc) A Tc3) ∧ u15 = .int .i64 ((m : Nat) : Int) ∧ KS W7 Tc3 wr) (fun u15 _ => y.length - (intOf u15).toNat)
          case atStart => exact ⟨0, Tc2, (Nat.zero_le _), hM2, rfl, (hW14.sub (fun p hp => by first | exact hp | (simp only [List.mem_cons, List.mem_append, List.nil_append, List.not_mem_nil, or_assoc, or_false, false_or, List.cons_append, List.append_assoc] at hp ⊢ <;> grind)))⟩
          case round =>
            obtain ⟨m, Tc3, hm, hM3, rfl, hL15⟩ := hrel
            refine wp_seq ?_
            refine wp_seq ?_
            obtain ⟨cu16, pr16, cr16, ha16, hk16⟩ := open1 hM3 hL15 hy
            refine wp_region_L (W0 := W7) ((g0, .cells cu16 37 (0, 0)) :: Tc3) (hk16) ?_
            refine lm (v := .int .i64 ((m : Nat) : Int)) rfl rfl ?_
            refine lm (v := .slice (some ⟨g0, 0, none⟩) A.length cc) rfl rfl ?_
            refine lm (v := .int .i64 ((i : Nat) : Int)) rfl rfl ?_
            refine lp (v := .pointer (some ⟨g0, 0 + i * 1, none⟩)) rfl rfl (run_idxL (j := .i64) (n := A.length) (cap := cc) (b := g0) (off := 0) (k := i) (sz := 1) rfl Try.underlying24 (by kernel_rfl) (by kernel_rfl) (by kernel_rfl) (by omega)) ?_
            refine lv (v := .slice pr16 y.length cr16) rfl rfl (yb_cell (off := 0 + i * 1) rfl (by kernel_rfl) (.head _) Try.underlying37 rfl (by rw [Nat.zero_add, Nat.mul_one]; exact ha16)) ?_
            refine lp (v := .int .i64 ((y.length : Nat) : Int)) rfl rfl (run_lenL (p := pr16) (cap := cr16) (n := y.length) rfl Try.underlying37 (by kernel_rfl)) ?_
            refine lp (v := .bool (decide (m < y.length))) rfl rfl (run_bin rfl (vx := (.int .i64 ((m : Nat) : Int))) (vy := (.int .i64 ((y.length : Nat) : Int))) (by kernel_rfl) (by kernel_rfl) fun w => bn_lss rfl w) ?_
            refine wpL_done (fun W16 hW16 => ?_)
            refine (show Code.wp _ _ _ _ _ from ?_)
            cases hd3 : (decide (m < y.length)) with
            | false =>
              have h3 : ¬ (m < y.length) := of_decide_eq_false hd3
              clear hd3
              refine wp_cond_false rfl ?_
              refine wp_exit ?_
              refine (show Code.wp _ _ _ _ _ from ?_)
              refine wp_region_L (W0 := W7) Tc3 ((hW16.sub (fun p hp => .tail _ (hp)))) ?_
              refine lm (v := .int .i64 ((i : Nat) : Int)) rfl rfl ?_
              refine lp (v := .int .i64 (((i + 1) : Nat) : Int)) rfl rfl (run_bin rfl (vx := (.int .i64 ((i : Nat) : Int))) (vy := (.int .i64 ((1 : Nat) : Int))) (by kernel_rfl) (by kernel_rfl) fun w => bn_add (z := (i + 1)) rfl (wr_i64 (by omega)) w) ?_
              refine lm (v := .int .i64 (((i + 1) : Nat) : Int)) rfl rfl ?_
              refine wpL_done (fun W17 hW17 => ?_)
              go_roundw
              case rel =>
                repeat apply Exists.intro
                exact ⟨⟨(i + 1), Tc3, (by omega), hM3, rfl, (hW17.sub (fun p hp => by first | exact hp | (simp only [List.mem_cons, List.mem_append, List.nil_append, List.not_mem_nil, or_assoc, or_false, false_or, List.cons_append, List.append_assoc] at hp ⊢ <;> grind)))⟩, rfl⟩
              case measure => (show A.length - (intOf (.int .i64 (((i + 1) : Nat) : Int))).toNat < A.length - (intOf (.int .i64 ((i : Nat) : Int))).toNat); simp only [intOf]; omega
            | true =>
              have h3 : m < y.length := of_decide_eq_true hd3
              clear hd3
              obtain ⟨z, hz⟩ : ∃ z, y[m]? = some z := ⟨y[m], List.getElem?_eq_getElem h3⟩
              have lz := (lE y (List.mem_of_getElem? hy)).2 z (List.mem_of_getElem? hz)
              refine wp_cond_true rfl ?_
              refine wp_skip ?_
              refine (show Code.wp _ _ _ _ _ from ?_)
              refine wp_seq ?_
              refine wp_block ?_
              refine wp_seq ?_
              refine wp_region_L (W0 := W7) Tc3 ((hW16.sub (fun p hp => .tail _ (hp)))) ?_
              refine lm (v := .int .i64 0) rfl rfl ?_
              refine wpL_done (fun W18 hW18 => ?_)
              refine (show Code.wp _ _ _ _ _ from ?_)
              refine wp_block ?_
              go_loopw [16] (fun u16 wr => ∃ (j : Nat) (Tc4 : List (Nat × Obj)), (j ≤ z.length) ∧ (MkV (G3 (W7 : Base).B) W7 (.slice (some ⟨g0, 0, none⟩) A.length cc) A Tc4) ∧ u16 = .int .i64 ((j : Nat) : Int) ∧ KS W7 Tc4 wr) (fun u16 _ => z.length - (intOf u16).toNat)
              case atStart => exact ⟨0, Tc3, (Nat.zero_le _), hM3, rfl, (hW18.sub (fun p hp => by first | exact hp | (simp only [List.mem_cons, List.mem_append, List.nil_append, List.not_mem_nil, or_assoc, or_false, false_or, List.cons_append, List.append_assoc] at hp ⊢ <;> grind)))⟩
              case round =>
                obtain ⟨j, Tc4, hj, hM4, rfl, hL19⟩ := hrel
                refine wp_seq ?_
                refine wp_seq ?_
                obtain ⟨cu18, g118, cr18, cv18, pr18, cs18, ha18, hb18, hk18⟩ := open2 hM4 hL19 hy hz
                refine wp_region_L (W0 := W7) ((g0, .cells cu18 37 (0, 0)) :: (g118, .cells cv18 43 (0, 0)) :: Tc4) (hk18) ?_
                refine lm (v := .int .i64 ((j : Nat) : Int)) rfl rfl ?_
                refine lm (v := .slice (some ⟨g0, 0, none⟩) A.length cc) rfl rfl ?_
                refine lm (v := .int .i64 ((i : Nat) : Int)) rfl rfl ?_
                refine lp (v := .pointer (some ⟨g0, 0 + i * 1, none⟩)) rfl rfl (run_idxL (j := .i64) (n := A.length) (cap := cc) (b := g0) (off := 0) (k := i) (sz := 1) rfl Try.underlying24 (by kernel_rfl) (by kernel_rfl) (by kernel_rfl) (by omega)) ?_
                refine lv (v := .slice (some ⟨g118, 0, none⟩) y.length cr18) rfl rfl (yb_cell (off := 0 + i * 1) rfl (by kernel_rfl) (.head _) Try.underlying37 rfl (by rw [Nat.zero_add, Nat.mul_one]; exact ha18)) ?_
                refine lm (v := .int .i64 ((m : Nat) : Int)) rfl rfl ?_
                refine lp (v := .pointer (some ⟨g118, 0 + m * 1, none⟩)) rfl rfl (run_idxL (j := .i64) (n := y.length) (cap := cr18) (b := g118) (off := 0) (k := m) (sz := 1) rfl Try.underlying37 (by kernel_rfl) (by kernel_rfl) (by kernel_rfl) (by omega)) ?_
                refine lv (v := .slice pr18 z.length cs18) rfl rfl (yb_cell (off := 0 + m * 1) rfl (by kernel_rfl) (.tail _ (.head _)) Try.underlying43 rfl (by rw [Nat.zero_add, Nat.mul_one]; exact hb18)) ?_
                refine lp (v := .int .i64 ((z.length : Nat) : Int)) rfl rfl (run_lenL (p := pr18) (cap := cs18) (n := z.length) rfl Try.underlying43 (by kernel_rfl)) ?_
                refine lp (v := .bool (decide (j < z.length))) rfl rfl (run_bin rfl (vx := (.int .i64 ((j : Nat) : Int))) (vy := (.int .i64 ((z.length : Nat) : Int))) (by kernel_rfl) (by kernel_rfl) fun w => bn_lss rfl w) ?_
                refine wpL_done (fun W20 hW20 => ?_)
                refine (show Code.wp _ _ _ _ _ from ?_)
                cases hd4 : (decide (j < z.length)) with
                | false =>
                  have h4 : ¬ (j < z.length) := of_decide_eq_false hd4
                  clear hd4
                  refine wp_cond_false rfl ?_
                  refine wp_exit ?_
                  refine (show Code.wp _ _ _ _ _ from ?_)
                  refine wp_region_L (W0 := W7) Tc4 ((hW20.sub (fun p hp => .tail _ (.tail _ (hp))))) ?_
                  refine lm (v := .int .i64 ((m : Nat) : Int)) rfl rfl ?_
                  refine lp (v := .int .i64 (((m + 1) : Nat) : Int)) rfl rfl (run_bin rfl (vx := (.int .i64 ((m : Nat) : Int))) (vy := (.int .i64 ((1 : Nat) : Int))) (by kernel_rfl) (by kernel_rfl) fun w => bn_add (z := (m + 1)) rfl (wr_i64 (by omega)) w) ?_
                  refine lm (v := .int .i64 (((m + 1) : Nat) : Int)) rfl rfl ?_
                  refine wpL_done (fun W21 hW21 => ?_)
                  go_roundw
                  case rel =>
                    repeat apply Exists.intro
                    exact ⟨⟨(m + 1), Tc4, (by omega), hM4, rfl, (hW21.sub (fun p hp => by first | exact hp | (simp only [List.mem_cons, List.mem_append, List.nil_append, List.not_mem_nil, or_assoc, or_false, false_or, List.cons_append, List.append_assoc] at hp ⊢ <;> grind)))⟩, rfl⟩
                  case measure => (show y.length - (intOf (.int .i64 (((m + 1) : Nat) : Int))).toNat < y.length - (intOf (.int .i64 ((m : Nat) : Int))).toNat); simp only [intOf]; omega
                | true =>
                  have h4 : j < z.length := of_decide_eq_true hd4
                  clear hd4
                  refine wp_cond_true rfl ?_
                  refine wp_skip ?_
                  refine (show Code.wp _ _ _ _ _ from ?_)
                  refine wp_seq ?_
                  refine wp_block ?_
                  obtain ⟨cu19, g119, cr19, cv19, g219, cs19, cx19, Tg19, ha19, hb19, hz19, hB19, na19, nb19, dk19, hk19, hG19⟩ := open3 hM4 (hW20.sub (fun p hp => .tail _ (.tail _ (hp)))) hy hz h4
                  refine wp_region_L (W0 := W7) ((g0, .cells cu19 37 (0, 0)) :: (g119, .cells cv19 43 (0, 0)) :: (g219, .cells cx19 9 (0, 0)) :: Tg19) (hk19) ?_
                  refine lm (v := .slice (some ⟨g0, 0, none⟩) A.length cc) rfl rfl ?_
                  refine lm (v := .int .i64 ((i : Nat) : Int)) rfl rfl ?_
                  refine lp (v := .pointer (some ⟨g0, 0 + i * 1, none⟩)) rfl rfl (run_idxL (j := .i64) (n := A.length) (cap := cc) (b := g0) (off := 0) (k := i) (sz := 1) rfl Try.underlying24 (by kernel_rfl) (by kernel_rfl) (by kernel_rfl) (by omega)) ?_
                  refine lv (v := .slice (some ⟨g119, 0, none⟩) y.length cr19) rfl rfl (yb_cell (off := 0 + i * 1) rfl (by kernel_rfl) (.head _) Try.underlying37 rfl (by rw [Nat.zero_add, Nat.mul_one]; exact ha19)) ?_
                  refine lm (v := .int .i64 ((m : Nat) : Int)) rfl rfl ?_
                  refine lp (v := .pointer (some ⟨g119, 0 + m * 1, none⟩)) rfl rfl (run_idxL (j := .i64) (n := y.length) (cap := cr19) (b := g119) (off := 0) (k := m) (sz := 1) rfl Try.underlying37 (by kernel_rfl) (by kernel_rfl) (by kernel_rfl) (by omega)) ?_
                  refine lv (v := .slice (some ⟨g219, 0, none⟩) z.length cs19) rfl rfl (yb_cell (off := 0 + m * 1) rfl (by kernel_rfl) (.tail _ (.head _)) Try.underlying43 rfl (by rw [Nat.zero_add, Nat.mul_one]; exact hb19)) ?_
                  refine lm (v := .int .i64 ((j : Nat) : Int)) rfl rfl ?_
                  refine lp (v := .pointer (some ⟨g219, 0 + j * 1, none⟩)) rfl rfl (run_idxL (j := .i64) (n := z.length) (cap := cs19) (b := g219) (off := 0) (k := j) (sz := 1) rfl Try.underlying43 (by kernel_rfl) (by kernel_rfl) (by kernel_rfl) (by omega)) ?_
                  refine wpL_s ((g0, .cells cu19 37 (0, 0)) :: (g119, .cells cv19 43 (0, 0)) :: (g219, .cells (cx19.setIfInBounds (0 + j * 1) (strV [63])) 9 (0, 0)) :: Tg19) rfl rfl (st_at (off := 0 + j * 1) (v := strV [63]) rfl (by kernel_rfl) (by kernel_rfl) (.tail _ (.tail _ (.head _))) hB19 (by kernel_rfl) rfl rfl (by omega) (.inr rfl) (List.forall_mem_cons.2 ⟨.inr ⟨(.head _), (by first | assumption | exact Ne.symm (by assumption))⟩, (List.forall_mem_cons.2 ⟨.inr ⟨(.tail _ (.head _)), (by first | assumption | exact Ne.symm (by assumption))⟩, (List.forall_mem_cons.2 ⟨.inl rfl, (fun p hp => .inr ⟨(.tail _ (.tail _ (.tail _ hp))), ((show Dk g219 Tg19 from (by (try simp only [dj_app_l, dj_app_r, dj_cons_l, dj_cons_r, dj_nil_l, dj_nil_r, dk_app, dk_cons, dk_nil, and_true, true_and, and_assoc]); repeat' (first | trivial | assumption | exact Dj.symm (by assumption) | exact Ne.symm (by assumption) | apply And.intro))) _ hp)⟩)⟩)⟩)⟩)) ?_
                  refine wpL_done (fun W22 hW22 => ?_)
                  refine (show Code.wp _ _ _ _ _ from ?_)
                  refine wp_region_L (W0 := W7) ((g0, .cells cu19 37 (0, 0)) :: (g119, .cells cv19 43 (0, 0)) :: (g219, .cells (cx19.setIfInBounds (0 + j * 1) (strV [63])) 9 (0, 0)) :: Tg19) (hW22) ?_
                  refine lm (v := .int .i64 ((j : Nat) : Int)) rfl rfl ?_
                  refine lp (v := .int .i64 (((j + 1) : Nat) : Int)) rfl rfl (run_bin rfl (vx := (.int .i64 ((j : Nat) : Int))) (vy := (.int .i64 ((1 : Nat) : Int))) (by kernel_rfl) (by kernel_rfl) fun w => bn_add (z := (j + 1)) rfl (wr_i64 (by omega)) w) ?_
                  refine lm (v := .int .i64 (((j + 1) : Nat) : Int)) rfl rfl ?_
                  refine wpL_done (fun W23 hW23 => ?_)
                  go_roundw
                  case rel =>
                    repeat apply Exists.intro
                    exact ⟨⟨(j + 1), ((g219, .cells (cx19.setIfInBounds (0 + j * 1) (strV [63])) 9 (0, 0)) :: Tg19), (by omega), (hG19 (strV [63])), rfl, (hW23.sub (fun p hp => by first | exact hp | (simp only [List.mem_cons, List.mem_append, List.nil_append, List.not_mem_nil, or_assoc, or_false, false_or, List.cons_append, List.append_assoc] at hp ⊢ <;> grind)))⟩, rfl⟩
                  case measure => (show z.length - (intOf (.int .i64 (((j + 1) : Nat) : Int))).toNat < z.length - (intOf (.int .i64 ((j : Nat) : Int))).toNat); simp only [intOf]; omega
    | true =>
      have h1 : k < A.length := of_decide_eq_true hd1
      clear hd1
      refine wp_cond_true rfl ?_
      refine wp_skip ?_
      refine (show Code.wp _ _ _ _ _ from ?_)
      refine wp_seq ?_
      refine wp_block ?_
      refine wp_region_L (W0 := W3) Ko (hW7) ?_
      refine lm (v := vo) rfl rfl ?_
      refine lm (v := .slice p4 A.length c4) rfl rfl ?_
      refine lm (v := .int .i64 ((k : Nat) : Int)) rfl rfl ?_
      obtain ⟨y20, p20, c20, b20, f20, hy20, HY20, hp20, lt20, hc20⟩ := lvp_lst (k := k) HB7.out (by omega)
      have HY20 := Lib.hid HY20
      refine lp (v := .pointer (some ⟨b20, f20 + k * 1, none⟩)) rfl rfl (run_idxQ (p := p4) (cap := c4) (n := A.length) (j := .i64) (k := k) (sz := 1) rfl Try.underlying40 (by kernel_rfl) (by kernel_rfl) hp20 (by kernel_rfl) (by omega)) ?_
      refine lv (v := .slice p20 y20.length c20) rfl rfl (yb_old (off := f20 + k * 1) rfl (by kernel_rfl) hc20 lt20 Try.underlying36 rfl) ?_
      refine wpL_new (fun g => .slice (some ⟨g, 0, none⟩) 1 1) (obi := .cells #[.slice p20 y20.length c20] 37 (0, 0)) rfl rfl (fun _ => by kernel_rfl) (fun _ => by simp only [List.setIfInBounds_toArray, List.set_cons_succ, List.set_cons_zero] <;> rfl) fun g21 Bg21 Fg21 => ?_
      obtain dj22_0 : Dk g21 Ko := by simpa only [dj_app_l, dj_app_r, dj_cons_l, dj_cons_r, dj_nil_l, dj_nil_r, dk_app, dk_cons, dk_nil, and_true, true_and, and_assoc] using (show Dk g21 Ko from Fg21)
      refine wpL_g (AppO W3 37 1 [] (k + 1) (xo ++ [.slice p20 y20.length c20])) rfl rfl (app_own el_seg (m := 1) (c := 1) (news := [.slice p20 y20.length c20]) rfl (by kernel_rfl) (by kernel_rfl) (.head _) hOo (fun p hp => by simp only [List.mem_cons, List.mem_append, List.nil_append, List.not_mem_nil, or_assoc, or_false, false_or, hp, or_true, true_or]) (fun _ h => by cases h) rfl (by simp [strV, Value.oneCell']) (by omega) (by omega) (by omega)) (fun _ => by simp only [List.setIfInBounds_toArray, List.set_cons_succ, List.set_cons_zero] <;> rfl) ?_
      rintro v23 Kl23 ⟨_, O23, N23, rfl⟩
      refine lm (v := v23) rfl rfl ?_
      refine wpL_done (fun W24 hW24 => ?_)
      refine (show Code.wp _ _ _ _ _ from ?_)
      refine wp_region_L (W0 := W3) Kl23 (hW24) ?_
      refine lm (v := .int .i64 ((k : Nat) : Int)) rfl rfl ?_
      refine lp (v := .int .i64 (((k + 1) : Nat) : Int)) rfl rfl (run_bin rfl (vx := (.int .i64 ((k : Nat) : Int))) (vy := (.int .i64 ((1 : Nat) : Int))) (by kernel_rfl) (by kernel_rfl) fun w => bn_add (z := (k + 1)) rfl (wr_i64 (by omega)) w) ?_
      refine lm (v := .int .i64 (((k + 1) : Nat) : Int)) rfl rfl ?_
      refine wpL_done (fun W25 hW25 => ?_)
      go_roundw
      case rel =>
        repeat apply Exists.intro
        exact ⟨⟨k + 1, v23, (xo ++ [.slice p20 y20.length c20]), Kl23, (by omega), O23, (mke_take (MkE.snoc hEo (mkv_read TxR.keeps HY20.out)) hy20), rfl, rfl, (hW25.sub (fun p hp => by first | exact hp | (simp only [List.mem_cons, List.mem_append, List.nil_append, List.not_mem_nil, or_assoc, or_false, false_or, List.cons_append, List.append_assoc] at hp ⊢ <;> grind)))⟩, rfl⟩
      case measure => (show A.length - (intOf (.int .i64 (((k + 1) : Nat) : Int))).toNat < A.length - (intOf (.int .i64 ((k : Nat) : Int))).toNat); simp only [intOf]; omega
end Go.Proofs.Ytppegdbelgobiaa
namespace Go.Proofs.Ytppegdbelgobiaa
open Go Go.RowKit Tw
set_option maxRecDepth 100000 in
set_option maxHeartbeats 4000000 in
theorem LexReads_law (w : World) (t : List UInt8) : Calls Try.prog 3 #[strV t] w fun e w' => e = .returned (.bool true) ∧ Below w.heap.size w w' := by
  by_cases hl : 2000 < t.length
  · skip
    go_enter Try.func3, Try.ntmps3
    refine wp_seq ?_
    refine wp_region_L (W0 := w) [] (KS.start w) ?_
    refine lm (v := .bool false) rfl rfl ?_
    refine wpL_done (fun W1 hW1 => ?_)
    refine (show Code.wp _ _ _ _ _ from ?_)
    refine wp_seq ?_
    refine wp_region_L (W0 := w) [] (hW1) ?_
    refine lm (v := strV t) rfl rfl ?_
    refine lp (v := .int .i64 ((t.length : Nat) : Int)) rfl rfl (run_lenS (l := t) rfl Try.underlying9 (by kernel_rfl)) ?_
    refine lp (v := .bool true) rfl rfl (run_bin rfl (vx := (.int .i64 ((t.length : Nat) : Int))) (vy := (.int .i64 ((2000 : Nat) : Int))) (by kernel_rfl) (by kernel_rfl) fun w => bn_gtr (decide_eq_true hl) w) ?_
    refine lm (v := .bool true) rfl rfl ?_
    refine ln rfl ?_
    refine ln rfl ?_
    refine lm (v := .bool true) rfl rfl ?_
    refine lm (v := .bool true) rfl rfl ?_
    refine lv (v := .bool true) rfl rfl (yb_call (f := 10) (args := #[]) (fun _ => by kernel_rfl) fun W hW => awake_any W) ?_
    refine lm (v := .bool true) rfl rfl ?_
    refine lm (v := .bool true) rfl rfl ?_
    refine wpL_done (fun W2 hW2 => ?_)
    refine (show Code.wp _ _ _ _ _ from ?_)
    refine wp_ret ?_
    try simp only [inBlock_ret, then_ret]
    refine bodyPost_ret (v := .bool true) ?_ rfl ?_
    · kernel_rfl
    · exact ⟨rfl, (hW2).1⟩
  go_enter Try.func3, Try.ntmps3
  refine wp_seq ?_
  refine wp_region_L (W0 := w) [] (KS.start w) ?_
  refine lm (v := .bool false) rfl rfl ?_
  refine wpL_done (fun W1 hW1 => ?_)
  refine (show Code.wp _ _ _ _ _ from ?_)
  refine wp_seq ?_
  refine wp_region_L (W0 := w) [] (hW1) ?_
  refine lm (v := strV t) rfl rfl ?_
  refine lp (v := .int .i64 ((t.length : Nat) : Int)) rfl rfl (run_lenS (l := t) rfl Try.underlying9 (by kernel_rfl)) ?_
  refine lp (v := .bool false) rfl rfl (run_bin rfl (vx := (.int .i64 ((t.length : Nat) : Int))) (vy := (.int .i64 ((2000 : Nat) : Int))) (by kernel_rfl) (by kernel_rfl) fun w => bn_gtr (decide_eq_false hl) w) ?_
  refine lm (v := .bool false) rfl rfl ?_
  refine lm (v := strV t) rfl rfl ?_
  refine lv (v := .bool true) rfl rfl (yb_call (f := 9) (args := #[strV t]) (fun _ => by kernel_rfl) fun W hW => reads_any t (by omega) W) ?_
  refine lm (v := .bool true) rfl rfl ?_
  refine lm (v := .bool true) rfl rfl ?_
  refine lv (v := .bool true) rfl rfl (yb_call (f := 10) (args := #[]) (fun _ => by kernel_rfl) fun W hW => awake_any W) ?_
  refine lm (v := .bool true) rfl rfl ?_
  refine lm (v := .bool true) rfl rfl ?_
  refine wpL_done (fun W2 hW2 => ?_)
  refine (show Code.wp _ _ _ _ _ from ?_)
  refine wp_ret ?_
  try simp only [inBlock_ret, then_ret]
  refine bodyPost_ret (v := .bool true) ?_ rfl ?_
  · kernel_rfl
  · exact ⟨rfl, (hW2).1⟩
end Go.Proofs.Ytppegdbelgobiaa
/- LexReads holds for every input: the program's own answer is true; each argument reads afterwards as it read before. -/
namespace Go.Proofs.Ytppegdbelgobiaa
open Go.ChangeShapes Go.WideShapes Go.ChangeAt Go.RowKit Tw
set_option maxRecDepth 100000 in
theorem lexReads_lifted (os : Os) (started : os.Started) (H : Type) (enc : TypeId × Value → H) :
    ReturnsInHanded {} Try.checked os 3 .any (Rows.lexReadsSpec.pre6 enc Try.prog Try.f3 Rows.lexReadsRow.domain false) (Rows.lexReadsSpec.post enc Try.prog Try.f3 false true false false) := by
  refine returnsInHanded_of_change (C := Try.checked) own started (by kernel_rfl) Try.func3
    (ChangeSpec.witness6 (enc := enc) (C := Try.checked) false ⟨#[], #[.string ByteArray.empty], []⟩ 8 (by kernel_rfl) (by kernel_rfl) (by kernel_rfl) (by kernel_rfl)) ?_
  intro W base args ds gs before hval0 hW _ _
  have hval : ∀ (j : Nat) t v, Try.f3.params[j]? = some t → args[j]? = some v → Value.okWide Try.prog W .any base t v := hval0
  have hW2 := hW
  obtain ⟨p, q, hA0, hV, rfl, hfz, hnd⟩ := hW2
  have hA : DataW.TrodAll enc Try.prog W 0 (fun _ => true) true Try.f3.params.toList args.toList ds p := hA0
  rw [Try.params3] at hA hval
  obtain ⟨v0, vs0, d0, ds0, p0, q0, hargs, rfl, rfl, h0, r0⟩ := trodAll_cons hA
  obtain ⟨rfl, rfl, rfl⟩ := trodAll_nil r0
  obtain rfl : args = #[v0] := by cases args; simp_all
  obtain ⟨rfl, rfl⟩ := trodVars_none hV
  obtain ⟨s0, rfl, rfl, rfl, w0⟩ := ChangeMaps.open_string Try.underlying9 (hval 0 9 v0 rfl rfl) h0
  clear hA0 hval0
  simp only [List.append_nil] at hW
  refine (LexReads_law W s0.data.toList).mono fun e W' ⟨he, bel⟩ => ?_
  subst he
  exact ⟨_, rfl, _, _, _, [], [], [], hW, (trodAll_cons_mk (shut_bool Try.underlying4 _) trodAll_mk0), (trodAll_cons_mk (ChangeMaps.shut_string Try.underlying9 w0) trodAll_mk0), rfl, bel.frame _, fun h => by cases h⟩
theorem lexReads_proved : Rows.LexReadsSaid :=
  OpenClaim.holds_of_wide 3 Try.f3 rfl rfl rfl rfl rfl rfl rfl ⟨rfl, rfl, rfl, rfl, rfl⟩ rfl rfl rfl rfl rfl (by kernel_rfl) Try.func3 (by kernel_rfl)
    (of_decide_eq_true (by kernel_rfl)) (by unfold Func.isWrapper; first | (rw [if_pos (by decide +kernel)]; kernel_rfl) | (rw [if_neg (by decide +kernel)]; exact ⟨rfl, rfl⟩))
    (fun os started H enc _ => lexReads_lifted os started H enc)
#print axioms lexReads_proved
end Go.Proofs.Ytppegdbelgobiaa
