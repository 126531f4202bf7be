import Derived.Test.YtppegdbelgobiaaG03
import Derived.Test.YtppegdbelgobiaaG01
import Derived.Test.YtppegdbelgobiaaRows
import Derived.WalkKit
import Derived.ProofKit
import Derived.OpenShut
import Derived.SizedLaws
import Derived.ChangeOld
import Derived.ChangeMaps5
import Derived.Handed
/- Part of the proof: Bj, Bk, Ln, Ll, Bl, BR. -/
set_option linter.unusedVariables false
set_option linter.unusedSimpArgs false
set_option linter.unusedSectionVars false
namespace Go.Proofs.Ytppegdbelgobiaa
open Go Go.RowKit Tw
set_option maxRecDepth 100000 in
set_option maxHeartbeats 4000000 in
theorem appE_any {W0 : World} {v : Value} {o : List UInt8} {Ko : List (Nat × Obj)} {e : Elt} {pe : Option Addr} {ce : Nat} (hO : OwnL (W0 : Base) 5 1 v o.length (u8s o) Ko) (lo : o.length ≤ 1000000) (he : LVp StrR W0 pe e) (hR : e.all rightC = true) (le : e.length ≤ 10) (w : World) (hw : KS (W0 : Base) Ko w) : Calls Try.prog 38 #[v, .slice pe e.length ce] w fun ez wz => ∃ v' K', ez = .returned v' ∧ KS (W0 : Base) K' wz ∧ OwnL (W0 : Base) 5 1 v' (o ++ wrE e).length (u8s (o ++ wrE e)) K' := by
  have HE := Lib.hid he
  clear he
  go_enter Try.func38, Try.ntmps38
  refine wp_seq ?_
  refine wp_region_L (W0 := (W0 : Base)) Ko (hw) ?_
  refine lm (v := .slice none 0 0) rfl rfl ?_
  refine wpL_done (fun W1 hW1 => ?_)
  refine (show Code.wp _ _ _ _ _ from ?_)
  refine wp_seq ?_
  refine wp_seq ?_
  refine wp_region_L (W0 := (W0 : Base)) Ko (hW1) ?_
  refine lm (v := .slice pe e.length ce) rfl rfl ?_
  refine lp (v := .int .i64 ((e.length : Nat) : Int)) rfl rfl (run_lenL (p := pe) (cap := ce) (n := e.length) rfl Try.underlying43 (by kernel_rfl)) ?_
  refine lm (v := .int .i64 0) rfl rfl ?_
  refine wpL_done (fun W2 hW2 => ?_)
  refine (show Code.wp _ _ _ _ _ from ?_)
  refine wp_block ?_
  go_loopw [0, 11] (fun u0 u11 wr => ∃ (k : Nat) (oa : List UInt8) (va : Value) (Ka : List (Nat × Obj)), (k ≤ e.length) ∧ (oa = o ++ wrE (e.take k)) ∧ (oa.length ≤ o.length + 201 * k) ∧ (OwnL (W0 : Base) 5 1 va oa.length (u8s oa) Ka) ∧ va = u0 ∧ u11 = .int .i64 ((k : Nat) : Int) ∧ KS (W0 : Base) Ka wr) (fun _ u11 _ => e.length - (intOf u11).toNat)
  case atStart => exact ⟨0, o, v, Ko, (Nat.zero_le _), (by simp [wrE]), (Nat.le_refl _), hO, rfl, rfl, (hW2.sub (fun p hp => by first | exact hp | (simp only [List.mem_cons, List.mem_append, List.nil_append, List.not_mem_nil, or_assoc, or_false, false_or, List.cons_append, List.append_assoc] at hp ⊢ <;> grind)))⟩
  case round =>
    obtain ⟨k, oa, va, Ka, hk, hoa, loa, hOa, rfl, rfl, hL3⟩ := hrel
    refine wp_seq ?_
    refine wp_region_L (W0 := (W0 : Base)) Ka (hL3) ?_
    refine lp (v := .bool (decide (k < e.length))) rfl rfl (run_bin rfl (vx := (.int .i64 ((k : Nat) : Int))) (vy := (.int .i64 ((e.length : Nat) : Int))) (by kernel_rfl) (by kernel_rfl) fun w => bn_lss rfl w) ?_
    refine wpL_done (fun W4 hW4 => ?_)
    refine (show Code.wp _ _ _ _ _ from ?_)
    refine wp_seq ?_
    cases hd1 : (decide (k < e.length)) with
    | false =>
      have h1 : ¬ (k < e.length) := of_decide_eq_false hd1
      clear hd1
      refine wp_cond_false rfl ?_
      refine wp_exit ?_
      refine (show Code.wp _ _ _ _ _ from ?_)
      refine wp_seq ?_
      refine wp_region_L (W0 := (W0 : Base)) Ka (hW4) ?_
      refine lm (v := va) rfl rfl ?_
      refine lm (v := va) rfl rfl ?_
      refine wpL_done (fun W5 hW5 => ?_)
      refine (show Code.wp _ _ _ _ _ from ?_)
      refine wp_ret ?_
      try simp only [inBlock_ret, then_ret]
      refine bodyPost_ret (v := va) ?_ rfl ?_
      · kernel_rfl
      · exact ⟨_, _, rfl, hW5, (by have z : oa = o ++ wrE e := (by rw [hoa, List.take_of_length_le (by omega)]); rw [← z]; exact hOa)⟩
    | true =>
      have h1 : k < e.length := of_decide_eq_true hd1
      clear hd1
      refine wp_cond_true rfl ?_
      refine wp_skip ?_
      refine (show Code.wp _ _ _ _ _ from ?_)
      refine wp_seq ?_
      refine wp_block ?_
      refine wp_seq ?_
      refine wp_region_L (W0 := (W0 : Base)) Ka (hW4) ?_
      refine lm (v := .int .i64 ((k : Nat) : Int)) rfl rfl ?_
      obtain ⟨y2, b2, f2, hy2, hp2, lt2, hc2⟩ := lvp_str (k := k) HE.out (by omega)
      refine lp (v := .pointer (some ⟨b2, f2 + k * 1, none⟩)) rfl rfl (run_idxQ (p := pe) (cap := ce) (n := e.length) (j := .i64) (k := k) (sz := 1) rfl Try.underlying43 (by kernel_rfl) (by kernel_rfl) hp2 (by kernel_rfl) (by omega)) ?_
      refine lv (v := strV y2) rfl rfl (yb_old (off := f2 + k * 1) rfl (by kernel_rfl) hc2 lt2 Try.underlying9 rfl) ?_
      refine lm (v := .int .i64 ((k : Nat) : Int)) rfl rfl ?_
      refine lm (v := strV y2) rfl rfl ?_
      refine wpL_done (fun W6 hW6 => ?_)
      refine (show Code.wp _ _ _ _ _ from ?_)
      refine wp_seq ?_
      refine wp_seq ?_
      refine wp_region_L (W0 := (W0 : Base)) Ka (hW6) ?_
      refine lm (v := .int .i64 ((k : Nat) : Int)) rfl rfl ?_
      refine lp (v := .bool (decide (0 < k))) rfl rfl (run_bin rfl (vx := (.int .i64 ((k : Nat) : Int))) (vy := (.int .i64 ((0 : Nat) : Int))) (by kernel_rfl) (by kernel_rfl) fun w => bn_gtr rfl w) ?_
      refine wpL_done (fun W7 hW7 => ?_)
      refine (show Code.wp _ _ _ _ _ from ?_)
      cases hd2 : (decide (0 < k)) with
      | false =>
        have h2 : ¬ (0 < k) := of_decide_eq_false hd2
        clear hd2
        refine wp_cond_false rfl ?_
        refine wp_skip ?_
        refine (show Code.wp _ _ _ _ _ from ?_)
        refine wp_seq ?_
        refine wp_region_L (W0 := (W0 : Base)) Ka (hW7) ?_
        refine lm (v := strV y2) rfl rfl ?_
        refine wpL_new (fun g => .pointer (some ⟨g, 0, none⟩)) (obi := .stringIter ⟨y2.toArray⟩ 0) rfl rfl (rg_str (l := y2) rfl Try.underlying9 (by kernel_rfl)) (fun _ => by simp only [List.setIfInBounds_toArray, List.set_cons_succ, List.set_cons_zero] <;> rfl) fun g3 Bg3 Fg3 => ?_
        obtain dj4_0 : Dk g3 Ka := by simpa only [dj_app_l, dj_app_r, dj_cons_l, dj_cons_r, dj_nil_l, dj_nil_r, dk_app, dk_cons, dk_nil, and_true, true_and, and_assoc] using (show Dk g3 Ka from Fg3)
        refine wpL_done (fun W8 hW8 => ?_)
        refine (show Code.wp _ _ _ _ _ from ?_)
        refine wp_block ?_
        have rc2 := all_at hR hy2
        have cl2 := cmp_len rc2
        have rm2 : y2.all may = true := by unfold rightC at rc2; simp only [Bool.and_eq_true] at rc2; exact rc2.2
        have rl2 := relC_le y2
        obtain ⟨oc, oc_eq0⟩ : ∃ oc, oc = oa := ⟨_, rfl⟩
        have oc_eq : oc = oa ++ (if 0 < k then [58] else []) := by rw [oc_eq0, if_neg h2, List.append_nil]
        have loc : oc.length ≤ oa.length + 1 := by rw [oc_eq0]; omega
        go_loopw [0] (fun u0 wr => ∃ (m : Nat) (ob : List UInt8) (vb : Value) (Kb : List (Nat × Obj)), (m ≤ y2.length) ∧ (ob = oc ++ relC (y2.take m)) ∧ (ob.length ≤ oc.length + 2 * m) ∧ (OwnL (W0 : Base) 5 1 vb ob.length (u8s ob) Kb) ∧ (Dk g3 Kb) ∧ vb = u0 ∧ KS (W0 : Base) ((g3, .stringIter ⟨y2.toArray⟩ m) :: Kb) wr) (fun _ wz => y2.length - World.iterPos wz g3)
        case atStart => exact ⟨0, oc, va, Ka, (Nat.zero_le _), (by simp [relC]), (Nat.le_refl _), (by rw [oc_eq0]; exact hOa), (show Dk g3 Ka from (by (try simp only [dj_app_l, dj_app_r, dj_cons_l, dj_cons_r, dj_nil_l, dj_nil_r, dk_app, dk_cons, dk_nil, and_true, true_and, and_assoc]); repeat' (first | trivial | assumption | exact Dj.symm (by assumption) | exact Ne.symm (by assumption) | apply And.intro))), rfl, (hW8.sub (fun p hp => by first | exact hp | (simp only [List.mem_cons, List.mem_append, List.nil_append, List.not_mem_nil, or_assoc, or_false, false_or, List.cons_append, List.append_assoc] at hp ⊢ <;> grind)))⟩
        case round =>
          obtain ⟨m, ob, vb, Kb, hm, hob, lob, hOb, dh5_0, rfl, hL9⟩ := hrel
          refine wp_seq ?_
          refine wp_region_L (W0 := (W0 : Base)) ((g3, .stringIter ⟨y2.toArray⟩ m) :: Kb) (hL9) ?_
          cases hd3 : (decide (m < y2.length)) with
          | false =>
            have h3 : ¬ (m < y2.length) := of_decide_eq_false hd3
            clear hd3
            refine lv (v := .tuple #[.bool false]) rfl rfl (nx_end (l := y2) (k := m) rfl (by kernel_rfl) (.head _) h3) ?_
            refine lm (v := .bool false) rfl rfl ?_
            refine wpL_done (fun W10 hW10 => ?_)
            refine (show Code.wp _ _ _ _ _ from ?_)
            refine wp_seq ?_
            refine wp_cond_false rfl ?_
            refine wp_exit ?_
            refine (show Code.wp _ _ _ _ _ from ?_)
            refine wp_region_L (W0 := (W0 : Base)) ((g3, .stringIter ⟨y2.toArray⟩ m) :: Kb) (hW10) ?_
            refine lp (v := .int .i64 (((k + 1) : Nat) : Int)) rfl rfl (run_bin rfl (vx := (.int .i64 ((k : Nat) : Int))) (vy := (.int .i64 ((1 : Nat) : Int))) (by kernel_rfl) (by kernel_rfl) fun w => bn_add (z := (k + 1)) rfl (wr_i64 (by omega)) w) ?_
            refine lm (v := .int .i64 (((k + 1) : Nat) : Int)) rfl rfl ?_
            refine wpL_done (fun W11 hW11 => ?_)
            go_roundw
            case rel =>
              repeat apply Exists.intro
              exact ⟨⟨(k + 1), ob, vb, Kb, (by omega), (by rw [hob, List.take_of_length_le (by omega), oc_eq, hoa, wrE_step hy2]; simp), (by first | omega | (simp only [List.length_append, List.length_cons, List.length_nil]; omega)), hOb, rfl, rfl, (hW11.sub (fun p hp => by first | exact hp | (simp only [List.mem_cons, List.mem_append, List.nil_append, List.not_mem_nil, or_assoc, or_false, false_or, List.cons_append, List.append_assoc] at hp ⊢ <;> grind)))⟩, rfl⟩
            case measure => (show e.length - (intOf (.int .i64 (((k + 1) : Nat) : Int))).toNat < e.length - (intOf (.int .i64 ((k : Nat) : Int))).toNat); simp only [intOf]; omega
          | true =>
            have h3 : m < y2.length := of_decide_eq_true hd3
            clear hd3
            obtain ⟨b6, hb6⟩ : ∃ b, (y2 : List UInt8)[m]? = some b := ⟨_, List.getElem?_eq_getElem (by omega)⟩
            have lb6 := b6.toNat_lt
            refine wpL_g (NxO y2 m b6 (fun n => ((g3, .stringIter ⟨y2.toArray⟩ (m + n)) :: Kb))) rfl rfl (nx_some (Kf := fun n => ((g3, .stringIter ⟨y2.toArray⟩ (m + n)) :: Kb)) rfl (by kernel_rfl) (.head _) Bg3 hb6 (fun n => (List.forall_mem_cons.2 ⟨.inl rfl, (fun p hp => .inr ⟨(.tail _ hp), ((show Dk g3 Kb from (by (try simp only [dj_app_l, dj_app_r, dj_cons_l, dj_cons_r, dj_nil_l, dj_nil_r, dk_app, dk_cons, dk_nil, and_true, true_and, and_assoc]); repeat' (first | trivial | assumption | exact Dj.symm (by assumption) | exact Ne.symm (by assumption) | apply And.intro))) _ hp)⟩)⟩))) (fun _ => by simp only [List.setIfInBounds_toArray, List.set_cons_succ, List.set_cons_zero] <;> rfl) ?_
            rintro _ K9 ⟨r7, n7, rfl, rfl, hr7⟩
            have mbb6 := all_at rm2 hb6
            refine lm (v := .bool true) rfl rfl ?_
            refine wpL_done (fun W12 hW12 => ?_)
            obtain rfl := rn_one hr7 (low_of_may mbb6)
            have rqb6 := low_may hr7 mbb6
            refine (show Code.wp _ _ _ _ _ from ?_)
            refine wp_seq ?_
            refine wp_cond_true rfl ?_
            refine wp_skip ?_
            refine (show Code.wp _ _ _ _ _ from ?_)
            refine wp_block ?_
            refine wp_seq ?_
            refine wp_region_L (W0 := (W0 : Base)) ((g3, .stringIter ⟨y2.toArray⟩ (m + 1)) :: Kb) (hW12) ?_
            refine lm (v := .int .i32 ((r7 : Nat) : Int)) rfl rfl ?_
            refine lm (v := .int .i32 ((r7 : Nat) : Int)) rfl rfl ?_
            refine wpL_done (fun W13 hW13 => ?_)
            refine (show Code.wp _ _ _ _ _ from ?_)
            refine wp_seq ?_
            refine wp_seq ?_
            refine wp_region_L (W0 := (W0 : Base)) ((g3, .stringIter ⟨y2.toArray⟩ (m + 1)) :: Kb) (hW13) ?_
            refine lm (v := .int .i32 ((r7 : Nat) : Int)) rfl rfl ?_
            refine lv (v := .bool (svc b6)) rfl rfl (yb_call (f := 49) (args := #[.int .i32 ((r7 : Nat) : Int)]) (fun _ => by kernel_rfl) fun W hW => isService_any b6 r7 _ hr7 W) ?_
            refine wpL_done (fun W14 hW14 => ?_)
            refine (show Code.wp _ _ _ _ _ from ?_)
            cases h4 : (svc b6) with
            | false =>
              refine wp_cond_false rfl ?_
              refine wp_skip ?_
              refine (show Code.wp _ _ _ _ _ from ?_)
              refine wp_region_L (W0 := (W0 : Base)) ((g3, .stringIter ⟨y2.toArray⟩ (m + 1)) :: Kb) (hW14) ?_
              refine lm (v := vb) rfl rfl ?_
              refine lm (v := .int .i32 ((r7 : Nat) : Int)) rfl rfl ?_
              refine lp (v := .int .u8 ((r7 : Nat) : Int)) rfl rfl (run_conv rfl (vx := (.int .i32 ((r7 : Nat) : Int))) (by kernel_rfl) fun w => cv_int Try.underlying21 Try.underlying5 (wr_u8 (by omega)) w) ?_
              refine wpL_new (fun g => .slice (some ⟨g, 0, none⟩) 1 1) (obi := .cells #[.int .u8 ((r7 : Nat) : Int)] 5 (0, 0)) rfl rfl (fun _ => by kernel_rfl) (fun _ => by simp only [List.setIfInBounds_toArray, List.set_cons_succ, List.set_cons_zero] <;> rfl) fun g8 Bg8 Fg8 => ?_
              obtain ⟨dj9_0, dj9_1⟩ : g3 ≠ g8 ∧ Dk g8 Kb := by simpa only [dj_app_l, dj_app_r, dj_cons_l, dj_cons_r, dj_nil_l, dj_nil_r, dk_app, dk_cons, dk_nil, and_true, true_and, and_assoc] using (show Dk g8 ((g3, .stringIter ⟨y2.toArray⟩ (m + 1)) :: Kb) from Fg8)
              refine wpL_g (AppO (W0 : Base) 5 1 [(g3, .stringIter ⟨y2.toArray⟩ (m + 1))] (ob.length + 1) ((u8s ob) ++ [.int .u8 ((r7 : Nat) : Int)])) rfl rfl (app_own el_byteM (m := 1) (c := 1) (news := [.int .u8 ((r7 : Nat) : Int)]) rfl (by kernel_rfl) (by kernel_rfl) (.head _) hOb (fun p hp => by simp only [List.mem_cons, List.mem_append, List.nil_append, List.not_mem_nil, or_assoc, or_false, false_or, hp, or_true, true_or]) (fun p hp => ⟨by simp only [List.mem_cons, List.mem_append, List.nil_append, List.not_mem_nil, or_assoc, or_false, false_or] at hp ⊢ <;> grind, (show Dj [(g3, .stringIter ⟨y2.toArray⟩ (m + 1))] Kb from (by (try simp only [dj_app_l, dj_app_r, dj_cons_l, dj_cons_r, dj_nil_l, dj_nil_r, dk_app, dk_cons, dk_nil, and_true, true_and, and_assoc]); repeat' (first | trivial | assumption | exact Dj.symm (by assumption) | exact Ne.symm (by assumption) | apply And.intro))) p hp⟩) rfl (by simp [strV, Value.oneCell']) (by omega) (by omega) (by omega)) (fun _ => by simp only [List.setIfInBounds_toArray, List.set_cons_succ, List.set_cons_zero] <;> rfl) ?_
              rintro v10 K9 ⟨Kl10, O10, N10, rfl⟩
              obtain dj11_0 : Dk g3 Kl10 := by simpa only [dj_app_l, dj_app_r, dj_cons_l, dj_cons_r, dj_nil_l, dj_nil_r, dk_app, dk_cons, dk_nil, and_true, true_and, and_assoc] using (show Dj [(g3, .stringIter ⟨y2.toArray⟩ (m + 1))] Kl10 from N10)
              refine lm (v := v10) rfl rfl ?_
              refine wpL_done (fun W15 hW15 => ?_)
              go_roundw
              case rel =>
                repeat apply Exists.intro
                exact ⟨⟨(m + 1), (ob ++ [b6]), v10, Kl10, (by omega), (by rw [hob, relC_one hb6, if_neg (by rw [h4]; simp)]; simp), (by simp; omega), (own_b1 O10 (by simp) (by simp [u8s, rqb6])), (show Dk g3 Kl10 from (by (try simp only [dj_app_l, dj_app_r, dj_cons_l, dj_cons_r, dj_nil_l, dj_nil_r, dk_app, dk_cons, dk_nil, and_true, true_and, and_assoc]); repeat' (first | trivial | assumption | exact Dj.symm (by assumption) | exact Ne.symm (by assumption) | apply And.intro))), rfl, (hW15.sub (fun p hp => by first | exact hp | (simp only [List.mem_cons, List.mem_append, List.nil_append, List.not_mem_nil, or_assoc, or_false, false_or, List.cons_append, List.append_assoc] at hp ⊢ <;> grind)))⟩, rfl⟩
              case measure => have e1 := iterPos_of (hL9.2 _ (.head _)); have e2 := iterPos_of (hW15.2 _ (.head _)); rw [e1, e2]; omega
            | true =>
              refine wp_cond_true rfl ?_
              refine wp_region_L (W0 := (W0 : Base)) ((g3, .stringIter ⟨y2.toArray⟩ (m + 1)) :: Kb) (hW14) ?_
              refine lm (v := vb) rfl rfl ?_
              refine wpL_new (fun g => .slice (some ⟨g, 0, none⟩) 1 1) (obi := .cells #[.int .u8 63] 5 (0, 0)) rfl rfl (fun _ => by kernel_rfl) (fun _ => by simp only [List.setIfInBounds_toArray, List.set_cons_succ, List.set_cons_zero] <;> rfl) fun g12 Bg12 Fg12 => ?_
              obtain ⟨dj13_0, dj13_1⟩ : g3 ≠ g12 ∧ Dk g12 Kb := by simpa only [dj_app_l, dj_app_r, dj_cons_l, dj_cons_r, dj_nil_l, dj_nil_r, dk_app, dk_cons, dk_nil, and_true, true_and, and_assoc] using (show Dk g12 ((g3, .stringIter ⟨y2.toArray⟩ (m + 1)) :: Kb) from Fg12)
              refine wpL_g (AppO (W0 : Base) 5 1 [(g3, .stringIter ⟨y2.toArray⟩ (m + 1))] (ob.length + 1) ((u8s ob) ++ [.int .u8 63])) rfl rfl (app_own el_byteM (m := 1) (c := 1) (news := [.int .u8 63]) rfl (by kernel_rfl) (by kernel_rfl) (.head _) hOb (fun p hp => by simp only [List.mem_cons, List.mem_append, List.nil_append, List.not_mem_nil, or_assoc, or_false, false_or, hp, or_true, true_or]) (fun p hp => ⟨by simp only [List.mem_cons, List.mem_append, List.nil_append, List.not_mem_nil, or_assoc, or_false, false_or] at hp ⊢ <;> grind, (show Dj [(g3, .stringIter ⟨y2.toArray⟩ (m + 1))] Kb from (by (try simp only [dj_app_l, dj_app_r, dj_cons_l, dj_cons_r, dj_nil_l, dj_nil_r, dk_app, dk_cons, dk_nil, and_true, true_and, and_assoc]); repeat' (first | trivial | assumption | exact Dj.symm (by assumption) | exact Ne.symm (by assumption) | apply And.intro))) p hp⟩) rfl (by simp [strV, Value.oneCell']) (by omega) (by omega) (by omega)) (fun _ => by simp only [List.setIfInBounds_toArray, List.set_cons_succ, List.set_cons_zero] <;> rfl) ?_
              rintro v14 K9 ⟨Kl14, O14, N14, rfl⟩
              obtain dj15_0 : Dk g3 Kl14 := by simpa only [dj_app_l, dj_app_r, dj_cons_l, dj_cons_r, dj_nil_l, dj_nil_r, dk_app, dk_cons, dk_nil, and_true, true_and, and_assoc] using (show Dj [(g3, .stringIter ⟨y2.toArray⟩ (m + 1))] Kl14 from N14)
              refine lm (v := v14) rfl rfl ?_
              refine wpL_done (fun W16 hW16 => ?_)
              refine (show Code.wp _ _ _ _ _ from ?_)
              refine wp_region_L (W0 := (W0 : Base)) ((g3, .stringIter ⟨y2.toArray⟩ (m + 1)) :: Kl14) (hW16) ?_
              refine lm (v := v14) rfl rfl ?_
              refine lm (v := .int .i32 ((r7 : Nat) : Int)) rfl rfl ?_
              refine lp (v := .int .u8 ((r7 : Nat) : Int)) rfl rfl (run_conv rfl (vx := (.int .i32 ((r7 : Nat) : Int))) (by kernel_rfl) fun w => cv_int Try.underlying21 Try.underlying5 (wr_u8 (by omega)) w) ?_
              refine wpL_new (fun g => .slice (some ⟨g, 0, none⟩) 1 1) (obi := .cells #[.int .u8 ((r7 : Nat) : Int)] 5 (0, 0)) rfl rfl (fun _ => by kernel_rfl) (fun _ => by simp only [List.setIfInBounds_toArray, List.set_cons_succ, List.set_cons_zero] <;> rfl) fun g16 Bg16 Fg16 => ?_
              obtain ⟨dj17_0, dj17_1⟩ : g3 ≠ g16 ∧ Dk g16 Kl14 := by simpa only [dj_app_l, dj_app_r, dj_cons_l, dj_cons_r, dj_nil_l, dj_nil_r, dk_app, dk_cons, dk_nil, and_true, true_and, and_assoc] using (show Dk g16 ((g3, .stringIter ⟨y2.toArray⟩ (m + 1)) :: Kl14) from Fg16)
              refine wpL_g (AppO (W0 : Base) 5 1 [(g3, .stringIter ⟨y2.toArray⟩ (m + 1))] ((ob.length + 1) + 1) (((u8s ob) ++ [.int .u8 63]) ++ [.int .u8 ((r7 : Nat) : Int)])) rfl rfl (app_own el_byteM (m := 1) (c := 1) (news := [.int .u8 ((r7 : Nat) : Int)]) rfl (by kernel_rfl) (by kernel_rfl) (.head _) O14 (fun p hp => by simp only [List.mem_cons, List.mem_append, List.nil_append, List.not_mem_nil, or_assoc, or_false, false_or, hp, or_true, true_or]) (fun p hp => ⟨by simp only [List.mem_cons, List.mem_append, List.nil_append, List.not_mem_nil, or_assoc, or_false, false_or] at hp ⊢ <;> grind, (show Dj [(g3, .stringIter ⟨y2.toArray⟩ (m + 1))] Kl14 from (by (try simp only [dj_app_l, dj_app_r, dj_cons_l, dj_cons_r, dj_nil_l, dj_nil_r, dk_app, dk_cons, dk_nil, and_true, true_and, and_assoc]); repeat' (first | trivial | assumption | exact Dj.symm (by assumption) | exact Ne.symm (by assumption) | apply And.intro))) p hp⟩) rfl (by simp [strV, Value.oneCell']) (by omega) (by omega) (by omega)) (fun _ => by simp only [List.setIfInBounds_toArray, List.set_cons_succ, List.set_cons_zero] <;> rfl) ?_
              rintro v18 K9 ⟨Kl18, O18, N18, rfl⟩
              obtain dj19_0 : Dk g3 Kl18 := by simpa only [dj_app_l, dj_app_r, dj_cons_l, dj_cons_r, dj_nil_l, dj_nil_r, dk_app, dk_cons, dk_nil, and_true, true_and, and_assoc] using (show Dj [(g3, .stringIter ⟨y2.toArray⟩ (m + 1))] Kl18 from N18)
              refine lm (v := v18) rfl rfl ?_
              refine wpL_done (fun W17 hW17 => ?_)
              go_roundw
              case rel =>
                repeat apply Exists.intro
                exact ⟨⟨(m + 1), (ob ++ [63] ++ [b6]), v18, Kl18, (by omega), (by rw [hob, relC_one hb6, if_pos h4]; simp), (by simp; omega), (own_b1 O18 (by simp) (by simp [u8s, rqb6])), (show Dk g3 Kl18 from (by (try simp only [dj_app_l, dj_app_r, dj_cons_l, dj_cons_r, dj_nil_l, dj_nil_r, dk_app, dk_cons, dk_nil, and_true, true_and, and_assoc]); repeat' (first | trivial | assumption | exact Dj.symm (by assumption) | exact Ne.symm (by assumption) | apply And.intro))), rfl, (hW17.sub (fun p hp => by first | exact hp | (simp only [List.mem_cons, List.mem_append, List.nil_append, List.not_mem_nil, or_assoc, or_false, false_or, List.cons_append, List.append_assoc] at hp ⊢ <;> grind)))⟩, rfl⟩
              case measure => have e1 := iterPos_of (hL9.2 _ (.head _)); have e2 := iterPos_of (hW17.2 _ (.head _)); rw [e1, e2]; omega
      | true =>
        have h2 : 0 < k := of_decide_eq_true hd2
        clear hd2
        refine wp_cond_true rfl ?_
        refine wp_region_L (W0 := (W0 : Base)) Ka (hW7) ?_
        refine lm (v := va) rfl rfl ?_
        refine wpL_new (fun g => .slice (some ⟨g, 0, none⟩) 1 1) (obi := .cells #[.int .u8 58] 5 (0, 0)) rfl rfl (fun _ => by kernel_rfl) (fun _ => by simp only [List.setIfInBounds_toArray, List.set_cons_succ, List.set_cons_zero] <;> rfl) fun g20 Bg20 Fg20 => ?_
        obtain dj21_0 : Dk g20 Ka := by simpa only [dj_app_l, dj_app_r, dj_cons_l, dj_cons_r, dj_nil_l, dj_nil_r, dk_app, dk_cons, dk_nil, and_true, true_and, and_assoc] using (show Dk g20 Ka from Fg20)
        refine wpL_g (AppO (W0 : Base) 5 1 [] (oa.length + 1) ((u8s oa) ++ [.int .u8 58])) rfl rfl (app_own el_byteM (m := 1) (c := 1) (news := [.int .u8 58]) rfl (by kernel_rfl) (by kernel_rfl) (.head _) hOa (fun p hp => by simp only [List.mem_cons, List.mem_append, List.nil_append, List.not_mem_nil, or_assoc, or_false, false_or, hp, or_true, true_or]) (fun _ h => by cases h) rfl (by simp [strV, Value.oneCell']) (by omega) (by omega) (by omega)) (fun _ => by simp only [List.setIfInBounds_toArray, List.set_cons_succ, List.set_cons_zero] <;> rfl) ?_
        rintro v22 Kl22 ⟨_, O22, N22, rfl⟩
        refine lm (v := v22) rfl rfl ?_
        refine wpL_done (fun W18 hW18 => ?_)
        refine (show Code.wp _ _ _ _ _ from ?_)
        refine wp_seq ?_
        refine wp_region_L (W0 := (W0 : Base)) Kl22 (hW18) ?_
        refine lm (v := strV y2) rfl rfl ?_
        refine wpL_new (fun g => .pointer (some ⟨g, 0, none⟩)) (obi := .stringIter ⟨y2.toArray⟩ 0) rfl rfl (rg_str (l := y2) rfl Try.underlying9 (by kernel_rfl)) (fun _ => by simp only [List.setIfInBounds_toArray, List.set_cons_succ, List.set_cons_zero] <;> rfl) fun g23 Bg23 Fg23 => ?_
        obtain dj24_0 : Dk g23 Kl22 := by simpa only [dj_app_l, dj_app_r, dj_cons_l, dj_cons_r, dj_nil_l, dj_nil_r, dk_app, dk_cons, dk_nil, and_true, true_and, and_assoc] using (show Dk g23 Kl22 from Fg23)
        refine wpL_done (fun W19 hW19 => ?_)
        refine (show Code.wp _ _ _ _ _ from ?_)
        refine wp_block ?_
        have rc2 := all_at hR hy2
        have cl2 := cmp_len rc2
        have rm2 : y2.all may = true := by unfold rightC at rc2; simp only [Bool.and_eq_true] at rc2; exact rc2.2
        have rl2 := relC_le y2
        obtain ⟨oc, oc_eq0⟩ : ∃ oc, oc = (oa ++ [58]) := ⟨_, rfl⟩
        have oc_eq : oc = oa ++ (if 0 < k then [58] else []) := by rw [oc_eq0]; simp [h2]
        have loc : oc.length ≤ oa.length + 1 := by rw [oc_eq0]; simp
        go_loopw [0] (fun u0 wr => ∃ (m : Nat) (ob : List UInt8) (vb : Value) (Kb : List (Nat × Obj)), (m ≤ y2.length) ∧ (ob = oc ++ relC (y2.take m)) ∧ (ob.length ≤ oc.length + 2 * m) ∧ (OwnL (W0 : Base) 5 1 vb ob.length (u8s ob) Kb) ∧ (Dk g23 Kb) ∧ vb = u0 ∧ KS (W0 : Base) ((g23, .stringIter ⟨y2.toArray⟩ m) :: Kb) wr) (fun _ wz => y2.length - World.iterPos wz g23)
        case atStart => exact ⟨0, oc, v22, Kl22, (Nat.zero_le _), (by simp [relC]), (Nat.le_refl _), (own_b1 (p := oc) O22 (by rw [oc_eq0]; simp) (by rw [oc_eq0]; simp [u8s])), (show Dk g23 Kl22 from (by (try simp only [dj_app_l, dj_app_r, dj_cons_l, dj_cons_r, dj_nil_l, dj_nil_r, dk_app, dk_cons, dk_nil, and_true, true_and, and_assoc]); repeat' (first | trivial | assumption | exact Dj.symm (by assumption) | exact Ne.symm (by assumption) | apply And.intro))), rfl, (hW19.sub (fun p hp => by first | exact hp | (simp only [List.mem_cons, List.mem_append, List.nil_append, List.not_mem_nil, or_assoc, or_false, false_or, List.cons_append, List.append_assoc] at hp ⊢ <;> grind)))⟩
        case round =>
          obtain ⟨m, ob, vb, Kb, hm, hob, lob, hOb, dh25_0, rfl, hL20⟩ := hrel
          refine wp_seq ?_
          refine wp_region_L (W0 := (W0 : Base)) ((g23, .stringIter ⟨y2.toArray⟩ m) :: Kb) (hL20) ?_
          cases hd5 : (decide (m < y2.length)) with
          | false =>
            have h5 : ¬ (m < y2.length) := of_decide_eq_false hd5
            clear hd5
            refine lv (v := .tuple #[.bool false]) rfl rfl (nx_end (l := y2) (k := m) rfl (by kernel_rfl) (.head _) h5) ?_
            refine lm (v := .bool false) rfl rfl ?_
            refine wpL_done (fun W21 hW21 => ?_)
            refine (show Code.wp _ _ _ _ _ from ?_)
            refine wp_seq ?_
            refine wp_cond_false rfl ?_
            refine wp_exit ?_
            refine (show Code.wp _ _ _ _ _ from ?_)
            refine wp_region_L (W0 := (W0 : Base)) ((g23, .stringIter ⟨y2.toArray⟩ m) :: Kb) (hW21) ?_
            refine lp (v := .int .i64 (((k + 1) : Nat) : Int)) rfl rfl (run_bin rfl (vx := (.int .i64 ((k : Nat) : Int))) (vy := (.int .i64 ((1 : Nat) : Int))) (by kernel_rfl) (by kernel_rfl) fun w => bn_add (z := (k + 1)) rfl (wr_i64 (by omega)) w) ?_
            refine lm (v := .int .i64 (((k + 1) : Nat) : Int)) rfl rfl ?_
            refine wpL_done (fun W22 hW22 => ?_)
            go_roundw
            case rel =>
              repeat apply Exists.intro
              exact ⟨⟨(k + 1), ob, vb, Kb, (by omega), (by rw [hob, List.take_of_length_le (by omega), oc_eq, hoa, wrE_step hy2]; simp), (by first | omega | (simp only [List.length_append, List.length_cons, List.length_nil]; omega)), hOb, rfl, rfl, (hW22.sub (fun p hp => by first | exact hp | (simp only [List.mem_cons, List.mem_append, List.nil_append, List.not_mem_nil, or_assoc, or_false, false_or, List.cons_append, List.append_assoc] at hp ⊢ <;> grind)))⟩, rfl⟩
            case measure => (show e.length - (intOf (.int .i64 (((k + 1) : Nat) : Int))).toNat < e.length - (intOf (.int .i64 ((k : Nat) : Int))).toNat); simp only [intOf]; omega
          | true =>
            have h5 : m < y2.length := of_decide_eq_true hd5
            clear hd5
            obtain ⟨b26, hb26⟩ : ∃ b, (y2 : List UInt8)[m]? = some b := ⟨_, List.getElem?_eq_getElem (by omega)⟩
            have lb26 := b26.toNat_lt
            refine wpL_g (NxO y2 m b26 (fun n => ((g23, .stringIter ⟨y2.toArray⟩ (m + n)) :: Kb))) rfl rfl (nx_some (Kf := fun n => ((g23, .stringIter ⟨y2.toArray⟩ (m + n)) :: Kb)) rfl (by kernel_rfl) (.head _) Bg23 hb26 (fun n => (List.forall_mem_cons.2 ⟨.inl rfl, (fun p hp => .inr ⟨(.tail _ hp), ((show Dk g23 Kb from (by (try simp only [dj_app_l, dj_app_r, dj_cons_l, dj_cons_r, dj_nil_l, dj_nil_r, dk_app, dk_cons, dk_nil, and_true, true_and, and_assoc]); repeat' (first | trivial | assumption | exact Dj.symm (by assumption) | exact Ne.symm (by assumption) | apply And.intro))) _ hp)⟩)⟩))) (fun _ => by simp only [List.setIfInBounds_toArray, List.set_cons_succ, List.set_cons_zero] <;> rfl) ?_
            rintro _ K9 ⟨r27, n27, rfl, rfl, hr27⟩
            have mbb26 := all_at rm2 hb26
            refine lm (v := .bool true) rfl rfl ?_
            refine wpL_done (fun W23 hW23 => ?_)
            obtain rfl := rn_one hr27 (low_of_may mbb26)
            have rqb26 := low_may hr27 mbb26
            refine (show Code.wp _ _ _ _ _ from ?_)
            refine wp_seq ?_
            refine wp_cond_true rfl ?_
            refine wp_skip ?_
            refine (show Code.wp _ _ _ _ _ from ?_)
            refine wp_block ?_
            refine wp_seq ?_
            refine wp_region_L (W0 := (W0 : Base)) ((g23, .stringIter ⟨y2.toArray⟩ (m + 1)) :: Kb) (hW23) ?_
            refine lm (v := .int .i32 ((r27 : Nat) : Int)) rfl rfl ?_
            refine lm (v := .int .i32 ((r27 : Nat) : Int)) rfl rfl ?_
            refine wpL_done (fun W24 hW24 => ?_)
            refine (show Code.wp _ _ _ _ _ from ?_)
            refine wp_seq ?_
            refine wp_seq ?_
            refine wp_region_L (W0 := (W0 : Base)) ((g23, .stringIter ⟨y2.toArray⟩ (m + 1)) :: Kb) (hW24) ?_
            refine lm (v := .int .i32 ((r27 : Nat) : Int)) rfl rfl ?_
            refine lv (v := .bool (svc b26)) rfl rfl (yb_call (f := 49) (args := #[.int .i32 ((r27 : Nat) : Int)]) (fun _ => by kernel_rfl) fun W hW => isService_any b26 r27 _ hr27 W) ?_
            refine wpL_done (fun W25 hW25 => ?_)
            refine (show Code.wp _ _ _ _ _ from ?_)
            cases h6 : (svc b26) with
            | false =>
              refine wp_cond_false rfl ?_
              refine wp_skip ?_
              refine (show Code.wp _ _ _ _ _ from ?_)
              refine wp_region_L (W0 := (W0 : Base)) ((g23, .stringIter ⟨y2.toArray⟩ (m + 1)) :: Kb) (hW25) ?_
              refine lm (v := vb) rfl rfl ?_
              refine lm (v := .int .i32 ((r27 : Nat) : Int)) rfl rfl ?_
              refine lp (v := .int .u8 ((r27 : Nat) : Int)) rfl rfl (run_conv rfl (vx := (.int .i32 ((r27 : Nat) : Int))) (by kernel_rfl) fun w => cv_int Try.underlying21 Try.underlying5 (wr_u8 (by omega)) w) ?_
              refine wpL_new (fun g => .slice (some ⟨g, 0, none⟩) 1 1) (obi := .cells #[.int .u8 ((r27 : Nat) : Int)] 5 (0, 0)) rfl rfl (fun _ => by kernel_rfl) (fun _ => by simp only [List.setIfInBounds_toArray, List.set_cons_succ, List.set_cons_zero] <;> rfl) fun g28 Bg28 Fg28 => ?_
              obtain ⟨dj29_0, dj29_1⟩ : g23 ≠ g28 ∧ Dk g28 Kb := by simpa only [dj_app_l, dj_app_r, dj_cons_l, dj_cons_r, dj_nil_l, dj_nil_r, dk_app, dk_cons, dk_nil, and_true, true_and, and_assoc] using (show Dk g28 ((g23, .stringIter ⟨y2.toArray⟩ (m + 1)) :: Kb) from Fg28)
              refine wpL_g (AppO (W0 : Base) 5 1 [(g23, .stringIter ⟨y2.toArray⟩ (m + 1))] (ob.length + 1) ((u8s ob) ++ [.int .u8 ((r27 : Nat) : Int)])) rfl rfl (app_own el_byteM (m := 1) (c := 1) (news := [.int .u8 ((r27 : Nat) : Int)]) rfl (by kernel_rfl) (by kernel_rfl) (.head _) hOb (fun p hp => by simp only [List.mem_cons, List.mem_append, List.nil_append, List.not_mem_nil, or_assoc, or_false, false_or, hp, or_true, true_or]) (fun p hp => ⟨by simp only [List.mem_cons, List.mem_append, List.nil_append, List.not_mem_nil, or_assoc, or_false, false_or] at hp ⊢ <;> grind, (show Dj [(g23, .stringIter ⟨y2.toArray⟩ (m + 1))] Kb from (by (try simp only [dj_app_l, dj_app_r, dj_cons_l, dj_cons_r, dj_nil_l, dj_nil_r, dk_app, dk_cons, dk_nil, and_true, true_and, and_assoc]); repeat' (first | trivial | assumption | exact Dj.symm (by assumption) | exact Ne.symm (by assumption) | apply And.intro))) p hp⟩) rfl (by simp [strV, Value.oneCell']) (by omega) (by omega) (by omega)) (fun _ => by simp only [List.setIfInBounds_toArray, List.set_cons_succ, List.set_cons_zero] <;> rfl) ?_
              rintro v30 K9 ⟨Kl30, O30, N30, rfl⟩
              obtain dj31_0 : Dk g23 Kl30 := by simpa only [dj_app_l, dj_app_r, dj_cons_l, dj_cons_r, dj_nil_l, dj_nil_r, dk_app, dk_cons, dk_nil, and_true, true_and, and_assoc] using (show Dj [(g23, .stringIter ⟨y2.toArray⟩ (m + 1))] Kl30 from N30)
              refine lm (v := v30) rfl rfl ?_
              refine wpL_done (fun W26 hW26 => ?_)
              go_roundw
              case rel =>
                repeat apply Exists.intro
                exact ⟨⟨(m + 1), (ob ++ [b26]), v30, Kl30, (by omega), (by rw [hob, relC_one hb26, if_neg (by rw [h6]; simp)]; simp), (by simp; omega), (own_b1 O30 (by simp) (by simp [u8s, rqb26])), (show Dk g23 Kl30 from (by (try simp only [dj_app_l, dj_app_r, dj_cons_l, dj_cons_r, dj_nil_l, dj_nil_r, dk_app, dk_cons, dk_nil, and_true, true_and, and_assoc]); repeat' (first | trivial | assumption | exact Dj.symm (by assumption) | exact Ne.symm (by assumption) | apply And.intro))), rfl, (hW26.sub (fun p hp => by first | exact hp | (simp only [List.mem_cons, List.mem_append, List.nil_append, List.not_mem_nil, or_assoc, or_false, false_or, List.cons_append, List.append_assoc] at hp ⊢ <;> grind)))⟩, rfl⟩
              case measure => have e1 := iterPos_of (hL20.2 _ (.head _)); have e2 := iterPos_of (hW26.2 _ (.head _)); rw [e1, e2]; omega
            | true =>
              refine wp_cond_true rfl ?_
              refine wp_region_L (W0 := (W0 : Base)) ((g23, .stringIter ⟨y2.toArray⟩ (m + 1)) :: Kb) (hW25) ?_
              refine lm (v := vb) rfl rfl ?_
              refine wpL_new (fun g => .slice (some ⟨g, 0, none⟩) 1 1) (obi := .cells #[.int .u8 63] 5 (0, 0)) rfl rfl (fun _ => by kernel_rfl) (fun _ => by simp only [List.setIfInBounds_toArray, List.set_cons_succ, List.set_cons_zero] <;> rfl) fun g32 Bg32 Fg32 => ?_
              obtain ⟨dj33_0, dj33_1⟩ : g23 ≠ g32 ∧ Dk g32 Kb := by simpa only [dj_app_l, dj_app_r, dj_cons_l, dj_cons_r, dj_nil_l, dj_nil_r, dk_app, dk_cons, dk_nil, and_true, true_and, and_assoc] using (show Dk g32 ((g23, .stringIter ⟨y2.toArray⟩ (m + 1)) :: Kb) from Fg32)
              refine wpL_g (AppO (W0 : Base) 5 1 [(g23, .stringIter ⟨y2.toArray⟩ (m + 1))] (ob.length + 1) ((u8s ob) ++ [.int .u8 63])) rfl rfl (app_own el_byteM (m := 1) (c := 1) (news := [.int .u8 63]) rfl (by kernel_rfl) (by kernel_rfl) (.head _) hOb (fun p hp => by simp only [List.mem_cons, List.mem_append, List.nil_append, List.not_mem_nil, or_assoc, or_false, false_or, hp, or_true, true_or]) (fun p hp => ⟨by simp only [List.mem_cons, List.mem_append, List.nil_append, List.not_mem_nil, or_assoc, or_false, false_or] at hp ⊢ <;> grind, (show Dj [(g23, .stringIter ⟨y2.toArray⟩ (m + 1))] Kb from (by (try simp only [dj_app_l, dj_app_r, dj_cons_l, dj_cons_r, dj_nil_l, dj_nil_r, dk_app, dk_cons, dk_nil, and_true, true_and, and_assoc]); repeat' (first | trivial | assumption | exact Dj.symm (by assumption) | exact Ne.symm (by assumption) | apply And.intro))) p hp⟩) rfl (by simp [strV, Value.oneCell']) (by omega) (by omega) (by omega)) (fun _ => by simp only [List.setIfInBounds_toArray, List.set_cons_succ, List.set_cons_zero] <;> rfl) ?_
              rintro v34 K9 ⟨Kl34, O34, N34, rfl⟩
              obtain dj35_0 : Dk g23 Kl34 := by simpa only [dj_app_l, dj_app_r, dj_cons_l, dj_cons_r, dj_nil_l, dj_nil_r, dk_app, dk_cons, dk_nil, and_true, true_and, and_assoc] using (show Dj [(g23, .stringIter ⟨y2.toArray⟩ (m + 1))] Kl34 from N34)
              refine lm (v := v34) rfl rfl ?_
              refine wpL_done (fun W27 hW27 => ?_)
              refine (show Code.wp _ _ _ _ _ from ?_)
              refine wp_region_L (W0 := (W0 : Base)) ((g23, .stringIter ⟨y2.toArray⟩ (m + 1)) :: Kl34) (hW27) ?_
              refine lm (v := v34) rfl rfl ?_
              refine lm (v := .int .i32 ((r27 : Nat) : Int)) rfl rfl ?_
              refine lp (v := .int .u8 ((r27 : Nat) : Int)) rfl rfl (run_conv rfl (vx := (.int .i32 ((r27 : Nat) : Int))) (by kernel_rfl) fun w => cv_int Try.underlying21 Try.underlying5 (wr_u8 (by omega)) w) ?_
              refine wpL_new (fun g => .slice (some ⟨g, 0, none⟩) 1 1) (obi := .cells #[.int .u8 ((r27 : Nat) : Int)] 5 (0, 0)) rfl rfl (fun _ => by kernel_rfl) (fun _ => by simp only [List.setIfInBounds_toArray, List.set_cons_succ, List.set_cons_zero] <;> rfl) fun g36 Bg36 Fg36 => ?_
              obtain ⟨dj37_0, dj37_1⟩ : g23 ≠ g36 ∧ Dk g36 Kl34 := by simpa only [dj_app_l, dj_app_r, dj_cons_l, dj_cons_r, dj_nil_l, dj_nil_r, dk_app, dk_cons, dk_nil, and_true, true_and, and_assoc] using (show Dk g36 ((g23, .stringIter ⟨y2.toArray⟩ (m + 1)) :: Kl34) from Fg36)
              refine wpL_g (AppO (W0 : Base) 5 1 [(g23, .stringIter ⟨y2.toArray⟩ (m + 1))] ((ob.length + 1) + 1) (((u8s ob) ++ [.int .u8 63]) ++ [.int .u8 ((r27 : Nat) : Int)])) rfl rfl (app_own el_byteM (m := 1) (c := 1) (news := [.int .u8 ((r27 : Nat) : Int)]) rfl (by kernel_rfl) (by kernel_rfl) (.head _) O34 (fun p hp => by simp only [List.mem_cons, List.mem_append, List.nil_append, List.not_mem_nil, or_assoc, or_false, false_or, hp, or_true, true_or]) (fun p hp => ⟨by simp only [List.mem_cons, List.mem_append, List.nil_append, List.not_mem_nil, or_assoc, or_false, false_or] at hp ⊢ <;> grind, (show Dj [(g23, .stringIter ⟨y2.toArray⟩ (m + 1))] Kl34 from (by (try simp only [dj_app_l, dj_app_r, dj_cons_l, dj_cons_r, dj_nil_l, dj_nil_r, dk_app, dk_cons, dk_nil, and_true, true_and, and_assoc]); repeat' (first | trivial | assumption | exact Dj.symm (by assumption) | exact Ne.symm (by assumption) | apply And.intro))) p hp⟩) rfl (by simp [strV, Value.oneCell']) (by omega) (by omega) (by omega)) (fun _ => by simp only [List.setIfInBounds_toArray, List.set_cons_succ, List.set_cons_zero] <;> rfl) ?_
              rintro v38 K9 ⟨Kl38, O38, N38, rfl⟩
              obtain dj39_0 : Dk g23 Kl38 := by simpa only [dj_app_l, dj_app_r, dj_cons_l, dj_cons_r, dj_nil_l, dj_nil_r, dk_app, dk_cons, dk_nil, and_true, true_and, and_assoc] using (show Dj [(g23, .stringIter ⟨y2.toArray⟩ (m + 1))] Kl38 from N38)
              refine lm (v := v38) rfl rfl ?_
              refine wpL_done (fun W28 hW28 => ?_)
              go_roundw
              case rel =>
                repeat apply Exists.intro
                exact ⟨⟨(m + 1), (ob ++ [63] ++ [b26]), v38, Kl38, (by omega), (by rw [hob, relC_one hb26, if_pos h6]; simp), (by simp; omega), (own_b1 O38 (by simp) (by simp [u8s, rqb26])), (show Dk g23 Kl38 from (by (try simp only [dj_app_l, dj_app_r, dj_cons_l, dj_cons_r, dj_nil_l, dj_nil_r, dk_app, dk_cons, dk_nil, and_true, true_and, and_assoc]); repeat' (first | trivial | assumption | exact Dj.symm (by assumption) | exact Ne.symm (by assumption) | apply And.intro))), rfl, (hW28.sub (fun p hp => by first | exact hp | (simp only [List.mem_cons, List.mem_append, List.nil_append, List.not_mem_nil, or_assoc, or_false, false_or, List.cons_append, List.append_assoc] at hp ⊢ <;> grind)))⟩, rfl⟩
              case measure => have e1 := iterPos_of (hL20.2 _ (.head _)); have e2 := iterPos_of (hW28.2 _ (.head _)); rw [e1, e2]; omega
end Go.Proofs.Ytppegdbelgobiaa
namespace Go.Proofs.Ytppegdbelgobiaa
open Go Go.RowKit Tw
set_option maxRecDepth 100000 in
set_option maxHeartbeats 4000000 in
theorem appS_any {W0 : World} {v : Value} {o : List UInt8} {Ko : List (Nat × Obj)} {A : Sgm} {pA : Option Addr} {cA : Nat} (hO : OwnL (W0 : Base) 5 1 v o.length (u8s o) Ko) (lo : o.length ≤ 70000) (hA : LVp TxR W0 pA A) (hR : rightS A = true) (w : World) (hw : KS (W0 : Base) Ko w) : Calls Try.prog 24 #[v, .slice pA A.length cA] w fun ez wz => ∃ v' K', ez = .returned v' ∧ KS (W0 : Base) K' wz ∧ OwnL (W0 : Base) 5 1 v' (o ++ wrS A).length (u8s (o ++ wrS A)) K' := by
  have HA := Lib.hid hA
  clear hA
  obtain ⟨ra, rn⟩ := right_all hR
  have rn1 : 1 ≤ A.length := by unfold rightS at hR; simp only [Bool.and_eq_true, decide_eq_true_eq] at hR; omega
  go_enter Try.func24, Try.ntmps24
  refine wp_seq ?_
  refine wp_region_L (W0 := (W0 : Base)) Ko (hw) ?_
  refine lm (v := .slice none 0 0) rfl rfl ?_
  refine wpL_done (fun W1 hW1 => ?_)
  refine (show Code.wp _ _ _ _ _ from ?_)
  refine wp_seq ?_
  refine wp_seq ?_
  refine wp_region_L (W0 := (W0 : Base)) Ko (hW1) ?_
  refine lm (v := .slice pA A.length cA) rfl rfl ?_
  obtain ⟨y1, p1, c1, b1, f1, hy1, HY1, hp1, lt1, hc1⟩ := lvp_lst (k := 0) HA.out (by omega)
  have HY1 := Lib.hid HY1
  refine lp (v := .pointer (some ⟨b1, f1 + 0 * 1, none⟩)) rfl rfl (run_idxQ (p := pA) (cap := cA) (n := A.length) (j := .i64) (k := 0) (sz := 1) rfl Try.underlying37 (by kernel_rfl) (by kernel_rfl) hp1 (by kernel_rfl) (by omega)) ?_
  obtain ⟨ez1, en1⟩ := elt_all (all_at ra hy1)
  have el1 : 1 ≤ y1.length := (by have z := all_at ra hy1; unfold rightE at z; simp only [Bool.and_eq_true, decide_eq_true_eq] at z; omega)
  refine lv (v := .slice p1 y1.length c1) rfl rfl (yb_old (off := f1 + 0 * 1) rfl (by kernel_rfl) hc1 lt1 Try.underlying43 rfl) ?_
  obtain ⟨y2, b2, f2, hy2, hp2, lt2, hc2⟩ := lvp_str (k := 0) HY1.out (by omega)
  refine lp (v := .pointer (some ⟨b2, f2 + 0 * 1, none⟩)) rfl rfl (run_idxQ (p := p1) (cap := c1) (n := y1.length) (j := .i64) (k := 0) (sz := 1) rfl Try.underlying43 (by kernel_rfl) (by kernel_rfl) hp2 (by kernel_rfl) (by omega)) ?_
  have cl2 := cmp_len (all_at ez1 hy2)
  refine lv (v := strV y2) rfl rfl (yb_old (off := f2 + 0 * 1) rfl (by kernel_rfl) hc2 lt2 Try.underlying9 rfl) ?_
  refine lv (v := .bool (blank y2)) rfl rfl (yb_call (f := 28) (args := #[strV y2, strV [32]]) (fun _ => by kernel_rfl) fun W hW => hpA_any y2 (by omega) W) ?_
  refine wpL_done (fun W2 hW2 => ?_)
  refine (show Code.wp _ _ _ _ _ from ?_)
  cases h1 : (blank y2) with
  | false =>
    refine wp_cond_false rfl ?_
    refine wp_skip ?_
    refine (show Code.wp _ _ _ _ _ from ?_)
    refine wp_seq ?_
    refine wp_seq ?_
    refine wp_region_L (W0 := (W0 : Base)) Ko (hW2) ?_
    refine lm (v := .slice pA A.length cA) rfl rfl ?_
    refine lp (v := .int .i64 ((A.length : Nat) : Int)) rfl rfl (run_lenL (p := pA) (cap := cA) (n := A.length) rfl Try.underlying37 (by kernel_rfl)) ?_
    refine lm (v := .int .i64 0) rfl rfl ?_
    refine wpL_done (fun W3 hW3 => ?_)
    refine (show Code.wp _ _ _ _ _ from ?_)
    refine wp_block ?_
    obtain ⟨op, op_eq0⟩ : ∃ op, op = o := ⟨_, rfl⟩
    have op_eq : op = o ++ (if blank y2 = true then [63] else []) := by rw [op_eq0, if_neg (by rw [h1]; simp), List.append_nil]
    have lop : op.length ≤ o.length + 1 := by rw [op_eq0]; omega
    go_loopw [0, 18] (fun u0 u18 wr => ∃ (k : Nat) (oa : List UInt8) (va : Value) (Ka : List (Nat × Obj)), (k ≤ A.length) ∧ (oa = op ++ joinE (A.take k)) ∧ (oa.length ≤ op.length + 2012 * k) ∧ (OwnL (W0 : Base) 5 1 va oa.length (u8s oa) Ka) ∧ va = u0 ∧ u18 = .int .i64 ((k : Nat) : Int) ∧ KS (W0 : Base) Ka wr) (fun _ u18 _ => A.length - (intOf u18).toNat)
    case atStart => exact ⟨0, op, v, Ko, (Nat.zero_le _), (by simp [joinE]), (Nat.le_refl _), (by rw [op_eq0]; exact hO), rfl, rfl, (hW3.sub (fun p hp => by first | exact hp | (simp only [List.mem_cons, List.mem_append, List.nil_append, List.not_mem_nil, or_assoc, or_false, false_or, List.cons_append, List.append_assoc] at hp ⊢ <;> grind)))⟩
    case round =>
      obtain ⟨k, oa, va, Ka, hk, hoa, loa, hOa, rfl, rfl, hL4⟩ := hrel
      refine wp_seq ?_
      refine wp_region_L (W0 := (W0 : Base)) Ka (hL4) ?_
      refine lp (v := .bool (decide (k < A.length))) rfl rfl (run_bin rfl (vx := (.int .i64 ((k : Nat) : Int))) (vy := (.int .i64 ((A.length : Nat) : Int))) (by kernel_rfl) (by kernel_rfl) fun w => bn_lss rfl w) ?_
      refine wpL_done (fun W5 hW5 => ?_)
      refine (show Code.wp _ _ _ _ _ from ?_)
      refine wp_seq ?_
      cases hd2 : (decide (k < A.length)) with
      | false =>
        have h2 : ¬ (k < A.length) := of_decide_eq_false hd2
        clear hd2
        refine wp_cond_false rfl ?_
        refine wp_exit ?_
        refine (show Code.wp _ _ _ _ _ from ?_)
        refine wp_seq ?_
        refine wp_region_L (W0 := (W0 : Base)) Ka (hW5) ?_
        refine lm (v := va) rfl rfl ?_
        refine wpL_new (fun g => .slice (some ⟨g, 0, none⟩) 1 1) (obi := .cells #[.int .u8 39] 5 (0, 0)) rfl rfl (fun _ => by kernel_rfl) (fun _ => by simp only [List.setIfInBounds_toArray, List.set_cons_succ, List.set_cons_zero] <;> rfl) fun g4 Bg4 Fg4 => ?_
        obtain dj5_0 : Dk g4 Ka := by simpa only [dj_app_l, dj_app_r, dj_cons_l, dj_cons_r, dj_nil_l, dj_nil_r, dk_app, dk_cons, dk_nil, and_true, true_and, and_assoc] using (show Dk g4 Ka from Fg4)
        refine wpL_g (AppO (W0 : Base) 5 1 [] (oa.length + 1) ((u8s oa) ++ [.int .u8 39])) rfl rfl (app_own el_byteM (m := 1) (c := 1) (news := [.int .u8 39]) rfl (by kernel_rfl) (by kernel_rfl) (.head _) hOa (fun p hp => by simp only [List.mem_cons, List.mem_append, List.nil_append, List.not_mem_nil, or_assoc, or_false, false_or, hp, or_true, true_or]) (fun _ h => by cases h) rfl (by simp [strV, Value.oneCell']) (by omega) (by omega) (by omega)) (fun _ => by simp only [List.setIfInBounds_toArray, List.set_cons_succ, List.set_cons_zero] <;> rfl) ?_
        rintro v6 Kl6 ⟨_, O6, N6, rfl⟩
        refine lm (v := v6) rfl rfl ?_
        refine wpL_done (fun W6 hW6 => ?_)
        refine (show Code.wp _ _ _ _ _ from ?_)
        refine wp_ret ?_
        try simp only [inBlock_ret, then_ret]
        refine bodyPost_ret (v := v6) ?_ rfl ?_
        · kernel_rfl
        · exact ⟨_, _, rfl, hW6, own_b1 (p := o ++ wrS A) O6 (by rw [wrS_join hy1 hy2, hoa, op_eq, List.take_of_length_le (by omega)]; simp <;> omega) (by rw [wrS_join hy1 hy2, hoa, op_eq, List.take_of_length_le (by omega)]; simp [u8s])⟩
      | true =>
        have h2 : k < A.length := of_decide_eq_true hd2
        clear hd2
        refine wp_cond_true rfl ?_
        refine wp_skip ?_
        refine (show Code.wp _ _ _ _ _ from ?_)
        refine wp_seq ?_
        refine wp_block ?_
        refine wp_seq ?_
        refine wp_region_L (W0 := (W0 : Base)) Ka (hW5) ?_
        refine lm (v := .int .i64 ((k : Nat) : Int)) rfl rfl ?_
        obtain ⟨y7, p7, c7, b7, f7, hy7, HY7, hp7, lt7, hc7⟩ := lvp_lst (k := k) HA.out (by omega)
        have HY7 := Lib.hid HY7
        refine lp (v := .pointer (some ⟨b7, f7 + k * 1, none⟩)) rfl rfl (run_idxQ (p := pA) (cap := cA) (n := A.length) (j := .i64) (k := k) (sz := 1) rfl Try.underlying37 (by kernel_rfl) (by kernel_rfl) hp7 (by kernel_rfl) (by omega)) ?_
        refine lv (v := .slice p7 y7.length c7) rfl rfl (yb_old (off := f7 + k * 1) rfl (by kernel_rfl) hc7 lt7 Try.underlying43 rfl) ?_
        refine lm (v := .int .i64 ((k : Nat) : Int)) rfl rfl ?_
        refine lm (v := .slice p7 y7.length c7) rfl rfl ?_
        refine wpL_done (fun W7 hW7 => ?_)
        refine (show Code.wp _ _ _ _ _ from ?_)
        refine wp_seq ?_
        refine wp_seq ?_
        refine wp_region_L (W0 := (W0 : Base)) Ka (hW7) ?_
        refine lm (v := .int .i64 ((k : Nat) : Int)) rfl rfl ?_
        refine lp (v := .bool (decide (0 < k))) rfl rfl (run_bin rfl (vx := (.int .i64 ((k : Nat) : Int))) (vy := (.int .i64 ((0 : Nat) : Int))) (by kernel_rfl) (by kernel_rfl) fun w => bn_gtr rfl w) ?_
        refine wpL_done (fun W8 hW8 => ?_)
        refine (show Code.wp _ _ _ _ _ from ?_)
        cases hd3 : (decide (0 < k)) with
        | false =>
          have h3 : ¬ (0 < k) := of_decide_eq_false hd3
          clear hd3
          refine wp_cond_false rfl ?_
          refine wp_skip ?_
          refine (show Code.wp _ _ _ _ _ from ?_)
          refine wp_region_L (W0 := (W0 : Base)) Ka (hW8) ?_
          refine lm (v := va) rfl rfl ?_
          refine lm (v := .slice p7 y7.length c7) rfl rfl ?_
          obtain ⟨ea7, en7⟩ := elt_all (all_at ra hy7)
          refine wpL_c (f := 38) (args := #[va, .slice p7 y7.length c7]) (fun v2 Kz => OwnL (W0 : Base) 5 1 v2 (oa ++ wrE y7).length (u8s (oa ++ wrE y7)) Kz) rfl (by kernel_rfl) (fun _ => (by kernel_rfl)) (fun W hW => appE_any (o := oa) (Ko := Ka) hOa (by first | omega | (simp only [List.length_append, List.length_cons, List.length_nil]; omega)) HY7.out ea7 en7 W (hW.sub (fun p hp => by first | exact hp | (simp only [List.mem_cons, List.mem_append, List.nil_append, List.not_mem_nil, or_assoc, or_false, false_or] at hp ⊢ <;> grind)))) (fun _ => by simp only [List.setIfInBounds_toArray, List.set_cons_succ, List.set_cons_zero] <;> rfl) ?_
          intro v8 Kl8 O8
          refine lm (v := v8) rfl rfl ?_
          refine wpL_done (fun W9 hW9 => ?_)
          refine (show Code.wp _ _ _ _ _ from ?_)
          refine wp_region_L (W0 := (W0 : Base)) Kl8 (hW9) ?_
          refine lp (v := .int .i64 (((k + 1) : Nat) : Int)) rfl rfl (run_bin rfl (vx := (.int .i64 ((k : Nat) : Int))) (vy := (.int .i64 ((1 : Nat) : Int))) (by kernel_rfl) (by kernel_rfl) fun w => bn_add (z := (k + 1)) rfl (wr_i64 (by omega)) w) ?_
          refine lm (v := .int .i64 (((k + 1) : Nat) : Int)) rfl rfl ?_
          refine wpL_done (fun W10 hW10 => ?_)
          go_roundw
          case rel =>
            repeat apply Exists.intro
            exact ⟨⟨(k + 1), (oa ++ wrE y7), v8, Kl8, (by omega), (by rw [hoa, joinE_step hy7]; simp [h3]), (by have z := wrE_le ea7; simp only [List.length_append, List.length_cons, List.length_nil]; omega), O8, rfl, rfl, (hW10.sub (fun p hp => by first | exact hp | (simp only [List.mem_cons, List.mem_append, List.nil_append, List.not_mem_nil, or_assoc, or_false, false_or, List.cons_append, List.append_assoc] at hp ⊢ <;> grind)))⟩, rfl⟩
          case measure => (show A.length - (intOf (.int .i64 (((k + 1) : Nat) : Int))).toNat < A.length - (intOf (.int .i64 ((k : Nat) : Int))).toNat); simp only [intOf]; omega
        | true =>
          have h3 : 0 < k := of_decide_eq_true hd3
          clear hd3
          refine wp_cond_true rfl ?_
          refine wp_region_L (W0 := (W0 : Base)) Ka (hW8) ?_
          refine lm (v := va) rfl rfl ?_
          refine wpL_new (fun g => .slice (some ⟨g, 0, none⟩) 1 1) (obi := .cells #[.int .u8 43] 5 (0, 0)) rfl rfl (fun _ => by kernel_rfl) (fun _ => by simp only [List.setIfInBounds_toArray, List.set_cons_succ, List.set_cons_zero] <;> rfl) fun g9 Bg9 Fg9 => ?_
          obtain dj10_0 : Dk g9 Ka := by simpa only [dj_app_l, dj_app_r, dj_cons_l, dj_cons_r, dj_nil_l, dj_nil_r, dk_app, dk_cons, dk_nil, and_true, true_and, and_assoc] using (show Dk g9 Ka from Fg9)
          refine wpL_g (AppO (W0 : Base) 5 1 [] (oa.length + 1) ((u8s oa) ++ [.int .u8 43])) rfl rfl (app_own el_byteM (m := 1) (c := 1) (news := [.int .u8 43]) rfl (by kernel_rfl) (by kernel_rfl) (.head _) hOa (fun p hp => by simp only [List.mem_cons, List.mem_append, List.nil_append, List.not_mem_nil, or_assoc, or_false, false_or, hp, or_true, true_or]) (fun _ h => by cases h) rfl (by simp [strV, Value.oneCell']) (by omega) (by omega) (by omega)) (fun _ => by simp only [List.setIfInBounds_toArray, List.set_cons_succ, List.set_cons_zero] <;> rfl) ?_
          rintro v11 Kl11 ⟨_, O11, N11, rfl⟩
          refine lm (v := v11) rfl rfl ?_
          refine wpL_done (fun W11 hW11 => ?_)
          refine (show Code.wp _ _ _ _ _ from ?_)
          refine wp_region_L (W0 := (W0 : Base)) Kl11 (hW11) ?_
          refine lm (v := v11) rfl rfl ?_
          refine lm (v := .slice p7 y7.length c7) rfl rfl ?_
          obtain ⟨ea7, en7⟩ := elt_all (all_at ra hy7)
          refine wpL_c (f := 38) (args := #[v11, .slice p7 y7.length c7]) (fun v2 Kz => OwnL (W0 : Base) 5 1 v2 ((oa ++ [43]) ++ wrE y7).length (u8s ((oa ++ [43]) ++ wrE y7)) Kz) rfl (by kernel_rfl) (fun _ => (by kernel_rfl)) (fun W hW => appE_any (o := (oa ++ [43])) (Ko := Kl11) (own_b1 (p := oa ++ [43]) O11 (by simp) (by simp [u8s])) (by first | omega | (simp only [List.length_append, List.length_cons, List.length_nil]; omega)) HY7.out ea7 en7 W (hW.sub (fun p hp => by first | exact hp | (simp only [List.mem_cons, List.mem_append, List.nil_append, List.not_mem_nil, or_assoc, or_false, false_or] at hp ⊢ <;> grind)))) (fun _ => by simp only [List.setIfInBounds_toArray, List.set_cons_succ, List.set_cons_zero] <;> rfl) ?_
          intro v12 Kl12 O12
          refine lm (v := v12) rfl rfl ?_
          refine wpL_done (fun W12 hW12 => ?_)
          refine (show Code.wp _ _ _ _ _ from ?_)
          refine wp_region_L (W0 := (W0 : Base)) Kl12 (hW12) ?_
          refine lp (v := .int .i64 (((k + 1) : Nat) : Int)) rfl rfl (run_bin rfl (vx := (.int .i64 ((k : Nat) : Int))) (vy := (.int .i64 ((1 : Nat) : Int))) (by kernel_rfl) (by kernel_rfl) fun w => bn_add (z := (k + 1)) rfl (wr_i64 (by omega)) w) ?_
          refine lm (v := .int .i64 (((k + 1) : Nat) : Int)) rfl rfl ?_
          refine wpL_done (fun W13 hW13 => ?_)
          go_roundw
          case rel =>
            repeat apply Exists.intro
            exact ⟨⟨(k + 1), ((oa ++ [43]) ++ wrE y7), v12, Kl12, (by omega), (by rw [hoa, joinE_step hy7]; simp [h3]), (by have z := wrE_le ea7; simp only [List.length_append, List.length_cons, List.length_nil]; omega), O12, rfl, rfl, (hW13.sub (fun p hp => by first | exact hp | (simp only [List.mem_cons, List.mem_append, List.nil_append, List.not_mem_nil, or_assoc, or_false, false_or, List.cons_append, List.append_assoc] at hp ⊢ <;> grind)))⟩, rfl⟩
          case measure => (show A.length - (intOf (.int .i64 (((k + 1) : Nat) : Int))).toNat < A.length - (intOf (.int .i64 ((k : Nat) : Int))).toNat); simp only [intOf]; omega
  | true =>
    refine wp_cond_true rfl ?_
    refine wp_region_L (W0 := (W0 : Base)) Ko (hW2) ?_
    refine lm (v := v) rfl rfl ?_
    refine wpL_new (fun g => .slice (some ⟨g, 0, none⟩) 1 1) (obi := .cells #[.int .u8 63] 5 (0, 0)) rfl rfl (fun _ => by kernel_rfl) (fun _ => by simp only [List.setIfInBounds_toArray, List.set_cons_succ, List.set_cons_zero] <;> rfl) fun g13 Bg13 Fg13 => ?_
    obtain dj14_0 : Dk g13 Ko := by simpa only [dj_app_l, dj_app_r, dj_cons_l, dj_cons_r, dj_nil_l, dj_nil_r, dk_app, dk_cons, dk_nil, and_true, true_and, and_assoc] using (show Dk g13 Ko from Fg13)
    refine wpL_g (AppO (W0 : Base) 5 1 [] (o.length + 1) ((u8s o) ++ [.int .u8 63])) rfl rfl (app_own el_byteM (m := 1) (c := 1) (news := [.int .u8 63]) rfl (by kernel_rfl) (by kernel_rfl) (.head _) hO (fun p hp => by simp only [List.mem_cons, List.mem_append, List.nil_append, List.not_mem_nil, or_assoc, or_false, false_or, hp, or_true, true_or]) (fun _ h => by cases h) rfl (by simp [strV, Value.oneCell']) (by omega) (by omega) (by omega)) (fun _ => by simp only [List.setIfInBounds_toArray, List.set_cons_succ, List.set_cons_zero] <;> rfl) ?_
    rintro v15 Kl15 ⟨_, O15, N15, rfl⟩
    refine lm (v := v15) rfl rfl ?_
    refine wpL_done (fun W14 hW14 => ?_)
    refine (show Code.wp _ _ _ _ _ from ?_)
    refine wp_seq ?_
    refine wp_seq ?_
    refine wp_region_L (W0 := (W0 : Base)) Kl15 (hW14) ?_
    refine lm (v := .slice pA A.length cA) rfl rfl ?_
    refine lp (v := .int .i64 ((A.length : Nat) : Int)) rfl rfl (run_lenL (p := pA) (cap := cA) (n := A.length) rfl Try.underlying37 (by kernel_rfl)) ?_
    refine lm (v := .int .i64 0) rfl rfl ?_
    refine wpL_done (fun W15 hW15 => ?_)
    refine (show Code.wp _ _ _ _ _ from ?_)
    refine wp_block ?_
    obtain ⟨op, op_eq0⟩ : ∃ op, op = (o ++ [63]) := ⟨_, rfl⟩
    have op_eq : op = o ++ (if blank y2 = true then [63] else []) := by rw [op_eq0, if_pos h1]
    have lop : op.length ≤ o.length + 1 := by rw [op_eq0]; simp
    go_loopw [0, 18] (fun u0 u18 wr => ∃ (k : Nat) (oa : List UInt8) (va : Value) (Ka : List (Nat × Obj)), (k ≤ A.length) ∧ (oa = op ++ joinE (A.take k)) ∧ (oa.length ≤ op.length + 2012 * k) ∧ (OwnL (W0 : Base) 5 1 va oa.length (u8s oa) Ka) ∧ va = u0 ∧ u18 = .int .i64 ((k : Nat) : Int) ∧ KS (W0 : Base) Ka wr) (fun _ u18 _ => A.length - (intOf u18).toNat)
    case atStart => exact ⟨0, op, v15, Kl15, (Nat.zero_le _), (by simp [joinE]), (Nat.le_refl _), (own_b1 (p := op) O15 (by rw [op_eq0]; simp) (by rw [op_eq0]; simp [u8s])), rfl, rfl, (hW15.sub (fun p hp => by first | exact hp | (simp only [List.mem_cons, List.mem_append, List.nil_append, List.not_mem_nil, or_assoc, or_false, false_or, List.cons_append, List.append_assoc] at hp ⊢ <;> grind)))⟩
    case round =>
      obtain ⟨k, oa, va, Ka, hk, hoa, loa, hOa, rfl, rfl, hL16⟩ := hrel
      refine wp_seq ?_
      refine wp_region_L (W0 := (W0 : Base)) Ka (hL16) ?_
      refine lp (v := .bool (decide (k < A.length))) rfl rfl (run_bin rfl (vx := (.int .i64 ((k : Nat) : Int))) (vy := (.int .i64 ((A.length : Nat) : Int))) (by kernel_rfl) (by kernel_rfl) fun w => bn_lss rfl w) ?_
      refine wpL_done (fun W17 hW17 => ?_)
      refine (show Code.wp _ _ _ _ _ from ?_)
      refine wp_seq ?_
      cases hd4 : (decide (k < A.length)) with
      | false =>
        have h4 : ¬ (k < A.length) := of_decide_eq_false hd4
        clear hd4
        refine wp_cond_false rfl ?_
        refine wp_exit ?_
        refine (show Code.wp _ _ _ _ _ from ?_)
        refine wp_seq ?_
        refine wp_region_L (W0 := (W0 : Base)) Ka (hW17) ?_
        refine lm (v := va) rfl rfl ?_
        refine wpL_new (fun g => .slice (some ⟨g, 0, none⟩) 1 1) (obi := .cells #[.int .u8 39] 5 (0, 0)) rfl rfl (fun _ => by kernel_rfl) (fun _ => by simp only [List.setIfInBounds_toArray, List.set_cons_succ, List.set_cons_zero] <;> rfl) fun g17 Bg17 Fg17 => ?_
        obtain dj18_0 : Dk g17 Ka := by simpa only [dj_app_l, dj_app_r, dj_cons_l, dj_cons_r, dj_nil_l, dj_nil_r, dk_app, dk_cons, dk_nil, and_true, true_and, and_assoc] using (show Dk g17 Ka from Fg17)
        refine wpL_g (AppO (W0 : Base) 5 1 [] (oa.length + 1) ((u8s oa) ++ [.int .u8 39])) rfl rfl (app_own el_byteM (m := 1) (c := 1) (news := [.int .u8 39]) rfl (by kernel_rfl) (by kernel_rfl) (.head _) hOa (fun p hp => by simp only [List.mem_cons, List.mem_append, List.nil_append, List.not_mem_nil, or_assoc, or_false, false_or, hp, or_true, true_or]) (fun _ h => by cases h) rfl (by simp [strV, Value.oneCell']) (by omega) (by omega) (by omega)) (fun _ => by simp only [List.setIfInBounds_toArray, List.set_cons_succ, List.set_cons_zero] <;> rfl) ?_
        rintro v19 Kl19 ⟨_, O19, N19, rfl⟩
        refine lm (v := v19) rfl rfl ?_
        refine wpL_done (fun W18 hW18 => ?_)
        refine (show Code.wp _ _ _ _ _ from ?_)
        refine wp_ret ?_
        try simp only [inBlock_ret, then_ret]
        refine bodyPost_ret (v := v19) ?_ rfl ?_
        · kernel_rfl
        · exact ⟨_, _, rfl, hW18, own_b1 (p := o ++ wrS A) O19 (by rw [wrS_join hy1 hy2, hoa, op_eq, List.take_of_length_le (by omega)]; simp <;> omega) (by rw [wrS_join hy1 hy2, hoa, op_eq, List.take_of_length_le (by omega)]; simp [u8s])⟩
      | true =>
        have h4 : k < A.length := of_decide_eq_true hd4
        clear hd4
        refine wp_cond_true rfl ?_
        refine wp_skip ?_
        refine (show Code.wp _ _ _ _ _ from ?_)
        refine wp_seq ?_
        refine wp_block ?_
        refine wp_seq ?_
        refine wp_region_L (W0 := (W0 : Base)) Ka (hW17) ?_
        refine lm (v := .int .i64 ((k : Nat) : Int)) rfl rfl ?_
        obtain ⟨y20, p20, c20, b20, f20, hy20, HY20, hp20, lt20, hc20⟩ := lvp_lst (k := k) HA.out (by omega)
        have HY20 := Lib.hid HY20
        refine lp (v := .pointer (some ⟨b20, f20 + k * 1, none⟩)) rfl rfl (run_idxQ (p := pA) (cap := cA) (n := A.length) (j := .i64) (k := k) (sz := 1) rfl Try.underlying37 (by kernel_rfl) (by kernel_rfl) hp20 (by kernel_rfl) (by omega)) ?_
        refine lv (v := .slice p20 y20.length c20) rfl rfl (yb_old (off := f20 + k * 1) rfl (by kernel_rfl) hc20 lt20 Try.underlying43 rfl) ?_
        refine lm (v := .int .i64 ((k : Nat) : Int)) rfl rfl ?_
        refine lm (v := .slice p20 y20.length c20) rfl rfl ?_
        refine wpL_done (fun W19 hW19 => ?_)
        refine (show Code.wp _ _ _ _ _ from ?_)
        refine wp_seq ?_
        refine wp_seq ?_
        refine wp_region_L (W0 := (W0 : Base)) Ka (hW19) ?_
        refine lm (v := .int .i64 ((k : Nat) : Int)) rfl rfl ?_
        refine lp (v := .bool (decide (0 < k))) rfl rfl (run_bin rfl (vx := (.int .i64 ((k : Nat) : Int))) (vy := (.int .i64 ((0 : Nat) : Int))) (by kernel_rfl) (by kernel_rfl) fun w => bn_gtr rfl w) ?_
        refine wpL_done (fun W20 hW20 => ?_)
        refine (show Code.wp _ _ _ _ _ from ?_)
        cases hd5 : (decide (0 < k)) with
        | false =>
          have h5 : ¬ (0 < k) := of_decide_eq_false hd5
          clear hd5
          refine wp_cond_false rfl ?_
          refine wp_skip ?_
          refine (show Code.wp _ _ _ _ _ from ?_)
          refine wp_region_L (W0 := (W0 : Base)) Ka (hW20) ?_
          refine lm (v := va) rfl rfl ?_
          refine lm (v := .slice p20 y20.length c20) rfl rfl ?_
          obtain ⟨ea20, en20⟩ := elt_all (all_at ra hy20)
          refine wpL_c (f := 38) (args := #[va, .slice p20 y20.length c20]) (fun v2 Kz => OwnL (W0 : Base) 5 1 v2 (oa ++ wrE y20).length (u8s (oa ++ wrE y20)) Kz) rfl (by kernel_rfl) (fun _ => (by kernel_rfl)) (fun W hW => appE_any (o := oa) (Ko := Ka) hOa (by first | omega | (simp only [List.length_append, List.length_cons, List.length_nil]; omega)) HY20.out ea20 en20 W (hW.sub (fun p hp => by first | exact hp | (simp only [List.mem_cons, List.mem_append, List.nil_append, List.not_mem_nil, or_assoc, or_false, false_or] at hp ⊢ <;> grind)))) (fun _ => by simp only [List.setIfInBounds_toArray, List.set_cons_succ, List.set_cons_zero] <;> rfl) ?_
          intro v21 Kl21 O21
          refine lm (v := v21) rfl rfl ?_
          refine wpL_done (fun W21 hW21 => ?_)
          refine (show Code.wp _ _ _ _ _ from ?_)
          refine wp_region_L (W0 := (W0 : Base)) Kl21 (hW21) ?_
          refine lp (v := .int .i64 (((k + 1) : Nat) : Int)) rfl rfl (run_bin rfl (vx := (.int .i64 ((k : Nat) : Int))) (vy := (.int .i64 ((1 : Nat) : Int))) (by kernel_rfl) (by kernel_rfl) fun w => bn_add (z := (k + 1)) rfl (wr_i64 (by omega)) w) ?_
          refine lm (v := .int .i64 (((k + 1) : Nat) : Int)) rfl rfl ?_
          refine wpL_done (fun W22 hW22 => ?_)
          go_roundw
          case rel =>
            repeat apply Exists.intro
            exact ⟨⟨(k + 1), (oa ++ wrE y20), v21, Kl21, (by omega), (by rw [hoa, joinE_step hy20]; simp [h5]), (by have z := wrE_le ea20; simp only [List.length_append, List.length_cons, List.length_nil]; omega), O21, rfl, rfl, (hW22.sub (fun p hp => by first | exact hp | (simp only [List.mem_cons, List.mem_append, List.nil_append, List.not_mem_nil, or_assoc, or_false, false_or, List.cons_append, List.append_assoc] at hp ⊢ <;> grind)))⟩, rfl⟩
          case measure => (show A.length - (intOf (.int .i64 (((k + 1) : Nat) : Int))).toNat < A.length - (intOf (.int .i64 ((k : Nat) : Int))).toNat); simp only [intOf]; omega
        | true =>
          have h5 : 0 < k := of_decide_eq_true hd5
          clear hd5
          refine wp_cond_true rfl ?_
          refine wp_region_L (W0 := (W0 : Base)) Ka (hW20) ?_
          refine lm (v := va) rfl rfl ?_
          refine wpL_new (fun g => .slice (some ⟨g, 0, none⟩) 1 1) (obi := .cells #[.int .u8 43] 5 (0, 0)) rfl rfl (fun _ => by kernel_rfl) (fun _ => by simp only [List.setIfInBounds_toArray, List.set_cons_succ, List.set_cons_zero] <;> rfl) fun g22 Bg22 Fg22 => ?_
          obtain dj23_0 : Dk g22 Ka := by simpa only [dj_app_l, dj_app_r, dj_cons_l, dj_cons_r, dj_nil_l, dj_nil_r, dk_app, dk_cons, dk_nil, and_true, true_and, and_assoc] using (show Dk g22 Ka from Fg22)
          refine wpL_g (AppO (W0 : Base) 5 1 [] (oa.length + 1) ((u8s oa) ++ [.int .u8 43])) rfl rfl (app_own el_byteM (m := 1) (c := 1) (news := [.int .u8 43]) rfl (by kernel_rfl) (by kernel_rfl) (.head _) hOa (fun p hp => by simp only [List.mem_cons, List.mem_append, List.nil_append, List.not_mem_nil, or_assoc, or_false, false_or, hp, or_true, true_or]) (fun _ h => by cases h) rfl (by simp [strV, Value.oneCell']) (by omega) (by omega) (by omega)) (fun _ => by simp only [List.setIfInBounds_toArray, List.set_cons_succ, List.set_cons_zero] <;> rfl) ?_
          rintro v24 Kl24 ⟨_, O24, N24, rfl⟩
          refine lm (v := v24) rfl rfl ?_
          refine wpL_done (fun W23 hW23 => ?_)
          refine (show Code.wp _ _ _ _ _ from ?_)
          refine wp_region_L (W0 := (W0 : Base)) Kl24 (hW23) ?_
          refine lm (v := v24) rfl rfl ?_
          refine lm (v := .slice p20 y20.length c20) rfl rfl ?_
          obtain ⟨ea20, en20⟩ := elt_all (all_at ra hy20)
          refine wpL_c (f := 38) (args := #[v24, .slice p20 y20.length c20]) (fun v2 Kz => OwnL (W0 : Base) 5 1 v2 ((oa ++ [43]) ++ wrE y20).length (u8s ((oa ++ [43]) ++ wrE y20)) Kz) rfl (by kernel_rfl) (fun _ => (by kernel_rfl)) (fun W hW => appE_any (o := (oa ++ [43])) (Ko := Kl24) (own_b1 (p := oa ++ [43]) O24 (by simp) (by simp [u8s])) (by first | omega | (simp only [List.length_append, List.length_cons, List.length_nil]; omega)) HY20.out ea20 en20 W (hW.sub (fun p hp => by first | exact hp | (simp only [List.mem_cons, List.mem_append, List.nil_append, List.not_mem_nil, or_assoc, or_false, false_or] at hp ⊢ <;> grind)))) (fun _ => by simp only [List.setIfInBounds_toArray, List.set_cons_succ, List.set_cons_zero] <;> rfl) ?_
          intro v25 Kl25 O25
          refine lm (v := v25) rfl rfl ?_
          refine wpL_done (fun W24 hW24 => ?_)
          refine (show Code.wp _ _ _ _ _ from ?_)
          refine wp_region_L (W0 := (W0 : Base)) Kl25 (hW24) ?_
          refine lp (v := .int .i64 (((k + 1) : Nat) : Int)) rfl rfl (run_bin rfl (vx := (.int .i64 ((k : Nat) : Int))) (vy := (.int .i64 ((1 : Nat) : Int))) (by kernel_rfl) (by kernel_rfl) fun w => bn_add (z := (k + 1)) rfl (wr_i64 (by omega)) w) ?_
          refine lm (v := .int .i64 (((k + 1) : Nat) : Int)) rfl rfl ?_
          refine wpL_done (fun W25 hW25 => ?_)
          go_roundw
          case rel =>
            repeat apply Exists.intro
            exact ⟨⟨(k + 1), ((oa ++ [43]) ++ wrE y20), v25, Kl25, (by omega), (by rw [hoa, joinE_step hy20]; simp [h5]), (by have z := wrE_le ea20; simp only [List.length_append, List.length_cons, List.length_nil]; omega), O25, rfl, rfl, (hW25.sub (fun p hp => by first | exact hp | (simp only [List.mem_cons, List.mem_append, List.nil_append, List.not_mem_nil, or_assoc, or_false, false_or, List.cons_append, List.append_assoc] at hp ⊢ <;> grind)))⟩, rfl⟩
          case measure => (show A.length - (intOf (.int .i64 (((k + 1) : Nat) : Int))).toNat < A.length - (intOf (.int .i64 ((k : Nat) : Int))).toNat); simp only [intOf]; omega
set_option maxRecDepth 100000 in
set_option maxHeartbeats 4000000 in
theorem PWrite_any (A : List (List (List (List UInt8)))) (pA : Option Addr) (cA : Nat) (w : World) (hA : LVp ElR w pA A) : Calls Try.prog 14 #[.slice pA A.length cA] w fun e w' => e = .returned (writeV A) ∧ Below w.heap.size w w' := by
  have HA := Lib.hid hA
  clear hA
  go_enter Try.func14, Try.ntmps14
  refine wp_seq ?_
  refine wp_region_L (W0 := w) [] (KS.start w) ?_
  refine lm (v := strV []) rfl rfl ?_
  refine lm (v := .int .i64 0) rfl rfl ?_
  refine wpL_done (fun W1 hW1 => ?_)
  refine (show Code.wp _ _ _ _ _ from ?_)
  refine wp_seq ?_
  refine wp_seq ?_
  refine wp_region_L (W0 := w) [] (hW1) ?_
  refine lm (v := .slice pA A.length cA) rfl rfl ?_
  refine lp (v := .int .i64 ((A.length : Nat) : Int)) rfl rfl (run_lenL (p := pA) (cap := cA) (n := A.length) rfl Try.underlying24 (by kernel_rfl)) ?_
  refine lp (v := .bool (decide (5000 < A.length))) rfl rfl (run_bin rfl (vx := (.int .i64 ((A.length : Nat) : Int))) (vy := (.int .i64 ((5000 : Nat) : Int))) (by kernel_rfl) (by kernel_rfl) fun w => bn_gtr rfl w) ?_
  refine wpL_done (fun W2 hW2 => ?_)
  refine (show Code.wp _ _ _ _ _ from ?_)
  cases hd1 : (decide (5000 < A.length)) with
  | false =>
    have h1 : ¬ (5000 < A.length) := of_decide_eq_false hd1
    clear hd1
    refine wp_cond_false rfl ?_
    refine wp_skip ?_
    refine (show Code.wp _ _ _ _ _ from ?_)
    refine wp_seq ?_
    refine wp_seq ?_
    refine wp_region_L (W0 := w) [] (hW2) ?_
    refine lm (v := .slice pA A.length cA) rfl rfl ?_
    refine lp (v := .int .i64 ((A.length : Nat) : Int)) rfl rfl (run_lenL (p := pA) (cap := cA) (n := A.length) rfl Try.underlying24 (by kernel_rfl)) ?_
    refine lm (v := .int .i64 0) rfl rfl ?_
    refine wpL_done (fun W3 hW3 => ?_)
    refine (show Code.wp _ _ _ _ _ from ?_)
    refine wp_block ?_
    go_loopw [14] (fun u14 wr => ∃ (i : Nat), (i ≤ A.length) ∧ ((A.take i).all rightS = true) ∧ u14 = .int .i64 ((i : Nat) : Int) ∧ KS w [] wr) (fun u14 _ => A.length - (intOf u14).toNat)
    case atStart => exact ⟨0, (Nat.zero_le _), rfl, rfl, (hW3.sub (fun p hp => by first | exact hp | (simp only [List.mem_cons, List.mem_append, List.nil_append, List.not_mem_nil, or_assoc, or_false, false_or, List.cons_append, List.append_assoc] at hp ⊢ <;> grind)))⟩
    case round =>
      obtain ⟨i, hi, hR, rfl, hL4⟩ := hrel
      refine wp_seq ?_
      refine wp_region_L (W0 := w) [] (hL4) ?_
      refine lp (v := .bool (decide (i < A.length))) rfl rfl (run_bin rfl (vx := (.int .i64 ((i : Nat) : Int))) (vy := (.int .i64 ((A.length : Nat) : Int))) (by kernel_rfl) (by kernel_rfl) fun w => bn_lss rfl w) ?_
      refine wpL_done (fun W5 hW5 => ?_)
      refine (show Code.wp _ _ _ _ _ from ?_)
      refine wp_seq ?_
      cases hd2 : (decide (i < A.length)) with
      | false =>
        have h2 : ¬ (i < A.length) := of_decide_eq_false hd2
        clear hd2
        refine wp_cond_false rfl ?_
        refine wp_exit ?_
        refine (show Code.wp _ _ _ _ _ from ?_)
        refine wp_seq ?_
        refine wp_region_L (W0 := w) [] (hW5) ?_
        refine lm (v := .slice none 0 0) rfl rfl ?_
        refine wpL_done (fun W6 hW6 => ?_)
        refine (show Code.wp _ _ _ _ _ from ?_)
        refine wp_seq ?_
        refine wp_seq ?_
        refine wp_region_L (W0 := w) [] (hW6) ?_
        refine lm (v := .slice pA A.length cA) rfl rfl ?_
        refine lp (v := .int .i64 ((A.length : Nat) : Int)) rfl rfl (run_lenL (p := pA) (cap := cA) (n := A.length) rfl Try.underlying24 (by kernel_rfl)) ?_
        refine lm (v := .int .i64 0) rfl rfl ?_
        refine wpL_done (fun W7 hW7 => ?_)
        refine (show Code.wp _ _ _ _ _ from ?_)
        refine wp_block ?_
        have hall := all_take hR h2
        go_loopw [6, 24] (fun u6 u24 wr => ∃ (m : Nat) (o : List UInt8) (vo : Value) (Ko : List (Nat × Obj)), (m ≤ A.length) ∧ (o = wrL (A.take m)) ∧ (OwnL (w : Base) 5 1 vo o.length (u8s o) Ko) ∧ (o.length ≤ 65536) ∧ vo = u6 ∧ u24 = .int .i64 ((m : Nat) : Int) ∧ KS w Ko wr) (fun _ u24 _ => A.length - (intOf u24).toNat)
        case atStart => exact ⟨0, [], (.slice none 0 0), [], (Nat.zero_le _), rfl, (OwnL.nil _ _ _), (Nat.zero_le _), rfl, rfl, (hW7.sub (fun p hp => by first | exact hp | (simp only [List.mem_cons, List.mem_append, List.nil_append, List.not_mem_nil, or_assoc, or_false, false_or, List.cons_append, List.append_assoc] at hp ⊢ <;> grind)))⟩
        case round =>
          obtain ⟨m, o, vo, Ko, hm, ho, hO, lo, rfl, rfl, hL8⟩ := hrel
          refine wp_seq ?_
          refine wp_region_L (W0 := w) Ko (hL8) ?_
          refine lp (v := .bool (decide (m < A.length))) rfl rfl (run_bin rfl (vx := (.int .i64 ((m : Nat) : Int))) (vy := (.int .i64 ((A.length : Nat) : Int))) (by kernel_rfl) (by kernel_rfl) fun w => bn_lss rfl w) ?_
          refine wpL_done (fun W9 hW9 => ?_)
          refine (show Code.wp _ _ _ _ _ from ?_)
          refine wp_seq ?_
          cases hd3 : (decide (m < A.length)) with
          | false =>
            have h3 : ¬ (m < A.length) := of_decide_eq_false hd3
            clear hd3
            refine wp_cond_false rfl ?_
            refine wp_exit ?_
            refine (show Code.wp _ _ _ _ _ from ?_)
            refine wp_seq ?_
            refine wp_region_L (W0 := w) Ko (hW9) ?_
            refine lm (v := vo) rfl rfl ?_
            refine lv (v := strV o) rfl rfl (yb_strO (W0 := w) (l := o) rfl Try.underlying26 Try.underlying5 Try.underlying9 (by kernel_rfl) hO (fun p hp => by simp only [List.mem_cons, List.mem_append, List.nil_append, List.not_mem_nil, or_assoc, or_false, false_or, hp, or_true, true_or])) ?_
            refine lm (v := strV o) rfl rfl ?_
            refine lm (v := .int .i64 0) rfl rfl ?_
            refine wpL_done (fun W10 hW10 => ?_)
            refine (show Code.wp _ _ _ _ _ from ?_)
            refine wp_ret ?_
            try simp only [inBlock_ret, then_ret]
            refine bodyPost_ret (v := .tuple #[strV o, .int .i64 0]) ?_ rfl ?_
            · kernel_rfl
            · exact ⟨(by have e1 : wrL A = o := (by rw [ho, List.take_of_length_le (by omega)]); unfold writeV; rw [if_neg h1, if_neg (by rw [hall]; simp), e1, if_neg (by omega)]), hW10.1⟩
          | true =>
            have h3 : m < A.length := of_decide_eq_true hd3
            clear hd3
            refine wp_cond_true rfl ?_
            refine wp_skip ?_
            refine (show Code.wp _ _ _ _ _ from ?_)
            refine wp_seq ?_
            refine wp_block ?_
            refine wp_seq ?_
            refine wp_region_L (W0 := w) Ko (hW9) ?_
            obtain ⟨y2, p2, c2, b2, f2, hy2, HY2, hp2, lt2, hc2⟩ := lvp_lst (k := m) HA.out (by omega)
            have HY2 := Lib.hid HY2
            refine lp (v := .pointer (some ⟨b2, f2 + m * 1, none⟩)) rfl rfl (run_idxQ (p := pA) (cap := cA) (n := A.length) (j := .i64) (k := m) (sz := 1) rfl Try.underlying24 (by kernel_rfl) (by kernel_rfl) hp2 (by kernel_rfl) (by omega)) ?_
            refine lv (v := .slice p2 y2.length c2) rfl rfl (yb_old (off := f2 + m * 1) rfl (by kernel_rfl) hc2 lt2 Try.underlying37 rfl) ?_
            refine lm (v := .slice p2 y2.length c2) rfl rfl ?_
            refine wpL_done (fun W11 hW11 => ?_)
            refine (show Code.wp _ _ _ _ _ from ?_)
            refine wp_seq ?_
            refine wp_region_L (W0 := w) Ko (hW11) ?_
            refine lm (v := vo) rfl rfl ?_
            refine lm (v := .slice p2 y2.length c2) rfl rfl ?_
            refine wpL_c (f := 24) (args := #[vo, .slice p2 y2.length c2]) (fun v2 Kz => OwnL (w : Base) 5 1 v2 (o ++ wrS y2).length (u8s (o ++ wrS y2)) Kz) rfl (by kernel_rfl) (fun _ => (by kernel_rfl)) (fun W hW => appS_any (o := o) (Ko := Ko) hO (by omega) HY2.out (all_at hall hy2) W (hW.sub (fun p hp => by first | exact hp | (simp only [List.mem_cons, List.mem_append, List.nil_append, List.not_mem_nil, or_assoc, or_false, false_or] at hp ⊢ <;> grind)))) (fun _ => by simp only [List.setIfInBounds_toArray, List.set_cons_succ, List.set_cons_zero] <;> rfl) ?_
            intro v3 Kl3 O3
            refine lm (v := v3) rfl rfl ?_
            refine wpL_done (fun W12 hW12 => ?_)
            refine (show Code.wp _ _ _ _ _ from ?_)
            refine wp_seq ?_
            refine wp_region_L (W0 := w) Kl3 (hW12) ?_
            refine lm (v := v3) rfl rfl ?_
            refine lp (v := .int .i64 ((((o ++ wrS y2).length) : Nat) : Int)) rfl rfl (run_lenO (W0 := w) rfl Try.underlying26 (by kernel_rfl) O3) ?_
            refine lp (v := .bool (decide (65536 < ((o ++ wrS y2).length)))) rfl rfl (run_bin rfl (vx := (.int .i64 ((((o ++ wrS y2).length) : Nat) : Int))) (vy := (.int .i64 ((65536 : Nat) : Int))) (by kernel_rfl) (by kernel_rfl) fun w => bn_gtr rfl w) ?_
            refine wpL_done (fun W13 hW13 => ?_)
            refine (show Code.wp _ _ _ _ _ from ?_)
            cases hd4 : (decide (65536 < ((o ++ wrS y2).length))) with
            | false =>
              have h4 : ¬ (65536 < ((o ++ wrS y2).length)) := of_decide_eq_false hd4
              clear hd4
              refine wp_cond_false rfl ?_
              refine wp_skip ?_
              refine (show Code.wp _ _ _ _ _ from ?_)
              refine wp_region_L (W0 := w) Kl3 (hW13) ?_
              refine lp (v := .int .i64 (((m + 1) : Nat) : Int)) rfl rfl (run_bin rfl (vx := (.int .i64 ((m : Nat) : Int))) (vy := (.int .i64 ((1 : Nat) : Int))) (by kernel_rfl) (by kernel_rfl) fun w => bn_add (z := (m + 1)) rfl (wr_i64 (by omega)) w) ?_
              refine lm (v := .int .i64 (((m + 1) : Nat) : Int)) rfl rfl ?_
              refine wpL_done (fun W14 hW14 => ?_)
              go_roundw
              case rel =>
                repeat apply Exists.intro
                exact ⟨⟨m + 1, (o ++ wrS y2), v3, Kl3, (by omega), (by rw [wrL_take hy2, ho]), O3, (by omega), rfl, rfl, (hW14.sub (fun p hp => by first | exact hp | (simp only [List.mem_cons, List.mem_append, List.nil_append, List.not_mem_nil, or_assoc, or_false, false_or, List.cons_append, List.append_assoc] at hp ⊢ <;> grind)))⟩, rfl⟩
              case measure => (show A.length - (intOf (.int .i64 (((m + 1) : Nat) : Int))).toNat < A.length - (intOf (.int .i64 ((m : Nat) : Int))).toNat); simp only [intOf]; omega
            | true =>
              have h4 : 65536 < ((o ++ wrS y2).length) := of_decide_eq_true hd4
              clear hd4
              refine wp_cond_true rfl ?_
              refine wp_seq ?_
              refine wp_region_L (W0 := w) Kl3 (hW13) ?_
              refine lm (v := strV []) rfl rfl ?_
              refine lm (v := .int .i64 3) rfl rfl ?_
              refine wpL_done (fun W15 hW15 => ?_)
              refine (show Code.wp _ _ _ _ _ from ?_)
              refine wp_ret ?_
              try simp only [inBlock_ret, then_ret]
              refine bodyPost_ret (v := .tuple #[strV [], .int .i64 3]) ?_ rfl ?_
              · kernel_rfl
              · exact ⟨(by have e2 := wrL_part A (m + 1); rw [wrL_take hy2, ← ho] at e2; unfold writeV; rw [if_neg h1, if_neg (by rw [hall]; simp), if_pos (by omega)]), hW15.1⟩
      | true =>
        have h2 : i < A.length := of_decide_eq_true hd2
        clear hd2
        refine wp_cond_true rfl ?_
        refine wp_skip ?_
        refine (show Code.wp _ _ _ _ _ from ?_)
        refine wp_seq ?_
        refine wp_block ?_
        refine wp_seq ?_
        refine wp_region_L (W0 := w) [] (hW5) ?_
        obtain ⟨y4, p4, c4, b4, f4, hy4, HY4, hp4, lt4, hc4⟩ := lvp_lst (k := i) HA.out (by omega)
        have HY4 := Lib.hid HY4
        refine lp (v := .pointer (some ⟨b4, f4 + i * 1, none⟩)) rfl rfl (run_idxQ (p := pA) (cap := cA) (n := A.length) (j := .i64) (k := i) (sz := 1) rfl Try.underlying24 (by kernel_rfl) (by kernel_rfl) hp4 (by kernel_rfl) (by omega)) ?_
        refine lv (v := .slice p4 y4.length c4) rfl rfl (yb_old (off := f4 + i * 1) rfl (by kernel_rfl) hc4 lt4 Try.underlying37 rfl) ?_
        refine lm (v := .slice p4 y4.length c4) rfl rfl ?_
        refine wpL_done (fun W16 hW16 => ?_)
        refine (show Code.wp _ _ _ _ _ from ?_)
        refine wp_seq ?_
        refine wp_region_L (W0 := w) [] (hW16) ?_
        refine lm (v := .slice p4 y4.length c4) rfl rfl ?_
        refine lv (v := .bool (rightS y4)) rfl rfl (yb_call (f := 18) (args := #[.slice p4 y4.length c4]) (fun _ => by kernel_rfl) fun W hW => PRight_any y4 p4 c4 W (HY4.out.keep TxR.keeps hW.1)) ?_
        refine lp (v := .bool (!(rightS y4))) rfl rfl (run_un rfl (by kernel_rfl) fun w => un_not w) ?_
        refine wpL_done (fun W17 hW17 => ?_)
        refine (show Code.wp _ _ _ _ _ from ?_)
        cases h5 : (rightS y4) with
        | false =>
          refine wp_cond_true rfl ?_
          refine wp_seq ?_
          refine wp_region_L (W0 := w) [] (hW17) ?_
          refine lm (v := strV []) rfl rfl ?_
          refine lm (v := .int .i64 2) rfl rfl ?_
          refine wpL_done (fun W18 hW18 => ?_)
          refine (show Code.wp _ _ _ _ _ from ?_)
          refine wp_ret ?_
          try simp only [inBlock_ret, then_ret]
          refine bodyPost_ret (v := .tuple #[strV [], .int .i64 2]) ?_ rfl ?_
          · kernel_rfl
          · exact ⟨(by unfold writeV; rw [if_neg h1, if_pos (all_f hy4 h5)]), hW18.1⟩
        | true =>
          refine wp_cond_false rfl ?_
          refine wp_skip ?_
          refine (show Code.wp _ _ _ _ _ from ?_)
          refine wp_region_L (W0 := w) [] (hW17) ?_
          refine lp (v := .int .i64 (((i + 1) : Nat) : Int)) rfl rfl (run_bin rfl (vx := (.int .i64 ((i : Nat) : Int))) (vy := (.int .i64 ((1 : Nat) : Int))) (by kernel_rfl) (by kernel_rfl) fun w => bn_add (z := (i + 1)) rfl (wr_i64 (by omega)) w) ?_
          refine lm (v := .int .i64 (((i + 1) : Nat) : Int)) rfl rfl ?_
          refine wpL_done (fun W19 hW19 => ?_)
          go_roundw
          case rel =>
            repeat apply Exists.intro
            exact ⟨⟨i + 1, (by omega), (all_succ hR hy4 h5), rfl, (hW19.sub (fun p hp => by first | exact hp | (simp only [List.mem_cons, List.mem_append, List.nil_append, List.not_mem_nil, or_assoc, or_false, false_or, List.cons_append, List.append_assoc] at hp ⊢ <;> grind)))⟩, rfl⟩
          case measure => (show A.length - (intOf (.int .i64 (((i + 1) : Nat) : Int))).toNat < A.length - (intOf (.int .i64 ((i : Nat) : Int))).toNat); simp only [intOf]; omega
  | true =>
    have h1 : 5000 < A.length := of_decide_eq_true hd1
    clear hd1
    refine wp_cond_true rfl ?_
    refine wp_seq ?_
    refine wp_region_L (W0 := w) [] (hW2) ?_
    refine lm (v := strV []) rfl rfl ?_
    refine lm (v := .int .i64 5) rfl rfl ?_
    refine wpL_done (fun W20 hW20 => ?_)
    refine (show Code.wp _ _ _ _ _ from ?_)
    refine wp_ret ?_
    try simp only [inBlock_ret, then_ret]
    refine bodyPost_ret (v := .tuple #[strV [], .int .i64 5]) ?_ rfl ?_
    · kernel_rfl
    · exact ⟨(by unfold writeV; rw [if_pos h1]), hW20.1⟩
end Go.Proofs.Ytppegdbelgobiaa
namespace Go.Proofs.Ytppegdbelgobiaa
open Go Go.RowKit Tw
theorem el_bare : Elem Try.prog 40 36 1 24 (.slice none 0 0) := Elem.mk' Try.underlying40 (by kernel_rfl) rfl
theorem mkv_read {α : Type} {R : World → Value → α → Prop} (hR : Keeps R) {W : World} {p : Option Addr} {l : List α} {c : Nat} (h : LVp R W p l) : MkV (LV R) (W : Base) (.slice p l.length c) l [] := fun _ hW => ⟨p, c, rfl, h.keep hR hW.1⟩
set_option maxRecDepth 100000 in
set_option maxHeartbeats 4000000 in
theorem bare_any {W0 : World} (A : List (List (List (List UInt8)))) (pA : Option Addr) (cA : Nat) (lA : A.length ≤ 4000000000) (hA : LVp ElR W0 pA A) (w : World) (hw : KS (W0 : Base) [] w) : Calls Try.prog 22 #[.slice pA A.length cA] w fun e w' => ∃ v T, e = .returned v ∧ KS (W0 : Base) T w' ∧ MkV SgR (W0 : Base) v A T := by
  have HA := Lib.hid hA
  clear hA
  go_enter Try.func22, Try.ntmps22
  refine wp_seq ?_
  refine wp_region_L (W0 := (W0 : Base)) [] (hw) ?_
  refine lm (v := .slice none 0 0) rfl rfl ?_
  refine wpL_done (fun W1 hW1 => ?_)
  refine (show Code.wp _ _ _ _ _ from ?_)
  refine wp_seq ?_
  refine wp_region_L (W0 := (W0 : Base)) [] (hW1) ?_
  refine lm (v := .slice none 0 0) rfl rfl ?_
  refine wpL_done (fun W2 hW2 => ?_)
  refine (show Code.wp _ _ _ _ _ from ?_)
  refine wp_seq ?_
  refine wp_seq ?_
  refine wp_region_L (W0 := (W0 : Base)) [] (hW2) ?_
  refine lm (v := .slice pA A.length cA) rfl rfl ?_
  refine lp (v := .int .i64 ((A.length : Nat) : Int)) rfl rfl (run_lenL (p := pA) (cap := cA) (n := A.length) rfl Try.underlying24 (by kernel_rfl)) ?_
  refine lm (v := .int .i64 0) rfl rfl ?_
  refine wpL_done (fun W3 hW3 => ?_)
  refine (show Code.wp _ _ _ _ _ from ?_)
  refine wp_block ?_
  go_loopw [8, 3] (fun u8 u3 wr => ∃ (k : Nat) (vo : Value) (xo : List Value) (Ko : List (Nat × Obj)), (k ≤ A.length) ∧ (OwnL (W0 : Base) 36 1 vo k xo Ko) ∧ (MkE ElR (W0 : Base) xo (A.take k) []) ∧ u8 = .int .i64 ((k : Nat) : Int) ∧ vo = u3 ∧ KS (W0 : Base) Ko wr) (fun u8 _ _ => A.length - (intOf u8).toNat)
  case atStart => exact ⟨0, (.slice none 0 0), [], [], (Nat.zero_le _), (OwnL.nil _ _ _), MkE.nil, rfl, rfl, (hW3.sub (fun p hp => by first | exact hp | (simp only [List.mem_cons, List.mem_append, List.nil_append, List.not_mem_nil, or_assoc, or_false, false_or] at hp ⊢ <;> grind)))⟩
  case round =>
    obtain ⟨k, vo, xo, Ko, hk, hOo, hEo, rfl, rfl, hL4⟩ := hrel
    refine wp_seq ?_
    refine wp_region_L (W0 := (W0 : Base)) Ko (hL4) ?_
    refine lp (v := .bool (decide (k < A.length))) rfl rfl (run_bin rfl (vx := (.int .i64 ((k : Nat) : Int))) (vy := (.int .i64 ((A.length : Nat) : Int))) (by kernel_rfl) (by kernel_rfl) fun w => bn_lss rfl w) ?_
    refine wpL_done (fun W5 hW5 => ?_)
    refine (show Code.wp _ _ _ _ _ from ?_)
    refine wp_seq ?_
    cases hd1 : (decide (k < A.length)) with
    | false =>
      have h1 : ¬ (k < A.length) := of_decide_eq_false hd1
      clear hd1
      refine wp_cond_false rfl ?_
      refine wp_exit ?_
      refine (show Code.wp _ _ _ _ _ from ?_)
      refine wp_seq ?_
      refine wp_region_L (W0 := (W0 : Base)) Ko (hW5) ?_
      refine lm (v := vo) rfl rfl ?_
      refine lm (v := vo) rfl rfl ?_
      refine wpL_done (fun W6 hW6 => ?_)
      refine (show Code.wp _ _ _ _ _ from ?_)
      refine wp_ret ?_
      try simp only [inBlock_ret, then_ret]
      refine bodyPost_ret (v := vo) ?_ rfl ?_
      · kernel_rfl
      · exact ⟨_, [] ++ Ko, rfl, (hW6.sub (fun p hp => by simp only [List.mem_cons, List.mem_append, List.nil_append, List.not_mem_nil, or_assoc, or_false, false_or] at hp ⊢ <;> grind)), MkE.mk hOo (mke_all hEo h1) (by omega)⟩
    | true =>
      have h1 : k < A.length := of_decide_eq_true hd1
      clear hd1
      refine wp_cond_true rfl ?_
      refine wp_skip ?_
      refine (show Code.wp _ _ _ _ _ from ?_)
      refine wp_seq ?_
      refine wp_block ?_
      refine wp_seq ?_
      refine wp_region_L (W0 := (W0 : Base)) Ko (hW5) ?_
      obtain ⟨y2, p2, c2, b2, f2, hy2, HY2, hp2, lt2, hc2⟩ := lvp_lst (k := k) HA.out (by omega)
      have HY2 := Lib.hid HY2
      refine lp (v := .pointer (some ⟨b2, f2 + k * 1, none⟩)) rfl rfl (run_idxQ (p := pA) (cap := cA) (n := A.length) (j := .i64) (k := k) (sz := 1) rfl Try.underlying24 (by kernel_rfl) (by kernel_rfl) hp2 (by kernel_rfl) (by omega)) ?_
      refine lv (v := .slice p2 y2.length c2) rfl rfl (yb_old (off := f2 + k * 1) rfl (by kernel_rfl) hc2 lt2 Try.underlying37 rfl) ?_
      refine lm (v := .slice p2 y2.length c2) rfl rfl ?_
      refine wpL_done (fun W7 hW7 => ?_)
      refine (show Code.wp _ _ _ _ _ from ?_)
      refine wp_region_L (W0 := (W0 : Base)) Ko (hW7) ?_
      refine lm (v := vo) rfl rfl ?_
      refine lm (v := .slice p2 y2.length c2) rfl rfl ?_
      refine wpL_new (fun g => .slice (some ⟨g, 0, none⟩) 1 1) (obi := .cells #[.slice p2 y2.length c2] 36 (0, 0)) rfl rfl (fun _ => by kernel_rfl) (fun _ => by simp only [List.setIfInBounds_toArray, List.set_cons_succ, List.set_cons_zero] <;> rfl) fun g3 Bg3 Fg3 => ?_
      obtain dj4_0 : Dk g3 Ko := by simpa only [dj_app_l, dj_app_r, dj_cons_l, dj_cons_r, dj_nil_l, dj_nil_r, dk_app, dk_cons, dk_nil, and_true, true_and, and_assoc] using (show Dk g3 Ko from Fg3)
      refine wpL_g (AppO (W0 : Base) 36 1 [] (k + 1) (xo ++ [.slice p2 y2.length c2])) rfl rfl (app_own el_bare (m := 1) (c := 1) (news := [.slice p2 y2.length c2]) rfl (by kernel_rfl) (by kernel_rfl) (.head _) hOo (fun p hp => by simp only [List.mem_cons, List.mem_append, List.nil_append, List.not_mem_nil, or_assoc, or_false, false_or, hp, or_true, true_or]) (fun _ h => by cases h) rfl (by simp [strV, Value.oneCell']) (by omega) (by omega) (by omega)) (fun _ => by simp only [List.setIfInBounds_toArray, List.set_cons_succ, List.set_cons_zero] <;> rfl) ?_
      rintro v5 Kl5 ⟨_, O5, N5, rfl⟩
      refine lm (v := v5) rfl rfl ?_
      refine wpL_done (fun W8 hW8 => ?_)
      refine (show Code.wp _ _ _ _ _ from ?_)
      refine wp_region_L (W0 := (W0 : Base)) Kl5 (hW8) ?_
      refine lp (v := .int .i64 (((k + 1) : Nat) : Int)) rfl rfl (run_bin rfl (vx := (.int .i64 ((k : Nat) : Int))) (vy := (.int .i64 ((1 : Nat) : Int))) (by kernel_rfl) (by kernel_rfl) fun w => bn_add (z := (k + 1)) rfl (wr_i64 (by omega)) w) ?_
      refine lm (v := .int .i64 (((k + 1) : Nat) : Int)) rfl rfl ?_
      refine wpL_done (fun W9 hW9 => ?_)
      go_roundw
      case rel =>
        repeat apply Exists.intro
        exact ⟨⟨k + 1, v5, (xo ++ [.slice p2 y2.length c2]), Kl5, (by omega), O5, (mke_take (MkE.snoc hEo (mkv_read TxR.keeps HY2.out)) hy2), rfl, rfl, (hW9.sub (fun p hp => by first | exact hp | (simp only [List.mem_cons, List.mem_append, List.nil_append, List.not_mem_nil, or_assoc, or_false, false_or] at hp ⊢ <;> grind)))⟩, rfl⟩
      case measure => (show A.length - (intOf (.int .i64 (((k + 1) : Nat) : Int))).toNat < A.length - (intOf (.int .i64 ((k : Nat) : Int))).toNat); simp only [intOf]; omega
end Go.Proofs.Ytppegdbelgobiaa
namespace Go.Proofs.Ytppegdbelgobiaa
open Go Go.RowKit Tw
def cmpsN (e : Elt) : Nat := (e.map List.length).sum
def eltN (e : Elt) : Nat := e.length + cmpsN e
def sgN (s : Sgm) : Nat := s.length + (s.map eltN).sum
def smallS (s : Sgm) : Bool := decide (sgN s ≤ 700)
def smallL (A : List Sgm) : Bool := decide (A.length ≤ 40) && A.all smallS
theorem drop_sum {α : Type} {f : α → Nat} {l : List α} {k : Nat} {x : α} (h : l[k]? = some x) : ((l.drop k).map f).sum = f x + ((l.drop (k + 1)).map f).sum := by
  obtain ⟨h1, rfl⟩ := List.getElem?_eq_some_iff.1 h
  rw [List.drop_eq_getElem_cons h1, List.map_cons, List.sum_cons]
theorem drop_end {α : Type} {f : α → Nat} {l : List α} {k : Nat} (h : ¬ k < l.length) : ((l.drop k).map f).sum = 0 := by
  rw [List.drop_of_length_le (by omega)]
  rfl
theorem small_f {A : List Sgm} {i : Nat} {s : Sgm} (h : A[i]? = some s) (hf : 700 < sgN s) : smallL A = false := by
  unfold smallL
  rw [all_f h (by unfold smallS; simp; omega), Bool.and_false]
theorem small_n {A : List Sgm} (h : 40 < A.length) : smallL A = false := by
  unfold smallL
  simp
  omega
theorem small_t {A : List Sgm} (h : ¬ 40 < A.length) (ha : A.all smallS = true) : smallL A = true := by
  unfold smallL
  rw [ha]
  simp
  omega
set_option maxRecDepth 100000 in
set_option maxHeartbeats 4000000 in
theorem Small_any (A : List (List (List (List UInt8)))) (pA : Option Addr) (cA : Nat) (hB : ∀ s ∈ A, sgN s ≤ 4000000000) (w : World) (hA : LVp ElR w pA A) : Calls Try.prog 11 #[.slice pA A.length cA] w fun e w' => e = .returned (.bool (smallL A)) ∧ Below w.heap.size w w' := by
  have HA := Lib.hid hA
  clear hA
  go_enter Try.func11, Try.ntmps11
  refine wp_seq ?_
  refine wp_region_L (W0 := w) [] (KS.start w) ?_
  refine lm (v := .bool false) rfl rfl ?_
  refine wpL_done (fun W1 hW1 => ?_)
  refine (show Code.wp _ _ _ _ _ from ?_)
  refine wp_seq ?_
  refine wp_seq ?_
  refine wp_region_L (W0 := w) [] (hW1) ?_
  refine lm (v := .slice pA A.length cA) rfl rfl ?_
  refine lp (v := .int .i64 ((A.length : Nat) : Int)) rfl rfl (run_lenL (p := pA) (cap := cA) (n := A.length) rfl Try.underlying24 (by kernel_rfl)) ?_
  refine lp (v := .bool (decide (40 < A.length))) rfl rfl (run_bin rfl (vx := (.int .i64 ((A.length : Nat) : Int))) (vy := (.int .i64 ((40 : Nat) : Int))) (by kernel_rfl) (by kernel_rfl) fun w => bn_gtr rfl w) ?_
  refine wpL_done (fun W2 hW2 => ?_)
  refine (show Code.wp _ _ _ _ _ from ?_)
  cases hd1 : (decide (40 < A.length)) with
  | false =>
    have h1 : ¬ (40 < A.length) := of_decide_eq_false hd1
    clear hd1
    refine wp_cond_false rfl ?_
    refine wp_skip ?_
    refine (show Code.wp _ _ _ _ _ from ?_)
    refine wp_seq ?_
    refine wp_seq ?_
    refine wp_region_L (W0 := w) [] (hW2) ?_
    refine lm (v := .int .i64 0) rfl rfl ?_
    refine wpL_done (fun W3 hW3 => ?_)
    refine (show Code.wp _ _ _ _ _ from ?_)
    refine wp_block ?_
    go_loopw [3] (fun u3 wr => ∃ (i : Nat), (i ≤ A.length) ∧ ((A.take i).all smallS = true) ∧ u3 = .int .i64 ((i : Nat) : Int) ∧ KS w [] wr) (fun u3 _ => A.length - (intOf u3).toNat)
    case atStart => exact ⟨0, (Nat.zero_le _), rfl, rfl, hW3⟩
    case round =>
      obtain ⟨i, hi, hR, rfl, hL4⟩ := hrel
      refine wp_seq ?_
      refine wp_seq ?_
      refine wp_region_L (W0 := w) [] (hL4) ?_
      refine lm (v := .int .i64 ((i : Nat) : Int)) rfl rfl ?_
      refine lm (v := .slice pA A.length cA) rfl rfl ?_
      refine lp (v := .int .i64 ((A.length : Nat) : Int)) rfl rfl (run_lenL (p := pA) (cap := cA) (n := A.length) rfl Try.underlying24 (by kernel_rfl)) ?_
      refine lp (v := .bool (decide (i < A.length))) rfl rfl (run_bin rfl (vx := (.int .i64 ((i : Nat) : Int))) (vy := (.int .i64 ((A.length : Nat) : Int))) (by kernel_rfl) (by kernel_rfl) fun w => bn_lss rfl w) ?_
      refine wpL_done (fun W5 hW5 => ?_)
      refine (show Code.wp _ _ _ _ _ from ?_)
      cases hd2 : (decide (i < A.length)) with
      | false =>
        have h2 : ¬ (i < A.length) := of_decide_eq_false hd2
        clear hd2
        refine wp_cond_false rfl ?_
        refine wp_exit ?_
        refine (show Code.wp _ _ _ _ _ from ?_)
        refine wp_seq ?_
        refine wp_region_L (W0 := w) [] (hW5) ?_
        refine lm (v := .bool true) rfl rfl ?_
        refine wpL_done (fun W6 hW6 => ?_)
        refine (show Code.wp _ _ _ _ _ from ?_)
        refine wp_ret ?_
        try simp only [inBlock_ret, then_ret]
        refine bodyPost_ret (v := .bool true) ?_ rfl ?_
        · kernel_rfl
        · exact ⟨(bool_is (by rw [eq_comm]; exact small_t h1 (all_take hR h2))), hW6.1⟩
      | true =>
        have h2 : i < A.length := of_decide_eq_true hd2
        clear hd2
        refine wp_cond_true rfl ?_
        refine wp_skip ?_
        refine (show Code.wp _ _ _ _ _ from ?_)
        refine wp_seq ?_
        refine wp_block ?_
        refine wp_seq ?_
        refine wp_region_L (W0 := w) [] (hW5) ?_
        refine lm (v := .slice pA A.length cA) rfl rfl ?_
        refine lm (v := .int .i64 ((i : Nat) : Int)) rfl rfl ?_
        obtain ⟨y1, p1, c1, b1, f1, hy1, HY1, hp1, lt1, hc1⟩ := lvp_lst (k := i) HA.out (by omega)
        have HY1 := Lib.hid HY1
        refine lp (v := .pointer (some ⟨b1, f1 + i * 1, none⟩)) rfl rfl (run_idxQ (p := pA) (cap := cA) (n := A.length) (j := .i64) (k := i) (sz := 1) rfl Try.underlying24 (by kernel_rfl) (by kernel_rfl) hp1 (by kernel_rfl) (by omega)) ?_
        refine lv (v := .slice p1 y1.length c1) rfl rfl (yb_old (off := f1 + i * 1) rfl (by kernel_rfl) hc1 lt1 Try.underlying37 rfl) ?_
        refine lp (v := .int .i64 ((y1.length : Nat) : Int)) rfl rfl (run_lenL (p := p1) (cap := c1) (n := y1.length) rfl Try.underlying37 (by kernel_rfl)) ?_
        refine lm (v := .int .i64 ((y1.length : Nat) : Int)) rfl rfl ?_
        refine wpL_done (fun W7 hW7 => ?_)
        refine (show Code.wp _ _ _ _ _ from ?_)
        refine wp_seq ?_
        refine wp_seq ?_
        refine wp_region_L (W0 := w) [] (hW7) ?_
        refine lm (v := .int .i64 0) rfl rfl ?_
        refine wpL_done (fun W8 hW8 => ?_)
        refine (show Code.wp _ _ _ _ _ from ?_)
        refine wp_block ?_
        have hs1 := hB _ (List.mem_of_getElem? hy1)
        have hl1 : y1.length ≤ sgN y1 := by unfold sgN; omega
        go_loopw [4, 5] (fun u4 u5 wr => ∃ (k n : Nat), (k ≤ y1.length) ∧ (n + ((y1.drop k).map eltN).sum = sgN y1) ∧ u4 = .int .i64 ((n : Nat) : Int) ∧ u5 = .int .i64 ((k : Nat) : Int) ∧ KS w [] wr) (fun _ u5 _ => y1.length - (intOf u5).toNat)
        case atStart => exact ⟨0, y1.length, (Nat.zero_le _), (by unfold sgN; rfl), rfl, rfl, hW8⟩
        case round =>
          obtain ⟨k, n, hk, hn, rfl, rfl, hL9⟩ := hrel
          refine wp_seq ?_
          refine wp_seq ?_
          refine wp_region_L (W0 := w) [] (hL9) ?_
          refine lm (v := .int .i64 ((k : Nat) : Int)) rfl rfl ?_
          refine lm (v := .slice pA A.length cA) rfl rfl ?_
          refine lm (v := .int .i64 ((i : Nat) : Int)) rfl rfl ?_
          refine lp (v := .pointer (some ⟨b1, f1 + i * 1, none⟩)) rfl rfl (run_idxQ (p := pA) (cap := cA) (n := A.length) (j := .i64) (k := i) (sz := 1) rfl Try.underlying24 (by kernel_rfl) (by kernel_rfl) hp1 (by kernel_rfl) (by omega)) ?_
          refine lv (v := .slice p1 y1.length c1) rfl rfl (yb_old (off := f1 + i * 1) rfl (by kernel_rfl) hc1 lt1 Try.underlying37 rfl) ?_
          refine lp (v := .int .i64 ((y1.length : Nat) : Int)) rfl rfl (run_lenL (p := p1) (cap := c1) (n := y1.length) rfl Try.underlying37 (by kernel_rfl)) ?_
          refine lp (v := .bool (decide (k < y1.length))) rfl rfl (run_bin rfl (vx := (.int .i64 ((k : Nat) : Int))) (vy := (.int .i64 ((y1.length : Nat) : Int))) (by kernel_rfl) (by kernel_rfl) fun w => bn_lss rfl w) ?_
          refine wpL_done (fun W10 hW10 => ?_)
          refine (show Code.wp _ _ _ _ _ from ?_)
          cases hd3 : (decide (k < y1.length)) with
          | false =>
            have h3 : ¬ (k < y1.length) := of_decide_eq_false hd3
            clear hd3
            refine wp_cond_false rfl ?_
            refine wp_exit ?_
            refine (show Code.wp _ _ _ _ _ from ?_)
            refine wp_seq ?_
            refine wp_region_L (W0 := w) [] (hW10) ?_
            refine lm (v := .int .i64 ((n : Nat) : Int)) rfl rfl ?_
            refine lp (v := .bool (decide (700 < n))) rfl rfl (run_bin rfl (vx := (.int .i64 ((n : Nat) : Int))) (vy := (.int .i64 ((700 : Nat) : Int))) (by kernel_rfl) (by kernel_rfl) fun w => bn_gtr rfl w) ?_
            refine wpL_done (fun W11 hW11 => ?_)
            refine (show Code.wp _ _ _ _ _ from ?_)
            cases hd4 : (decide (700 < n)) with
            | false =>
              have h4 : ¬ (700 < n) := of_decide_eq_false hd4
              clear hd4
              refine wp_cond_false rfl ?_
              refine wp_skip ?_
              refine (show Code.wp _ _ _ _ _ from ?_)
              refine wp_region_L (W0 := w) [] (hW11) ?_
              refine lm (v := .int .i64 ((i : Nat) : Int)) rfl rfl ?_
              refine lp (v := .int .i64 (((i + 1) : Nat) : Int)) rfl rfl (run_bin rfl (vx := (.int .i64 ((i : Nat) : Int))) (vy := (.int .i64 ((1 : Nat) : Int))) (by kernel_rfl) (by kernel_rfl) fun w => bn_add (z := (i + 1)) rfl (wr_i64 (by omega)) w) ?_
              refine lm (v := .int .i64 (((i + 1) : Nat) : Int)) rfl rfl ?_
              refine wpL_done (fun W12 hW12 => ?_)
              go_roundw
              case rel =>
                repeat apply Exists.intro
                exact ⟨⟨i + 1, (by omega), (all_succ hR hy1 (by unfold smallS; simp; have z := @drop_end _ eltN _ _ h3; omega)), rfl, hW12⟩, rfl⟩
              case measure => (show A.length - (intOf (.int .i64 (((i + 1) : Nat) : Int))).toNat < A.length - (intOf (.int .i64 ((i : Nat) : Int))).toNat); simp only [intOf]; omega
            | true =>
              have h4 : 700 < n := of_decide_eq_true hd4
              clear hd4
              refine wp_cond_true rfl ?_
              refine wp_seq ?_
              refine wp_region_L (W0 := w) [] (hW11) ?_
              refine lm (v := .bool false) rfl rfl ?_
              refine wpL_done (fun W13 hW13 => ?_)
              refine (show Code.wp _ _ _ _ _ from ?_)
              refine wp_ret ?_
              try simp only [inBlock_ret, then_ret]
              refine bodyPost_ret (v := .bool false) ?_ rfl ?_
              · kernel_rfl
              · exact ⟨(bool_is (by rw [eq_comm]; exact small_f hy1 (by have z := @drop_end _ eltN _ _ h3; omega))), hW13.1⟩
          | true =>
            have h3 : k < y1.length := of_decide_eq_true hd3
            clear hd3
            refine wp_cond_true rfl ?_
            refine wp_skip ?_
            refine (show Code.wp _ _ _ _ _ from ?_)
            refine wp_seq ?_
            refine wp_block ?_
            refine wp_seq ?_
            refine wp_region_L (W0 := w) [] (hW10) ?_
            refine lm (v := .int .i64 ((n : Nat) : Int)) rfl rfl ?_
            refine lm (v := .slice pA A.length cA) rfl rfl ?_
            refine lm (v := .int .i64 ((i : Nat) : Int)) rfl rfl ?_
            refine lp (v := .pointer (some ⟨b1, f1 + i * 1, none⟩)) rfl rfl (run_idxQ (p := pA) (cap := cA) (n := A.length) (j := .i64) (k := i) (sz := 1) rfl Try.underlying24 (by kernel_rfl) (by kernel_rfl) hp1 (by kernel_rfl) (by omega)) ?_
            refine lv (v := .slice p1 y1.length c1) rfl rfl (yb_old (off := f1 + i * 1) rfl (by kernel_rfl) hc1 lt1 Try.underlying37 rfl) ?_
            refine lm (v := .int .i64 ((k : Nat) : Int)) rfl rfl ?_
            obtain ⟨y2, p2, c2, b2, f2, hy2, HY2, hp2, lt2, hc2⟩ := lvp_lst (k := k) HY1.out (by omega)
            have HY2 := Lib.hid HY2
            refine lp (v := .pointer (some ⟨b2, f2 + k * 1, none⟩)) rfl rfl (run_idxQ (p := p1) (cap := c1) (n := y1.length) (j := .i64) (k := k) (sz := 1) rfl Try.underlying37 (by kernel_rfl) (by kernel_rfl) hp2 (by kernel_rfl) (by omega)) ?_
            have ds2 := @drop_sum _ eltN _ _ _ hy2
            have de2 : eltN y2 = y2.length + cmpsN y2 := rfl
            refine lv (v := .slice p2 y2.length c2) rfl rfl (yb_old (off := f2 + k * 1) rfl (by kernel_rfl) hc2 lt2 Try.underlying43 rfl) ?_
            refine lp (v := .int .i64 ((y2.length : Nat) : Int)) rfl rfl (run_lenL (p := p2) (cap := c2) (n := y2.length) rfl Try.underlying43 (by kernel_rfl)) ?_
            refine lp (v := .int .i64 (((n + y2.length) : Nat) : Int)) rfl rfl (run_bin rfl (vx := (.int .i64 ((n : Nat) : Int))) (vy := (.int .i64 ((y2.length : Nat) : Int))) (by kernel_rfl) (by kernel_rfl) fun w => bn_add (z := (n + y2.length)) rfl (wr_i64 (by omega)) w) ?_
            refine lm (v := .int .i64 (((n + y2.length) : Nat) : Int)) rfl rfl ?_
            refine wpL_done (fun W14 hW14 => ?_)
            refine (show Code.wp _ _ _ _ _ from ?_)
            refine wp_seq ?_
            refine wp_region_L (W0 := w) [] (hW14) ?_
            refine lm (v := .int .i64 0) rfl rfl ?_
            refine wpL_done (fun W15 hW15 => ?_)
            refine (show Code.wp _ _ _ _ _ from ?_)
            refine wp_block ?_
            go_loopw [4, 6] (fun u4 u6 wr => ∃ (m n2 : Nat), (m ≤ y2.length) ∧ (n2 + ((y2.drop m).map List.length).sum + ((y1.drop (k + 1)).map eltN).sum = sgN y1) ∧ u4 = .int .i64 ((n2 : Nat) : Int) ∧ u6 = .int .i64 ((m : Nat) : Int) ∧ KS w [] wr) (fun _ u6 _ => y2.length - (intOf u6).toNat)
            case atStart => exact ⟨0, (n + y2.length), (Nat.zero_le _), (by rw [List.drop_zero]; show _ + cmpsN _ + _ = _; omega), rfl, rfl, hW15⟩
            case round =>
              obtain ⟨m, n2, hm, hn2, rfl, rfl, hL16⟩ := hrel
              refine wp_seq ?_
              refine wp_seq ?_
              refine wp_region_L (W0 := w) [] (hL16) ?_
              refine lm (v := .int .i64 ((m : Nat) : Int)) rfl rfl ?_
              refine lm (v := .slice pA A.length cA) rfl rfl ?_
              refine lm (v := .int .i64 ((i : Nat) : Int)) rfl rfl ?_
              refine lp (v := .pointer (some ⟨b1, f1 + i * 1, none⟩)) rfl rfl (run_idxQ (p := pA) (cap := cA) (n := A.length) (j := .i64) (k := i) (sz := 1) rfl Try.underlying24 (by kernel_rfl) (by kernel_rfl) hp1 (by kernel_rfl) (by omega)) ?_
              refine lv (v := .slice p1 y1.length c1) rfl rfl (yb_old (off := f1 + i * 1) rfl (by kernel_rfl) hc1 lt1 Try.underlying37 rfl) ?_
              refine lm (v := .int .i64 ((k : Nat) : Int)) rfl rfl ?_
              refine lp (v := .pointer (some ⟨b2, f2 + k * 1, none⟩)) rfl rfl (run_idxQ (p := p1) (cap := c1) (n := y1.length) (j := .i64) (k := k) (sz := 1) rfl Try.underlying37 (by kernel_rfl) (by kernel_rfl) hp2 (by kernel_rfl) (by omega)) ?_
              refine lv (v := .slice p2 y2.length c2) rfl rfl (yb_old (off := f2 + k * 1) rfl (by kernel_rfl) hc2 lt2 Try.underlying43 rfl) ?_
              refine lp (v := .int .i64 ((y2.length : Nat) : Int)) rfl rfl (run_lenL (p := p2) (cap := c2) (n := y2.length) rfl Try.underlying43 (by kernel_rfl)) ?_
              refine lp (v := .bool (decide (m < y2.length))) rfl rfl (run_bin rfl (vx := (.int .i64 ((m : Nat) : Int))) (vy := (.int .i64 ((y2.length : Nat) : Int))) (by kernel_rfl) (by kernel_rfl) fun w => bn_lss rfl w) ?_
              refine wpL_done (fun W17 hW17 => ?_)
              refine (show Code.wp _ _ _ _ _ from ?_)
              cases hd5 : (decide (m < y2.length)) with
              | false =>
                have h5 : ¬ (m < y2.length) := of_decide_eq_false hd5
                clear hd5
                refine wp_cond_false rfl ?_
                refine wp_exit ?_
                refine (show Code.wp _ _ _ _ _ from ?_)
                refine wp_region_L (W0 := w) [] (hW17) ?_
                refine lm (v := .int .i64 ((k : Nat) : Int)) rfl rfl ?_
                refine lp (v := .int .i64 (((k + 1) : Nat) : Int)) rfl rfl (run_bin rfl (vx := (.int .i64 ((k : Nat) : Int))) (vy := (.int .i64 ((1 : Nat) : Int))) (by kernel_rfl) (by kernel_rfl) fun w => bn_add (z := (k + 1)) rfl (wr_i64 (by omega)) w) ?_
                refine lm (v := .int .i64 (((k + 1) : Nat) : Int)) rfl rfl ?_
                refine wpL_done (fun W18 hW18 => ?_)
                go_roundw
                case rel =>
                  repeat apply Exists.intro
                  exact ⟨⟨k + 1, n2, (by omega), (by have z := @drop_end _ List.length _ _ h5; omega), rfl, rfl, hW18⟩, rfl⟩
                case measure => (show y1.length - (intOf (.int .i64 (((k + 1) : Nat) : Int))).toNat < y1.length - (intOf (.int .i64 ((k : Nat) : Int))).toNat); simp only [intOf]; omega
              | true =>
                have h5 : m < y2.length := of_decide_eq_true hd5
                clear hd5
                refine wp_cond_true rfl ?_
                refine wp_skip ?_
                refine (show Code.wp _ _ _ _ _ from ?_)
                refine wp_seq ?_
                refine wp_block ?_
                refine wp_region_L (W0 := w) [] (hW17) ?_
                refine lm (v := .int .i64 ((n2 : Nat) : Int)) rfl rfl ?_
                refine lm (v := .slice pA A.length cA) rfl rfl ?_
                refine lm (v := .int .i64 ((i : Nat) : Int)) rfl rfl ?_
                refine lp (v := .pointer (some ⟨b1, f1 + i * 1, none⟩)) rfl rfl (run_idxQ (p := pA) (cap := cA) (n := A.length) (j := .i64) (k := i) (sz := 1) rfl Try.underlying24 (by kernel_rfl) (by kernel_rfl) hp1 (by kernel_rfl) (by omega)) ?_
                refine lv (v := .slice p1 y1.length c1) rfl rfl (yb_old (off := f1 + i * 1) rfl (by kernel_rfl) hc1 lt1 Try.underlying37 rfl) ?_
                refine lm (v := .int .i64 ((k : Nat) : Int)) rfl rfl ?_
                refine lp (v := .pointer (some ⟨b2, f2 + k * 1, none⟩)) rfl rfl (run_idxQ (p := p1) (cap := c1) (n := y1.length) (j := .i64) (k := k) (sz := 1) rfl Try.underlying37 (by kernel_rfl) (by kernel_rfl) hp2 (by kernel_rfl) (by omega)) ?_
                refine lv (v := .slice p2 y2.length c2) rfl rfl (yb_old (off := f2 + k * 1) rfl (by kernel_rfl) hc2 lt2 Try.underlying43 rfl) ?_
                refine lm (v := .int .i64 ((m : Nat) : Int)) rfl rfl ?_
                obtain ⟨y3, b3, f3, hy3, hp3, lt3, hc3⟩ := lvp_str (k := m) HY2.out (by omega)
                refine lp (v := .pointer (some ⟨b3, f3 + m * 1, none⟩)) rfl rfl (run_idxQ (p := p2) (cap := c2) (n := y2.length) (j := .i64) (k := m) (sz := 1) rfl Try.underlying43 (by kernel_rfl) (by kernel_rfl) hp3 (by kernel_rfl) (by omega)) ?_
                have ds3 := @drop_sum _ List.length _ _ _ hy3
                refine lv (v := strV y3) rfl rfl (yb_old (off := f3 + m * 1) rfl (by kernel_rfl) hc3 lt3 Try.underlying9 rfl) ?_
                refine lp (v := .int .i64 ((y3.length : Nat) : Int)) rfl rfl (run_lenS (l := y3) rfl Try.underlying9 (by kernel_rfl)) ?_
                refine lp (v := .int .i64 (((n2 + y3.length) : Nat) : Int)) rfl rfl (run_bin rfl (vx := (.int .i64 ((n2 : Nat) : Int))) (vy := (.int .i64 ((y3.length : Nat) : Int))) (by kernel_rfl) (by kernel_rfl) fun w => bn_add (z := (n2 + y3.length)) rfl (wr_i64 (by omega)) w) ?_
                refine lm (v := .int .i64 (((n2 + y3.length) : Nat) : Int)) rfl rfl ?_
                refine wpL_done (fun W19 hW19 => ?_)
                refine (show Code.wp _ _ _ _ _ from ?_)
                refine wp_region_L (W0 := w) [] (hW19) ?_
                refine lm (v := .int .i64 ((m : Nat) : Int)) rfl rfl ?_
                refine lp (v := .int .i64 (((m + 1) : Nat) : Int)) rfl rfl (run_bin rfl (vx := (.int .i64 ((m : Nat) : Int))) (vy := (.int .i64 ((1 : Nat) : Int))) (by kernel_rfl) (by kernel_rfl) fun w => bn_add (z := (m + 1)) rfl (wr_i64 (by omega)) w) ?_
                refine lm (v := .int .i64 (((m + 1) : Nat) : Int)) rfl rfl ?_
                refine wpL_done (fun W20 hW20 => ?_)
                go_roundw
                case rel =>
                  repeat apply Exists.intro
                  exact ⟨⟨m + 1, (n2 + y3.length), (by omega), (by have z := @drop_sum _ List.length _ _ _ hy3; omega), rfl, rfl, hW20⟩, rfl⟩
                case measure => (show y2.length - (intOf (.int .i64 (((m + 1) : Nat) : Int))).toNat < y2.length - (intOf (.int .i64 ((m : Nat) : Int))).toNat); simp only [intOf]; omega
  | true =>
    have h1 : 40 < A.length := of_decide_eq_true hd1
    clear hd1
    refine wp_cond_true rfl ?_
    refine wp_seq ?_
    refine wp_region_L (W0 := w) [] (hW2) ?_
    refine lm (v := .bool false) rfl rfl ?_
    refine wpL_done (fun W21 hW21 => ?_)
    refine (show Code.wp _ _ _ _ _ from ?_)
    refine wp_ret ?_
    try simp only [inBlock_ret, then_ret]
    refine bodyPost_ret (v := .bool false) ?_ rfl ?_
    · kernel_rfl
    · exact ⟨(bool_is (by rw [eq_comm]; exact small_n h1)), hW21.1⟩
end Go.Proofs.Ytppegdbelgobiaa
namespace Go.Proofs.Ytppegdbelgobiaa
open Go Go.RowKit Tw
def RdK (W0 : Base) (A : List Sgm) (v : Value) (T : List (Nat × Obj)) : Prop :=
  ∃ p c, v = .tuple #[.slice p A.length c, .int .i64 0, .int .i64 0] ∧ MkV (SgO W0.B) W0 (.slice p A.length c) A T
theorem Read_ok {W0 : Base} {l : List UInt8} {A : List Sgm} (hr : readT l = .ok A) (ll : l.length ≤ 4000000000) (w : World) (hw : KS W0 [] w) : Calls Try.prog 15 #[strV l] w fun e w' => ∃ v T, e = .returned v ∧ KS W0 T w' ∧ RdK W0 A v T := by
  refine (Read_any l ll w hw).mono fun e w' ⟨v, T, he, hk, x, hv, hM, hN⟩ => ⟨v, T, he, hk, ?_⟩
  obtain ⟨p, c, rfl, _⟩ := hM A hr w' hk
  refine ⟨p, c, ?_, hM A hr⟩
  rw [hv, hr]
  rfl
theorem Read_bad {W0 : Base} {l : List UInt8} {p er : Nat} (hr : readT l = .bad p er) (ll : l.length ≤ 4000000000) (w : World) (hw : KS W0 [] w) : Calls Try.prog 15 #[strV l] w fun e w' => ∃ v T, e = .returned v ∧ KS W0 T w' ∧ (v = .tuple #[.slice none 0 0, .int .i64 ((p : Nat) : Int), .int .i64 ((er : Nat) : Int)] ∧ T = []) := by
  refine (Read_any l ll w hw).mono fun e w' ⟨v, T, he, hk, x, hv, hM, hN⟩ => ⟨v, [], he, ⟨hk.1, fun _ h => by cases h⟩, ?_, rfl⟩
  rw [hv, hN _ _ hr, hr]
  rfl
theorem lv_lvp {α : Type} {R : World → Value → α → Prop} {W : World} {p : Option Addr} {n c : Nat} {l : List α} (h : LV R W (.slice p n c) l) : LVp R W p l := by
  obtain ⟨p', c', e, h⟩ := h
  cases e
  exact h
theorem lv_blockN {α : Type} {R : World → Value → α → Prop} {W0 : Base} {g n : Nat} {xs : List Value} {l : List α} {t : TypeId} {fr : Nat × Nat} {T : List (Nat × Obj)} (hx : MkE R W0 xs l T) (hn : n = l.length) : MkV (LV R) W0 (.slice (some ⟨g, 0, none⟩) n n) l ((g, .cells xs.toArray t fr) :: T) := by
  intro W hW
  have hb := hW.2 _ (.head _)
  refine ⟨some ⟨g, 0, none⟩, n, by rw [hn], xs, .inr ⟨g, 0, rfl, lt_of_block hb, fun i u hu => ?_⟩, hx.1, hx.2 W hW.tail⟩
  rw [cell_of_row W g (0 + i) xs.toArray t fr hb, Nat.zero_add]
  simpa using hu
theorem mke_read {α : Type} {R : World → Value → α → Prop} (hR : Keeps R) {W : World} {p : Option Addr} {l : List α} (h : LVp R W p l) : ∃ vs, SLV W p vs ∧ vs.length = l.length ∧ MkE R (W : Base) vs l [] := by
  obtain ⟨vs, h1, h2, h3⟩ := h
  exact ⟨vs, h1, h2, h2, fun W' hW k x y hx hy => hR _ _ _ _ (h3 k x y hx hy) hW.1⟩
theorem MkE.app {α : Type} {R : World → Value → α → Prop} {W0 : Base} {xs ys : List Value} {l m : List α} {T T' : List (Nat × Obj)} (h : MkE R W0 xs l T) (h' : MkE R W0 ys m T') : MkE R W0 (xs ++ ys) (l ++ m) (T ++ T') := by
  obtain ⟨h1, h2⟩ := h
  obtain ⟨g1, g2⟩ := h'
  refine ⟨by simp [h1, g1], fun W hW k u v hu hv => ?_⟩
  have hA := hW.sub (fun p hp => List.mem_append_left T' hp)
  have hB := hW.sub (fun p hp => List.mem_append_right T hp)
  rcases Nat.lt_or_ge k xs.length with hk | hk
  · rw [List.getElem?_append_left hk] at hu
    rw [List.getElem?_append_left (by omega)] at hv
    exact h2 W hA k u v hu hv
  · rw [List.getElem?_append_right hk] at hu
    rw [List.getElem?_append_right (by omega), ← h1] at hv
    exact g2 W hB _ u v hu hv
theorem one_lv {α : Type} {R : World → Value → List α → Prop} (hR : ∀ W v y, R W v y → ∃ p n c, v = .slice p n c) {W : World} {vs : List Value} {l : List (List α)} (h : MkE R (W : Base) vs l []) : ∀ u ∈ vs, u.oneCell' = true := by
  intro u hu
  obtain ⟨k, hk, rfl⟩ := List.getElem_of_mem hu
  have hl : k < l.length := by rw [← h.1]; exact hk
  obtain ⟨p, n, c, e⟩ := hR _ _ _ (h.2 W (KS.start W) k vs[k] l[k] (List.getElem?_eq_getElem hk) (List.getElem?_eq_getElem hl))
  rw [e]
  rfl
theorem lv_shape {α : Type} {R : World → Value → α → Prop} (W : World) (v : Value) (y : List α) (h : LV R W v y) : ∃ p n c, v = .slice p n c := by
  obtain ⟨p, c, e, _⟩ := h
  exact ⟨p, _, c, e⟩
theorem right_lens {A : List Sgm} (h : A.all rightS = true) : ∀ y ∈ A, y.length ≤ 4000000000 ∧ ∀ z ∈ y, z.length ≤ 4000000000 := by
  intro y hy
  obtain ⟨h1, h2⟩ := right_all (List.all_eq_true.1 h y hy)
  exact ⟨by omega, fun z hz => by have := (elt_all (List.all_eq_true.1 h1 z hz)).2; omega⟩
theorem writeV_ok {A : List Sgm} {t : List UInt8} (h : writeT A = .ok t) : writeV A = .tuple #[strV t, .int .i64 0] := by
  unfold writeT at h
  unfold writeV
  split at h
  · cases h
  · rename_i h1
    split at h
    · cases h
    · rename_i h2
      split at h
      · cases h
      · rename_i h3
        cases h
        rw [if_neg h1, if_neg h2, if_neg h3]
theorem MkV.sub {α : Type} {R : World → Value → α → Prop} {W0 : Base} {v : Value} {y : α} {T T' : List (Nat × Obj)} (h : MkV R W0 v y T) (hs : ∀ p ∈ T, p ∈ T') : MkV R W0 v y T' := fun W hW => h W (hW.sub hs)
theorem sgo_sgr {B : Nat} {W0 : Base} {v : Value} {A : List Sgm} {T : List (Nat × Obj)} (h : MkV (SgO B) W0 v A T) : MkV SgR W0 v A T := fun W hW => SgO.lv W v A (h W hW)
theorem run_minR {P : Program} {o : Oper} {a : Act} {x y : Operand} {k k2 : IntKind} {u v z : Int} {tt : Array TypeId} (ho : o.op = .call { callee := .builtin .min, args := #[x, y], argTypes := tt }) (hx : a.eval x = .int k u) (hy : a.eval y = .int k2 v) (hz : (if v < u then v else u) = z) (w : World) : (execOp a.eval o).run P w = .ok (.value (.int k z)) w := by
  subst hz
  unfold execOp
  simp [ho, resolve, invoke, builtin, hx, hy, run_min_int2]
set_option maxRecDepth 100000 in
set_option maxHeartbeats 4000000 in
theorem awake_any  (w : World) : Calls Try.prog 10 #[] w fun e w' => e = .returned (.bool true) ∧ Below w.heap.size w w' := by
  have r1 : readT [65, 43, 98, 58, 99, 43, 63, 39, 120, 39] = .ok ([[[[65]], [[98], [99]], [[39, 120]]]] : List Sgm) := by kernel_rfl
  have r2 : readT [32, 65, 39, 10, 66, 39, 39] = .ok ([[[[65]]], [[[66]]], [[[]]]] : List Sgm) := by kernel_rfl
  have r3 : readT [32] = .ok ([] : List Sgm) := by kernel_rfl
  have r4 : readT [65, 63, 98, 39] = .bad 1 41 := by kernel_rfl
  have r5 : readT [65, 10] = .bad 1 40 := by kernel_rfl
  have r6 : readT [65, 43] = .bad 2 42 := by kernel_rfl
  have v1 : writeV ([[[[65]], [[98], [99]], [[39, 120]]]] : List Sgm) = .tuple #[strV [65, 43, 98, 58, 99, 43, 63, 39, 120, 39], .int .i64 0] := by kernel_rfl
  have v2 : writeV ([[[[32, 120]]]] : List Sgm) = .tuple #[strV [63, 32, 120, 39], .int .i64 0] := by kernel_rfl
  go_enter Try.func10, Try.ntmps10
  refine wp_seq ?_
  refine wp_region_L (W0 := w) [] (KS.start w) ?_
  refine lm (v := .bool false) rfl rfl ?_
  refine wpL_done (fun W1 hW1 => ?_)
  refine (show Code.wp _ _ _ _ _ from ?_)
  refine wp_seq ?_
  refine wp_region_L (W0 := w) [] (hW1) ?_
  refine wpL_c (f := 15) (args := #[strV [65, 43, 98, 58, 99, 43, 63, 39, 120, 39]]) (RdK w ([[[[65]], [[98], [99]], [[39, 120]]]] : List Sgm)) rfl (by kernel_rfl) (fun _ => (by kernel_rfl)) (fun W hW => Read_ok r1 (by first | omega | (simp only [List.length_append, List.length_cons, List.length_nil]; omega)) W (hW.sub (fun _ h => by cases h))) (fun _ => by simp only [List.setIfInBounds_toArray, List.set_cons_succ, List.set_cons_zero] <;> rfl) ?_
  rintro _ T1 ⟨p1, c1, rfl, M1⟩
  refine lm (v := .tuple #[.slice p1 (([[[[65]], [[98], [99]], [[39, 120]]]] : List Sgm).length) c1, .int .i64 0, .int .i64 0]) rfl rfl ?_
  refine lm (v := .slice p1 (([[[[65]], [[98], [99]], [[39, 120]]]] : List Sgm).length) c1) rfl rfl ?_
  refine lm (v := .int .i64 0) rfl rfl ?_
  refine lm (v := .int .i64 0) rfl rfl ?_
  refine lm (v := .slice p1 (([[[[65]], [[98], [99]], [[39, 120]]]] : List Sgm).length) c1) rfl rfl ?_
  refine lm (v := .int .i64 0) rfl rfl ?_
  refine lm (v := .int .i64 0) rfl rfl ?_
  refine wpL_done (fun W2 hW2 => ?_)
  have HB3 := Lib.hid ((lv_lvp ((sgo_sgr M1) W2 ((hW2).sub (fun p hp => by first | exact hp | (simp only [List.mem_cons, List.mem_append, List.nil_append, List.not_mem_nil, or_assoc, or_false, false_or, List.cons_append, List.append_assoc] at hp ⊢ <;> grind))))))
  have hbz2 : Below w.heap.size w W2 := (hW2).1
  refine (show Code.wp _ _ _ _ _ from ?_)
  refine wp_seq ?_
  refine wp_region_L (W0 := W2) [] (KS.start W2) ?_
  refine lm (v := .slice p1 (([[[[65]], [[98], [99]], [[39, 120]]]] : List Sgm).length) c1) rfl rfl ?_
  refine lv (v := .tuple #[strV [65, 43, 98, 58, 99, 43, 63, 39, 120, 39], .int .i64 0]) rfl rfl (yb_call (f := 14) (args := #[.slice p1 (([[[[65]], [[98], [99]], [[39, 120]]]] : List Sgm).length) c1]) (fun _ => by kernel_rfl) fun W hW => (by have z := PWrite_any ([[[[65]], [[98], [99]], [[39, 120]]]] : List Sgm) p1 c1 W (HB3.out.keep ElR.keeps hW.1); rw [v1] at z; exact z)) ?_
  refine lm (v := .tuple #[strV [65, 43, 98, 58, 99, 43, 63, 39, 120, 39], .int .i64 0]) rfl rfl ?_
  refine lm (v := strV [65, 43, 98, 58, 99, 43, 63, 39, 120, 39]) rfl rfl ?_
  refine lm (v := .int .i64 0) rfl rfl ?_
  refine lm (v := strV [65, 43, 98, 58, 99, 43, 63, 39, 120, 39]) rfl rfl ?_
  refine lm (v := .int .i64 0) rfl rfl ?_
  refine wpL_done (fun W3 hW3 => ?_)
  refine (show Code.wp _ _ _ _ _ from ?_)
  refine wp_seq ?_
  refine wp_seq ?_
  refine wp_region_L (W0 := W2) [] (hW3) ?_
  refine lm (v := .int .i64 0) rfl rfl ?_
  refine lm (v := .bool false) rfl rfl ?_
  refine lm (v := .bool false) rfl rfl ?_
  refine lm (v := .int .i64 0) rfl rfl ?_
  refine lm (v := .bool false) rfl rfl ?_
  refine lm (v := .bool false) rfl rfl ?_
  refine lm (v := .bool false) rfl rfl ?_
  refine lm (v := .slice p1 (([[[[65]], [[98], [99]], [[39, 120]]]] : List Sgm).length) c1) rfl rfl ?_
  refine wpL_newg (fun g => .slice (some ⟨g, 0, none⟩) 1 1) (obi := .cells #[strV [65]] 9 (0, 0)) rfl (by kernel_rfl) (fun _ => by kernel_rfl) (fun _ => by simp only [List.setIfInBounds_toArray, List.set_cons_succ, List.set_cons_zero] <;> rfl) fun g4 Bg4 Fg4 => ?_
  refine wpL_newg (fun g => .slice (some ⟨g, 0, none⟩) 2 2) (obi := .cells #[strV [98], strV [99]] 9 (0, 0)) rfl (by kernel_rfl) (fun _ => by kernel_rfl) (fun _ => by simp only [List.setIfInBounds_toArray, List.set_cons_succ, List.set_cons_zero] <;> rfl) fun g5 Bg5 Fg5 => ?_
  obtain dj6_0 : g4 ≠ g5 := by simpa only [dj_app_l, dj_app_r, dj_cons_l, dj_cons_r, dj_nil_l, dj_nil_r, dk_app, dk_cons, dk_nil, and_true, true_and, and_assoc] using (show Dk g5 [(g4, .cells #[strV [65]] 9 (0, 0))] from Fg5)
  refine wpL_newg (fun g => .slice (some ⟨g, 0, none⟩) 1 1) (obi := .cells #[strV [39, 120]] 9 (0, 0)) rfl (by kernel_rfl) (fun _ => by kernel_rfl) (fun _ => by simp only [List.setIfInBounds_toArray, List.set_cons_succ, List.set_cons_zero] <;> rfl) fun g7 Bg7 Fg7 => ?_
  obtain ⟨dj8_0, dj8_1⟩ : g5 ≠ g7 ∧ g4 ≠ g7 := by simpa only [dj_app_l, dj_app_r, dj_cons_l, dj_cons_r, dj_nil_l, dj_nil_r, dk_app, dk_cons, dk_nil, and_true, true_and, and_assoc] using (show Dk g7 [(g5, .cells #[strV [98], strV [99]] 9 (0, 0)), (g4, .cells #[strV [65]] 9 (0, 0))] from Fg7)
  refine wpL_newg (fun g => .slice (some ⟨g, 0, none⟩) 3 3) (obi := .cells #[.slice (some ⟨g4, 0, none⟩) 1 1, .slice (some ⟨g5, 0, none⟩) 2 2, .slice (some ⟨g7, 0, none⟩) 1 1] 43 (0, 0)) rfl (by kernel_rfl) (fun _ => by kernel_rfl) (fun _ => by simp only [List.setIfInBounds_toArray, List.set_cons_succ, List.set_cons_zero] <;> rfl) fun g9 Bg9 Fg9 => ?_
  obtain ⟨dj10_0, dj10_1, dj10_2⟩ : g7 ≠ g9 ∧ g5 ≠ g9 ∧ g4 ≠ g9 := by simpa only [dj_app_l, dj_app_r, dj_cons_l, dj_cons_r, dj_nil_l, dj_nil_r, dk_app, dk_cons, dk_nil, and_true, true_and, and_assoc] using (show Dk g9 [(g7, .cells #[strV [39, 120]] 9 (0, 0)), (g5, .cells #[strV [98], strV [99]] 9 (0, 0)), (g4, .cells #[strV [65]] 9 (0, 0))] from Fg9)
  refine wpL_newg (fun g => .slice (some ⟨g, 0, none⟩) 1 1) (obi := .cells #[.slice (some ⟨g9, 0, none⟩) 3 3] 37 (0, 0)) rfl (by kernel_rfl) (fun _ => by kernel_rfl) (fun _ => by simp only [List.setIfInBounds_toArray, List.set_cons_succ, List.set_cons_zero] <;> rfl) fun g11 Bg11 Fg11 => ?_
  obtain ⟨dj12_0, dj12_1, dj12_2, dj12_3⟩ : g9 ≠ g11 ∧ g7 ≠ g11 ∧ g5 ≠ g11 ∧ g4 ≠ g11 := by simpa only [dj_app_l, dj_app_r, dj_cons_l, dj_cons_r, dj_nil_l, dj_nil_r, dk_app, dk_cons, dk_nil, and_true, true_and, and_assoc] using (show Dk g11 [(g9, .cells #[.slice (some ⟨g4, 0, none⟩) 1 1, .slice (some ⟨g5, 0, none⟩) 2 2, .slice (some ⟨g7, 0, none⟩) 1 1] 43 (0, 0)), (g7, .cells #[strV [39, 120]] 9 (0, 0)), (g5, .cells #[strV [98], strV [99]] 9 (0, 0)), (g4, .cells #[strV [65]] 9 (0, 0))] from Fg11)
  refine lv (v := .bool true) rfl rfl (yb_call (f := 16) (args := #[.slice p1 (([[[[65]], [[98], [99]], [[39, 120]]]] : List Sgm).length) c1, .slice (some ⟨g11, 0, none⟩) 1 1]) (fun _ => by kernel_rfl) fun W hW => (by have z := same_any ([[[[65]], [[98], [99]], [[39, 120]]]] : List Sgm) ([[[[65]], [[98], [99]], [[39, 120]]]] : List Sgm) p1 (some ⟨g11, 0, none⟩) c1 1 (by first | decide | omega) (by decide) W (HB3.out.keep ElR.keeps hW.1) (lv_lvp ((show MkV SgR W2 (.slice (some ⟨g11, 0, none⟩) 1 1) ([[[[65]], [[98], [99]], [[39, 120]]]] : List Sgm) [(g11, .cells #[.slice (some ⟨g9, 0, none⟩) 3 3] 37 (0, 0)), (g9, .cells #[.slice (some ⟨g4, 0, none⟩) 1 1, .slice (some ⟨g5, 0, none⟩) 2 2, .slice (some ⟨g7, 0, none⟩) 1 1] 43 (0, 0)), (g4, .cells #[strV [65]] 9 (0, 0)), (g5, .cells #[strV [98], strV [99]] 9 (0, 0)), (g7, .cells #[strV [39, 120]] 9 (0, 0))] from lv_blockN (l := ([[[[65]], [[98], [99]], [[39, 120]]]] : List Sgm)) (MkE.snoc MkE.nil (show MkV ElR W2 (.slice (some ⟨g9, 0, none⟩) 3 3) ([[[65]], [[98], [99]], [[39, 120]]] : Sgm) [(g9, .cells #[.slice (some ⟨g4, 0, none⟩) 1 1, .slice (some ⟨g5, 0, none⟩) 2 2, .slice (some ⟨g7, 0, none⟩) 1 1] 43 (0, 0)), (g4, .cells #[strV [65]] 9 (0, 0)), (g5, .cells #[strV [98], strV [99]] 9 (0, 0)), (g7, .cells #[strV [39, 120]] 9 (0, 0))] from lv_blockN (l := ([[[65]], [[98], [99]], [[39, 120]]] : Sgm)) (MkE.snoc (MkE.snoc (MkE.snoc MkE.nil (show MkV TxR W2 (.slice (some ⟨g4, 0, none⟩) 1 1) ([[65]] : Elt) [(g4, .cells #[strV [65]] 9 (0, 0))] from lv_blockN (MkE.strs ([[65]] : Elt)) rfl)) (show MkV TxR W2 (.slice (some ⟨g5, 0, none⟩) 2 2) ([[98], [99]] : Elt) [(g5, .cells #[strV [98], strV [99]] 9 (0, 0))] from lv_blockN (MkE.strs ([[98], [99]] : Elt)) rfl)) (show MkV TxR W2 (.slice (some ⟨g7, 0, none⟩) 1 1) ([[39, 120]] : Elt) [(g7, .cells #[strV [39, 120]] 9 (0, 0))] from lv_blockN (MkE.strs ([[39, 120]] : Elt)) rfl)) rfl)) rfl) W (hW.sub (fun p hp => by first | exact hp | (simp only [List.mem_cons, List.mem_append, List.nil_append, List.not_mem_nil, or_assoc, or_false, false_or, List.cons_append, List.append_assoc] at hp ⊢ <;> grind))))); rw [decide_eq_true rfl] at z; exact z)) ?_
  refine lm (v := .bool false) rfl rfl ?_
  refine lm (v := .bool false) rfl rfl ?_
  refine lm (v := .bool false) rfl rfl ?_
  refine lm (v := strV [65, 43, 98, 58, 99, 43, 63, 39, 120, 39]) rfl rfl ?_
  refine lp (v := .bool false) rfl rfl (run_bin rfl (vx := strV [65, 43, 98, 58, 99, 43, 63, 39, 120, 39]) (vy := strV [65, 43, 98, 58, 99, 43, 63, 39, 120, 39]) (by kernel_rfl) (by kernel_rfl) fun w => bs_neq (decide_eq_true rfl) w) ?_
  refine lm (v := .bool false) rfl rfl ?_
  refine lm (v := .bool false) rfl rfl ?_
  refine lm (v := .int .i64 0) rfl rfl ?_
  refine lm (v := .bool false) rfl rfl ?_
  refine lm (v := .bool false) rfl rfl ?_
  refine wpL_done (fun W4 hW4 => ?_)
  refine (show Code.wp _ _ _ _ _ from ?_)
  refine wp_cond_false rfl ?_
  refine wp_skip ?_
  refine (show Code.wp _ _ _ _ _ from ?_)
  refine wp_seq ?_
  refine wp_region_L (W0 := W2) [(g11, .cells #[.slice (some ⟨g9, 0, none⟩) 3 3] 37 (0, 0)), (g9, .cells #[.slice (some ⟨g4, 0, none⟩) 1 1, .slice (some ⟨g5, 0, none⟩) 2 2, .slice (some ⟨g7, 0, none⟩) 1 1] 43 (0, 0)), (g7, .cells #[strV [39, 120]] 9 (0, 0)), (g5, .cells #[strV [98], strV [99]] 9 (0, 0)), (g4, .cells #[strV [65]] 9 (0, 0))] (hW4) ?_
  refine wpL_c (f := 15) (args := #[strV [32, 65, 39, 10, 66, 39, 39]]) (RdK W2 ([[[[65]]], [[[66]]], [[[]]]] : List Sgm)) rfl (by kernel_rfl) (fun _ => (by kernel_rfl)) (fun W hW => Read_ok r2 (by first | omega | (simp only [List.length_append, List.length_cons, List.length_nil]; omega)) W (hW.sub (fun _ h => by cases h))) (fun _ => by simp only [List.setIfInBounds_toArray, List.set_cons_succ, List.set_cons_zero] <;> rfl) ?_
  rintro _ T13 ⟨p13, c13, rfl, M13⟩
  refine lm (v := .tuple #[.slice p13 (([[[[65]]], [[[66]]], [[[]]]] : List Sgm).length) c13, .int .i64 0, .int .i64 0]) rfl rfl ?_
  refine lm (v := .slice p13 (([[[[65]]], [[[66]]], [[[]]]] : List Sgm).length) c13) rfl rfl ?_
  refine lm (v := .int .i64 0) rfl rfl ?_
  refine lm (v := .int .i64 0) rfl rfl ?_
  refine lm (v := .slice p13 (([[[[65]]], [[[66]]], [[[]]]] : List Sgm).length) c13) rfl rfl ?_
  refine lm (v := .int .i64 0) rfl rfl ?_
  refine wpL_done (fun W5 hW5 => ?_)
  have HB15 := Lib.hid ((lv_lvp ((sgo_sgr M13) W5 ((hW5).sub (fun p hp => by first | exact hp | (simp only [List.mem_cons, List.mem_append, List.nil_append, List.not_mem_nil, or_assoc, or_false, false_or, List.cons_append, List.append_assoc] at hp ⊢ <;> grind))))))
  have HB16 := Lib.hid ((HB3.out.keep ElR.keeps (hW5).1))
  have hbz14 : Below w.heap.size w W5 := hbz2.trans ((hW5).1.mono hbz2.size)
  refine (show Code.wp _ _ _ _ _ from ?_)
  refine wp_seq ?_
  refine wp_region_L (W0 := W5) [] (KS.start W5) ?_
  refine wpL_c (f := 15) (args := #[strV [32]]) (RdK W5 ([] : List Sgm)) rfl (by kernel_rfl) (fun _ => (by kernel_rfl)) (fun W hW => Read_ok r3 (by first | omega | (simp only [List.length_append, List.length_cons, List.length_nil]; omega)) W (hW.sub (fun _ h => by cases h))) (fun _ => by simp only [List.setIfInBounds_toArray, List.set_cons_succ, List.set_cons_zero] <;> rfl) ?_
  rintro _ T17 ⟨p17, c17, rfl, M17⟩
  refine lm (v := .tuple #[.slice p17 (([] : List Sgm).length) c17, .int .i64 0, .int .i64 0]) rfl rfl ?_
  refine lm (v := .slice p17 (([] : List Sgm).length) c17) rfl rfl ?_
  refine lm (v := .int .i64 0) rfl rfl ?_
  refine lm (v := .int .i64 0) rfl rfl ?_
  refine lm (v := .slice p17 (([] : List Sgm).length) c17) rfl rfl ?_
  refine lm (v := .int .i64 0) rfl rfl ?_
  refine lm (v := .int .i64 0) rfl rfl ?_
  refine wpL_done (fun W6 hW6 => ?_)
  have HB19 := Lib.hid ((HB15.out.keep ElR.keeps (hW6).1))
  have HB20 := Lib.hid ((lv_lvp ((sgo_sgr M17) W6 ((hW6).sub (fun p hp => by first | exact hp | (simp only [List.mem_cons, List.mem_append, List.nil_append, List.not_mem_nil, or_assoc, or_false, false_or, List.cons_append, List.append_assoc] at hp ⊢ <;> grind))))))
  have HB21 := Lib.hid ((HB16.out.keep ElR.keeps (hW6).1))
  have hbz18 : Below w.heap.size w W6 := hbz14.trans ((hW6).1.mono hbz14.size)
  refine (show Code.wp _ _ _ _ _ from ?_)
  refine wp_seq ?_
  refine wp_region_L (W0 := W6) [] (KS.start W6) ?_
  refine wpL_new (fun g => .slice (some ⟨g, 0, none⟩) 1 1) (obi := .cells #[strV [32, 120]] 9 (0, 0)) rfl rfl (fun _ => by kernel_rfl) (fun _ => by simp only [List.setIfInBounds_toArray, List.set_cons_succ, List.set_cons_zero] <;> rfl) fun g22 Bg22 Fg22 => ?_
  refine wpL_new (fun g => .slice (some ⟨g, 0, none⟩) 1 1) (obi := .cells #[.slice (some ⟨g22, 0, none⟩) 1 1] 43 (0, 0)) rfl rfl (fun _ => by kernel_rfl) (fun _ => by simp only [List.setIfInBounds_toArray, List.set_cons_succ, List.set_cons_zero] <;> rfl) fun g23 Bg23 Fg23 => ?_
  obtain dj24_0 : g22 ≠ g23 := by simpa only [dj_app_l, dj_app_r, dj_cons_l, dj_cons_r, dj_nil_l, dj_nil_r, dk_app, dk_cons, dk_nil, and_true, true_and, and_assoc] using (show Dk g23 [(g22, .cells #[strV [32, 120]] 9 (0, 0))] from Fg23)
  refine wpL_new (fun g => .slice (some ⟨g, 0, none⟩) 1 1) (obi := .cells #[.slice (some ⟨g23, 0, none⟩) 1 1] 37 (0, 0)) rfl rfl (fun _ => by kernel_rfl) (fun _ => by simp only [List.setIfInBounds_toArray, List.set_cons_succ, List.set_cons_zero] <;> rfl) fun g25 Bg25 Fg25 => ?_
  obtain ⟨dj26_0, dj26_1⟩ : g23 ≠ g25 ∧ g22 ≠ g25 := by simpa only [dj_app_l, dj_app_r, dj_cons_l, dj_cons_r, dj_nil_l, dj_nil_r, dk_app, dk_cons, dk_nil, and_true, true_and, and_assoc] using (show Dk g25 [(g23, .cells #[.slice (some ⟨g22, 0, none⟩) 1 1] 43 (0, 0)), (g22, .cells #[strV [32, 120]] 9 (0, 0))] from Fg25)
  refine lv (v := .tuple #[strV [63, 32, 120, 39], .int .i64 0]) rfl rfl (yb_call (f := 14) (args := #[.slice (some ⟨g25, 0, none⟩) 1 1]) (fun _ => by kernel_rfl) fun W hW => (by have z := PWrite_any ([[[[32, 120]]]] : List Sgm) (some ⟨g25, 0, none⟩) 1 W (lv_lvp ((show MkV SgR W6 (.slice (some ⟨g25, 0, none⟩) 1 1) ([[[[32, 120]]]] : List Sgm) [(g25, .cells #[.slice (some ⟨g23, 0, none⟩) 1 1] 37 (0, 0)), (g23, .cells #[.slice (some ⟨g22, 0, none⟩) 1 1] 43 (0, 0)), (g22, .cells #[strV [32, 120]] 9 (0, 0))] from lv_blockN (l := ([[[[32, 120]]]] : List Sgm)) (MkE.snoc MkE.nil (show MkV ElR W6 (.slice (some ⟨g23, 0, none⟩) 1 1) ([[[32, 120]]] : Sgm) [(g23, .cells #[.slice (some ⟨g22, 0, none⟩) 1 1] 43 (0, 0)), (g22, .cells #[strV [32, 120]] 9 (0, 0))] from lv_blockN (l := ([[[32, 120]]] : Sgm)) (MkE.snoc MkE.nil (show MkV TxR W6 (.slice (some ⟨g22, 0, none⟩) 1 1) ([[32, 120]] : Elt) [(g22, .cells #[strV [32, 120]] 9 (0, 0))] from lv_blockN (MkE.strs ([[32, 120]] : Elt)) rfl)) rfl)) rfl) W (hW.sub (fun p hp => by first | exact hp | (simp only [List.mem_cons, List.mem_append, List.nil_append, List.not_mem_nil, or_assoc, or_false, false_or, List.cons_append, List.append_assoc] at hp ⊢ <;> grind))))); rw [v2] at z; exact z)) ?_
  refine lm (v := .tuple #[strV [63, 32, 120, 39], .int .i64 0]) rfl rfl ?_
  refine lm (v := strV [63, 32, 120, 39]) rfl rfl ?_
  refine lm (v := .int .i64 0) rfl rfl ?_
  refine lm (v := strV [63, 32, 120, 39]) rfl rfl ?_
  refine lm (v := .int .i64 0) rfl rfl ?_
  refine wpL_done (fun W7 hW7 => ?_)
  refine (show Code.wp _ _ _ _ _ from ?_)
  refine wp_seq ?_
  refine wp_seq ?_
  refine wp_region_L (W0 := W6) [(g25, .cells #[.slice (some ⟨g23, 0, none⟩) 1 1] 37 (0, 0)), (g23, .cells #[.slice (some ⟨g22, 0, none⟩) 1 1] 43 (0, 0)), (g22, .cells #[strV [32, 120]] 9 (0, 0))] (hW7) ?_
  refine lm (v := .int .i64 0) rfl rfl ?_
  refine lm (v := .bool false) rfl rfl ?_
  refine lm (v := .bool false) rfl rfl ?_
  refine lm (v := .slice p13 (([[[[65]]], [[[66]]], [[[]]]] : List Sgm).length) c13) rfl rfl ?_
  refine wpL_newg (fun g => .slice (some ⟨g, 0, none⟩) 1 1) (obi := .cells #[strV [65]] 9 (0, 0)) rfl (by kernel_rfl) (fun _ => by kernel_rfl) (fun _ => by simp only [List.setIfInBounds_toArray, List.set_cons_succ, List.set_cons_zero] <;> rfl) fun g27 Bg27 Fg27 => ?_
  obtain ⟨dj28_0, dj28_1, dj28_2⟩ : g25 ≠ g27 ∧ g23 ≠ g27 ∧ g22 ≠ g27 := by simpa only [dj_app_l, dj_app_r, dj_cons_l, dj_cons_r, dj_nil_l, dj_nil_r, dk_app, dk_cons, dk_nil, and_true, true_and, and_assoc] using (show Dk g27 [(g25, .cells #[.slice (some ⟨g23, 0, none⟩) 1 1] 37 (0, 0)), (g23, .cells #[.slice (some ⟨g22, 0, none⟩) 1 1] 43 (0, 0)), (g22, .cells #[strV [32, 120]] 9 (0, 0))] from Fg27)
  refine wpL_newg (fun g => .slice (some ⟨g, 0, none⟩) 1 1) (obi := .cells #[.slice (some ⟨g27, 0, none⟩) 1 1] 43 (0, 0)) rfl (by kernel_rfl) (fun _ => by kernel_rfl) (fun _ => by simp only [List.setIfInBounds_toArray, List.set_cons_succ, List.set_cons_zero] <;> rfl) fun g29 Bg29 Fg29 => ?_
  obtain ⟨dj30_0, dj30_1, dj30_2, dj30_3⟩ : g27 ≠ g29 ∧ g25 ≠ g29 ∧ g23 ≠ g29 ∧ g22 ≠ g29 := by simpa only [dj_app_l, dj_app_r, dj_cons_l, dj_cons_r, dj_nil_l, dj_nil_r, dk_app, dk_cons, dk_nil, and_true, true_and, and_assoc] using (show Dk g29 [(g27, .cells #[strV [65]] 9 (0, 0)), (g25, .cells #[.slice (some ⟨g23, 0, none⟩) 1 1] 37 (0, 0)), (g23, .cells #[.slice (some ⟨g22, 0, none⟩) 1 1] 43 (0, 0)), (g22, .cells #[strV [32, 120]] 9 (0, 0))] from Fg29)
  refine wpL_newg (fun g => .slice (some ⟨g, 0, none⟩) 1 1) (obi := .cells #[strV [66]] 9 (0, 0)) rfl (by kernel_rfl) (fun _ => by kernel_rfl) (fun _ => by simp only [List.setIfInBounds_toArray, List.set_cons_succ, List.set_cons_zero] <;> rfl) fun g31 Bg31 Fg31 => ?_
  obtain ⟨dj32_0, dj32_1, dj32_2, dj32_3, dj32_4⟩ : g29 ≠ g31 ∧ g27 ≠ g31 ∧ g25 ≠ g31 ∧ g23 ≠ g31 ∧ g22 ≠ g31 := by simpa only [dj_app_l, dj_app_r, dj_cons_l, dj_cons_r, dj_nil_l, dj_nil_r, dk_app, dk_cons, dk_nil, and_true, true_and, and_assoc] using (show Dk g31 [(g29, .cells #[.slice (some ⟨g27, 0, none⟩) 1 1] 43 (0, 0)), (g27, .cells #[strV [65]] 9 (0, 0)), (g25, .cells #[.slice (some ⟨g23, 0, none⟩) 1 1] 37 (0, 0)), (g23, .cells #[.slice (some ⟨g22, 0, none⟩) 1 1] 43 (0, 0)), (g22, .cells #[strV [32, 120]] 9 (0, 0))] from Fg31)
  refine wpL_newg (fun g => .slice (some ⟨g, 0, none⟩) 1 1) (obi := .cells #[.slice (some ⟨g31, 0, none⟩) 1 1] 43 (0, 0)) rfl (by kernel_rfl) (fun _ => by kernel_rfl) (fun _ => by simp only [List.setIfInBounds_toArray, List.set_cons_succ, List.set_cons_zero] <;> rfl) fun g33 Bg33 Fg33 => ?_
  obtain ⟨dj34_0, dj34_1, dj34_2, dj34_3, dj34_4, dj34_5⟩ : g31 ≠ g33 ∧ g29 ≠ g33 ∧ g27 ≠ g33 ∧ g25 ≠ g33 ∧ g23 ≠ g33 ∧ g22 ≠ g33 := by simpa only [dj_app_l, dj_app_r, dj_cons_l, dj_cons_r, dj_nil_l, dj_nil_r, dk_app, dk_cons, dk_nil, and_true, true_and, and_assoc] using (show Dk g33 [(g31, .cells #[strV [66]] 9 (0, 0)), (g29, .cells #[.slice (some ⟨g27, 0, none⟩) 1 1] 43 (0, 0)), (g27, .cells #[strV [65]] 9 (0, 0)), (g25, .cells #[.slice (some ⟨g23, 0, none⟩) 1 1] 37 (0, 0)), (g23, .cells #[.slice (some ⟨g22, 0, none⟩) 1 1] 43 (0, 0)), (g22, .cells #[strV [32, 120]] 9 (0, 0))] from Fg33)
  refine wpL_newg (fun g => .slice (some ⟨g, 0, none⟩) 1 1) (obi := .cells #[strV []] 9 (0, 0)) rfl (by kernel_rfl) (fun _ => by kernel_rfl) (fun _ => by simp only [List.setIfInBounds_toArray, List.set_cons_succ, List.set_cons_zero] <;> rfl) fun g35 Bg35 Fg35 => ?_
  obtain ⟨dj36_0, dj36_1, dj36_2, dj36_3, dj36_4, dj36_5, dj36_6⟩ : g33 ≠ g35 ∧ g31 ≠ g35 ∧ g29 ≠ g35 ∧ g27 ≠ g35 ∧ g25 ≠ g35 ∧ g23 ≠ g35 ∧ g22 ≠ g35 := by simpa only [dj_app_l, dj_app_r, dj_cons_l, dj_cons_r, dj_nil_l, dj_nil_r, dk_app, dk_cons, dk_nil, and_true, true_and, and_assoc] using (show Dk g35 [(g33, .cells #[.slice (some ⟨g31, 0, none⟩) 1 1] 43 (0, 0)), (g31, .cells #[strV [66]] 9 (0, 0)), (g29, .cells #[.slice (some ⟨g27, 0, none⟩) 1 1] 43 (0, 0)), (g27, .cells #[strV [65]] 9 (0, 0)), (g25, .cells #[.slice (some ⟨g23, 0, none⟩) 1 1] 37 (0, 0)), (g23, .cells #[.slice (some ⟨g22, 0, none⟩) 1 1] 43 (0, 0)), (g22, .cells #[strV [32, 120]] 9 (0, 0))] from Fg35)
  refine wpL_newg (fun g => .slice (some ⟨g, 0, none⟩) 1 1) (obi := .cells #[.slice (some ⟨g35, 0, none⟩) 1 1] 43 (0, 0)) rfl (by kernel_rfl) (fun _ => by kernel_rfl) (fun _ => by simp only [List.setIfInBounds_toArray, List.set_cons_succ, List.set_cons_zero] <;> rfl) fun g37 Bg37 Fg37 => ?_
  obtain ⟨dj38_0, dj38_1, dj38_2, dj38_3, dj38_4, dj38_5, dj38_6, dj38_7⟩ : g35 ≠ g37 ∧ g33 ≠ g37 ∧ g31 ≠ g37 ∧ g29 ≠ g37 ∧ g27 ≠ g37 ∧ g25 ≠ g37 ∧ g23 ≠ g37 ∧ g22 ≠ g37 := by simpa only [dj_app_l, dj_app_r, dj_cons_l, dj_cons_r, dj_nil_l, dj_nil_r, dk_app, dk_cons, dk_nil, and_true, true_and, and_assoc] using (show Dk g37 [(g35, .cells #[strV []] 9 (0, 0)), (g33, .cells #[.slice (some ⟨g31, 0, none⟩) 1 1] 43 (0, 0)), (g31, .cells #[strV [66]] 9 (0, 0)), (g29, .cells #[.slice (some ⟨g27, 0, none⟩) 1 1] 43 (0, 0)), (g27, .cells #[strV [65]] 9 (0, 0)), (g25, .cells #[.slice (some ⟨g23, 0, none⟩) 1 1] 37 (0, 0)), (g23, .cells #[.slice (some ⟨g22, 0, none⟩) 1 1] 43 (0, 0)), (g22, .cells #[strV [32, 120]] 9 (0, 0))] from Fg37)
  refine wpL_newg (fun g => .slice (some ⟨g, 0, none⟩) 3 3) (obi := .cells #[.slice (some ⟨g29, 0, none⟩) 1 1, .slice (some ⟨g33, 0, none⟩) 1 1, .slice (some ⟨g37, 0, none⟩) 1 1] 37 (0, 0)) rfl (by kernel_rfl) (fun _ => by kernel_rfl) (fun _ => by simp only [List.setIfInBounds_toArray, List.set_cons_succ, List.set_cons_zero] <;> rfl) fun g39 Bg39 Fg39 => ?_
  obtain ⟨dj40_0, dj40_1, dj40_2, dj40_3, dj40_4, dj40_5, dj40_6, dj40_7, dj40_8⟩ : g37 ≠ g39 ∧ g35 ≠ g39 ∧ g33 ≠ g39 ∧ g31 ≠ g39 ∧ g29 ≠ g39 ∧ g27 ≠ g39 ∧ g25 ≠ g39 ∧ g23 ≠ g39 ∧ g22 ≠ g39 := by simpa only [dj_app_l, dj_app_r, dj_cons_l, dj_cons_r, dj_nil_l, dj_nil_r, dk_app, dk_cons, dk_nil, and_true, true_and, and_assoc] using (show Dk g39 [(g37, .cells #[.slice (some ⟨g35, 0, none⟩) 1 1] 43 (0, 0)), (g35, .cells #[strV []] 9 (0, 0)), (g33, .cells #[.slice (some ⟨g31, 0, none⟩) 1 1] 43 (0, 0)), (g31, .cells #[strV [66]] 9 (0, 0)), (g29, .cells #[.slice (some ⟨g27, 0, none⟩) 1 1] 43 (0, 0)), (g27, .cells #[strV [65]] 9 (0, 0)), (g25, .cells #[.slice (some ⟨g23, 0, none⟩) 1 1] 37 (0, 0)), (g23, .cells #[.slice (some ⟨g22, 0, none⟩) 1 1] 43 (0, 0)), (g22, .cells #[strV [32, 120]] 9 (0, 0))] from Fg39)
  refine lv (v := .bool true) rfl rfl (yb_call (f := 16) (args := #[.slice p13 (([[[[65]]], [[[66]]], [[[]]]] : List Sgm).length) c13, .slice (some ⟨g39, 0, none⟩) 3 3]) (fun _ => by kernel_rfl) fun W hW => (by have z := same_any ([[[[65]]], [[[66]]], [[[]]]] : List Sgm) ([[[[65]]], [[[66]]], [[[]]]] : List Sgm) p13 (some ⟨g39, 0, none⟩) c13 3 (by first | decide | omega) (by decide) W (HB19.out.keep ElR.keeps hW.1) (lv_lvp ((show MkV SgR W6 (.slice (some ⟨g39, 0, none⟩) 3 3) ([[[[65]]], [[[66]]], [[[]]]] : List Sgm) [(g39, .cells #[.slice (some ⟨g29, 0, none⟩) 1 1, .slice (some ⟨g33, 0, none⟩) 1 1, .slice (some ⟨g37, 0, none⟩) 1 1] 37 (0, 0)), (g29, .cells #[.slice (some ⟨g27, 0, none⟩) 1 1] 43 (0, 0)), (g27, .cells #[strV [65]] 9 (0, 0)), (g33, .cells #[.slice (some ⟨g31, 0, none⟩) 1 1] 43 (0, 0)), (g31, .cells #[strV [66]] 9 (0, 0)), (g37, .cells #[.slice (some ⟨g35, 0, none⟩) 1 1] 43 (0, 0)), (g35, .cells #[strV []] 9 (0, 0))] from lv_blockN (l := ([[[[65]]], [[[66]]], [[[]]]] : List Sgm)) (MkE.snoc (MkE.snoc (MkE.snoc MkE.nil (show MkV ElR W6 (.slice (some ⟨g29, 0, none⟩) 1 1) ([[[65]]] : Sgm) [(g29, .cells #[.slice (some ⟨g27, 0, none⟩) 1 1] 43 (0, 0)), (g27, .cells #[strV [65]] 9 (0, 0))] from lv_blockN (l := ([[[65]]] : Sgm)) (MkE.snoc MkE.nil (show MkV TxR W6 (.slice (some ⟨g27, 0, none⟩) 1 1) ([[65]] : Elt) [(g27, .cells #[strV [65]] 9 (0, 0))] from lv_blockN (MkE.strs ([[65]] : Elt)) rfl)) rfl)) (show MkV ElR W6 (.slice (some ⟨g33, 0, none⟩) 1 1) ([[[66]]] : Sgm) [(g33, .cells #[.slice (some ⟨g31, 0, none⟩) 1 1] 43 (0, 0)), (g31, .cells #[strV [66]] 9 (0, 0))] from lv_blockN (l := ([[[66]]] : Sgm)) (MkE.snoc MkE.nil (show MkV TxR W6 (.slice (some ⟨g31, 0, none⟩) 1 1) ([[66]] : Elt) [(g31, .cells #[strV [66]] 9 (0, 0))] from lv_blockN (MkE.strs ([[66]] : Elt)) rfl)) rfl)) (show MkV ElR W6 (.slice (some ⟨g37, 0, none⟩) 1 1) ([[[]]] : Sgm) [(g37, .cells #[.slice (some ⟨g35, 0, none⟩) 1 1] 43 (0, 0)), (g35, .cells #[strV []] 9 (0, 0))] from lv_blockN (l := ([[[]]] : Sgm)) (MkE.snoc MkE.nil (show MkV TxR W6 (.slice (some ⟨g35, 0, none⟩) 1 1) ([[]] : Elt) [(g35, .cells #[strV []] 9 (0, 0))] from lv_blockN (MkE.strs ([[]] : Elt)) rfl)) rfl)) rfl) W (hW.sub (fun p hp => by first | exact hp | (simp only [List.mem_cons, List.mem_append, List.nil_append, List.not_mem_nil, or_assoc, or_false, false_or, List.cons_append, List.append_assoc] at hp ⊢ <;> grind))))); rw [decide_eq_true rfl] at z; exact z)) ?_
  refine lm (v := .bool false) rfl rfl ?_
  refine lm (v := .bool false) rfl rfl ?_
  refine lm (v := .bool false) rfl rfl ?_
  refine lm (v := .slice p17 (([] : List Sgm).length) c17) rfl rfl ?_
  refine lp (v := .int .i64 0) rfl rfl (run_lenL (p := p17) (cap := c17) (n := (([] : List Sgm).length)) rfl Try.underlying24 (by kernel_rfl)) ?_
  refine lm (v := .bool false) rfl rfl ?_
  refine lm (v := .bool false) rfl rfl ?_
  refine lm (v := .bool false) rfl rfl ?_
  refine lm (v := .int .i64 0) rfl rfl ?_
  refine lm (v := .bool false) rfl rfl ?_
  refine lm (v := .bool false) rfl rfl ?_
  refine lm (v := .bool false) rfl rfl ?_
  refine lm (v := strV [63, 32, 120, 39]) rfl rfl ?_
  refine lp (v := .bool false) rfl rfl (run_bin rfl (vx := strV [63, 32, 120, 39]) (vy := strV [63, 32, 120, 39]) (by kernel_rfl) (by kernel_rfl) fun w => bs_neq (decide_eq_true rfl) w) ?_
  refine lm (v := .bool false) rfl rfl ?_
  refine lm (v := .bool false) rfl rfl ?_
  refine lm (v := .int .i64 0) rfl rfl ?_
  refine lm (v := .bool false) rfl rfl ?_
  refine lm (v := .bool false) rfl rfl ?_
  refine wpL_done (fun W8 hW8 => ?_)
  refine (show Code.wp _ _ _ _ _ from ?_)
  refine wp_cond_false rfl ?_
  refine wp_skip ?_
  refine (show Code.wp _ _ _ _ _ from ?_)
  refine wp_seq ?_
  refine wp_region_L (W0 := W6) [(g39, .cells #[.slice (some ⟨g29, 0, none⟩) 1 1, .slice (some ⟨g33, 0, none⟩) 1 1, .slice (some ⟨g37, 0, none⟩) 1 1] 37 (0, 0)), (g37, .cells #[.slice (some ⟨g35, 0, none⟩) 1 1] 43 (0, 0)), (g35, .cells #[strV []] 9 (0, 0)), (g33, .cells #[.slice (some ⟨g31, 0, none⟩) 1 1] 43 (0, 0)), (g31, .cells #[strV [66]] 9 (0, 0)), (g29, .cells #[.slice (some ⟨g27, 0, none⟩) 1 1] 43 (0, 0)), (g27, .cells #[strV [65]] 9 (0, 0)), (g25, .cells #[.slice (some ⟨g23, 0, none⟩) 1 1] 37 (0, 0)), (g23, .cells #[.slice (some ⟨g22, 0, none⟩) 1 1] 43 (0, 0)), (g22, .cells #[strV [32, 120]] 9 (0, 0))] (hW8) ?_
  refine wpL_c (f := 15) (args := #[strV [65, 63, 98, 39]]) (fun v Tz => v = .tuple #[.slice none 0 0, .int .i64 ((1 : Nat) : Int), .int .i64 ((41 : Nat) : Int)] ∧ Tz = []) rfl (by kernel_rfl) (fun _ => (by kernel_rfl)) (fun W hW => Read_bad r4 (by first | omega | (simp only [List.length_append, List.length_cons, List.length_nil]; omega)) W (hW.sub (fun _ h => by cases h))) (fun _ => by simp only [List.setIfInBounds_toArray, List.set_cons_succ, List.set_cons_zero] <;> rfl) ?_
  rintro _ _ ⟨rfl, rfl⟩
  refine lm (v := .tuple #[.slice none 0 0, .int .i64 1, .int .i64 41]) rfl rfl ?_
  refine lm (v := .slice none 0 0) rfl rfl ?_
  refine lm (v := .int .i64 1) rfl rfl ?_
  refine lm (v := .int .i64 41) rfl rfl ?_
  refine lm (v := .slice none 0 0) rfl rfl ?_
  refine lm (v := .int .i64 1) rfl rfl ?_
  refine lm (v := .int .i64 41) rfl rfl ?_
  refine wpL_done (fun W9 hW9 => ?_)
  refine (show Code.wp _ _ _ _ _ from ?_)
  refine wp_seq ?_
  refine wp_region_L (W0 := W6) [] (hW9) ?_
  refine wpL_c (f := 15) (args := #[strV [65, 10]]) (fun v Tz => v = .tuple #[.slice none 0 0, .int .i64 ((1 : Nat) : Int), .int .i64 ((40 : Nat) : Int)] ∧ Tz = []) rfl (by kernel_rfl) (fun _ => (by kernel_rfl)) (fun W hW => Read_bad r5 (by first | omega | (simp only [List.length_append, List.length_cons, List.length_nil]; omega)) W (hW.sub (fun _ h => by cases h))) (fun _ => by simp only [List.setIfInBounds_toArray, List.set_cons_succ, List.set_cons_zero] <;> rfl) ?_
  rintro _ _ ⟨rfl, rfl⟩
  refine lm (v := .tuple #[.slice none 0 0, .int .i64 1, .int .i64 40]) rfl rfl ?_
  refine lm (v := .slice none 0 0) rfl rfl ?_
  refine lm (v := .int .i64 1) rfl rfl ?_
  refine lm (v := .int .i64 40) rfl rfl ?_
  refine lm (v := .slice none 0 0) rfl rfl ?_
  refine lm (v := .int .i64 1) rfl rfl ?_
  refine lm (v := .int .i64 40) rfl rfl ?_
  refine wpL_done (fun W10 hW10 => ?_)
  refine (show Code.wp _ _ _ _ _ from ?_)
  refine wp_seq ?_
  refine wp_region_L (W0 := W6) [] (hW10) ?_
  refine wpL_c (f := 15) (args := #[strV [65, 43]]) (fun v Tz => v = .tuple #[.slice none 0 0, .int .i64 ((2 : Nat) : Int), .int .i64 ((42 : Nat) : Int)] ∧ Tz = []) rfl (by kernel_rfl) (fun _ => (by kernel_rfl)) (fun W hW => Read_bad r6 (by first | omega | (simp only [List.length_append, List.length_cons, List.length_nil]; omega)) W (hW.sub (fun _ h => by cases h))) (fun _ => by simp only [List.setIfInBounds_toArray, List.set_cons_succ, List.set_cons_zero] <;> rfl) ?_
  rintro _ _ ⟨rfl, rfl⟩
  refine lm (v := .tuple #[.slice none 0 0, .int .i64 2, .int .i64 42]) rfl rfl ?_
  refine lm (v := .slice none 0 0) rfl rfl ?_
  refine lm (v := .int .i64 2) rfl rfl ?_
  refine lm (v := .int .i64 42) rfl rfl ?_
  refine lm (v := .slice none 0 0) rfl rfl ?_
  refine lm (v := .int .i64 2) rfl rfl ?_
  refine lm (v := .int .i64 42) rfl rfl ?_
  refine wpL_done (fun W11 hW11 => ?_)
  refine (show Code.wp _ _ _ _ _ from ?_)
  refine wp_seq ?_
  refine wp_region_L (W0 := W6) [] (hW11) ?_
  refine lm (v := .int .i64 1) rfl rfl ?_
  refine lm (v := .bool true) rfl rfl ?_
  refine lm (v := .bool true) rfl rfl ?_
  refine lm (v := .int .i64 41) rfl rfl ?_
  refine lm (v := .bool true) rfl rfl ?_
  refine lm (v := .bool true) rfl rfl ?_
  refine lm (v := .bool true) rfl rfl ?_
  refine lm (v := .int .i64 1) rfl rfl ?_
  refine lm (v := .bool true) rfl rfl ?_
  refine lm (v := .bool true) rfl rfl ?_
  refine lm (v := .bool true) rfl rfl ?_
  refine lm (v := .int .i64 40) rfl rfl ?_
  refine lm (v := .bool true) rfl rfl ?_
  refine lm (v := .bool true) rfl rfl ?_
  refine lm (v := .bool true) rfl rfl ?_
  refine lm (v := .int .i64 2) rfl rfl ?_
  refine lm (v := .bool true) rfl rfl ?_
  refine lm (v := .bool true) rfl rfl ?_
  refine lm (v := .bool true) rfl rfl ?_
  refine lm (v := .int .i64 42) rfl rfl ?_
  refine lm (v := .bool true) rfl rfl ?_
  refine lm (v := .bool true) rfl rfl ?_
  refine lm (v := .bool true) rfl rfl ?_
  refine wpL_done (fun W12 hW12 => ?_)
  refine (show Code.wp _ _ _ _ _ from ?_)
  refine wp_ret ?_
  try simp only [inBlock_ret, then_ret]
  refine bodyPost_ret (v := .bool true) ?_ rfl ?_
  · kernel_rfl
  · exact ⟨rfl, (Below.trans hbz18 (Below.mono (hW12).1 hbz18.size))⟩
end Go.Proofs.Ytppegdbelgobiaa
/- What came in. -/
namespace Go.Proofs.Ytppegdbelgobiaa
open Go.ChangeShapes Go.WideShapes Go.ChangeAt Go.RowKit Tw
open Go
theorem own : ownKnob Try.prog.godebug = none := by kernel_rfl
theorem laidOut : laidOutB Try.prog = true := by kernel_rfl
end Go.Proofs.Ytppegdbelgobiaa
