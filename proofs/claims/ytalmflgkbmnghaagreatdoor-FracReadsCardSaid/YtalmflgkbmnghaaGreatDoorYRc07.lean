import Derived.Test.YtalmflgkbmnghaaGreatDoorYRc06
import Derived.Test.YtalmflgkbmnghaaGreatDoorYRc02
/- Part of the proof: YP, YQ0, YQ, YB. -/
set_option linter.unusedVariables false
set_option linter.unusedSimpArgs false
set_option linter.unusedSectionVars false
namespace Go.Proofs.YtalmflgkbmnghaaGreatDoor
open Go Go.RowKit Tw
set_option linter.unusedSimpArgs false
set_option linter.unusedVariables false
open Tf (dg R R_pos R_le R_succ dg_of_lt setd setd_eq)
variable [ShLZ]
variable [ShSt]
def AnsNW (W0 : Base) (K : List (Nat × Obj)) (n : Nat) (c : Int) (v : Value) (K2 : List (Nat × Obj)) : Prop := ∃ q d T, v = .tuple #[.slice q (cd n).length d, .int .i64 c] ∧ (cd n).length ≤ d ∧ NS W0 q (cd n) T ∧ Dj K T ∧ K2 = K ++ T
def AnsNF (w : World) (n : Nat) (c : Int) (e : Ending) (w' : World) : Prop := ∃ q d, e = .returned (.tuple #[.slice q (cd n).length d, .int .i64 c]) ∧ (cd n).length ≤ d ∧ SLF w w' q (nums (cd n)) ∧ Below w.heap.size w w'
theorem AnsNF.g {W0 : Base} {K : List (Nat × Obj)} {W w2 : World} {n : Nat} {c : Int} {e : Ending} (h : AnsNF W n c e w2) (hW : KS W0 K W) : ∃ v K2, e = .returned v ∧ KS W0 K2 w2 ∧ AnsNW W0 K n c v K2 := by
  obtain ⟨q, d, rfl, h1, h2, h3⟩ := h
  obtain ⟨T, h4, h5, h6, _⟩ := ns_new hW h3 h2
  exact ⟨_, _, rfl, h4, q, d, T, rfl, h1, h6, h5, rfl⟩
theorem num_ret {w W : World} {n : Nat} {c c' : Int} {q : Option Addr} {d : Nat} {k : Nat} (hc : c = c') (hn : k = n) (h1 : (cd k).length ≤ d) (h2 : SLF w W q (nums (cd k))) (h3 : Below w.heap.size w W) : AnsNF w n c' (.returned (.tuple #[.slice q (cd k).length d, .int .i64 c])) W := by
  subst hc hn
  exact ⟨q, d, rfl, h1, h2, h3⟩
theorem num_none {w W : World} {n : Nat} {c c' : Int} (hc : c = c') (hn : 0 = n) (h3 : Below w.heap.size w W) : AnsNF w n c' (.returned (.tuple #[.slice none 0 0, .int .i64 c])) W := by
  subst hc hn
  exact ⟨none, 0, by rw [cd_zero]; rfl, by rw [cd_zero]; exact Nat.le_refl _, .inl (by rw [cd_zero]; rfl), h3⟩
theorem dig_ext {l : List UInt8} {i : Nat} {b : UInt8} (h : ∀ (j : Nat) (b : UInt8), j < i → l[j]? = some b → 48 ≤ b.toNat ∧ b.toNat ≤ 57) (hb : l[i]? = some b) (h1 : ¬ b.toNat < 48) (h2 : ¬ 57 < b.toNat) : ∀ (j : Nat) (b : UInt8), j < i + 1 → l[j]? = some b → 48 ≤ b.toNat ∧ b.toNat ≤ 57 := by
  intro j c hj hc
  rcases Nat.lt_or_ge j i with h3 | h3
  · exact h j c h3 hc
  · obtain rfl : j = i := by omega
    rw [hb] at hc
    cases hc
    omega
theorem dec_bound {x : Nat} (h : (cd x).length ≤ 16) : (cd (x * 10)).length ≤ 17 := Nat.le_trans (cd_mul_len x 10) (by rw [cd_10]; show (cd x).length + 1 ≤ 17; omega)
theorem one_bound {y : Nat} (h : y < 65536) : (cd y).length ≤ 1 := cd_le.2 (by omega)
set_option maxRecDepth 100000 in
set_option maxHeartbeats 20000000 in
theorem rnumber_any (l : List UInt8) (ll : l.length ≤ 4000) (w : World) : Calls Tryz.prog 74 #[strV l] w fun e w' => AnsNF w (numN l) (numC l) e w' := by
  go_enter Tryz.func74, Tryz.ntmps74
  refine wp_seq ?_
  refine wp_region_L (W0 := w) [] (KS.start w) ?_
  refine Tw.lm (v := .slice none 0 0) rfl rfl ?_
  refine Tw.lm (v := .int .i64 0) rfl rfl ?_
  refine wpL_done (fun W1 hW1 => ?_)
  refine (show Code.wp _ _ _ _ _ from ?_)
  refine wp_seq ?_
  refine wp_seq ?_
  refine wp_region_L (W0 := w) [] (hW1) ?_
  refine Tw.lm (v := strV l) rfl rfl ?_
  refine Tw.lp (v := .bool (decide (l = []))) rfl rfl (run_bin rfl (vx := strV l) (vy := strV []) (by kernel_rfl) (by kernel_rfl) fun w => bs_eql rfl w) ?_
  refine Tw.lm (v := .bool (decide (l = []))) rfl rfl ?_
  cases hd1 : (decide (l = [])) with
  | false =>
    have h1 : ¬ (l = []) := of_decide_eq_false hd1
    clear hd1
    have l0 : 0 < l.length := List.length_pos_iff.2 h1
    refine Tw.lm (v := strV l) rfl rfl ?_
    obtain ⟨b1, hb1⟩ : ∃ b, (l : List UInt8)[0]? = some b := ⟨_, List.getElem?_eq_getElem (by omega)⟩
    have lb1 := b1.toNat_lt
    refine Tw.lp (v := .int .u8 ((b1.toNat : Nat) : Int)) rfl rfl (run_idxS (j := .i64) (l := l) (k := 0) (b := b1) rfl Tryz.underlying9 (by kernel_rfl) (by kernel_rfl) hb1) ?_
    refine Tw.lp (v := .bool (decide (b1.toNat = 48))) rfl rfl (run_bin rfl (vx := (.int .u8 ((b1.toNat : Nat) : Int))) (vy := (.int .u8 ((48 : Nat) : Int))) (by kernel_rfl) (by kernel_rfl) fun w => bn_eql rfl w) ?_
    refine Tw.lm (v := .bool (decide (b1.toNat = 48))) rfl rfl ?_
    cases hd2 : (decide (b1.toNat = 48)) with
    | false =>
      have h2 : ¬ (b1.toNat = 48) := of_decide_eq_false hd2
      clear hd2
      refine Tw.ln rfl ?_
      refine Tw.ln rfl ?_
      refine Tw.lm (v := .bool false) rfl rfl ?_
      refine Tw.lm (v := .bool false) rfl rfl ?_
      refine wpL_done (fun W2 hW2 => ?_)
      refine (show Code.wp _ _ _ _ _ from ?_)
      refine wp_cond_false rfl ?_
      refine wp_skip ?_
      refine (show Code.wp _ _ _ _ _ from ?_)
      refine wp_seq ?_
      refine wp_seq ?_
      refine wp_region_L (W0 := w) [] (hW2) ?_
      refine Tw.lm (v := .int .i64 0) rfl rfl ?_
      refine wpL_done (fun W3 hW3 => ?_)
      refine (show Code.wp _ _ _ _ _ from ?_)
      refine wp_block ?_
      go_loopw [4] (fun u4 wr => ∃ (i : Nat), (i ≤ l.length) ∧ (∀ (j : Nat) (b : UInt8), j < i → l[j]? = some b → 48 ≤ b.toNat ∧ b.toNat ≤ 57) ∧ u4 = .int .i64 ((i : Nat) : Int) ∧ KS w [] wr) (fun u4 _ => l.length - (intOf u4).toNat)
      case atStart => exact ⟨0, (Nat.zero_le _), (fun j b hj => absurd hj (by omega)), rfl, (hW3.sub (fun p hp => by first | exact hp | (simp only [List.mem_cons, List.mem_append, List.nil_append, List.not_mem_nil, or_assoc, or_false, false_or, List.cons_append, List.append_assoc] at hp ⊢ <;> grind)))⟩
      case round =>
        obtain ⟨i, hi, hdg, rfl, hL4⟩ := hrel
        refine wp_seq ?_
        refine wp_seq ?_
        refine wp_region_L (W0 := w) [] (hL4) ?_
        refine Tw.lm (v := .int .i64 ((i : Nat) : Int)) rfl rfl ?_
        refine Tw.lm (v := strV l) rfl rfl ?_
        refine Tw.lp (v := .int .i64 ((l.length : Nat) : Int)) rfl rfl (run_lenS (l := l) rfl Tryz.underlying9 (by kernel_rfl)) ?_
        refine Tw.lp (v := .bool (decide (i < l.length))) rfl rfl (run_bin rfl (vx := (.int .i64 ((i : Nat) : Int))) (vy := (.int .i64 ((l.length : Nat) : Int))) (by kernel_rfl) (by kernel_rfl) fun w => bn_lss rfl w) ?_
        refine wpL_done (fun W5 hW5 => ?_)
        refine (show Code.wp _ _ _ _ _ from ?_)
        cases hd3 : (decide (i < l.length)) with
        | false =>
          have h3 : ¬ (i < l.length) := of_decide_eq_false hd3
          clear hd3
          refine wp_cond_false rfl ?_
          refine wp_exit ?_
          refine (show Code.wp _ _ _ _ _ from ?_)
          refine wp_seq ?_
          have hall : ∀ (j : Nat) (b : UInt8), j < l.length → l[j]? = some b → 48 ≤ b.toNat ∧ b.toNat ≤ 57 := fun j b hj hb => hdg j b (by omega) hb
          have hD : digL l = true := dig_good h1 (.inl ⟨b1, hb1, h2⟩) hall
          refine wp_region_L (W0 := w) [] (hW5) ?_
          refine Tw.lm (v := .slice none 0 0) rfl rfl ?_
          refine wpL_done (fun W6 hW6 => ?_)
          refine (show Code.wp _ _ _ _ _ from ?_)
          refine wp_seq ?_
          refine wp_seq ?_
          refine wp_region_L (W0 := w) [] (hW6) ?_
          refine Tw.lm (v := .int .i64 0) rfl rfl ?_
          refine wpL_done (fun W7 hW7 => ?_)
          refine (show Code.wp _ _ _ _ _ from ?_)
          refine wp_block ?_
          go_loopw [6, 5] (fun u6 u5 wr => ∃ (i2 : Nat) (po : Option Addr) (co : Nat) (m : Nat) (Kt : List (Nat × Obj)), (NS (w : Base) po (cd m) Kt) ∧ (∀ W3, KS (w : Base) Kt W3 → SLF w W3 po (nums (cd m))) ∧ ((cd m).length ≤ co) ∧ (i2 ≤ l.length) ∧ (m = decV (l.take i2)) ∧ ((cd m).length ≤ 16) ∧ u6 = .int .i64 ((i2 : Nat) : Int) ∧ u5 = .slice po ((cd m).length) co ∧ KS w Kt wr) (fun u6 _ _ => l.length - (intOf u6).toNat)
          case atStart => exact ⟨0, none, 0, 0, [], NS.nil, (fun _ _ => .inl (by rw [cd_zero]; rfl)), (Nat.zero_le _), (Nat.zero_le _), rfl, (by rw [cd_zero]; simp), rfl, rfl, (hW7.sub (fun p hp => by first | exact hp | (simp only [List.mem_cons, List.mem_append, List.nil_append, List.not_mem_nil, or_assoc, or_false, false_or, List.cons_append, List.append_assoc] at hp ⊢ <;> grind)))⟩
          case round =>
            obtain ⟨i2, po, co, m, Kt, HO, HF, hco, hi2, hm, hml, rfl, rfl, hL8⟩ := hrel
            refine wp_seq ?_
            refine wp_seq ?_
            refine wp_region_L (W0 := w) Kt (hL8) ?_
            refine Tw.lm (v := .int .i64 ((i2 : Nat) : Int)) rfl rfl ?_
            refine Tw.lm (v := strV l) rfl rfl ?_
            refine Tw.lp (v := .int .i64 ((l.length : Nat) : Int)) rfl rfl (run_lenS (l := l) rfl Tryz.underlying9 (by kernel_rfl)) ?_
            refine Tw.lp (v := .bool (decide (i2 < l.length))) rfl rfl (run_bin rfl (vx := (.int .i64 ((i2 : Nat) : Int))) (vy := (.int .i64 ((l.length : Nat) : Int))) (by kernel_rfl) (by kernel_rfl) fun w => bn_lss rfl w) ?_
            refine wpL_done (fun W9 hW9 => ?_)
            refine (show Code.wp _ _ _ _ _ from ?_)
            cases hd4 : (decide (i2 < l.length)) with
            | false =>
              have h4 : ¬ (i2 < l.length) := of_decide_eq_false hd4
              clear hd4
              refine wp_cond_false rfl ?_
              refine wp_exit ?_
              refine (show Code.wp _ _ _ _ _ from ?_)
              refine wp_seq ?_
              refine wp_region_L (W0 := w) Kt (hW9) ?_
              refine Tw.lm (v := .slice po ((cd m).length) co) rfl rfl ?_
              refine Tw.lm (v := .slice po ((cd m).length) co) rfl rfl ?_
              refine Tw.lm (v := .int .i64 0) rfl rfl ?_
              refine wpL_done (fun W10 hW10 => ?_)
              refine (show Code.wp _ _ _ _ _ from ?_)
              refine wp_ret ?_
              try simp only [inBlock_ret, then_ret]
              refine bodyPost_ret (v := .tuple #[.slice po ((cd m).length) co, .int .i64 0]) ?_ rfl ?_
              · kernel_rfl
              · exact (num_ret (num_fits (i := i2) hD h4 (by rw [← hm]; exact hml)).1.symm (hm.trans (num_fits (i := i2) hD h4 (by rw [← hm]; exact hml)).2.symm) hco (HF _ hW10) hW10.1)
            | true =>
              have h4 : i2 < l.length := of_decide_eq_true hd4
              clear hd4
              refine wp_cond_true rfl ?_
              refine wp_skip ?_
              refine (show Code.wp _ _ _ _ _ from ?_)
              refine wp_seq ?_
              refine wp_block ?_
              refine wp_seq ?_
              refine wp_region_V (W0 := w) Kt (by kernel_rfl) (hW9) ?_
              refine vm (i := 0) (v := .slice po ((cd m).length) co) rfl rfl rfl ?_
              refine vm (i := 2) (v := strV l) rfl rfl rfl ?_
              refine vm (i := 3) (v := .int .i64 ((i2 : Nat) : Int)) rfl rfl rfl ?_
              obtain ⟨b2, hb2⟩ : ∃ b, (l : List UInt8)[i2]? = some b := ⟨_, List.getElem?_eq_getElem (by omega)⟩
              have lb2 := b2.toNat_lt
              refine vp (i := 4) (v := .int .u8 ((b2.toNat : Nat) : Int)) rfl rfl rfl (run_idxS (j := .i64) (l := l) (k := i2) (b := b2) rfl Tryz.underlying9 (by kernel_rfl) (by kernel_rfl) hb2) ?_
              have hb48 := hall i2 b2 (by omega) hb2
              refine vp (i := 5) (v := .int .u8 (((b2.toNat - 48) : Nat) : Int)) rfl rfl rfl (run_bin rfl (vx := (.int .u8 ((b2.toNat : Nat) : Int))) (vy := (.int .u8 ((48 : Nat) : Int))) (by kernel_rfl) (by kernel_rfl) fun w => bn_sub (z := (b2.toNat - 48)) rfl (by omega) (wr_u8 (by omega)) w) ?_
              refine vp (i := 6) (v := .int .u64 (((b2.toNat - 48) : Nat) : Int)) rfl rfl rfl (run_conv rfl (vx := (.int .u8 (((b2.toNat - 48) : Nat) : Int))) (by kernel_rfl) fun w => cv_int Tryz.underlying5 Tryz.underlying84 (wr_u64 (by omega)) w) ?_
              refine wpV_c (i := 1) (AnsG w Kt (cd (m * 10))) rfl rfl (by kernel_rfl) (by kernel_rfl) (fun _ => (by kernel_rfl)) (fun W hW => (scale_any m 10 po co (by decide) (by omega) W ((HO.mono (fun q hq => by first | exact hq | (simp only [List.mem_cons, List.mem_append, List.nil_append, List.not_mem_nil, or_assoc, or_false, false_or] at hq ⊢ <;> grind))) W hW)).mono fun e w2 h => Ans.g h hW) (fun _ _ h => ansG_sub h) (fun _ => by simp only [List.setIfInBounds_toArray, List.set_cons_succ, List.set_cons_zero] <;> rfl) ?_
              rintro v3 _ ⟨q3, d3, T3, rfl, C3, H3, F3, J3, rfl⟩
              obtain dj4_0 : Dj Kt T3 := by simpa only [dj_app_l, dj_app_r, dj_cons_l, dj_cons_r, dj_nil_l, dj_nil_r, dk_app, dk_cons, dk_nil, and_true, true_and, and_assoc] using (show Dj Kt T3 from J3)
              refine wpV_c (i := 7) (AnsG w (Kt ++ T3) (cd (b2.toNat - 48))) rfl rfl (by kernel_rfl) (by kernel_rfl) (fun _ => (by kernel_rfl)) (fun W hW => (whole_any _ (b2.toNat - 48) rfl (by omega) W).mono fun e w2 h => Ans.g h hW) (fun _ _ h => ansG_sub h) (fun _ => by simp only [List.setIfInBounds_toArray, List.set_cons_succ, List.set_cons_zero] <;> rfl) ?_
              rintro v5 _ ⟨q5, d5, T5, rfl, C5, H5, F5, J5, rfl⟩
              obtain ⟨dj6_0, dj6_1⟩ : Dj Kt T5 ∧ Dj T3 T5 := by simpa only [dj_app_l, dj_app_r, dj_cons_l, dj_cons_r, dj_nil_l, dj_nil_r, dk_app, dk_cons, dk_nil, and_true, true_and, and_assoc] using (show Dj (Kt ++ T3) T5 from J5)
              have hlb1 := dec_bound hml
              have hlb2 := one_bound (y := (b2.toNat - 48)) (by omega)
              refine wpV_c (i := 8) (AnsG w ((Kt ++ T3) ++ T5) (cd ((m * 10) + (b2.toNat - 48)))) rfl rfl (by kernel_rfl) (by kernel_rfl) (fun _ => (by kernel_rfl)) (fun W hW => (radd_any (m * 10) (b2.toNat - 48) q3 q5 d3 d5 (by omega) (by omega) W ((H3.mono (fun q hq => by first | exact hq | (simp only [List.mem_cons, List.mem_append, List.nil_append, List.not_mem_nil, or_assoc, or_false, false_or] at hq ⊢ <;> grind))) W hW) ((H5.mono (fun q hq => by first | exact hq | (simp only [List.mem_cons, List.mem_append, List.nil_append, List.not_mem_nil, or_assoc, or_false, false_or] at hq ⊢ <;> grind))) W hW)).mono fun e w2 h => Ans.g h hW) (fun _ _ h => ansG_sub h) (fun _ => by simp only [List.setIfInBounds_toArray, List.set_cons_succ, List.set_cons_zero] <;> rfl) ?_
              rintro v7 _ ⟨q7, d7, T7, rfl, C7, H7, F7, J7, rfl⟩
              obtain ⟨dj8_0, dj8_1, dj8_2⟩ : Dj Kt T7 ∧ Dj T3 T7 ∧ Dj T5 T7 := by simpa only [dj_app_l, dj_app_r, dj_cons_l, dj_cons_r, dj_nil_l, dj_nil_r, dk_app, dk_cons, dk_nil, and_true, true_and, and_assoc] using (show Dj ((Kt ++ T3) ++ T5) T7 from J7)
              refine vm (i := 9) (v := .slice q7 ((cd ((m * 10) + (b2.toNat - 48))).length) d7) rfl rfl rfl ?_
              refine wpV_done (by kernel_rfl) (fun W11 hW11 => ?_) _
              refine (show Code.wp _ _ _ _ _ from ?_)
              refine wp_seq ?_
              refine wp_region_L (W0 := w) (((Kt ++ T3) ++ T5) ++ T7) (hW11) ?_
              refine Tw.lm (v := .slice q7 ((cd ((m * 10) + (b2.toNat - 48))).length) d7) rfl rfl ?_
              refine Tw.lp (v := .int .i64 ((((cd ((m * 10) + (b2.toNat - 48))).length) : Nat) : Int)) rfl rfl (run_lenL (p := q7) (cap := d7) (n := ((cd ((m * 10) + (b2.toNat - 48))).length)) rfl Tryz.underlying32 (by kernel_rfl)) ?_
              refine Tw.lp (v := .bool (decide (16 < ((cd ((m * 10) + (b2.toNat - 48))).length)))) rfl rfl (run_bin rfl (vx := (.int .i64 ((((cd ((m * 10) + (b2.toNat - 48))).length) : Nat) : Int))) (vy := (.int .i64 ((16 : Nat) : Int))) (by kernel_rfl) (by kernel_rfl) fun w => bn_gtr rfl w) ?_
              refine wpL_done (fun W12 hW12 => ?_)
              refine (show Code.wp _ _ _ _ _ from ?_)
              cases hd5 : (decide (16 < ((cd ((m * 10) + (b2.toNat - 48))).length))) with
              | false =>
                have h5 : ¬ (16 < ((cd ((m * 10) + (b2.toNat - 48))).length)) := of_decide_eq_false hd5
                clear hd5
                refine wp_cond_false rfl ?_
                refine wp_skip ?_
                refine (show Code.wp _ _ _ _ _ from ?_)
                refine wp_region_L (W0 := w) (((Kt ++ T3) ++ T5) ++ T7) (hW12) ?_
                refine Tw.lm (v := .int .i64 ((i2 : Nat) : Int)) rfl rfl ?_
                refine Tw.lp (v := .int .i64 (((i2 + 1) : Nat) : Int)) rfl rfl (run_bin rfl (vx := (.int .i64 ((i2 : Nat) : Int))) (vy := (.int .i64 ((1 : Nat) : Int))) (by kernel_rfl) (by kernel_rfl) fun w => bn_add (z := (i2 + 1)) rfl (wr_i64 (by omega)) w) ?_
                refine Tw.lm (v := .int .i64 (((i2 + 1) : Nat) : Int)) rfl rfl ?_
                refine wpL_done (fun W13 hW13 => ?_)
                go_roundw
                case rel =>
                  repeat apply Exists.intro
                  exact ⟨⟨(i2 + 1), q7, d7, (m * 10) + (b2.toNat - 48), (Kt ++ (T3 ++ (T5 ++ T7))), (H7.mono (fun q hq => by first | exact hq | (simp only [List.mem_cons, List.mem_append, List.nil_append, List.not_mem_nil, or_assoc, or_false, false_or] at hq ⊢ <;> grind))), (fun W3 h => F7 W3 (h.sub (fun q hq => by first | exact hq | (simp only [List.mem_cons, List.mem_append, List.nil_append, List.not_mem_nil, or_assoc, or_false, false_or] at hq ⊢ <;> grind))) rfl), C7, (by omega), (by rw [decV_take hb2, hm]), (by have h := h5; omega), rfl, rfl, (hW13.sub (fun p hp => by first | exact hp | (simp only [List.mem_cons, List.mem_append, List.nil_append, List.not_mem_nil, or_assoc, or_false, false_or, List.cons_append, List.append_assoc] at hp ⊢ <;> grind)))⟩, rfl⟩
                case measure => (show l.length - (intOf (.int .i64 (((i2 + 1) : Nat) : Int))).toNat < l.length - (intOf (.int .i64 ((i2 : Nat) : Int))).toNat); simp only [intOf]; omega
              | true =>
                have h5 : 16 < ((cd ((m * 10) + (b2.toNat - 48))).length) := of_decide_eq_true hd5
                clear hd5
                refine wp_cond_true rfl ?_
                refine wp_seq ?_
                refine wp_region_L (W0 := w) (((Kt ++ T3) ++ T5) ++ T7) (hW12) ?_
                refine Tw.lm (v := .slice none 0 0) rfl rfl ?_
                refine Tw.lm (v := .int .i64 2) rfl rfl ?_
                refine wpL_done (fun W14 hW14 => ?_)
                refine (show Code.wp _ _ _ _ _ from ?_)
                refine wp_ret ?_
                try simp only [inBlock_ret, then_ret]
                refine bodyPost_ret (v := .tuple #[.slice none 0 0, .int .i64 2]) ?_ rfl ?_
                · kernel_rfl
                · exact (num_none (num_long (i := i2 + 1) hD (by omega) (by rw [decV_take hb2, ← hm]; exact h5)).1.symm (num_long (i := i2 + 1) hD (by omega) (by rw [decV_take hb2, ← hm]; exact h5)).2.symm hW14.1)
        | true =>
          have h3 : i < l.length := of_decide_eq_true hd3
          clear hd3
          refine wp_cond_true rfl ?_
          refine wp_skip ?_
          refine (show Code.wp _ _ _ _ _ from ?_)
          refine wp_seq ?_
          refine wp_block ?_
          refine wp_seq ?_
          refine wp_region_L (W0 := w) [] (hW5) ?_
          refine Tw.lm (v := strV l) rfl rfl ?_
          refine Tw.lm (v := .int .i64 ((i : Nat) : Int)) rfl rfl ?_
          obtain ⟨b9, hb9⟩ : ∃ b, (l : List UInt8)[i]? = some b := ⟨_, List.getElem?_eq_getElem (by omega)⟩
          have lb9 := b9.toNat_lt
          refine Tw.lp (v := .int .u8 ((b9.toNat : Nat) : Int)) rfl rfl (run_idxS (j := .i64) (l := l) (k := i) (b := b9) rfl Tryz.underlying9 (by kernel_rfl) (by kernel_rfl) hb9) ?_
          refine Tw.lp (v := .bool (decide (b9.toNat < 48))) rfl rfl (run_bin rfl (vx := (.int .u8 ((b9.toNat : Nat) : Int))) (vy := (.int .u8 ((48 : Nat) : Int))) (by kernel_rfl) (by kernel_rfl) fun w => bn_lss rfl w) ?_
          refine Tw.lm (v := .bool (decide (b9.toNat < 48))) rfl rfl ?_
          cases hd6 : (decide (b9.toNat < 48)) with
          | false =>
            have h6 : ¬ (b9.toNat < 48) := of_decide_eq_false hd6
            clear hd6
            refine Tw.lm (v := strV l) rfl rfl ?_
            refine Tw.lm (v := .int .i64 ((i : Nat) : Int)) rfl rfl ?_
            refine Tw.lp (v := .int .u8 ((b9.toNat : Nat) : Int)) rfl rfl (run_idxS (j := .i64) (l := l) (k := i) (b := b9) rfl Tryz.underlying9 (by kernel_rfl) (by kernel_rfl) hb9) ?_
            refine Tw.lp (v := .bool (decide (57 < b9.toNat))) rfl rfl (run_bin rfl (vx := (.int .u8 ((b9.toNat : Nat) : Int))) (vy := (.int .u8 ((57 : Nat) : Int))) (by kernel_rfl) (by kernel_rfl) fun w => bn_gtr rfl w) ?_
            refine Tw.lm (v := .bool (decide (57 < b9.toNat))) rfl rfl ?_
            refine wpL_done (fun W15 hW15 => ?_)
            refine (show Code.wp _ _ _ _ _ from ?_)
            cases hd7 : (decide (57 < b9.toNat)) with
            | false =>
              have h7 : ¬ (57 < b9.toNat) := of_decide_eq_false hd7
              clear hd7
              refine wp_cond_false rfl ?_
              refine wp_skip ?_
              refine (show Code.wp _ _ _ _ _ from ?_)
              refine wp_region_L (W0 := w) [] (hW15) ?_
              refine Tw.lm (v := .int .i64 ((i : Nat) : Int)) rfl rfl ?_
              refine Tw.lp (v := .int .i64 (((i + 1) : Nat) : Int)) rfl rfl (run_bin rfl (vx := (.int .i64 ((i : Nat) : Int))) (vy := (.int .i64 ((1 : Nat) : Int))) (by kernel_rfl) (by kernel_rfl) fun w => bn_add (z := (i + 1)) rfl (wr_i64 (by omega)) w) ?_
              refine Tw.lm (v := .int .i64 (((i + 1) : Nat) : Int)) rfl rfl ?_
              refine wpL_done (fun W16 hW16 => ?_)
              go_roundw
              case rel =>
                repeat apply Exists.intro
                exact ⟨⟨(i + 1), (by omega), (dig_ext hdg hb9 h6 h7), rfl, (hW16.sub (fun p hp => by first | exact hp | (simp only [List.mem_cons, List.mem_append, List.nil_append, List.not_mem_nil, or_assoc, or_false, false_or, List.cons_append, List.append_assoc] at hp ⊢ <;> grind)))⟩, rfl⟩
              case measure => (show l.length - (intOf (.int .i64 (((i + 1) : Nat) : Int))).toNat < l.length - (intOf (.int .i64 ((i : Nat) : Int))).toNat); simp only [intOf]; omega
            | true =>
              have h7 : 57 < b9.toNat := of_decide_eq_true hd7
              clear hd7
              refine wp_cond_true rfl ?_
              refine wp_seq ?_
              refine wp_region_L (W0 := w) [] (hW15) ?_
              refine Tw.lm (v := .slice none 0 0) rfl rfl ?_
              refine Tw.lm (v := .int .i64 1) rfl rfl ?_
              refine wpL_done (fun W17 hW17 => ?_)
              refine (show Code.wp _ _ _ _ _ from ?_)
              refine wp_ret ?_
              try simp only [inBlock_ret, then_ret]
              refine bodyPost_ret (v := .tuple #[.slice none 0 0, .int .i64 1]) ?_ rfl ?_
              · kernel_rfl
              · exact (num_none (num_bad (dig_bad hb9 (.inr h7))).1.symm (num_bad (dig_bad hb9 (.inr h7))).2.symm hW17.1)
          | true =>
            have h6 : b9.toNat < 48 := of_decide_eq_true hd6
            clear hd6
            refine Tw.ln rfl ?_
            refine Tw.ln rfl ?_
            refine Tw.ln rfl ?_
            refine Tw.ln rfl ?_
            refine Tw.lm (v := .bool true) rfl rfl ?_
            refine wpL_done (fun W18 hW18 => ?_)
            refine (show Code.wp _ _ _ _ _ from ?_)
            refine wp_cond_true rfl ?_
            refine wp_seq ?_
            refine wp_region_L (W0 := w) [] (hW18) ?_
            refine Tw.lm (v := .slice none 0 0) rfl rfl ?_
            refine Tw.lm (v := .int .i64 1) rfl rfl ?_
            refine wpL_done (fun W19 hW19 => ?_)
            refine (show Code.wp _ _ _ _ _ from ?_)
            refine wp_ret ?_
            try simp only [inBlock_ret, then_ret]
            refine bodyPost_ret (v := .tuple #[.slice none 0 0, .int .i64 1]) ?_ rfl ?_
            · kernel_rfl
            · exact (num_none (num_bad (dig_bad hb9 (.inl h6))).1.symm (num_bad (dig_bad hb9 (.inl h6))).2.symm hW19.1)
    | true =>
      have h2 : b1.toNat = 48 := of_decide_eq_true hd2
      clear hd2
      refine Tw.lm (v := strV l) rfl rfl ?_
      refine Tw.lp (v := .bool (!(decide (l = [48])))) rfl rfl (run_bin rfl (vx := strV l) (vy := strV [48]) (by kernel_rfl) (by kernel_rfl) fun w => bs_neq rfl w) ?_
      refine Tw.lm (v := .bool (!(decide (l = [48])))) rfl rfl ?_
      refine Tw.lm (v := .bool (!(decide (l = [48])))) rfl rfl ?_
      refine wpL_done (fun W20 hW20 => ?_)
      refine (show Code.wp _ _ _ _ _ from ?_)
      cases hd8 : (decide (l = [48])) with
      | false =>
        have h8 : ¬ (l = [48]) := of_decide_eq_false hd8
        clear hd8
        refine wp_cond_true rfl ?_
        refine wp_seq ?_
        refine wp_region_L (W0 := w) [] (hW20) ?_
        refine Tw.lm (v := .slice none 0 0) rfl rfl ?_
        refine Tw.lm (v := .int .i64 1) rfl rfl ?_
        refine wpL_done (fun W21 hW21 => ?_)
        refine (show Code.wp _ _ _ _ _ from ?_)
        refine wp_ret ?_
        try simp only [inBlock_ret, then_ret]
        refine bodyPost_ret (v := .tuple #[.slice none 0 0, .int .i64 1]) ?_ rfl ?_
        · kernel_rfl
        · exact (num_none (num_bad (dig_lead hb1 h2 h8)).1.symm (num_bad (dig_lead hb1 h2 h8)).2.symm hW21.1)
      | true =>
        have h8 : l = [48] := of_decide_eq_true hd8
        clear hd8
        refine wp_cond_false rfl ?_
        refine wp_skip ?_
        refine (show Code.wp _ _ _ _ _ from ?_)
        refine wp_seq ?_
        refine wp_seq ?_
        refine wp_region_L (W0 := w) [] (hW20) ?_
        refine Tw.lm (v := .int .i64 0) rfl rfl ?_
        refine wpL_done (fun W22 hW22 => ?_)
        refine (show Code.wp _ _ _ _ _ from ?_)
        refine wp_block ?_
        go_loopw [4] (fun u4 wr => ∃ (i : Nat), (i ≤ l.length) ∧ (∀ (j : Nat) (b : UInt8), j < i → l[j]? = some b → 48 ≤ b.toNat ∧ b.toNat ≤ 57) ∧ u4 = .int .i64 ((i : Nat) : Int) ∧ KS w [] wr) (fun u4 _ => l.length - (intOf u4).toNat)
        case atStart => exact ⟨0, (Nat.zero_le _), (fun j b hj => absurd hj (by omega)), rfl, (hW22.sub (fun p hp => by first | exact hp | (simp only [List.mem_cons, List.mem_append, List.nil_append, List.not_mem_nil, or_assoc, or_false, false_or, List.cons_append, List.append_assoc] at hp ⊢ <;> grind)))⟩
        case round =>
          obtain ⟨i, hi, hdg, rfl, hL23⟩ := hrel
          refine wp_seq ?_
          refine wp_seq ?_
          refine wp_region_L (W0 := w) [] (hL23) ?_
          refine Tw.lm (v := .int .i64 ((i : Nat) : Int)) rfl rfl ?_
          refine Tw.lm (v := strV l) rfl rfl ?_
          refine Tw.lp (v := .int .i64 ((l.length : Nat) : Int)) rfl rfl (run_lenS (l := l) rfl Tryz.underlying9 (by kernel_rfl)) ?_
          refine Tw.lp (v := .bool (decide (i < l.length))) rfl rfl (run_bin rfl (vx := (.int .i64 ((i : Nat) : Int))) (vy := (.int .i64 ((l.length : Nat) : Int))) (by kernel_rfl) (by kernel_rfl) fun w => bn_lss rfl w) ?_
          refine wpL_done (fun W24 hW24 => ?_)
          refine (show Code.wp _ _ _ _ _ from ?_)
          cases hd9 : (decide (i < l.length)) with
          | false =>
            have h9 : ¬ (i < l.length) := of_decide_eq_false hd9
            clear hd9
            refine wp_cond_false rfl ?_
            refine wp_exit ?_
            refine (show Code.wp _ _ _ _ _ from ?_)
            refine wp_seq ?_
            have hall : ∀ (j : Nat) (b : UInt8), j < l.length → l[j]? = some b → 48 ≤ b.toNat ∧ b.toNat ≤ 57 := fun j b hj hb => hdg j b (by omega) hb
            have hD : digL l = true := dig_good h1 (.inr h8) hall
            refine wp_region_L (W0 := w) [] (hW24) ?_
            refine Tw.lm (v := .slice none 0 0) rfl rfl ?_
            refine wpL_done (fun W25 hW25 => ?_)
            refine (show Code.wp _ _ _ _ _ from ?_)
            refine wp_seq ?_
            refine wp_seq ?_
            refine wp_region_L (W0 := w) [] (hW25) ?_
            refine Tw.lm (v := .int .i64 0) rfl rfl ?_
            refine wpL_done (fun W26 hW26 => ?_)
            refine (show Code.wp _ _ _ _ _ from ?_)
            refine wp_block ?_
            go_loopw [6, 5] (fun u6 u5 wr => ∃ (i2 : Nat) (po : Option Addr) (co : Nat) (m : Nat) (Kt : List (Nat × Obj)), (NS (w : Base) po (cd m) Kt) ∧ (∀ W3, KS (w : Base) Kt W3 → SLF w W3 po (nums (cd m))) ∧ ((cd m).length ≤ co) ∧ (i2 ≤ l.length) ∧ (m = decV (l.take i2)) ∧ ((cd m).length ≤ 16) ∧ u6 = .int .i64 ((i2 : Nat) : Int) ∧ u5 = .slice po ((cd m).length) co ∧ KS w Kt wr) (fun u6 _ _ => l.length - (intOf u6).toNat)
            case atStart => exact ⟨0, none, 0, 0, [], NS.nil, (fun _ _ => .inl (by rw [cd_zero]; rfl)), (Nat.zero_le _), (Nat.zero_le _), rfl, (by rw [cd_zero]; simp), rfl, rfl, (hW26.sub (fun p hp => by first | exact hp | (simp only [List.mem_cons, List.mem_append, List.nil_append, List.not_mem_nil, or_assoc, or_false, false_or, List.cons_append, List.append_assoc] at hp ⊢ <;> grind)))⟩
            case round =>
              obtain ⟨i2, po, co, m, Kt, HO, HF, hco, hi2, hm, hml, rfl, rfl, hL27⟩ := hrel
              refine wp_seq ?_
              refine wp_seq ?_
              refine wp_region_L (W0 := w) Kt (hL27) ?_
              refine Tw.lm (v := .int .i64 ((i2 : Nat) : Int)) rfl rfl ?_
              refine Tw.lm (v := strV l) rfl rfl ?_
              refine Tw.lp (v := .int .i64 ((l.length : Nat) : Int)) rfl rfl (run_lenS (l := l) rfl Tryz.underlying9 (by kernel_rfl)) ?_
              refine Tw.lp (v := .bool (decide (i2 < l.length))) rfl rfl (run_bin rfl (vx := (.int .i64 ((i2 : Nat) : Int))) (vy := (.int .i64 ((l.length : Nat) : Int))) (by kernel_rfl) (by kernel_rfl) fun w => bn_lss rfl w) ?_
              refine wpL_done (fun W28 hW28 => ?_)
              refine (show Code.wp _ _ _ _ _ from ?_)
              cases hd10 : (decide (i2 < l.length)) with
              | false =>
                have h10 : ¬ (i2 < l.length) := of_decide_eq_false hd10
                clear hd10
                refine wp_cond_false rfl ?_
                refine wp_exit ?_
                refine (show Code.wp _ _ _ _ _ from ?_)
                refine wp_seq ?_
                refine wp_region_L (W0 := w) Kt (hW28) ?_
                refine Tw.lm (v := .slice po ((cd m).length) co) rfl rfl ?_
                refine Tw.lm (v := .slice po ((cd m).length) co) rfl rfl ?_
                refine Tw.lm (v := .int .i64 0) rfl rfl ?_
                refine wpL_done (fun W29 hW29 => ?_)
                refine (show Code.wp _ _ _ _ _ from ?_)
                refine wp_ret ?_
                try simp only [inBlock_ret, then_ret]
                refine bodyPost_ret (v := .tuple #[.slice po ((cd m).length) co, .int .i64 0]) ?_ rfl ?_
                · kernel_rfl
                · exact (num_ret (num_fits (i := i2) hD h10 (by rw [← hm]; exact hml)).1.symm (hm.trans (num_fits (i := i2) hD h10 (by rw [← hm]; exact hml)).2.symm) hco (HF _ hW29) hW29.1)
              | true =>
                have h10 : i2 < l.length := of_decide_eq_true hd10
                clear hd10
                refine wp_cond_true rfl ?_
                refine wp_skip ?_
                refine (show Code.wp _ _ _ _ _ from ?_)
                refine wp_seq ?_
                refine wp_block ?_
                refine wp_seq ?_
                refine wp_region_V (W0 := w) Kt (by kernel_rfl) (hW28) ?_
                refine vm (i := 0) (v := .slice po ((cd m).length) co) rfl rfl rfl ?_
                refine vm (i := 2) (v := strV l) rfl rfl rfl ?_
                refine vm (i := 3) (v := .int .i64 ((i2 : Nat) : Int)) rfl rfl rfl ?_
                obtain ⟨b10, hb10⟩ : ∃ b, (l : List UInt8)[i2]? = some b := ⟨_, List.getElem?_eq_getElem (by omega)⟩
                have lb10 := b10.toNat_lt
                refine vp (i := 4) (v := .int .u8 ((b10.toNat : Nat) : Int)) rfl rfl rfl (run_idxS (j := .i64) (l := l) (k := i2) (b := b10) rfl Tryz.underlying9 (by kernel_rfl) (by kernel_rfl) hb10) ?_
                have hb48 := hall i2 b10 (by omega) hb10
                refine vp (i := 5) (v := .int .u8 (((b10.toNat - 48) : Nat) : Int)) rfl rfl rfl (run_bin rfl (vx := (.int .u8 ((b10.toNat : Nat) : Int))) (vy := (.int .u8 ((48 : Nat) : Int))) (by kernel_rfl) (by kernel_rfl) fun w => bn_sub (z := (b10.toNat - 48)) rfl (by omega) (wr_u8 (by omega)) w) ?_
                refine vp (i := 6) (v := .int .u64 (((b10.toNat - 48) : Nat) : Int)) rfl rfl rfl (run_conv rfl (vx := (.int .u8 (((b10.toNat - 48) : Nat) : Int))) (by kernel_rfl) fun w => cv_int Tryz.underlying5 Tryz.underlying84 (wr_u64 (by omega)) w) ?_
                refine wpV_c (i := 1) (AnsG w Kt (cd (m * 10))) rfl rfl (by kernel_rfl) (by kernel_rfl) (fun _ => (by kernel_rfl)) (fun W hW => (scale_any m 10 po co (by decide) (by omega) W ((HO.mono (fun q hq => by first | exact hq | (simp only [List.mem_cons, List.mem_append, List.nil_append, List.not_mem_nil, or_assoc, or_false, false_or] at hq ⊢ <;> grind))) W hW)).mono fun e w2 h => Ans.g h hW) (fun _ _ h => ansG_sub h) (fun _ => by simp only [List.setIfInBounds_toArray, List.set_cons_succ, List.set_cons_zero] <;> rfl) ?_
                rintro v11 _ ⟨q11, d11, T11, rfl, C11, H11, F11, J11, rfl⟩
                obtain dj12_0 : Dj Kt T11 := by simpa only [dj_app_l, dj_app_r, dj_cons_l, dj_cons_r, dj_nil_l, dj_nil_r, dk_app, dk_cons, dk_nil, and_true, true_and, and_assoc] using (show Dj Kt T11 from J11)
                refine wpV_c (i := 7) (AnsG w (Kt ++ T11) (cd (b10.toNat - 48))) rfl rfl (by kernel_rfl) (by kernel_rfl) (fun _ => (by kernel_rfl)) (fun W hW => (whole_any _ (b10.toNat - 48) rfl (by omega) W).mono fun e w2 h => Ans.g h hW) (fun _ _ h => ansG_sub h) (fun _ => by simp only [List.setIfInBounds_toArray, List.set_cons_succ, List.set_cons_zero] <;> rfl) ?_
                rintro v13 _ ⟨q13, d13, T13, rfl, C13, H13, F13, J13, rfl⟩
                obtain ⟨dj14_0, dj14_1⟩ : Dj Kt T13 ∧ Dj T11 T13 := by simpa only [dj_app_l, dj_app_r, dj_cons_l, dj_cons_r, dj_nil_l, dj_nil_r, dk_app, dk_cons, dk_nil, and_true, true_and, and_assoc] using (show Dj (Kt ++ T11) T13 from J13)
                have hlb1 := dec_bound hml
                have hlb2 := one_bound (y := (b10.toNat - 48)) (by omega)
                refine wpV_c (i := 8) (AnsG w ((Kt ++ T11) ++ T13) (cd ((m * 10) + (b10.toNat - 48)))) rfl rfl (by kernel_rfl) (by kernel_rfl) (fun _ => (by kernel_rfl)) (fun W hW => (radd_any (m * 10) (b10.toNat - 48) q11 q13 d11 d13 (by omega) (by omega) W ((H11.mono (fun q hq => by first | exact hq | (simp only [List.mem_cons, List.mem_append, List.nil_append, List.not_mem_nil, or_assoc, or_false, false_or] at hq ⊢ <;> grind))) W hW) ((H13.mono (fun q hq => by first | exact hq | (simp only [List.mem_cons, List.mem_append, List.nil_append, List.not_mem_nil, or_assoc, or_false, false_or] at hq ⊢ <;> grind))) W hW)).mono fun e w2 h => Ans.g h hW) (fun _ _ h => ansG_sub h) (fun _ => by simp only [List.setIfInBounds_toArray, List.set_cons_succ, List.set_cons_zero] <;> rfl) ?_
                rintro v15 _ ⟨q15, d15, T15, rfl, C15, H15, F15, J15, rfl⟩
                obtain ⟨dj16_0, dj16_1, dj16_2⟩ : Dj Kt T15 ∧ Dj T11 T15 ∧ Dj T13 T15 := by simpa only [dj_app_l, dj_app_r, dj_cons_l, dj_cons_r, dj_nil_l, dj_nil_r, dk_app, dk_cons, dk_nil, and_true, true_and, and_assoc] using (show Dj ((Kt ++ T11) ++ T13) T15 from J15)
                refine vm (i := 9) (v := .slice q15 ((cd ((m * 10) + (b10.toNat - 48))).length) d15) rfl rfl rfl ?_
                refine wpV_done (by kernel_rfl) (fun W30 hW30 => ?_) _
                refine (show Code.wp _ _ _ _ _ from ?_)
                refine wp_seq ?_
                refine wp_region_L (W0 := w) (((Kt ++ T11) ++ T13) ++ T15) (hW30) ?_
                refine Tw.lm (v := .slice q15 ((cd ((m * 10) + (b10.toNat - 48))).length) d15) rfl rfl ?_
                refine Tw.lp (v := .int .i64 ((((cd ((m * 10) + (b10.toNat - 48))).length) : Nat) : Int)) rfl rfl (run_lenL (p := q15) (cap := d15) (n := ((cd ((m * 10) + (b10.toNat - 48))).length)) rfl Tryz.underlying32 (by kernel_rfl)) ?_
                refine Tw.lp (v := .bool (decide (16 < ((cd ((m * 10) + (b10.toNat - 48))).length)))) rfl rfl (run_bin rfl (vx := (.int .i64 ((((cd ((m * 10) + (b10.toNat - 48))).length) : Nat) : Int))) (vy := (.int .i64 ((16 : Nat) : Int))) (by kernel_rfl) (by kernel_rfl) fun w => bn_gtr rfl w) ?_
                refine wpL_done (fun W31 hW31 => ?_)
                refine (show Code.wp _ _ _ _ _ from ?_)
                cases hd11 : (decide (16 < ((cd ((m * 10) + (b10.toNat - 48))).length))) with
                | false =>
                  have h11 : ¬ (16 < ((cd ((m * 10) + (b10.toNat - 48))).length)) := of_decide_eq_false hd11
                  clear hd11
                  refine wp_cond_false rfl ?_
                  refine wp_skip ?_
                  refine (show Code.wp _ _ _ _ _ from ?_)
                  refine wp_region_L (W0 := w) (((Kt ++ T11) ++ T13) ++ T15) (hW31) ?_
                  refine Tw.lm (v := .int .i64 ((i2 : Nat) : Int)) rfl rfl ?_
                  refine Tw.lp (v := .int .i64 (((i2 + 1) : Nat) : Int)) rfl rfl (run_bin rfl (vx := (.int .i64 ((i2 : Nat) : Int))) (vy := (.int .i64 ((1 : Nat) : Int))) (by kernel_rfl) (by kernel_rfl) fun w => bn_add (z := (i2 + 1)) rfl (wr_i64 (by omega)) w) ?_
                  refine Tw.lm (v := .int .i64 (((i2 + 1) : Nat) : Int)) rfl rfl ?_
                  refine wpL_done (fun W32 hW32 => ?_)
                  go_roundw
                  case rel =>
                    repeat apply Exists.intro
                    exact ⟨⟨(i2 + 1), q15, d15, (m * 10) + (b10.toNat - 48), (Kt ++ (T11 ++ (T13 ++ T15))), (H15.mono (fun q hq => by first | exact hq | (simp only [List.mem_cons, List.mem_append, List.nil_append, List.not_mem_nil, or_assoc, or_false, false_or] at hq ⊢ <;> grind))), (fun W3 h => F15 W3 (h.sub (fun q hq => by first | exact hq | (simp only [List.mem_cons, List.mem_append, List.nil_append, List.not_mem_nil, or_assoc, or_false, false_or] at hq ⊢ <;> grind))) rfl), C15, (by omega), (by rw [decV_take hb10, hm]), (by have h := h11; omega), rfl, rfl, (hW32.sub (fun p hp => by first | exact hp | (simp only [List.mem_cons, List.mem_append, List.nil_append, List.not_mem_nil, or_assoc, or_false, false_or, List.cons_append, List.append_assoc] at hp ⊢ <;> grind)))⟩, rfl⟩
                  case measure => (show l.length - (intOf (.int .i64 (((i2 + 1) : Nat) : Int))).toNat < l.length - (intOf (.int .i64 ((i2 : Nat) : Int))).toNat); simp only [intOf]; omega
                | true =>
                  have h11 : 16 < ((cd ((m * 10) + (b10.toNat - 48))).length) := of_decide_eq_true hd11
                  clear hd11
                  refine wp_cond_true rfl ?_
                  refine wp_seq ?_
                  refine wp_region_L (W0 := w) (((Kt ++ T11) ++ T13) ++ T15) (hW31) ?_
                  refine Tw.lm (v := .slice none 0 0) rfl rfl ?_
                  refine Tw.lm (v := .int .i64 2) rfl rfl ?_
                  refine wpL_done (fun W33 hW33 => ?_)
                  refine (show Code.wp _ _ _ _ _ from ?_)
                  refine wp_ret ?_
                  try simp only [inBlock_ret, then_ret]
                  refine bodyPost_ret (v := .tuple #[.slice none 0 0, .int .i64 2]) ?_ rfl ?_
                  · kernel_rfl
                  · exact (num_none (num_long (i := i2 + 1) hD (by omega) (by rw [decV_take hb10, ← hm]; exact h11)).1.symm (num_long (i := i2 + 1) hD (by omega) (by rw [decV_take hb10, ← hm]; exact h11)).2.symm hW33.1)
          | true =>
            have h9 : i < l.length := of_decide_eq_true hd9
            clear hd9
            refine wp_cond_true rfl ?_
            refine wp_skip ?_
            refine (show Code.wp _ _ _ _ _ from ?_)
            refine wp_seq ?_
            refine wp_block ?_
            refine wp_seq ?_
            refine wp_region_L (W0 := w) [] (hW24) ?_
            refine Tw.lm (v := strV l) rfl rfl ?_
            refine Tw.lm (v := .int .i64 ((i : Nat) : Int)) rfl rfl ?_
            obtain ⟨b17, hb17⟩ : ∃ b, (l : List UInt8)[i]? = some b := ⟨_, List.getElem?_eq_getElem (by omega)⟩
            have lb17 := b17.toNat_lt
            refine Tw.lp (v := .int .u8 ((b17.toNat : Nat) : Int)) rfl rfl (run_idxS (j := .i64) (l := l) (k := i) (b := b17) rfl Tryz.underlying9 (by kernel_rfl) (by kernel_rfl) hb17) ?_
            refine Tw.lp (v := .bool (decide (b17.toNat < 48))) rfl rfl (run_bin rfl (vx := (.int .u8 ((b17.toNat : Nat) : Int))) (vy := (.int .u8 ((48 : Nat) : Int))) (by kernel_rfl) (by kernel_rfl) fun w => bn_lss rfl w) ?_
            refine Tw.lm (v := .bool (decide (b17.toNat < 48))) rfl rfl ?_
            cases hd12 : (decide (b17.toNat < 48)) with
            | false =>
              have h12 : ¬ (b17.toNat < 48) := of_decide_eq_false hd12
              clear hd12
              refine Tw.lm (v := strV l) rfl rfl ?_
              refine Tw.lm (v := .int .i64 ((i : Nat) : Int)) rfl rfl ?_
              refine Tw.lp (v := .int .u8 ((b17.toNat : Nat) : Int)) rfl rfl (run_idxS (j := .i64) (l := l) (k := i) (b := b17) rfl Tryz.underlying9 (by kernel_rfl) (by kernel_rfl) hb17) ?_
              refine Tw.lp (v := .bool (decide (57 < b17.toNat))) rfl rfl (run_bin rfl (vx := (.int .u8 ((b17.toNat : Nat) : Int))) (vy := (.int .u8 ((57 : Nat) : Int))) (by kernel_rfl) (by kernel_rfl) fun w => bn_gtr rfl w) ?_
              refine Tw.lm (v := .bool (decide (57 < b17.toNat))) rfl rfl ?_
              refine wpL_done (fun W34 hW34 => ?_)
              refine (show Code.wp _ _ _ _ _ from ?_)
              cases hd13 : (decide (57 < b17.toNat)) with
              | false =>
                have h13 : ¬ (57 < b17.toNat) := of_decide_eq_false hd13
                clear hd13
                refine wp_cond_false rfl ?_
                refine wp_skip ?_
                refine (show Code.wp _ _ _ _ _ from ?_)
                refine wp_region_L (W0 := w) [] (hW34) ?_
                refine Tw.lm (v := .int .i64 ((i : Nat) : Int)) rfl rfl ?_
                refine Tw.lp (v := .int .i64 (((i + 1) : Nat) : Int)) rfl rfl (run_bin rfl (vx := (.int .i64 ((i : Nat) : Int))) (vy := (.int .i64 ((1 : Nat) : Int))) (by kernel_rfl) (by kernel_rfl) fun w => bn_add (z := (i + 1)) rfl (wr_i64 (by omega)) w) ?_
                refine Tw.lm (v := .int .i64 (((i + 1) : Nat) : Int)) rfl rfl ?_
                refine wpL_done (fun W35 hW35 => ?_)
                go_roundw
                case rel =>
                  repeat apply Exists.intro
                  exact ⟨⟨(i + 1), (by omega), (dig_ext hdg hb17 h12 h13), rfl, (hW35.sub (fun p hp => by first | exact hp | (simp only [List.mem_cons, List.mem_append, List.nil_append, List.not_mem_nil, or_assoc, or_false, false_or, List.cons_append, List.append_assoc] at hp ⊢ <;> grind)))⟩, rfl⟩
                case measure => (show l.length - (intOf (.int .i64 (((i + 1) : Nat) : Int))).toNat < l.length - (intOf (.int .i64 ((i : Nat) : Int))).toNat); simp only [intOf]; omega
              | true =>
                have h13 : 57 < b17.toNat := of_decide_eq_true hd13
                clear hd13
                refine wp_cond_true rfl ?_
                refine wp_seq ?_
                refine wp_region_L (W0 := w) [] (hW34) ?_
                refine Tw.lm (v := .slice none 0 0) rfl rfl ?_
                refine Tw.lm (v := .int .i64 1) rfl rfl ?_
                refine wpL_done (fun W36 hW36 => ?_)
                refine (show Code.wp _ _ _ _ _ from ?_)
                refine wp_ret ?_
                try simp only [inBlock_ret, then_ret]
                refine bodyPost_ret (v := .tuple #[.slice none 0 0, .int .i64 1]) ?_ rfl ?_
                · kernel_rfl
                · exact (num_none (num_bad (dig_bad hb17 (.inr h13))).1.symm (num_bad (dig_bad hb17 (.inr h13))).2.symm hW36.1)
            | true =>
              have h12 : b17.toNat < 48 := of_decide_eq_true hd12
              clear hd12
              refine Tw.ln rfl ?_
              refine Tw.ln rfl ?_
              refine Tw.ln rfl ?_
              refine Tw.ln rfl ?_
              refine Tw.lm (v := .bool true) rfl rfl ?_
              refine wpL_done (fun W37 hW37 => ?_)
              refine (show Code.wp _ _ _ _ _ from ?_)
              refine wp_cond_true rfl ?_
              refine wp_seq ?_
              refine wp_region_L (W0 := w) [] (hW37) ?_
              refine Tw.lm (v := .slice none 0 0) rfl rfl ?_
              refine Tw.lm (v := .int .i64 1) rfl rfl ?_
              refine wpL_done (fun W38 hW38 => ?_)
              refine (show Code.wp _ _ _ _ _ from ?_)
              refine wp_ret ?_
              try simp only [inBlock_ret, then_ret]
              refine bodyPost_ret (v := .tuple #[.slice none 0 0, .int .i64 1]) ?_ rfl ?_
              · kernel_rfl
              · exact (num_none (num_bad (dig_bad hb17 (.inl h12))).1.symm (num_bad (dig_bad hb17 (.inl h12))).2.symm hW38.1)
  | true =>
    have h1 : l = [] := of_decide_eq_true hd1
    clear hd1
    refine Tw.ln rfl ?_
    refine Tw.ln rfl ?_
    refine Tw.ln rfl ?_
    refine Tw.ln rfl ?_
    refine Tw.ln rfl ?_
    refine Tw.ln rfl ?_
    refine Tw.ln rfl ?_
    refine Tw.lm (v := .bool true) rfl rfl ?_
    refine wpL_done (fun W39 hW39 => ?_)
    refine (show Code.wp _ _ _ _ _ from ?_)
    refine wp_cond_true rfl ?_
    refine wp_seq ?_
    refine wp_region_L (W0 := w) [] (hW39) ?_
    refine Tw.lm (v := .slice none 0 0) rfl rfl ?_
    refine Tw.lm (v := .int .i64 1) rfl rfl ?_
    refine wpL_done (fun W40 hW40 => ?_)
    refine (show Code.wp _ _ _ _ _ from ?_)
    refine wp_ret ?_
    try simp only [inBlock_ret, then_ret]
    refine bodyPost_ret (v := .tuple #[.slice none 0 0, .int .i64 1]) ?_ rfl ?_
    · kernel_rfl
    · exact (num_none (num_bad (by rw [h1]; exact dig_empty)).1.symm (num_bad (by rw [h1]; exact dig_empty)).2.symm hW40.1)
end Go.Proofs.YtalmflgkbmnghaaGreatDoor
namespace Go.Proofs.YtalmflgkbmnghaaGreatDoor
open Go Go.RowKit Tw
set_option linter.unusedSimpArgs false
set_option linter.unusedVariables false
open Tf (dg R R_pos R_le R_succ dg_of_lt setd setd_eq)
variable [ShLZ]
variable [ShSt]
theorem trim_empty {l : List UInt8} (h : ¬ 0 < l.length) : l = Lib.trimPrefix l [45] := by
  have : l = [] := List.eq_nil_of_length_eq_zero (by omega)
  subst this; rfl
theorem trim_other {l : List UInt8} {b : UInt8} (hb : l[0]? = some b) (h : ¬ b.toNat = 45) : l = Lib.trimPrefix l [45] ∧ rNeg l = false := by
  cases l with
  | nil => simp at hb
  | cons c r =>
    simp only [List.getElem?_cons_zero, Option.some.injEq] at hb
    subst hb
    have h1 : Lib.hasPrefix (c :: r) [45] = false := by
      unfold Lib.hasPrefix
      simp only [List.isPrefixOf, Bool.and_true, beq_eq_false_iff_ne]
      intro e
      rw [← e] at h
      exact h rfl
    exact ⟨by unfold Lib.trimPrefix; rw [h1]; rfl, h1⟩
theorem trim_minus {l : List UInt8} {b : UInt8} (hb : l[0]? = some b) (h : b.toNat = 45) : l.drop 1 = Lib.trimPrefix l [45] ∧ rNeg l = true := by
  cases l with
  | nil => simp at hb
  | cons c r =>
    simp only [List.getElem?_cons_zero, Option.some.injEq] at hb
    subst hb
    have e : c = 45 := UInt8.toNat_inj.1 h
    subst e
    exact ⟨rfl, rfl⟩
def FirstAt (u : List UInt8) (k : Nat) (a : Int) : Prop := (a = -1 ∧ ∀ (j : Nat) (b : UInt8), k ≤ j → u[j]? = some b → ¬ b.toNat = 47) ∨ (∃ i : Nat, a = (i : Int) ∧ (∃ b, u[i]? = some b ∧ b.toNat = 47) ∧ ∀ (j : Nat) (b : UInt8), k ≤ j → j < i → u[j]? = some b → ¬ b.toNat = 47)
theorem FirstAt.start (u : List UInt8) : FirstAt u u.length (-1) := .inl ⟨rfl, fun j b hj hb => by have := (List.getElem?_eq_some_iff.1 hb).1; omega⟩
theorem FirstAt.hit {u : List UInt8} {k : Nat} {b : UInt8} (hb : u[k]? = some b) (h : b.toNat = 47) : FirstAt u k (k : Int) := .inr ⟨k, rfl, ⟨b, hb, h⟩, fun j c h1 h2 => by omega⟩
theorem FirstAt.miss {u : List UInt8} {k : Nat} {a : Int} {b : UInt8} (hF : FirstAt u (k + 1) a) (hb : u[k]? = some b) (h : ¬ b.toNat = 47) : FirstAt u k a := by
  have hk : ∀ (j : Nat) (c : UInt8), k ≤ j → u[j]? = some c → (k + 1 ≤ j) ∨ ¬ c.toNat = 47 := fun j c h1 h2 => by
    rcases Nat.eq_or_lt_of_le h1 with e | e
    · subst e; rw [hb] at h2; cases h2; exact .inr h
    · exact .inl e
  rcases hF with ⟨h1, h2⟩ | ⟨i, h1, h2, h3⟩
  · exact .inl ⟨h1, fun j c h4 h5 => (hk j c h4 h5).elim (fun h6 => h2 j c h6 h5) id⟩
  · exact .inr ⟨i, h1, h2, fun j c h4 h5 h6 => (hk j c h4 h6).elim (fun h7 => h3 j c h7 h5 h6) id⟩
theorem ne47 {b : UInt8} (h : ¬ b.toNat = 47) : b ≠ 47 := fun e => h (by rw [e]; rfl)
theorem first_none {l u : List UInt8} {a : Int} (hu : u = Lib.trimPrefix l [45]) (hF : FirstAt u 0 a) (h : a < 0) : u = (rCut l).1 ∧ [49] = rBelow l := by
  rcases hF with ⟨_, h2⟩ | ⟨i, h1, _⟩
  · have e : rCut l = (u, [], false) := by
      unfold rCut
      rw [← hu]
      exact cut_no (fun b hb => by
        obtain ⟨j, hj⟩ := List.getElem?_of_mem hb
        exact ne47 (h2 j b (Nat.zero_le _) hj))
    unfold rBelow
    rw [e]
    exact ⟨rfl, rfl⟩
  · omega
theorem first_nat {u : List UInt8} {a : Int} (hF : FirstAt u 0 a) (h : ¬ a < 0) : ∃ i : Nat, a = (i : Int) ∧ i < u.length ∧ FirstAt u 0 (i : Int) := by
  rcases hF with ⟨h1, _⟩ | ⟨i, h1, ⟨b, h2, h4⟩, h3⟩
  · omega
  · exact ⟨i, h1, (List.getElem?_eq_some_iff.1 h2).1, .inr ⟨i, rfl, ⟨b, h2, h4⟩, h3⟩⟩
theorem first_some {l u : List UInt8} {i : Nat} (hu : u = Lib.trimPrefix l [45]) (hF : FirstAt u 0 (i : Int)) : u.take i = (rCut l).1 ∧ u.drop (i + 1) = rBelow l := by
  rcases hF with ⟨h1, _⟩ | ⟨j, h1, ⟨b, h2, h4⟩, h3⟩
  · omega
  · obtain rfl : i = j := by omega
    have eb : b = 47 := UInt8.toNat_inj.1 h4
    subst eb
    obtain ⟨hi, hg⟩ := List.getElem?_eq_some_iff.1 h2
    have eu : u = u.take i ++ 47 :: u.drop (i + 1) := by
      have h5 := List.drop_eq_getElem_cons hi
      rw [hg] at h5
      rw [← h5, List.take_append_drop]
    have e : rCut l = (u.take i, u.drop (i + 1), true) := by
      unfold rCut
      rw [← hu]
      conv => lhs; rw [eu]
      exact cut_at _ (fun b hb => by
        obtain ⟨j, hj⟩ := List.getElem?_of_mem hb
        have hj2 := (List.getElem?_eq_some_iff.1 hj).1
        rw [List.length_take] at hj2
        rw [List.getElem?_take_of_lt (by omega)] at hj
        exact ne47 (h3 j b (Nat.zero_le _) (by omega) hj))
    unfold rBelow
    rw [e]
    exact ⟨rfl, rfl⟩
theorem numC_three (a : List UInt8) : numC a = 0 ∨ numC a = 1 ∨ numC a = 2 := by unfold numC; split <;> (try split) <;> simp
theorem numN_lt (a : List UInt8) : numN a < R 8 := by
  unfold numN
  split
  · rename_i h; exact h.2
  · exact R_pos 8
theorem numC_1 {a : List UInt8} (h : numC a = 1) : digL a = false := by
  unfold numC at h
  split at h
  · split at h <;> simp at h
  · rename_i h1; simpa using h1
theorem numC_2 {a : List UInt8} (h : numC a = 2) : digL a = true ∧ ¬ decV a < R 8 := by
  unfold numC at h
  split at h
  · rename_i h1
    split at h
    · simp at h
    · rename_i h2; exact ⟨h1, h2⟩
  · simp at h
theorem numC_0 {a : List UInt8} (h : numC a = 0) : digL a = true ∧ decV a < R 8 ∧ numN a = decV a := by
  unfold numC at h
  split at h
  · rename_i h1
    split at h
    · rename_i h2; exact ⟨h1, h2, by unfold numN; rw [if_pos ⟨h1, h2⟩]⟩
    · simp at h
  · simp at h
theorem numC_no1 {a : List UInt8} (h : ¬ numC a = 1) : digL a = true := by
  rcases numC_three a with h1 | h1 | h1
  · exact (numC_0 h1).1
  · exact absurd h1 h
  · exact (numC_2 h1).1
theorem read10 {l : List UInt8} (h : numC (rCut l).1 = 1 ∨ numC (rBelow l) = 1 ∨ (numC (rBelow l) = 0 ∧ (cd (numN (rBelow l))).length = 0)) : (Value.tuple #[.agg (frcC false 0 0), .int .i64 10]) = readV l := by
  refine (readV_dig ?_).symm
  rcases h with h | h | ⟨h, h2⟩
  · rw [numC_1 h]; rfl
  · rw [numC_1 h]; simp
  · obtain ⟨h3, h4, h5⟩ := numC_0 h
    have h6 : rBelow l = [48] := dec_zero_only h3 (by rw [← h5]; exact cd_len0.1 h2)
    rw [h6]; simp
theorem below_ok {a : List UInt8} (h : ¬ numC a = 1) (h0 : ¬ numC a = 0 ∨ ¬ (cd (numN a)).length = 0) : (a == [48]) = false := by
  cases hb : (a == [48]) with
  | false => rfl
  | true =>
    exfalso
    rw [beq_iff_eq] at hb
    subst hb
    have d : digL [48] = true := rfl
    have v : decV [48] = 0 := rfl
    have e1 : numC [48] = 0 := by unfold numC; rw [if_pos d, v, if_pos (R_pos 8)]
    have e2 : numN [48] = 0 := by unfold numN; rw [if_pos ⟨d, by rw [v]; exact R_pos 8⟩, v]
    rcases h0 with h0 | h0
    · exact h0 e1
    · exact h0 (by rw [e2, cd_zero]; rfl)
theorem pok_2 {a : List UInt8} (h : numC a = 2) : pOk a = false := by
  obtain ⟨h1, h2⟩ := numC_2 h
  rw [pok_iff h1]
  simpa using h2
theorem read3 {l : List UInt8} (h1 : ¬ numC (rCut l).1 = 1) (h2 : ¬ numC (rBelow l) = 1) (h3 : ¬ numC (rBelow l) = 0 ∨ ¬ (cd (numN (rBelow l))).length = 0) (h : numC (rCut l).1 = 2 ∨ numC (rBelow l) = 2) : (Value.tuple #[.agg (frcC false 0 0), .int .i64 3]) = readV l := by
  refine (readV_long ?_ ?_).symm
  · rw [numC_no1 h1, numC_no1 h2, below_ok h2 h3]; rfl
  · rcases h with h | h
    · rw [pok_2 h]; rfl
    · rw [pok_2 h]; simp
theorem red_right {neg : Bool} {N M : Nat} (hM : 0 < M) : rightB (neg && decide (N / Nat.gcd N M ≠ 0)) (N / Nat.gcd N M) (M / Nat.gcd N M) = true := by
  have hg : 0 < Nat.gcd N M := Nat.gcd_pos_of_pos_right _ hM
  have hc : Nat.gcd (N / Nat.gcd N M) (M / Nat.gcd N M) = 1 := Nat.coprime_div_gcd_div_gcd hg
  have hY : 0 < M / Nat.gcd N M := Nat.div_pos (Nat.le_of_dvd hM (Nat.gcd_dvd_right N M)) hg
  unfold rightB
  split
  · rename_i h0
    rw [h0, Nat.gcd_zero_left] at hc
    simp [h0, hc]
  · exact decide_eq_true ⟨by omega, hc⟩
theorem read_end {l : List UInt8} {neg : Bool} (h1 : numC (rCut l).1 = 0) (h2 : numC (rBelow l) = 0) (h3 : ¬ (cd (numN (rBelow l))).length = 0) (hn : neg = rNeg l) :
    readV l = if textL (neg && decide (numN (rCut l).1 / Nat.gcd (numN (rCut l).1) (numN (rBelow l)) ≠ 0)) (numN (rCut l).1 / Nat.gcd (numN (rCut l).1) (numN (rBelow l))) (numN (rBelow l) / Nat.gcd (numN (rCut l).1) (numN (rBelow l))) = l then .tuple #[.agg (frcC (neg && decide (numN (rCut l).1 / Nat.gcd (numN (rCut l).1) (numN (rBelow l)) ≠ 0)) (numN (rCut l).1 / Nat.gcd (numN (rCut l).1) (numN (rBelow l))) (numN (rBelow l) / Nat.gcd (numN (rCut l).1) (numN (rBelow l)))), .int .i64 0] else .tuple #[.agg (frcC false 0 0), .int .i64 11] := by
  obtain ⟨d1, b1, n1⟩ := numC_0 h1
  obtain ⟨d2, b2, n2⟩ := numC_0 h2
  have hM : 0 < numN (rBelow l) := Nat.pos_of_ne_zero (fun h => h3 (cd_len0.2 h))
  have hX : numN (rCut l).1 / Nat.gcd (numN (rCut l).1) (numN (rBelow l)) < R 8 := Nat.lt_of_le_of_lt (Nat.div_le_self _ _) (numN_lt _)
  have hY : numN (rBelow l) / Nat.gcd (numN (rCut l).1) (numN (rBelow l)) < R 8 := Nat.lt_of_le_of_lt (Nat.div_le_self _ _) (numN_lt _)
  split
  · rename_i ht
    have h := read_text (red_right (neg := neg) (N := numN (rCut l).1) hM) hX hY
    rw [ht] at h
    exact h
  · rename_i ht
    have p1 : pOk (rCut l).1 = true := by rw [pok_iff d1]; exact decide_eq_true b1
    have p2 : pOk (rBelow l) = true := by rw [pok_iff d2]; exact decide_eq_true b2
    have v1 : pVal (rCut l).1 = numN (rCut l).1 := by rw [pval_ok p1, n1]
    have v2 : pVal (rBelow l) = numN (rBelow l) := by rw [pval_ok p2, n2]
    unfold readV
    rw [if_pos ⟨d1, d2, below_ok (by rw [h2]; decide) (.inr h3)⟩, if_pos ⟨p1, p2⟩, if_neg, frc]
    rintro ⟨r1, r2⟩
    rw [v1, v2, ← hn] at r1 r2
    have hr : rightB neg (numN (rCut l).1) (numN (rBelow l)) = true := by
      unfold rErr at r1
      split at r1
      · rename_i h; exact h
      · simp at r1
    unfold rText at r2
    rw [if_pos hr, beq_iff_eq] at r2
    obtain ⟨x, _, e2, e3, e4⟩ := right_rat hr
    have hg : Nat.gcd (numN (rCut l).1) (numN (rBelow l)) = 1 := by rw [← e3, ← e2]; exact x.reduced
    rw [hg, Nat.div_one, Nat.div_one] at ht
    apply ht
    have hneg : (neg && decide (numN (rCut l).1 ≠ 0)) = neg := by
      unfold rightB at hr
      split at hr
      · rename_i h0; simp at hr; simp [hr.1]
      · rename_i h0; simp [h0]
    rw [hneg]
    exact r2
theorem cut_lens (l : List UInt8) : (rCut l).1.length ≤ l.length ∧ (rBelow l).length ≤ l.length + 1 := by
  have h1 := trim_le l [45]
  have h2 := cut_le (Lib.trimPrefix l [45]) [47]
  constructor
  · unfold rCut; omega
  · unfold rBelow rCut; split
    · omega
    · simp
theorem neg_of {l : List UInt8} {b : UInt8} (hb : l[0]? = some b) : decide (b.toNat = 45) = rNeg l := by
  by_cases h : b.toNat = 45
  · rw [(trim_minus hb h).2]; simpa using h
  · rw [(trim_other hb h).2]; simpa using h
end Go.Proofs.YtalmflgkbmnghaaGreatDoor
namespace Go.Proofs.YtalmflgkbmnghaaGreatDoor
open Go Go.RowKit Tw
set_option linter.unusedSimpArgs false
set_option linter.unusedVariables false
open Tf (dg R R_pos R_le R_succ dg_of_lt setd setd_eq)
variable [ShLZ]
variable [ShSt]
set_option maxRecDepth 100000 in
set_option maxHeartbeats 40000000 in
theorem RRead_any (l : List UInt8) (ll : l.length ≤ 3900) (w : World) : Calls Tryz.prog 34 #[strV l] w fun e w' => e = .returned (readV l) ∧ Below w.heap.size w w' := by
  obtain ⟨V, hV⟩ : ∃ V : Value, V = readV l := ⟨_, rfl⟩
  rw [← hV]
  go_enter Tryz.func34, Tryz.ntmps34
  refine wp_seq ?_
  refine wp_region_L (W0 := w) [] (KS.start w) ?_
  refine wpL_new (fun g => .pointer (some ⟨g, 0, none⟩)) (obi := .cells (frcC false 0 0) 34 (0, 0)) rfl rfl (fun _ => by kernel_rfl) (fun _ => by simp only [List.setIfInBounds_toArray, List.set_cons_succ, List.set_cons_zero] <;> rfl) fun g1 Bg1 Fg1 => ?_
  refine Tw.lm (v := .int .i64 0) rfl rfl ?_
  refine wpL_done (fun W1 hW1 => ?_)
  refine (show Code.wp _ _ _ _ _ from ?_)
  refine wp_seq ?_
  refine wp_region_L (W0 := w) [(g1, .cells (frcC false 0 0) 34 (0, 0))] (hW1) ?_
  refine Tw.lm (v := strV l) rfl rfl ?_
  refine Tw.lm (v := strV l) rfl rfl ?_
  refine Tw.lm (v := .int .i64 (-1)) rfl rfl ?_
  refine wpL_done (fun W2 hW2 => ?_)
  refine (show Code.wp _ _ _ _ _ from ?_)
  refine wp_joins (fun az wz => ∃ (u : List UInt8), (u = Lib.trimPrefix l [45]) ∧ (u.length ≤ l.length) ∧ JoinR (fun zq => List.toArray ((strV l) :: undef :: (.pointer (some ⟨g1, 0, none⟩)) :: (.int .i64 0) :: (strV u) :: (.int .i64 (-1)) :: undef :: undef :: undef :: undef :: undef :: undef :: undef :: undef :: undef :: undef :: (strV l) :: zq 17 :: zq 18 :: zq 19 :: zq 20 :: zq 21 :: zq 22 :: zq 23 :: zq 24 :: zq 25 :: zq 26 :: undef :: undef :: undef :: undef :: undef :: undef :: undef :: undef :: undef :: undef :: undef :: undef :: undef :: undef :: undef :: undef :: undef :: undef :: undef :: undef :: undef :: undef :: undef :: undef :: undef :: undef :: undef :: undef :: undef :: undef :: undef :: undef :: undef :: undef :: undef :: undef :: undef :: undef :: undef :: undef :: undef :: undef :: undef :: undef :: undef :: undef :: undef :: undef :: undef :: undef :: undef :: undef :: undef :: undef :: undef :: undef :: undef :: undef :: undef :: undef :: undef :: undef :: undef :: undef :: undef :: undef :: undef :: undef :: undef :: undef :: undef :: undef :: undef :: [])) w [(g1, .cells (frcC false 0 0) 34 (0, 0))] az wz) 1 ?_ ?_
  · refine (show Code.wp _ _ _ _ _ from ?_)
    refine wp_seq ?_
    refine wp_region_L (W0 := w) [(g1, .cells (frcC false 0 0) 34 (0, 0))] (hW2) ?_
    refine Tw.lm (v := strV l) rfl rfl ?_
    refine Tw.lp (v := .int .i64 ((l.length : Nat) : Int)) rfl rfl (run_lenS (l := l) rfl Tryz.underlying9 (by kernel_rfl)) ?_
    refine Tw.lp (v := .bool (decide (0 < l.length))) rfl rfl (run_bin rfl (vx := (.int .i64 ((l.length : Nat) : Int))) (vy := (.int .i64 ((0 : Nat) : Int))) (by kernel_rfl) (by kernel_rfl) fun w => bn_gtr rfl w) ?_
    refine Tw.lm (v := .bool (decide (0 < l.length))) rfl rfl ?_
    cases hd1 : (decide (0 < l.length)) with
    | false =>
      have h1 : ¬ (0 < l.length) := of_decide_eq_false hd1
      clear hd1
      refine Tw.ln rfl ?_
      refine Tw.ln rfl ?_
      refine Tw.ln rfl ?_
      refine Tw.lm (v := .bool false) rfl rfl ?_
      refine wpL_done (fun W3 hW3 => ?_)
      refine (show Code.wp _ _ _ _ _ from ?_)
      refine wp_cond_false rfl ?_
      refine wp_skip ?_
      exact ⟨l, (trim_empty h1), (by omega), join_mk (by kernel_rfl) (hW3.sub (fun p hp => by first | exact hp | (simp only [List.mem_cons, List.mem_append, List.nil_append, List.not_mem_nil, or_assoc, or_false, false_or, List.cons_append, List.append_assoc] at hp ⊢ <;> grind)))⟩
    | true =>
      have h1 : 0 < l.length := of_decide_eq_true hd1
      clear hd1
      refine Tw.lm (v := strV l) rfl rfl ?_
      obtain ⟨b2, hb2⟩ : ∃ b, (l : List UInt8)[0]? = some b := ⟨_, List.getElem?_eq_getElem (by omega)⟩
      have lb2 := b2.toNat_lt
      refine Tw.lp (v := .int .u8 ((b2.toNat : Nat) : Int)) rfl rfl (run_idxS (j := .i64) (l := l) (k := 0) (b := b2) rfl Tryz.underlying9 (by kernel_rfl) (by kernel_rfl) hb2) ?_
      refine Tw.lp (v := .bool (decide (b2.toNat = 45))) rfl rfl (run_bin rfl (vx := (.int .u8 ((b2.toNat : Nat) : Int))) (vy := (.int .u8 ((45 : Nat) : Int))) (by kernel_rfl) (by kernel_rfl) fun w => bn_eql rfl w) ?_
      refine Tw.lm (v := .bool (decide (b2.toNat = 45))) rfl rfl ?_
      refine wpL_done (fun W4 hW4 => ?_)
      refine (show Code.wp _ _ _ _ _ from ?_)
      cases hd2 : (decide (b2.toNat = 45)) with
      | false =>
        have h2 : ¬ (b2.toNat = 45) := of_decide_eq_false hd2
        clear hd2
        refine wp_cond_false rfl ?_
        refine wp_skip ?_
        exact ⟨l, (trim_other hb2 h2).1, (by omega), join_mk (by kernel_rfl) (hW4.sub (fun p hp => by first | exact hp | (simp only [List.mem_cons, List.mem_append, List.nil_append, List.not_mem_nil, or_assoc, or_false, false_or, List.cons_append, List.append_assoc] at hp ⊢ <;> grind)))⟩
      | true =>
        have h2 : b2.toNat = 45 := of_decide_eq_true hd2
        clear hd2
        refine wp_cond_true rfl ?_
        refine wp_region_L (W0 := w) [(g1, .cells (frcC false 0 0) 34 (0, 0))] (hW4) ?_
        refine Tw.lm (v := strV l) rfl rfl ?_
        refine Tw.lp (v := strV (l.drop 1)) rfl rfl (run_slL (k1 := .i64) (l := l) (r := (l.drop 1)) (i := 1) rfl Tryz.underlying9 (by kernel_rfl) (by kernel_rfl) (by first | omega | (simp; omega)) rfl) ?_
        refine Tw.lm (v := strV (l.drop 1)) rfl rfl ?_
        refine wpL_done (fun W5 hW5 => ?_)
        exact ⟨(l.drop 1), (trim_minus hb2 h2).1, (by simp), join_mk (by kernel_rfl) (hW5.sub (fun p hp => by first | exact hp | (simp only [List.mem_cons, List.mem_append, List.nil_append, List.not_mem_nil, or_assoc, or_false, false_or, List.cons_append, List.append_assoc] at hp ⊢ <;> grind)))⟩
  · rintro a1 W1j ⟨u, hu, lu, ⟨zx1, rfl⟩, hW1j⟩
    dsimp only [cutT]
    refine wp_seq ?_
    refine wp_seq ?_
    refine wp_region_L (W0 := w) [(g1, .cells (frcC false 0 0) 34 (0, 0))] (hW1j) ?_
    refine Tw.lm (v := strV u) rfl rfl ?_
    refine Tw.lp (v := .int .i64 ((u.length : Nat) : Int)) rfl rfl (run_lenS (l := u) rfl Tryz.underlying9 (by kernel_rfl)) ?_
    refine Tw.lp (v := .int .i64 (((u.length : Nat) : Int) - 1)) rfl rfl (run_bin rfl (vx := (.int .i64 ((u.length : Nat) : Int))) (vy := (.int .i64 ((1 : Nat) : Int))) (by kernel_rfl) (by kernel_rfl) fun w => bi_sub (z := (((u.length : Nat) : Int) - 1)) rfl (wi_i64 (by omega)) w) ?_
    refine Tw.lm (v := .int .i64 (((u.length : Nat) : Int) - 1)) rfl rfl ?_
    refine wpL_done (fun W6 hW6 => ?_)
    refine (show Code.wp _ _ _ _ _ from ?_)
    refine wp_block ?_
    go_loopw [6, 5] (fun u6 u5 wr => ∃ (z : Int) (aa : Int) (k : Nat), (z = (k : Int) - 1) ∧ (k ≤ u.length) ∧ (FirstAt u k aa) ∧ u6 = .int .i64 z ∧ u5 = .int .i64 aa ∧ KS w [(g1, .cells (frcC false 0 0) 34 (0, 0))] wr) (fun u6 _ _ => (intOf u6 + 1).toNat)
    case atStart => exact ⟨(((u.length : Nat) : Int) - 1), (-1), u.length, rfl, (Nat.le_refl _), (FirstAt.start u), rfl, rfl, (hW6.sub (fun p hp => by first | exact hp | (simp only [List.mem_cons, List.mem_append, List.nil_append, List.not_mem_nil, or_assoc, or_false, false_or, List.cons_append, List.append_assoc] at hp ⊢ <;> grind)))⟩
    case round =>
      obtain ⟨z, aa, k, hz, hk, hF, rfl, rfl, hL7⟩ := hrel
      refine wp_seq ?_
      refine wp_seq ?_
      refine wp_region_L (W0 := w) [(g1, .cells (frcC false 0 0) 34 (0, 0))] (hL7) ?_
      refine Tw.lm (v := .int .i64 z) rfl rfl ?_
      refine Tw.lp (v := .bool (!(decide (z < 0)))) rfl rfl (run_bin rfl (vx := (.int .i64 z)) (vy := (.int .i64 0)) (by kernel_rfl) (by kernel_rfl) fun w => bi_geq rfl w) ?_
      refine wpL_done (fun W8 hW8 => ?_)
      refine (show Code.wp _ _ _ _ _ from ?_)
      cases hd3 : (decide (z < 0)) with
      | false =>
        have h3 : ¬ (z < 0) := of_decide_eq_false hd3
        clear hd3
        obtain ⟨j, rfl⟩ := Int.eq_ofNat_of_zero_le (show 0 ≤ z by omega)
        obtain rfl : k = j + 1 := by omega
        refine wp_cond_true rfl ?_
        refine wp_skip ?_
        refine (show Code.wp _ _ _ _ _ from ?_)
        refine wp_seq ?_
        refine wp_block ?_
        refine wp_seq ?_
        refine wp_region_L (W0 := w) [(g1, .cells (frcC false 0 0) 34 (0, 0))] (hW8) ?_
        refine Tw.lm (v := strV u) rfl rfl ?_
        refine Tw.lm (v := .int .i64 ((j : Nat) : Int)) rfl rfl ?_
        obtain ⟨b3, hb3⟩ : ∃ b, (u : List UInt8)[j]? = some b := ⟨_, List.getElem?_eq_getElem (by omega)⟩
        have lb3 := b3.toNat_lt
        refine Tw.lp (v := .int .u8 ((b3.toNat : Nat) : Int)) rfl rfl (run_idxS (j := .i64) (l := u) (k := j) (b := b3) rfl Tryz.underlying9 (by kernel_rfl) (by kernel_rfl) hb3) ?_
        refine Tw.lp (v := .bool (decide (b3.toNat = 47))) rfl rfl (run_bin rfl (vx := (.int .u8 ((b3.toNat : Nat) : Int))) (vy := (.int .u8 ((47 : Nat) : Int))) (by kernel_rfl) (by kernel_rfl) fun w => bn_eql rfl w) ?_
        refine wpL_done (fun W9 hW9 => ?_)
        refine (show Code.wp _ _ _ _ _ from ?_)
        cases hd4 : (decide (b3.toNat = 47)) with
        | false =>
          have h4 : ¬ (b3.toNat = 47) := of_decide_eq_false hd4
          clear hd4
          refine wp_cond_false rfl ?_
          refine wp_skip ?_
          refine (show Code.wp _ _ _ _ _ from ?_)
          refine wp_region_L (W0 := w) [(g1, .cells (frcC false 0 0) 34 (0, 0))] (hW9) ?_
          refine Tw.lm (v := .int .i64 ((j : Nat) : Int)) rfl rfl ?_
          refine Tw.lp (v := .int .i64 (((j : Nat) : Int) - 1)) rfl rfl (run_bin rfl (vx := (.int .i64 ((j : Nat) : Int))) (vy := (.int .i64 ((1 : Nat) : Int))) (by kernel_rfl) (by kernel_rfl) fun w => bi_sub (z := (((j : Nat) : Int) - 1)) rfl (wi_i64 (by omega)) w) ?_
          refine Tw.lm (v := .int .i64 (((j : Nat) : Int) - 1)) rfl rfl ?_
          refine wpL_done (fun W10 hW10 => ?_)
          go_roundw
          case rel =>
            repeat apply Exists.intro
            exact ⟨⟨(((j : Nat) : Int) - 1), aa, j, (by omega), (by omega), (hF.miss hb3 h4), rfl, rfl, (hW10.sub (fun p hp => by first | exact hp | (simp only [List.mem_cons, List.mem_append, List.nil_append, List.not_mem_nil, or_assoc, or_false, false_or, List.cons_append, List.append_assoc] at hp ⊢ <;> grind)))⟩, rfl⟩
          case measure => (show (intOf (.int .i64 (((j : Nat) : Int) - 1)) + 1).toNat < (intOf (.int .i64 ((j : Nat) : Int)) + 1).toNat); simp only [intOf]; omega
        | true =>
          have h4 : b3.toNat = 47 := of_decide_eq_true hd4
          clear hd4
          refine wp_cond_true rfl ?_
          refine wp_region_L (W0 := w) [(g1, .cells (frcC false 0 0) 34 (0, 0))] (hW9) ?_
          refine Tw.lm (v := .int .i64 ((j : Nat) : Int)) rfl rfl ?_
          refine Tw.lm (v := .int .i64 ((j : Nat) : Int)) rfl rfl ?_
          refine wpL_done (fun W11 hW11 => ?_)
          refine (show Code.wp _ _ _ _ _ from ?_)
          refine wp_region_L (W0 := w) [(g1, .cells (frcC false 0 0) 34 (0, 0))] (hW11) ?_
          refine Tw.lm (v := .int .i64 ((j : Nat) : Int)) rfl rfl ?_
          refine Tw.lp (v := .int .i64 (((j : Nat) : Int) - 1)) rfl rfl (run_bin rfl (vx := (.int .i64 ((j : Nat) : Int))) (vy := (.int .i64 ((1 : Nat) : Int))) (by kernel_rfl) (by kernel_rfl) fun w => bi_sub (z := (((j : Nat) : Int) - 1)) rfl (wi_i64 (by omega)) w) ?_
          refine Tw.lm (v := .int .i64 (((j : Nat) : Int) - 1)) rfl rfl ?_
          refine wpL_done (fun W12 hW12 => ?_)
          go_roundw
          case rel =>
            repeat apply Exists.intro
            exact ⟨⟨(((j : Nat) : Int) - 1), ((j : Nat) : Int), j, (by omega), (by omega), (FirstAt.hit hb3 h4), rfl, rfl, (hW12.sub (fun p hp => by first | exact hp | (simp only [List.mem_cons, List.mem_append, List.nil_append, List.not_mem_nil, or_assoc, or_false, false_or, List.cons_append, List.append_assoc] at hp ⊢ <;> grind)))⟩, rfl⟩
          case measure => (show (intOf (.int .i64 (((j : Nat) : Int) - 1)) + 1).toNat < (intOf (.int .i64 ((j : Nat) : Int)) + 1).toNat); simp only [intOf]; omega
      | true =>
        have h3 : z < 0 := of_decide_eq_true hd3
        clear hd3
        refine wp_cond_false rfl ?_
        refine wp_exit ?_
        refine (show Code.wp _ _ _ _ _ from ?_)
        refine wp_seq ?_
        refine wp_region_L (W0 := w) [(g1, .cells (frcC false 0 0) 34 (0, 0))] (hW8) ?_
        refine Tw.lm (v := strV [49]) rfl rfl ?_
        refine wpL_done (fun W13 hW13 => ?_)
        refine (show Code.wp _ _ _ _ _ from ?_)
        have hF0 : FirstAt u 0 aa := by rw [show (0 : Nat) = k from by omega]; exact hF
        refine wp_joins (fun az wz => ∃ (top bel : List UInt8), (top = (rCut l).1) ∧ (bel = rBelow l) ∧ JoinR (fun zq => List.toArray ((strV l) :: undef :: (.pointer (some ⟨g1, 0, none⟩)) :: (.int .i64 0) :: (strV top) :: (.int .i64 aa) :: (.int .i64 z) :: (strV bel) :: undef :: undef :: undef :: undef :: undef :: undef :: undef :: undef :: (strV l) :: (zx1 17) :: (zx1 18) :: (zx1 19) :: (zx1 20) :: (zx1 21) :: (zx1 22) :: (zx1 23) :: (zx1 24) :: (zx1 25) :: (zx1 26) :: (strV u) :: (.int .i64 ((u.length : Nat) : Int)) :: (.int .i64 (((u.length : Nat) : Int) - 1)) :: (.int .i64 z) :: (.bool false) :: zq 32 :: zq 33 :: zq 34 :: zq 35 :: zq 36 :: zq 37 :: zq 38 :: zq 39 :: zq 40 :: zq 41 :: zq 42 :: zq 43 :: zq 44 :: zq 45 :: zq 46 :: zq 47 :: undef :: undef :: undef :: undef :: undef :: undef :: undef :: undef :: undef :: undef :: undef :: undef :: undef :: undef :: undef :: undef :: undef :: undef :: undef :: undef :: undef :: undef :: undef :: undef :: undef :: undef :: undef :: undef :: undef :: undef :: undef :: undef :: undef :: undef :: undef :: undef :: undef :: undef :: undef :: undef :: undef :: undef :: undef :: undef :: undef :: undef :: undef :: undef :: undef :: undef :: undef :: undef :: [])) w [(g1, .cells (frcC false 0 0) 34 (0, 0))] az wz) 1 ?_ ?_
        · refine (show Code.wp _ _ _ _ _ from ?_)
          refine wp_seq ?_
          refine wp_region_L (W0 := w) [(g1, .cells (frcC false 0 0) 34 (0, 0))] (hW13) ?_
          refine Tw.lm (v := .int .i64 aa) rfl rfl ?_
          refine Tw.lp (v := .bool (!(decide (aa < 0)))) rfl rfl (run_bin rfl (vx := (.int .i64 aa)) (vy := (.int .i64 0)) (by kernel_rfl) (by kernel_rfl) fun w => bi_geq rfl w) ?_
          refine wpL_done (fun W14 hW14 => ?_)
          refine (show Code.wp _ _ _ _ _ from ?_)
          cases hd5 : (decide (aa < 0)) with
          | false =>
            have h5 : ¬ (aa < 0) := of_decide_eq_false hd5
            clear hd5
            obtain ⟨ai, rfl, lai, hFi⟩ := first_nat hF0 h5
            refine wp_cond_true rfl ?_
            refine wp_region_V (W0 := w) [(g1, .cells (frcC false 0 0) 34 (0, 0))] (by kernel_rfl) (hW14) ?_
            refine vm (i := 0) (v := strV u) rfl rfl rfl ?_
            refine vm (i := 1) (v := .int .i64 ((ai : Nat) : Int)) rfl rfl rfl ?_
            refine vp (i := 2) (v := strV (u.take ai)) rfl rfl rfl (run_slH (k2 := .i64) (l := u) (r := (u.take ai)) (j := ai) rfl Tryz.underlying9 (by kernel_rfl) (by kernel_rfl) (by first | omega | (simp; omega)) rfl) ?_
            refine vm (i := 3) (v := strV u) rfl rfl rfl ?_
            refine vm (i := 4) (v := .int .i64 ((ai : Nat) : Int)) rfl rfl rfl ?_
            refine vp (i := 5) (v := .int .i64 (((ai + 1) : Nat) : Int)) rfl rfl rfl (run_bin rfl (vx := (.int .i64 ((ai : Nat) : Int))) (vy := (.int .i64 ((1 : Nat) : Int))) (by kernel_rfl) (by kernel_rfl) fun w => bn_add (z := (ai + 1)) rfl (wr_i64 (by omega)) w) ?_
            refine vp (i := 6) (v := strV (u.drop (ai + 1))) rfl rfl rfl (run_slL (k1 := .i64) (l := u) (r := (u.drop (ai + 1))) (i := (ai + 1)) rfl Tryz.underlying9 (by kernel_rfl) (by kernel_rfl) (by first | omega | (simp; omega)) rfl) ?_
            refine vm (i := 7) (v := strV (u.take ai)) rfl rfl rfl ?_
            refine vm (i := 8) (v := strV (u.drop (ai + 1))) rfl rfl rfl ?_
            refine wpV_done (by kernel_rfl) (fun W15 hW15 => ?_) _
            exact ⟨(u.take ai), (u.drop (ai + 1)), (first_some hu hFi).1, (first_some hu hFi).2, join_mk (by kernel_rfl) (hW15.sub (fun p hp => by first | exact hp | (simp only [List.mem_cons, List.mem_append, List.nil_append, List.not_mem_nil, or_assoc, or_false, false_or, List.cons_append, List.append_assoc] at hp ⊢ <;> grind)))⟩
          | true =>
            have h5 : aa < 0 := of_decide_eq_true hd5
            clear hd5
            refine wp_cond_false rfl ?_
            refine wp_skip ?_
            exact ⟨u, [49], (first_none hu hF0 h5).1, (first_none hu hF0 h5).2, join_mk (by kernel_rfl) (hW14.sub (fun p hp => by first | exact hp | (simp only [List.mem_cons, List.mem_append, List.nil_append, List.not_mem_nil, or_assoc, or_false, false_or, List.cons_append, List.append_assoc] at hp ⊢ <;> grind)))⟩
        · rintro a2 W2j ⟨top, bel, htop, hbel, ⟨zx2, rfl⟩, hW2j⟩
          dsimp only [cutT]
          have hcl := cut_lens l
          rw [← htop, ← hbel] at hcl
          refine wp_seq ?_
          refine wp_region_L (W0 := w) [(g1, .cells (frcC false 0 0) 34 (0, 0))] (hW2j) ?_
          refine Tw.lm (v := strV top) rfl rfl ?_
          refine wpL_c (f := 74) (args := #[strV top]) (AnsNW w [(g1, .cells (frcC false 0 0) 34 (0, 0))] (numN top) (numC top)) rfl (by kernel_rfl) (fun _ => (by kernel_rfl)) (fun W hW => (rnumber_any top (by omega) W).mono fun e w2 h => AnsNF.g h hW) (fun _ => by simp only [List.setIfInBounds_toArray, List.set_cons_succ, List.set_cons_zero] <;> rfl) ?_
          rintro v4 _ ⟨q4, d4, T4, rfl, C4, H4, J4, rfl⟩
          obtain dj5_0 : Dk g1 T4 := by simpa only [dj_app_l, dj_app_r, dj_cons_l, dj_cons_r, dj_nil_l, dj_nil_r, dk_app, dk_cons, dk_nil, and_true, true_and, and_assoc] using (show Dj [(g1, .cells (frcC false 0 0) 34 (0, 0))] T4 from J4)
          refine Tw.lm (v := .tuple #[.slice q4 ((cd (numN top)).length) d4, .int .i64 (numC top)]) rfl rfl ?_
          refine Tw.lm (v := .slice q4 ((cd (numN top)).length) d4) rfl rfl ?_
          refine Tw.lm (v := .int .i64 (numC top)) rfl rfl ?_
          refine Tw.lm (v := .slice q4 ((cd (numN top)).length) d4) rfl rfl ?_
          refine Tw.lm (v := .int .i64 (numC top)) rfl rfl ?_
          refine wpL_done (fun W16 hW16 => ?_)
          refine (show Code.wp _ _ _ _ _ from ?_)
          refine wp_seq ?_
          refine wp_region_L (W0 := w) ((g1, .cells (frcC false 0 0) 34 (0, 0)) :: T4) (hW16) ?_
          refine Tw.lm (v := strV bel) rfl rfl ?_
          refine wpL_c (f := 74) (args := #[strV bel]) (AnsNW w ((g1, .cells (frcC false 0 0) 34 (0, 0)) :: T4) (numN bel) (numC bel)) rfl (by kernel_rfl) (fun _ => (by kernel_rfl)) (fun W hW => (rnumber_any bel (by omega) W).mono fun e w2 h => AnsNF.g h hW) (fun _ => by simp only [List.setIfInBounds_toArray, List.set_cons_succ, List.set_cons_zero] <;> rfl) ?_
          rintro v6 _ ⟨q6, d6, T6, rfl, C6, H6, J6, rfl⟩
          obtain ⟨dj7_0, dj7_1⟩ : Dk g1 T6 ∧ Dj T4 T6 := by simpa only [dj_app_l, dj_app_r, dj_cons_l, dj_cons_r, dj_nil_l, dj_nil_r, dk_app, dk_cons, dk_nil, and_true, true_and, and_assoc] using (show Dj ((g1, .cells (frcC false 0 0) 34 (0, 0)) :: T4) T6 from J6)
          refine Tw.lm (v := .tuple #[.slice q6 ((cd (numN bel)).length) d6, .int .i64 (numC bel)]) rfl rfl ?_
          refine Tw.lm (v := .slice q6 ((cd (numN bel)).length) d6) rfl rfl ?_
          refine Tw.lm (v := .int .i64 (numC bel)) rfl rfl ?_
          refine Tw.lm (v := .slice q6 ((cd (numN bel)).length) d6) rfl rfl ?_
          refine Tw.lm (v := .int .i64 (numC bel)) rfl rfl ?_
          refine wpL_done (fun W17 hW17 => ?_)
          refine (show Code.wp _ _ _ _ _ from ?_)
          refine wp_seq ?_
          refine wp_seq ?_
          refine wp_region_L (W0 := w) ((g1, .cells (frcC false 0 0) 34 (0, 0)) :: (T4 ++ T6)) (hW17) ?_
          refine Tw.lm (v := .int .i64 (numC top)) rfl rfl ?_
          refine Tw.lp (v := .bool (decide ((numC top) = 1))) rfl rfl (run_bin rfl (vx := (.int .i64 (numC top))) (vy := (.int .i64 1)) (by kernel_rfl) (by kernel_rfl) fun w => bi_eql rfl w) ?_
          refine Tw.lm (v := .bool (decide ((numC top) = 1))) rfl rfl ?_
          cases hd6 : (decide ((numC top) = 1)) with
          | false =>
            have h6 : ¬ ((numC top) = 1) := of_decide_eq_false hd6
            clear hd6
            refine Tw.lm (v := .int .i64 (numC bel)) rfl rfl ?_
            refine Tw.lp (v := .bool (decide ((numC bel) = 1))) rfl rfl (run_bin rfl (vx := (.int .i64 (numC bel))) (vy := (.int .i64 1)) (by kernel_rfl) (by kernel_rfl) fun w => bi_eql rfl w) ?_
            refine Tw.lm (v := .bool (decide ((numC bel) = 1))) rfl rfl ?_
            refine Tw.lm (v := .bool (decide ((numC bel) = 1))) rfl rfl ?_
            cases hd7 : (decide ((numC bel) = 1)) with
            | false =>
              have h7 : ¬ ((numC bel) = 1) := of_decide_eq_false hd7
              clear hd7
              refine Tw.lm (v := .int .i64 (numC bel)) rfl rfl ?_
              refine Tw.lp (v := .bool (decide ((numC bel) = 0))) rfl rfl (run_bin rfl (vx := (.int .i64 (numC bel))) (vy := (.int .i64 0)) (by kernel_rfl) (by kernel_rfl) fun w => bi_eql rfl w) ?_
              refine Tw.lm (v := .bool (decide ((numC bel) = 0))) rfl rfl ?_
              cases hd8 : (decide ((numC bel) = 0)) with
              | false =>
                have h8 : ¬ ((numC bel) = 0) := of_decide_eq_false hd8
                clear hd8
                refine Tw.ln rfl ?_
                refine Tw.ln rfl ?_
                refine Tw.ln rfl ?_
                refine Tw.lm (v := .bool false) rfl rfl ?_
                refine Tw.lm (v := .bool false) rfl rfl ?_
                refine wpL_done (fun W18 hW18 => ?_)
                refine (show Code.wp _ _ _ _ _ from ?_)
                refine wp_cond_false rfl ?_
                refine wp_skip ?_
                refine (show Code.wp _ _ _ _ _ from ?_)
                refine wp_seq ?_
                refine wp_seq ?_
                refine wp_region_L (W0 := w) ((g1, .cells (frcC false 0 0) 34 (0, 0)) :: (T4 ++ T6)) (hW18) ?_
                refine Tw.lm (v := .int .i64 (numC top)) rfl rfl ?_
                refine Tw.lp (v := .bool (decide ((numC top) = 2))) rfl rfl (run_bin rfl (vx := (.int .i64 (numC top))) (vy := (.int .i64 2)) (by kernel_rfl) (by kernel_rfl) fun w => bi_eql rfl w) ?_
                refine Tw.lm (v := .bool (decide ((numC top) = 2))) rfl rfl ?_
                cases hd9 : (decide ((numC top) = 2)) with
                | false =>
                  have h9 : ¬ ((numC top) = 2) := of_decide_eq_false hd9
                  clear hd9
                  refine Tw.lm (v := .int .i64 (numC bel)) rfl rfl ?_
                  refine Tw.lp (v := .bool (decide ((numC bel) = 2))) rfl rfl (run_bin rfl (vx := (.int .i64 (numC bel))) (vy := (.int .i64 2)) (by kernel_rfl) (by kernel_rfl) fun w => bi_eql rfl w) ?_
                  refine Tw.lm (v := .bool (decide ((numC bel) = 2))) rfl rfl ?_
                  refine wpL_done (fun W19 hW19 => ?_)
                  refine (show Code.wp _ _ _ _ _ from ?_)
                  cases hd10 : (decide ((numC bel) = 2)) with
                  | false =>
                    have h10 : ¬ ((numC bel) = 2) := of_decide_eq_false hd10
                    clear hd10
                    exact absurd (numC_three bel) (by omega)
                  | true =>
                    have h10 : (numC bel) = 2 := of_decide_eq_true hd10
                    clear hd10
                    refine wp_cond_true rfl ?_
                    refine wp_seq ?_
                    refine wp_region_L (W0 := w) ((g1, .cells (frcC false 0 0) 34 (0, 0)) :: (T4 ++ T6)) (hW19) ?_
                    refine Tw.lm (v := .agg (frcC false 0 0)) rfl rfl ?_
                    refine wpL_s ((g1, .cells (frcC false 0 0) 34 (0, 0)) :: (T4 ++ T6)) rfl rfl (st_all (by simp only [frcC_size]) (by exact frc_onec) rfl (by kernel_rfl) (by kernel_rfl) (.head _) Bg1 (by simp only [frcC_size]; kernel_rfl) (List.forall_mem_cons.2 ⟨.inl rfl, (fun p hp => .inr ⟨(.tail _ hp), ((show Dk g1 (T4 ++ T6) from (by (try simp only [dj_app_l, dj_app_r, dj_cons_l, dj_cons_r, dj_nil_l, dj_nil_r, dk_app, dk_cons, dk_nil, and_true, true_and, and_assoc]); repeat' (first | trivial | assumption | exact Dj.symm (by assumption) | exact Ne.symm (by assumption) | apply And.intro))) _ hp)⟩)⟩)) ?_
                    refine Tw.lm (v := .int .i64 3) rfl rfl ?_
                    refine wpL_done (fun W20 hW20 => ?_)
                    refine (show Code.wp _ _ _ _ _ from ?_)
                    refine wp_ret ?_
                    try simp only [inBlock_ret, then_ret]
                    refine bodyPost_ret (v := .tuple #[.agg (frcC false 0 0), .int .i64 3]) ?_ rfl ?_
                    · exact (res_cell_tmp (p := 2) (q := 3) rfl rfl (hW20.2 _ (.head _)) Tryz.underlying34 rfl (by simp only [frcC_size]; kernel_rfl))
                    · exact ⟨(ret_v (by rw [hV]; subst htop hbel; exact read3 h6 h7 (.inl h8) (.inr h10))), hW20.1⟩
                | true =>
                  have h9 : (numC top) = 2 := of_decide_eq_true hd9
                  clear hd9
                  refine Tw.ln rfl ?_
                  refine Tw.ln rfl ?_
                  refine Tw.lm (v := .bool true) rfl rfl ?_
                  refine wpL_done (fun W21 hW21 => ?_)
                  refine (show Code.wp _ _ _ _ _ from ?_)
                  refine wp_cond_true rfl ?_
                  refine wp_seq ?_
                  refine wp_region_L (W0 := w) ((g1, .cells (frcC false 0 0) 34 (0, 0)) :: (T4 ++ T6)) (hW21) ?_
                  refine Tw.lm (v := .agg (frcC false 0 0)) rfl rfl ?_
                  refine wpL_s ((g1, .cells (frcC false 0 0) 34 (0, 0)) :: (T4 ++ T6)) rfl rfl (st_all (by simp only [frcC_size]) (by exact frc_onec) rfl (by kernel_rfl) (by kernel_rfl) (.head _) Bg1 (by simp only [frcC_size]; kernel_rfl) (List.forall_mem_cons.2 ⟨.inl rfl, (fun p hp => .inr ⟨(.tail _ hp), ((show Dk g1 (T4 ++ T6) from (by (try simp only [dj_app_l, dj_app_r, dj_cons_l, dj_cons_r, dj_nil_l, dj_nil_r, dk_app, dk_cons, dk_nil, and_true, true_and, and_assoc]); repeat' (first | trivial | assumption | exact Dj.symm (by assumption) | exact Ne.symm (by assumption) | apply And.intro))) _ hp)⟩)⟩)) ?_
                  refine Tw.lm (v := .int .i64 3) rfl rfl ?_
                  refine wpL_done (fun W22 hW22 => ?_)
                  refine (show Code.wp _ _ _ _ _ from ?_)
                  refine wp_ret ?_
                  try simp only [inBlock_ret, then_ret]
                  refine bodyPost_ret (v := .tuple #[.agg (frcC false 0 0), .int .i64 3]) ?_ rfl ?_
                  · exact (res_cell_tmp (p := 2) (q := 3) rfl rfl (hW22.2 _ (.head _)) Tryz.underlying34 rfl (by simp only [frcC_size]; kernel_rfl))
                  · exact ⟨(ret_v (by rw [hV]; subst htop hbel; exact read3 h6 h7 (.inl h8) (.inl h9))), hW22.1⟩
              | true =>
                have h8 : (numC bel) = 0 := of_decide_eq_true hd8
                clear hd8
                refine Tw.lm (v := .slice q6 ((cd (numN bel)).length) d6) rfl rfl ?_
                refine Tw.lp (v := .int .i64 ((((cd (numN bel)).length) : Nat) : Int)) rfl rfl (run_lenL (p := q6) (cap := d6) (n := ((cd (numN bel)).length)) rfl Tryz.underlying32 (by kernel_rfl)) ?_
                refine Tw.lp (v := .bool (decide (((cd (numN bel)).length) = 0))) rfl rfl (run_bin rfl (vx := (.int .i64 ((((cd (numN bel)).length) : Nat) : Int))) (vy := (.int .i64 ((0 : Nat) : Int))) (by kernel_rfl) (by kernel_rfl) fun w => bn_eql rfl w) ?_
                refine Tw.lm (v := .bool (decide (((cd (numN bel)).length) = 0))) rfl rfl ?_
                refine Tw.lm (v := .bool (decide (((cd (numN bel)).length) = 0))) rfl rfl ?_
                refine wpL_done (fun W23 hW23 => ?_)
                refine (show Code.wp _ _ _ _ _ from ?_)
                cases hd11 : (decide (((cd (numN bel)).length) = 0)) with
                | false =>
                  have h11 : ¬ (((cd (numN bel)).length) = 0) := of_decide_eq_false hd11
                  clear hd11
                  refine wp_cond_false rfl ?_
                  refine wp_skip ?_
                  refine (show Code.wp _ _ _ _ _ from ?_)
                  refine wp_seq ?_
                  refine wp_seq ?_
                  refine wp_region_L (W0 := w) ((g1, .cells (frcC false 0 0) 34 (0, 0)) :: (T4 ++ T6)) (hW23) ?_
                  refine Tw.lm (v := .int .i64 (numC top)) rfl rfl ?_
                  refine Tw.lp (v := .bool (decide ((numC top) = 2))) rfl rfl (run_bin rfl (vx := (.int .i64 (numC top))) (vy := (.int .i64 2)) (by kernel_rfl) (by kernel_rfl) fun w => bi_eql rfl w) ?_
                  refine Tw.lm (v := .bool (decide ((numC top) = 2))) rfl rfl ?_
                  cases hd12 : (decide ((numC top) = 2)) with
                  | false =>
                    have h12 : ¬ ((numC top) = 2) := of_decide_eq_false hd12
                    clear hd12
                    refine Tw.lm (v := .int .i64 (numC bel)) rfl rfl ?_
                    refine Tw.lp (v := .bool false) rfl rfl (run_bin rfl (vx := (.int .i64 (numC bel))) (vy := (.int .i64 2)) (by kernel_rfl) (by kernel_rfl) fun w => bi_eql (decide_eq_false (by omega)) w) ?_
                    refine Tw.lm (v := .bool false) rfl rfl ?_
                    refine wpL_done (fun W24 hW24 => ?_)
                    refine (show Code.wp _ _ _ _ _ from ?_)
                    refine wp_cond_false rfl ?_
                    refine wp_skip ?_
                    refine (show Code.wp _ _ _ _ _ from ?_)
                    refine wp_seq ?_
                    have hx0 : numC top = 0 := by rcases numC_three top with h | h | h <;> omega
                    have hM : 0 < numN bel := Nat.pos_of_ne_zero (fun h => h11 (cd_len0.2 h))
                    have l0 : 0 < l.length := by
                      have hd := (numC_0 hx0).1
                      rcases Nat.eq_zero_or_pos top.length with h | h
                      · rw [List.eq_nil_of_length_eq_zero h, dig_empty] at hd; cases hd
                      · omega
                    refine wp_region_L (W0 := w) ((g1, .cells (frcC false 0 0) 34 (0, 0)) :: (T4 ++ T6)) (hW24) ?_
                    refine Tw.lm (v := strV l) rfl rfl ?_
                    obtain ⟨b8, hb8⟩ : ∃ b, (l : List UInt8)[0]? = some b := ⟨_, List.getElem?_eq_getElem (by omega)⟩
                    have lb8 := b8.toNat_lt
                    refine Tw.lp (v := .int .u8 ((b8.toNat : Nat) : Int)) rfl rfl (run_idxS (j := .i64) (l := l) (k := 0) (b := b8) rfl Tryz.underlying9 (by kernel_rfl) (by kernel_rfl) hb8) ?_
                    refine Tw.lp (v := .bool (decide (b8.toNat = 45))) rfl rfl (run_bin rfl (vx := (.int .u8 ((b8.toNat : Nat) : Int))) (vy := (.int .u8 ((45 : Nat) : Int))) (by kernel_rfl) (by kernel_rfl) fun w => bn_eql rfl w) ?_
                    refine Tw.lm (v := .slice q4 ((cd (numN top)).length) d4) rfl rfl ?_
                    refine Tw.lm (v := .slice q6 ((cd (numN bel)).length) d6) rfl rfl ?_
                    have hX : ((numN top) / Nat.gcd (numN top) (numN bel)) < R 8 := Nat.lt_of_le_of_lt (Nat.div_le_self _ _) (numN_lt _)
                    have hY : ((numN bel) / Nat.gcd (numN top) (numN bel)) < R 8 := Nat.lt_of_le_of_lt (Nat.div_le_self _ _) (numN_lt _)
                    have lN := cd_16 (numN_lt top)
                    have lM := cd_16 (numN_lt bel)
                    refine Tw.lv (v := .tuple #[.agg (frcC ((decide (b8.toNat = 45)) && decide (((numN top) / Nat.gcd (numN top) (numN bel)) ≠ 0)) ((numN top) / Nat.gcd (numN top) (numN bel)) ((numN bel) / Nat.gcd (numN top) (numN bel))), .int .i64 0]) rfl rfl (yb_call (f := 45) (args := #[.bool (decide (b8.toNat = 45)), .slice q4 ((cd (numN top)).length) d4, .slice q6 ((cd (numN bel)).length) d6]) (fun _ => by kernel_rfl) fun W hW => packV_yes (neg := (decide (b8.toNat = 45))) hX hY ▸ make0_any (decide (b8.toNat = 45)) (numN top) (numN bel) q4 q6 d4 d6 hM (by omega) (by omega) C4 C6 W ((H4.mono (fun q hq => by first | exact hq | (simp only [List.mem_cons, List.mem_append, List.nil_append, List.not_mem_nil, or_assoc, or_false, false_or] at hq ⊢ <;> grind))) W hW) ((H6.mono (fun q hq => by first | exact hq | (simp only [List.mem_cons, List.mem_append, List.nil_append, List.not_mem_nil, or_assoc, or_false, false_or] at hq ⊢ <;> grind))) W hW)) ?_
                    refine Tw.lm (v := .tuple #[.agg (frcC ((decide (b8.toNat = 45)) && decide (((numN top) / Nat.gcd (numN top) (numN bel)) ≠ 0)) ((numN top) / Nat.gcd (numN top) (numN bel)) ((numN bel) / Nat.gcd (numN top) (numN bel))), .int .i64 0]) rfl rfl ?_
                    refine Tw.lm (v := .agg (frcC ((decide (b8.toNat = 45)) && decide (((numN top) / Nat.gcd (numN top) (numN bel)) ≠ 0)) ((numN top) / Nat.gcd (numN top) (numN bel)) ((numN bel) / Nat.gcd (numN top) (numN bel)))) rfl rfl ?_
                    refine Tw.lm (v := .int .i64 0) rfl rfl ?_
                    refine wpL_new (fun g => .pointer (some ⟨g, 0, none⟩)) (obi := .cells (frcC false 0 0) 34 (0, 0)) rfl rfl (fun _ => by kernel_rfl) (fun _ => by simp only [List.setIfInBounds_toArray, List.set_cons_succ, List.set_cons_zero] <;> rfl) fun g9 Bg9 Fg9 => ?_
                    obtain ⟨dj10_0, dj10_1, dj10_2⟩ : g1 ≠ g9 ∧ Dk g9 T4 ∧ Dk g9 T6 := by simpa only [dj_app_l, dj_app_r, dj_cons_l, dj_cons_r, dj_nil_l, dj_nil_r, dk_app, dk_cons, dk_nil, and_true, true_and, and_assoc] using (show Dk g9 ((g1, .cells (frcC false 0 0) 34 (0, 0)) :: (T4 ++ T6)) from Fg9)
                    refine wpL_s ((g9, .cells (frcC ((decide (b8.toNat = 45)) && decide (((numN top) / Nat.gcd (numN top) (numN bel)) ≠ 0)) ((numN top) / Nat.gcd (numN top) (numN bel)) ((numN bel) / Nat.gcd (numN top) (numN bel))) 34 (0, 0)) :: (g1, .cells (frcC false 0 0) 34 (0, 0)) :: (T4 ++ T6)) rfl rfl (st_all (by simp only [frcC_size]) (by exact frc_onec) rfl (by kernel_rfl) (by kernel_rfl) (.head _) Bg9 (by simp only [frcC_size]; kernel_rfl) (List.forall_mem_cons.2 ⟨.inl rfl, (List.forall_mem_cons.2 ⟨.inr ⟨(.tail _ (.head _)), (by first | assumption | exact Ne.symm (by assumption))⟩, (fun p hp => .inr ⟨(.tail _ (.tail _ hp)), ((show Dk g9 (T4 ++ T6) from (by (try simp only [dj_app_l, dj_app_r, dj_cons_l, dj_cons_r, dj_nil_l, dj_nil_r, dk_app, dk_cons, dk_nil, and_true, true_and, and_assoc]); repeat' (first | trivial | assumption | exact Dj.symm (by assumption) | exact Ne.symm (by assumption) | apply And.intro))) _ hp)⟩)⟩)⟩)) ?_
                    refine Tw.lm (v := .int .i64 0) rfl rfl ?_
                    refine wpL_done (fun W25 hW25 => ?_)
                    refine (show Code.wp _ _ _ _ _ from ?_)
                    refine wp_seq ?_
                    refine wp_seq ?_
                    refine wp_region_L (W0 := w) ((g9, .cells (frcC ((decide (b8.toNat = 45)) && decide (((numN top) / Nat.gcd (numN top) (numN bel)) ≠ 0)) ((numN top) / Nat.gcd (numN top) (numN bel)) ((numN bel) / Nat.gcd (numN top) (numN bel))) 34 (0, 0)) :: (g1, .cells (frcC false 0 0) 34 (0, 0)) :: (T4 ++ T6)) (hW25) ?_
                    refine Tw.lv (v := .agg (frcC ((decide (b8.toNat = 45)) && decide (((numN top) / Nat.gcd (numN top) (numN bel)) ≠ 0)) ((numN top) / Nat.gcd (numN top) (numN bel)) ((numN bel) / Nat.gcd (numN top) (numN bel)))) rfl rfl (yb_all rfl (by kernel_rfl) (.head _) Tryz.underlying34 rfl (by simp only [frcC_size]; kernel_rfl)) ?_
                    have hR : rightB ((decide (b8.toNat = 45)) && decide (((numN top) / Nat.gcd (numN top) (numN bel)) ≠ 0)) ((numN top) / Nat.gcd (numN top) (numN bel)) ((numN bel) / Nat.gcd (numN top) (numN bel)) = true := red_right hM
                    refine Tw.lv (v := .tuple #[strV (textL ((decide (b8.toNat = 45)) && decide (((numN top) / Nat.gcd (numN top) (numN bel)) ≠ 0)) ((numN top) / Nat.gcd (numN top) (numN bel)) ((numN bel) / Nat.gcd (numN top) (numN bel))), .int .i64 0]) rfl rfl (yb_call (f := 31) (args := #[.agg (frcC ((decide (b8.toNat = 45)) && decide (((numN top) / Nat.gcd (numN top) (numN bel)) ≠ 0)) ((numN top) / Nat.gcd (numN top) (numN bel)) ((numN bel) / Nat.gcd (numN top) (numN bel)))]) (fun _ => by kernel_rfl) fun W hW => (by have h := RText_any ((decide (b8.toNat = 45)) && decide (((numN top) / Nat.gcd (numN top) (numN bel)) ≠ 0)) ((numN top) / Nat.gcd (numN top) (numN bel)) ((numN bel) / Nat.gcd (numN top) (numN bel)) hX hY W; rw [if_pos hR] at h; exact h)) ?_
                    refine Tw.lm (v := .tuple #[strV (textL ((decide (b8.toNat = 45)) && decide (((numN top) / Nat.gcd (numN top) (numN bel)) ≠ 0)) ((numN top) / Nat.gcd (numN top) (numN bel)) ((numN bel) / Nat.gcd (numN top) (numN bel))), .int .i64 0]) rfl rfl ?_
                    refine Tw.lm (v := strV (textL ((decide (b8.toNat = 45)) && decide (((numN top) / Nat.gcd (numN top) (numN bel)) ≠ 0)) ((numN top) / Nat.gcd (numN top) (numN bel)) ((numN bel) / Nat.gcd (numN top) (numN bel)))) rfl rfl ?_
                    refine Tw.lm (v := .int .i64 0) rfl rfl ?_
                    refine Tw.lm (v := strV (textL ((decide (b8.toNat = 45)) && decide (((numN top) / Nat.gcd (numN top) (numN bel)) ≠ 0)) ((numN top) / Nat.gcd (numN top) (numN bel)) ((numN bel) / Nat.gcd (numN top) (numN bel)))) rfl rfl ?_
                    refine Tw.lm (v := .int .i64 0) rfl rfl ?_
                    refine wpL_done (fun W26 hW26 => ?_)
                    refine (show Code.wp _ _ _ _ _ from ?_)
                    refine wp_seq ?_
                    refine wp_region_L (W0 := w) ((g9, .cells (frcC ((decide (b8.toNat = 45)) && decide (((numN top) / Nat.gcd (numN top) (numN bel)) ≠ 0)) ((numN top) / Nat.gcd (numN top) (numN bel)) ((numN bel) / Nat.gcd (numN top) (numN bel))) 34 (0, 0)) :: (g1, .cells (frcC false 0 0) 34 (0, 0)) :: (T4 ++ T6)) (hW26) ?_
                    refine Tw.lm (v := strV (textL ((decide (b8.toNat = 45)) && decide (((numN top) / Nat.gcd (numN top) (numN bel)) ≠ 0)) ((numN top) / Nat.gcd (numN top) (numN bel)) ((numN bel) / Nat.gcd (numN top) (numN bel)))) rfl rfl ?_
                    refine Tw.lm (v := strV l) rfl rfl ?_
                    refine Tw.lp (v := .bool (!(decide ((textL ((decide (b8.toNat = 45)) && decide (((numN top) / Nat.gcd (numN top) (numN bel)) ≠ 0)) ((numN top) / Nat.gcd (numN top) (numN bel)) ((numN bel) / Nat.gcd (numN top) (numN bel))) = l)))) rfl rfl (run_bin rfl (vx := strV (textL ((decide (b8.toNat = 45)) && decide (((numN top) / Nat.gcd (numN top) (numN bel)) ≠ 0)) ((numN top) / Nat.gcd (numN top) (numN bel)) ((numN bel) / Nat.gcd (numN top) (numN bel)))) (vy := strV l) (by kernel_rfl) (by kernel_rfl) fun w => bs_neq rfl w) ?_
                    refine wpL_done (fun W27 hW27 => ?_)
                    refine (show Code.wp _ _ _ _ _ from ?_)
                    cases hd13 : (decide ((textL ((decide (b8.toNat = 45)) && decide (((numN top) / Nat.gcd (numN top) (numN bel)) ≠ 0)) ((numN top) / Nat.gcd (numN top) (numN bel)) ((numN bel) / Nat.gcd (numN top) (numN bel))) = l)) with
                    | false =>
                      have h13 : ¬ ((textL ((decide (b8.toNat = 45)) && decide (((numN top) / Nat.gcd (numN top) (numN bel)) ≠ 0)) ((numN top) / Nat.gcd (numN top) (numN bel)) ((numN bel) / Nat.gcd (numN top) (numN bel))) = l) := of_decide_eq_false hd13
                      clear hd13
                      refine wp_cond_true rfl ?_
                      refine wp_seq ?_
                      refine wp_region_L (W0 := w) ((g9, .cells (frcC ((decide (b8.toNat = 45)) && decide (((numN top) / Nat.gcd (numN top) (numN bel)) ≠ 0)) ((numN top) / Nat.gcd (numN top) (numN bel)) ((numN bel) / Nat.gcd (numN top) (numN bel))) 34 (0, 0)) :: (g1, .cells (frcC false 0 0) 34 (0, 0)) :: (T4 ++ T6)) (hW27) ?_
                      refine Tw.lm (v := .agg (frcC false 0 0)) rfl rfl ?_
                      refine wpL_s ((g9, .cells (frcC ((decide (b8.toNat = 45)) && decide (((numN top) / Nat.gcd (numN top) (numN bel)) ≠ 0)) ((numN top) / Nat.gcd (numN top) (numN bel)) ((numN bel) / Nat.gcd (numN top) (numN bel))) 34 (0, 0)) :: (g1, .cells (frcC false 0 0) 34 (0, 0)) :: (T4 ++ T6)) rfl rfl (st_all (by simp only [frcC_size]) (by exact frc_onec) rfl (by kernel_rfl) (by kernel_rfl) (.tail _ (.head _)) Bg1 (by simp only [frcC_size]; kernel_rfl) (List.forall_mem_cons.2 ⟨.inr ⟨(.head _), (by first | assumption | exact Ne.symm (by assumption))⟩, (List.forall_mem_cons.2 ⟨.inl rfl, (fun p hp => .inr ⟨(.tail _ (.tail _ hp)), ((show Dk g1 (T4 ++ T6) from (by (try simp only [dj_app_l, dj_app_r, dj_cons_l, dj_cons_r, dj_nil_l, dj_nil_r, dk_app, dk_cons, dk_nil, and_true, true_and, and_assoc]); repeat' (first | trivial | assumption | exact Dj.symm (by assumption) | exact Ne.symm (by assumption) | apply And.intro))) _ hp)⟩)⟩)⟩)) ?_
                      refine Tw.lm (v := .int .i64 11) rfl rfl ?_
                      refine wpL_done (fun W28 hW28 => ?_)
                      refine (show Code.wp _ _ _ _ _ from ?_)
                      refine wp_ret ?_
                      try simp only [inBlock_ret, then_ret]
                      refine bodyPost_ret (v := .tuple #[.agg (frcC false 0 0), .int .i64 11]) ?_ rfl ?_
                      · exact (res_cell_tmp (p := 2) (q := 3) rfl rfl (hW28.2 _ (.tail _ (.head _))) Tryz.underlying34 rfl (by simp only [frcC_size]; kernel_rfl))
                      · exact ⟨(ret_v (by rw [hV]; subst htop hbel; rw [read_end (neg := decide (b8.toNat = 45)) hx0 h8 h11 (neg_of hb8), if_neg h13])), hW28.1⟩
                    | true =>
                      have h13 : (textL ((decide (b8.toNat = 45)) && decide (((numN top) / Nat.gcd (numN top) (numN bel)) ≠ 0)) ((numN top) / Nat.gcd (numN top) (numN bel)) ((numN bel) / Nat.gcd (numN top) (numN bel))) = l := of_decide_eq_true hd13
                      clear hd13
                      refine wp_cond_false rfl ?_
                      refine wp_skip ?_
                      refine (show Code.wp _ _ _ _ _ from ?_)
                      refine wp_seq ?_
                      refine wp_region_L (W0 := w) ((g9, .cells (frcC ((decide (b8.toNat = 45)) && decide (((numN top) / Nat.gcd (numN top) (numN bel)) ≠ 0)) ((numN top) / Nat.gcd (numN top) (numN bel)) ((numN bel) / Nat.gcd (numN top) (numN bel))) 34 (0, 0)) :: (g1, .cells (frcC false 0 0) 34 (0, 0)) :: (T4 ++ T6)) (hW27) ?_
                      refine Tw.lv (v := .agg (frcC ((decide (b8.toNat = 45)) && decide (((numN top) / Nat.gcd (numN top) (numN bel)) ≠ 0)) ((numN top) / Nat.gcd (numN top) (numN bel)) ((numN bel) / Nat.gcd (numN top) (numN bel)))) rfl rfl (yb_all rfl (by kernel_rfl) (.head _) Tryz.underlying34 rfl (by simp only [frcC_size]; kernel_rfl)) ?_
                      refine wpL_s ((g9, .cells (frcC ((decide (b8.toNat = 45)) && decide (((numN top) / Nat.gcd (numN top) (numN bel)) ≠ 0)) ((numN top) / Nat.gcd (numN top) (numN bel)) ((numN bel) / Nat.gcd (numN top) (numN bel))) 34 (0, 0)) :: (g1, .cells (frcC ((decide (b8.toNat = 45)) && decide (((numN top) / Nat.gcd (numN top) (numN bel)) ≠ 0)) ((numN top) / Nat.gcd (numN top) (numN bel)) ((numN bel) / Nat.gcd (numN top) (numN bel))) 34 (0, 0)) :: (T4 ++ T6)) rfl rfl (st_all (by simp only [frcC_size]) (by exact frc_onec) rfl (by kernel_rfl) (by kernel_rfl) (.tail _ (.head _)) Bg1 (by simp only [frcC_size]; kernel_rfl) (List.forall_mem_cons.2 ⟨.inr ⟨(.head _), (by first | assumption | exact Ne.symm (by assumption))⟩, (List.forall_mem_cons.2 ⟨.inl rfl, (fun p hp => .inr ⟨(.tail _ (.tail _ hp)), ((show Dk g1 (T4 ++ T6) from (by (try simp only [dj_app_l, dj_app_r, dj_cons_l, dj_cons_r, dj_nil_l, dj_nil_r, dk_app, dk_cons, dk_nil, and_true, true_and, and_assoc]); repeat' (first | trivial | assumption | exact Dj.symm (by assumption) | exact Ne.symm (by assumption) | apply And.intro))) _ hp)⟩)⟩)⟩)) ?_
                      refine Tw.lm (v := .int .i64 0) rfl rfl ?_
                      refine wpL_done (fun W29 hW29 => ?_)
                      refine (show Code.wp _ _ _ _ _ from ?_)
                      refine wp_ret ?_
                      try simp only [inBlock_ret, then_ret]
                      refine bodyPost_ret (v := .tuple #[.agg (frcC ((decide (b8.toNat = 45)) && decide (((numN top) / Nat.gcd (numN top) (numN bel)) ≠ 0)) ((numN top) / Nat.gcd (numN top) (numN bel)) ((numN bel) / Nat.gcd (numN top) (numN bel))), .int .i64 0]) ?_ rfl ?_
                      · exact (res_cell_tmp (p := 2) (q := 3) rfl rfl (hW29.2 _ (.tail _ (.head _))) Tryz.underlying34 rfl (by simp only [frcC_size]; kernel_rfl))
                      · exact ⟨(ret_v (by rw [hV]; subst htop hbel; rw [read_end (neg := decide (b8.toNat = 45)) hx0 h8 h11 (neg_of hb8), if_pos h13])), hW29.1⟩
                  | true =>
                    have h12 : (numC top) = 2 := of_decide_eq_true hd12
                    clear hd12
                    refine Tw.ln rfl ?_
                    refine Tw.ln rfl ?_
                    refine Tw.lm (v := .bool true) rfl rfl ?_
                    refine wpL_done (fun W30 hW30 => ?_)
                    refine (show Code.wp _ _ _ _ _ from ?_)
                    refine wp_cond_true rfl ?_
                    refine wp_seq ?_
                    refine wp_region_L (W0 := w) ((g1, .cells (frcC false 0 0) 34 (0, 0)) :: (T4 ++ T6)) (hW30) ?_
                    refine Tw.lm (v := .agg (frcC false 0 0)) rfl rfl ?_
                    refine wpL_s ((g1, .cells (frcC false 0 0) 34 (0, 0)) :: (T4 ++ T6)) rfl rfl (st_all (by simp only [frcC_size]) (by exact frc_onec) rfl (by kernel_rfl) (by kernel_rfl) (.head _) Bg1 (by simp only [frcC_size]; kernel_rfl) (List.forall_mem_cons.2 ⟨.inl rfl, (fun p hp => .inr ⟨(.tail _ hp), ((show Dk g1 (T4 ++ T6) from (by (try simp only [dj_app_l, dj_app_r, dj_cons_l, dj_cons_r, dj_nil_l, dj_nil_r, dk_app, dk_cons, dk_nil, and_true, true_and, and_assoc]); repeat' (first | trivial | assumption | exact Dj.symm (by assumption) | exact Ne.symm (by assumption) | apply And.intro))) _ hp)⟩)⟩)) ?_
                    refine Tw.lm (v := .int .i64 3) rfl rfl ?_
                    refine wpL_done (fun W31 hW31 => ?_)
                    refine (show Code.wp _ _ _ _ _ from ?_)
                    refine wp_ret ?_
                    try simp only [inBlock_ret, then_ret]
                    refine bodyPost_ret (v := .tuple #[.agg (frcC false 0 0), .int .i64 3]) ?_ rfl ?_
                    · exact (res_cell_tmp (p := 2) (q := 3) rfl rfl (hW31.2 _ (.head _)) Tryz.underlying34 rfl (by simp only [frcC_size]; kernel_rfl))
                    · exact ⟨(ret_v (by rw [hV]; subst htop hbel; exact read3 h6 h7 (.inr h11) (.inl h12))), hW31.1⟩
                | true =>
                  have h11 : ((cd (numN bel)).length) = 0 := of_decide_eq_true hd11
                  clear hd11
                  refine wp_cond_true rfl ?_
                  refine wp_seq ?_
                  refine wp_region_L (W0 := w) ((g1, .cells (frcC false 0 0) 34 (0, 0)) :: (T4 ++ T6)) (hW23) ?_
                  refine Tw.lm (v := .agg (frcC false 0 0)) rfl rfl ?_
                  refine wpL_s ((g1, .cells (frcC false 0 0) 34 (0, 0)) :: (T4 ++ T6)) rfl rfl (st_all (by simp only [frcC_size]) (by exact frc_onec) rfl (by kernel_rfl) (by kernel_rfl) (.head _) Bg1 (by simp only [frcC_size]; kernel_rfl) (List.forall_mem_cons.2 ⟨.inl rfl, (fun p hp => .inr ⟨(.tail _ hp), ((show Dk g1 (T4 ++ T6) from (by (try simp only [dj_app_l, dj_app_r, dj_cons_l, dj_cons_r, dj_nil_l, dj_nil_r, dk_app, dk_cons, dk_nil, and_true, true_and, and_assoc]); repeat' (first | trivial | assumption | exact Dj.symm (by assumption) | exact Ne.symm (by assumption) | apply And.intro))) _ hp)⟩)⟩)) ?_
                  refine Tw.lm (v := .int .i64 10) rfl rfl ?_
                  refine wpL_done (fun W32 hW32 => ?_)
                  refine (show Code.wp _ _ _ _ _ from ?_)
                  refine wp_ret ?_
                  try simp only [inBlock_ret, then_ret]
                  refine bodyPost_ret (v := .tuple #[.agg (frcC false 0 0), .int .i64 10]) ?_ rfl ?_
                  · exact (res_cell_tmp (p := 2) (q := 3) rfl rfl (hW32.2 _ (.head _)) Tryz.underlying34 rfl (by simp only [frcC_size]; kernel_rfl))
                  · exact ⟨(ret_v (by rw [hV]; subst htop hbel; exact read10 (.inr (.inr ⟨h8, h11⟩)))), hW32.1⟩
            | true =>
              have h7 : (numC bel) = 1 := of_decide_eq_true hd7
              clear hd7
              refine Tw.ln rfl ?_
              refine Tw.ln rfl ?_
              refine Tw.ln rfl ?_
              refine Tw.ln rfl ?_
              refine Tw.ln rfl ?_
              refine Tw.ln rfl ?_
              refine Tw.ln rfl ?_
              refine Tw.lm (v := .bool true) rfl rfl ?_
              refine wpL_done (fun W33 hW33 => ?_)
              refine (show Code.wp _ _ _ _ _ from ?_)
              refine wp_cond_true rfl ?_
              refine wp_seq ?_
              refine wp_region_L (W0 := w) ((g1, .cells (frcC false 0 0) 34 (0, 0)) :: (T4 ++ T6)) (hW33) ?_
              refine Tw.lm (v := .agg (frcC false 0 0)) rfl rfl ?_
              refine wpL_s ((g1, .cells (frcC false 0 0) 34 (0, 0)) :: (T4 ++ T6)) rfl rfl (st_all (by simp only [frcC_size]) (by exact frc_onec) rfl (by kernel_rfl) (by kernel_rfl) (.head _) Bg1 (by simp only [frcC_size]; kernel_rfl) (List.forall_mem_cons.2 ⟨.inl rfl, (fun p hp => .inr ⟨(.tail _ hp), ((show Dk g1 (T4 ++ T6) from (by (try simp only [dj_app_l, dj_app_r, dj_cons_l, dj_cons_r, dj_nil_l, dj_nil_r, dk_app, dk_cons, dk_nil, and_true, true_and, and_assoc]); repeat' (first | trivial | assumption | exact Dj.symm (by assumption) | exact Ne.symm (by assumption) | apply And.intro))) _ hp)⟩)⟩)) ?_
              refine Tw.lm (v := .int .i64 10) rfl rfl ?_
              refine wpL_done (fun W34 hW34 => ?_)
              refine (show Code.wp _ _ _ _ _ from ?_)
              refine wp_ret ?_
              try simp only [inBlock_ret, then_ret]
              refine bodyPost_ret (v := .tuple #[.agg (frcC false 0 0), .int .i64 10]) ?_ rfl ?_
              · exact (res_cell_tmp (p := 2) (q := 3) rfl rfl (hW34.2 _ (.head _)) Tryz.underlying34 rfl (by simp only [frcC_size]; kernel_rfl))
              · exact ⟨(ret_v (by rw [hV]; subst htop hbel; exact read10 (.inr (.inl h7)))), hW34.1⟩
          | true =>
            have h6 : (numC top) = 1 := of_decide_eq_true hd6
            clear hd6
            refine Tw.ln rfl ?_
            refine Tw.ln rfl ?_
            refine Tw.lm (v := .bool true) rfl rfl ?_
            refine Tw.lm (v := .bool true) rfl rfl ?_
            refine Tw.ln rfl ?_
            refine Tw.ln rfl ?_
            refine Tw.ln rfl ?_
            refine Tw.ln rfl ?_
            refine Tw.ln rfl ?_
            refine Tw.ln rfl ?_
            refine Tw.ln rfl ?_
            refine Tw.lm (v := .bool true) rfl rfl ?_
            refine wpL_done (fun W35 hW35 => ?_)
            refine (show Code.wp _ _ _ _ _ from ?_)
            refine wp_cond_true rfl ?_
            refine wp_seq ?_
            refine wp_region_L (W0 := w) ((g1, .cells (frcC false 0 0) 34 (0, 0)) :: (T4 ++ T6)) (hW35) ?_
            refine Tw.lm (v := .agg (frcC false 0 0)) rfl rfl ?_
            refine wpL_s ((g1, .cells (frcC false 0 0) 34 (0, 0)) :: (T4 ++ T6)) rfl rfl (st_all (by simp only [frcC_size]) (by exact frc_onec) rfl (by kernel_rfl) (by kernel_rfl) (.head _) Bg1 (by simp only [frcC_size]; kernel_rfl) (List.forall_mem_cons.2 ⟨.inl rfl, (fun p hp => .inr ⟨(.tail _ hp), ((show Dk g1 (T4 ++ T6) from (by (try simp only [dj_app_l, dj_app_r, dj_cons_l, dj_cons_r, dj_nil_l, dj_nil_r, dk_app, dk_cons, dk_nil, and_true, true_and, and_assoc]); repeat' (first | trivial | assumption | exact Dj.symm (by assumption) | exact Ne.symm (by assumption) | apply And.intro))) _ hp)⟩)⟩)) ?_
            refine Tw.lm (v := .int .i64 10) rfl rfl ?_
            refine wpL_done (fun W36 hW36 => ?_)
            refine (show Code.wp _ _ _ _ _ from ?_)
            refine wp_ret ?_
            try simp only [inBlock_ret, then_ret]
            refine bodyPost_ret (v := .tuple #[.agg (frcC false 0 0), .int .i64 10]) ?_ rfl ?_
            · exact (res_cell_tmp (p := 2) (q := 3) rfl rfl (hW36.2 _ (.head _)) Tryz.underlying34 rfl (by simp only [frcC_size]; kernel_rfl))
            · exact ⟨(ret_v (by rw [hV]; subst htop hbel; exact read10 (.inl h6))), hW36.1⟩
end Go.Proofs.YtalmflgkbmnghaaGreatDoor
namespace Go.Proofs.YtalmflgkbmnghaaGreatDoor
open Go Go.RowKit Tw
open Tf (dg R R_pos R_le R_succ dg_of_lt setd setd_eq)
end Go.Proofs.YtalmflgkbmnghaaGreatDoor
