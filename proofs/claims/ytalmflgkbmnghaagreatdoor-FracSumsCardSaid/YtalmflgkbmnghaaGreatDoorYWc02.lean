import Derived.Test.YtalmflgkbmnghaaGreatDoorYWc01
import Derived.Test.YtalmflgkbmnghaaGreatDoorRS00
import Derived.Test.YtalmflgkbmnghaaGreatDoorRS02
import Derived.Laws.RangeAny
/- Part of the proof: Y6, Y8, Y9, YA, Sr. -/
set_option linter.unusedVariables false
set_option linter.unusedSimpArgs false
set_option linter.unusedSectionVars false
namespace Go.Proofs.YtalmflgkbmnghaaGreatDoor
open Go Go.RowKit Tw
open Tf (dg R R_pos R_le R_succ dg_of_lt setd setd_eq)
set_option maxRecDepth 100000 in
set_option maxHeartbeats 4000000 in
theorem size_any (z : Int) (z1 : -9223372036854775808 ≤ z) (z2 : z ≤ 9223372036854775807) (w : World) : Calls Tryz.prog 78 #[.int .i64 z] w fun e w' => Ans w (cd z.natAbs) e w' := by
  go_enter Tryz.func78, Tryz.ntmps78
  refine wp_seq ?_
  refine wp_region_L (W0 := w) [] (KS.start w) ?_
  refine Tw.lm (v := .slice none 0 0) rfl rfl ?_
  refine wpL_done (fun W1 hW1 => ?_)
  refine (show Code.wp _ _ _ _ _ from ?_)
  refine wp_seq ?_
  refine wp_seq ?_
  refine wp_region_L (W0 := w) [] (hW1) ?_
  refine Tw.lm (v := .int .i64 z) rfl rfl ?_
  refine Tw.lp (v := .bool (decide (z < 0))) rfl rfl (run_bin rfl (vx := (.int .i64 z)) (vy := (.int .i64 0)) (by kernel_rfl) (by kernel_rfl) fun w => bi_lss rfl w) ?_
  refine wpL_done (fun W2 hW2 => ?_)
  refine (show Code.wp _ _ _ _ _ from ?_)
  cases hd1 : (decide (z < 0)) with
  | false =>
    have h1 : ¬ (z < 0) := of_decide_eq_false hd1
    clear hd1
    refine wp_cond_false rfl ?_
    refine wp_skip ?_
    refine (show Code.wp _ _ _ _ _ from ?_)
    refine wp_seq ?_
    refine wp_region_L (W0 := w) [] (hW2) ?_
    refine Tw.lm (v := .int .i64 z) rfl rfl ?_
    refine Tw.lp (v := .int .u64 z) rfl rfl (run_conv rfl (vx := .int .i64 z) (by kernel_rfl) fun w => cv_int Tryz.underlying3 Tryz.underlying84 (wi_u64 (by omega)) w) ?_
    refine wpL_c (f := 98) (args := #[.int .u64 z]) (AnsG w [] (cd z.natAbs)) rfl (by kernel_rfl) (fun _ => (by kernel_rfl)) (fun W hW => (whole_any z z.natAbs (by omega) (by omega) W).mono fun e w2 h => Ans.g h hW) (fun _ => by simp only [List.setIfInBounds_toArray, List.set_cons_succ, List.set_cons_zero] <;> rfl) ?_
    rintro v1 _ ⟨q1, d1, T1, rfl, C1, H1, F1, J1, rfl⟩
    refine Tw.lm (v := .slice q1 ((cd z.natAbs).length) d1) rfl rfl ?_
    refine wpL_done (fun W3 hW3 => ?_)
    refine (show Code.wp _ _ _ _ _ from ?_)
    refine wp_ret ?_
    try simp only [inBlock_ret, then_ret]
    refine bodyPost_ret (v := .slice q1 ((cd z.natAbs).length) d1) ?_ rfl ?_
    · kernel_rfl
    · exact ⟨_, _, rfl, C1, F1 _ (hW3.sub (fun q hq => by first | exact hq | (simp only [List.mem_cons, List.mem_append, List.nil_append, List.not_mem_nil, or_assoc, or_false, false_or] at hq ⊢ <;> grind))) rfl, hW3.1⟩
  | true =>
    have h1 : z < 0 := of_decide_eq_true hd1
    clear hd1
    refine wp_cond_true rfl ?_
    refine wp_seq ?_
    refine wp_region_L (W0 := w) [] (hW2) ?_
    refine Tw.lm (v := .int .i64 z) rfl rfl ?_
    refine Tw.lp (v := .int .i64 (z + 1)) rfl rfl (run_bin rfl (vx := (.int .i64 z)) (vy := (.int .i64 1)) (by kernel_rfl) (by kernel_rfl) fun w => bi_add (z := (z + 1)) rfl (wi_i64 (by omega)) w) ?_
    refine Tw.lp (v := .int .i64 (-(z + 1))) rfl rfl (run_un rfl (by kernel_rfl) fun w => un_neg (z := (-(z + 1))) rfl (wi_i64 (by omega)) w) ?_
    refine Tw.lp (v := .int .u64 (-(z + 1))) rfl rfl (run_conv rfl (vx := .int .i64 (-(z + 1))) (by kernel_rfl) fun w => cv_int Tryz.underlying3 Tryz.underlying84 (wi_u64 (by omega)) w) ?_
    refine Tw.lp (v := .int .u64 ((-(z + 1)) + 1)) rfl rfl (run_bin rfl (vx := (.int .u64 (-(z + 1)))) (vy := (.int .u64 1)) (by kernel_rfl) (by kernel_rfl) fun w => bi_add (z := ((-(z + 1)) + 1)) rfl (wi_u64 (by omega)) w) ?_
    refine wpL_c (f := 98) (args := #[.int .u64 ((-(z + 1)) + 1)]) (AnsG w [] (cd z.natAbs)) rfl (by kernel_rfl) (fun _ => (by kernel_rfl)) (fun W hW => (whole_any ((-(z + 1)) + 1) z.natAbs (by omega) (by omega) W).mono fun e w2 h => Ans.g h hW) (fun _ => by simp only [List.setIfInBounds_toArray, List.set_cons_succ, List.set_cons_zero] <;> rfl) ?_
    rintro v2 _ ⟨q2, d2, T2, rfl, C2, H2, F2, J2, rfl⟩
    refine Tw.lm (v := .slice q2 ((cd z.natAbs).length) d2) rfl rfl ?_
    refine wpL_done (fun W4 hW4 => ?_)
    refine (show Code.wp _ _ _ _ _ from ?_)
    refine wp_ret ?_
    try simp only [inBlock_ret, then_ret]
    refine bodyPost_ret (v := .slice q2 ((cd z.natAbs).length) d2) ?_ rfl ?_
    · kernel_rfl
    · exact ⟨_, _, rfl, C2, F2 _ (hW4.sub (fun q hq => by first | exact hq | (simp only [List.mem_cons, List.mem_append, List.nil_append, List.not_mem_nil, or_assoc, or_false, false_or] at hq ⊢ <;> grind))) rfl, hW4.1⟩
theorem fa_at {f : Nat → Nat} {j : Nat} (h : j < 8) : (fa 8 f)[0 + j * 1]? = some (.int .u32 ((f j : Nat) : Int)) := by
  rw [Nat.zero_add, Nat.mul_one]; exact fa_get f h
theorem R_sq (k : Nat) : R k = 65536 ^ (2 * k) := by
  unfold R
  rw [Nat.pow_mul]
theorem lim_even {x j a : Nat} (hj : j < 8) (hx : x < 65536 ^ (2 * j)) (ha : a < 65536) : (fa 8 (dg x)).setIfInBounds (0 + j * 1) (.int .u32 ((a : Nat) : Int)) = fa 8 (dg (x + 65536 ^ (2 * j) * a)) := by
  rw [Nat.zero_add, Nat.mul_one, fa_setd hj (by omega)]
  have h := setd_eq x j a
  rw [dg_of_lt (by rw [R_sq]; exact hx), R_sq, Nat.zero_mul, Nat.add_zero] at h
  rw [h, Nat.mul_comm]
theorem lim_odd {x j a : Nat} (hj : j < 8) (hx : x < 65536 ^ (2 * j + 1)) (ha : a < 65536) : dg x j < 65536 ∧ (fa 8 (dg x)).setIfInBounds (0 + j * 1) (.int .u32 ((dg x j + a * 65536 : Nat) : Int)) = fa 8 (dg (x + 65536 ^ (2 * j + 1) * a)) := by
  have hd : dg x j < 65536 := by
    unfold dg
    have : x / R j < 65536 := by
      rw [Nat.div_lt_iff_lt_mul (R_pos j), R_sq]
      rw [Nat.pow_succ, Nat.mul_comm] at hx
      exact hx
    exact Nat.lt_of_le_of_lt (Nat.mod_le _ _) this
  refine ⟨hd, ?_⟩
  rw [Nat.zero_add, Nat.mul_one, fa_setd hj (by omega)]
  have h := setd_eq x j (dg x j + a * 65536)
  rw [Nat.add_mul, R_sq] at h
  have e : a * 65536 * 65536 ^ (2 * j) = 65536 ^ (2 * j + 1) * a := by rw [Nat.pow_succ, Nat.mul_assoc, Nat.mul_comm a, Nat.mul_comm 65536]
  rw [e] at h
  rw [show setd x j (dg x j + a * 65536) = x + 65536 ^ (2 * j + 1) * a from by omega]
theorem lim_e {x i a : Nat} (hi : i < 16) (hx : x < 65536 ^ i) (ha : a < 65536) (h : i % 2 = 0) : (fa 8 (dg x)).setIfInBounds (0 + (i / 2) * 1) (.int .u32 ((a : Nat) : Int)) = fa 8 (dg (x + 65536 ^ i * a)) := by
  have e : i = 2 * (i / 2) := by omega
  have h1 := lim_even (x := x) (j := i / 2) (a := a) (by omega) (by rw [← e]; exact hx) ha
  rw [← e] at h1
  exact h1
theorem lim_o {x i a : Nat} (hi : i < 16) (hx : x < 65536 ^ i) (ha : a < 65536) (h : ¬ i % 2 = 0) : dg x (i / 2) < 65536 ∧ (fa 8 (dg x)).setIfInBounds (0 + (i / 2) * 1) (.int .u32 ((dg x (i / 2) + a * 65536 : Nat) : Int)) = fa 8 (dg (x + 65536 ^ i * a)) := by
  have e : i = 2 * (i / 2) + 1 := by omega
  have h1 := lim_odd (x := x) (j := i / 2) (a := a) (by omega) (by rw [← e]; exact hx) ha
  rw [← e] at h1
  exact h1
def limV (n : Nat) : Value := if (cd n).length ≤ 16 then .tuple #[.agg (fa 8 (dg n)), .bool true] else .tuple #[.agg (fa 8 (dg 0)), .bool false]
set_option maxRecDepth 100000 in
set_option maxHeartbeats 4000000 in
theorem limbs_any (n : Nat) (p : Option Addr) (c : Nat) (la : (cd n).length ≤ 100000) (w : World) (hp : SLV w p (nums (cd n))) : Calls Tryz.prog 83 #[.slice p (cd n).length c] w fun e w' => e = .returned (limV n) ∧ Below w.heap.size w w' := by
  have HP : NS (w : Base) p (cd n) [] := NS.base hp
  clear hp
  go_enter Tryz.func83, Tryz.ntmps83
  refine wp_seq ?_
  refine wp_region_L (W0 := w) [] (KS.start w) ?_
  refine wpL_new (fun g => .pointer (some ⟨g, 0, none⟩)) (obi := .cells (fa 8 (dg 0)) 23 (0, 0)) rfl rfl (fun _ => by kernel_rfl) (fun _ => by simp only [List.setIfInBounds_toArray, List.set_cons_succ, List.set_cons_zero] <;> rfl) fun g1 Bg1 Fg1 => ?_
  refine Tw.lm (v := .bool false) rfl rfl ?_
  refine wpL_done (fun W1 hW1 => ?_)
  refine (show Code.wp _ _ _ _ _ from ?_)
  refine wp_seq ?_
  refine wp_region_L (W0 := w) [(g1, .cells (fa 8 (dg 0)) 23 (0, 0))] (hW1) ?_
  refine wpL_new (fun g => .pointer (some ⟨g, 0, none⟩)) (obi := .cells (fa 8 (dg 0)) 23 (0, 0)) rfl rfl (fun _ => by kernel_rfl) (fun _ => by simp only [List.setIfInBounds_toArray, List.set_cons_succ, List.set_cons_zero] <;> rfl) fun g2 Bg2 Fg2 => ?_
  obtain dj3_0 : g1 ≠ g2 := by simpa only [dj_app_l, dj_app_r, dj_cons_l, dj_cons_r, dj_nil_l, dj_nil_r, dk_app, dk_cons, dk_nil, and_true, true_and, and_assoc] using (show Dk g2 [(g1, .cells (fa 8 (dg 0)) 23 (0, 0))] from Fg2)
  refine wpL_done (fun W2 hW2 => ?_)
  refine (show Code.wp _ _ _ _ _ from ?_)
  refine wp_seq ?_
  refine wp_seq ?_
  refine wp_region_L (W0 := w) [(g2, .cells (fa 8 (dg 0)) 23 (0, 0)), (g1, .cells (fa 8 (dg 0)) 23 (0, 0))] (hW2) ?_
  refine Tw.lm (v := .slice p ((cd n).length) c) rfl rfl ?_
  refine Tw.lp (v := .int .i64 ((((cd n).length) : Nat) : Int)) rfl rfl (run_lenL (p := p) (cap := c) (n := ((cd n).length)) rfl Tryz.underlying32 (by kernel_rfl)) ?_
  refine Tw.lp (v := .bool (decide (16 < ((cd n).length)))) rfl rfl (run_bin rfl (vx := (.int .i64 ((((cd n).length) : Nat) : Int))) (vy := (.int .i64 ((16 : Nat) : Int))) (by kernel_rfl) (by kernel_rfl) fun w => bn_gtr rfl w) ?_
  refine wpL_done (fun W3 hW3 => ?_)
  refine (show Code.wp _ _ _ _ _ from ?_)
  cases hd1 : (decide (16 < ((cd n).length))) with
  | false =>
    have h1 : ¬ (16 < ((cd n).length)) := of_decide_eq_false hd1
    clear hd1
    refine wp_cond_false rfl ?_
    refine wp_skip ?_
    refine (show Code.wp _ _ _ _ _ from ?_)
    refine wp_seq ?_
    refine wp_seq ?_
    refine wp_region_L (W0 := w) [(g2, .cells (fa 8 (dg 0)) 23 (0, 0)), (g1, .cells (fa 8 (dg 0)) 23 (0, 0))] (hW3) ?_
    refine Tw.lm (v := .int .i64 0) rfl rfl ?_
    refine wpL_done (fun W4 hW4 => ?_)
    refine (show Code.wp _ _ _ _ _ from ?_)
    refine wp_block ?_
    go_loopw [5] (fun u5 wr => ∃ (i : Nat), (i ≤ (cd n).length) ∧ u5 = .int .i64 ((i : Nat) : Int) ∧ KS w [(g2, .cells (fa 8 (dg (dv ((cd n).take i)))) 23 (0, 0)), (g1, .cells (fa 8 (dg 0)) 23 (0, 0))] wr) (fun u5 _ => (cd n).length - (intOf u5).toNat)
    case atStart => exact ⟨0, (Nat.zero_le _), rfl, (hW4.sub (fun p hp => by first | exact hp | (simp only [List.mem_cons, List.mem_append, List.nil_append, List.not_mem_nil, or_assoc, or_false, false_or, List.cons_append, List.append_assoc] at hp ⊢ <;> grind)))⟩
    case round =>
      obtain ⟨i, hi, rfl, hL5⟩ := hrel
      have hx : dv ((cd n).take i) < 65536 ^ i := by
        have h := dv_lt ((cd_ok n).take i)
        rwa [List.length_take, Nat.min_eq_left hi] at h
      refine wp_seq ?_
      refine wp_seq ?_
      refine wp_region_L (W0 := w) [(g2, .cells (fa 8 (dg (dv ((cd n).take i)))) 23 (0, 0)), (g1, .cells (fa 8 (dg 0)) 23 (0, 0))] (hL5) ?_
      refine Tw.lm (v := .int .i64 ((i : Nat) : Int)) rfl rfl ?_
      refine Tw.lm (v := .slice p ((cd n).length) c) rfl rfl ?_
      refine Tw.lp (v := .int .i64 ((((cd n).length) : Nat) : Int)) rfl rfl (run_lenL (p := p) (cap := c) (n := ((cd n).length)) rfl Tryz.underlying32 (by kernel_rfl)) ?_
      refine Tw.lp (v := .bool (decide (i < ((cd n).length)))) rfl rfl (run_bin rfl (vx := (.int .i64 ((i : Nat) : Int))) (vy := (.int .i64 ((((cd n).length) : Nat) : Int))) (by kernel_rfl) (by kernel_rfl) fun w => bn_lss rfl w) ?_
      refine wpL_done (fun W6 hW6 => ?_)
      refine (show Code.wp _ _ _ _ _ from ?_)
      cases hd2 : (decide (i < ((cd n).length))) with
      | false =>
        have h2 : ¬ (i < ((cd n).length)) := of_decide_eq_false hd2
        clear hd2
        refine wp_cond_false rfl ?_
        refine wp_exit ?_
        refine (show Code.wp _ _ _ _ _ from ?_)
        refine wp_seq ?_
        refine wp_region_L (W0 := w) [(g2, .cells (fa 8 (dg (dv ((cd n).take i)))) 23 (0, 0)), (g1, .cells (fa 8 (dg 0)) 23 (0, 0))] (hW6) ?_
        refine Tw.lv (v := .agg (fa 8 (dg (dv ((cd n).take i))))) rfl rfl (yb_all rfl (by kernel_rfl) (.head _) Tryz.underlying23 rfl (by simp only [fa_size]; kernel_rfl)) ?_
        refine wpL_s [(g2, .cells (fa 8 (dg (dv ((cd n).take i)))) 23 (0, 0)), (g1, .cells (fa 8 (dg (dv ((cd n).take i)))) 23 (0, 0))] rfl rfl (st_all (by simp only [fa_size]) (by exact fa_one) rfl (by kernel_rfl) (by kernel_rfl) (.tail _ (.head _)) Bg1 (by simp only [fa_size]; kernel_rfl) (List.forall_mem_cons.2 ⟨.inr ⟨(.head _), (by first | assumption | exact Ne.symm (by assumption))⟩, (List.forall_mem_cons.2 ⟨.inl rfl, (List.forall_mem_nil _)⟩)⟩)) ?_
        refine Tw.lm (v := .bool true) rfl rfl ?_
        refine wpL_done (fun W7 hW7 => ?_)
        refine (show Code.wp _ _ _ _ _ from ?_)
        refine wp_ret ?_
        try simp only [inBlock_ret, then_ret]
        refine bodyPost_ret (v := .tuple #[.agg (fa 8 (dg (dv ((cd n).take i)))), .bool true]) ?_ rfl ?_
        · exact (res_cell_tmp (p := 2) (q := 3) rfl rfl (hW7.2 _ (.tail _ (.head _))) Tryz.underlying23 rfl (by simp only [fa_size]; kernel_rfl))
        · exact ⟨(by unfold limV; rw [if_pos (by omega), List.take_of_length_le (by omega), dv_cd]), hW7.1⟩
      | true =>
        have h2 : i < ((cd n).length) := of_decide_eq_true hd2
        clear hd2
        refine wp_cond_true rfl ?_
        refine wp_skip ?_
        refine (show Code.wp _ _ _ _ _ from ?_)
        refine wp_seq ?_
        refine wp_block ?_
        refine wp_seq ?_
        refine wp_region_L (W0 := w) [(g2, .cells (fa 8 (dg (dv ((cd n).take i)))) 23 (0, 0)), (g1, .cells (fa 8 (dg 0)) 23 (0, 0))] (hW6) ?_
        refine Tw.lm (v := .int .i64 ((i : Nat) : Int)) rfl rfl ?_
        refine Tw.lp (v := .int .i64 (((i % 2) : Nat) : Int)) rfl rfl (run_bin rfl (vx := (.int .i64 ((i : Nat) : Int))) (vy := (.int .i64 ((2 : Nat) : Int))) (by kernel_rfl) (by kernel_rfl) fun w => bn_rem (z := (i % 2)) rfl (by omega) w) ?_
        refine Tw.lp (v := .bool (decide ((i % 2) = 0))) rfl rfl (run_bin rfl (vx := (.int .i64 (((i % 2) : Nat) : Int))) (vy := (.int .i64 ((0 : Nat) : Int))) (by kernel_rfl) (by kernel_rfl) fun w => bn_eql rfl w) ?_
        refine wpL_done (fun W8 hW8 => ?_)
        refine (show Code.wp _ _ _ _ _ from ?_)
        cases hd3 : (decide ((i % 2) = 0)) with
        | false =>
          have h3 : ¬ ((i % 2) = 0) := of_decide_eq_false hd3
          clear hd3
          obtain ⟨xq, hxq⟩ : ∃ x, ((cd n) : List Nat)[i]? = some x := ⟨_, List.getElem?_eq_getElem (by omega)⟩
          have ldg := (lim_o (by omega) hx ((cd_ok n).at hxq) h3).1
          refine wp_cond_false rfl ?_
          refine wp_region_V (W0 := w) [(g2, .cells (fa 8 (dg (dv ((cd n).take i)))) 23 (0, 0)), (g1, .cells (fa 8 (dg 0)) 23 (0, 0))] (by kernel_rfl) (hW8) ?_
          refine vm (i := 0) (v := .int .i64 ((i : Nat) : Int)) rfl rfl rfl ?_
          refine vp (i := 1) (v := .int .i64 (((i / 2) : Nat) : Int)) rfl rfl rfl (run_bin rfl (vx := (.int .i64 ((i : Nat) : Int))) (vy := (.int .i64 ((2 : Nat) : Int))) (by kernel_rfl) (by kernel_rfl) fun w => bn_quo (z := (i / 2)) rfl (by omega) (wr_i64 (by omega)) w) ?_
          refine vm (i := 2) (v := .int .i64 ((i : Nat) : Int)) rfl rfl rfl ?_
          refine vp (i := 3) (v := .int .i64 (((i / 2) : Nat) : Int)) rfl rfl rfl (run_bin rfl (vx := (.int .i64 ((i : Nat) : Int))) (vy := (.int .i64 ((2 : Nat) : Int))) (by kernel_rfl) (by kernel_rfl) fun w => bn_quo (z := (i / 2)) rfl (by omega) (wr_i64 (by omega)) w) ?_
          refine vp (i := 4) (v := .pointer (some ⟨g2, 0 + (i / 2) * 1, none⟩)) rfl rfl rfl (run_idxA (j := .i64) (b := g2) (off := 0) (k := (i / 2)) (sz := 1) rfl Tryz.underlying23 (by kernel_rfl) (by kernel_rfl) (by kernel_rfl) (by omega)) ?_
          refine vv (i := 5) (v := .int .u32 (((dg (dv ((cd n).take i)) (i / 2)) : Nat) : Int)) rfl rfl rfl (yb_cell rfl (by kernel_rfl) (.head _) Tryz.underlying22 rfl (fa_at (by omega))) ?_
          refine vm (i := 6) (v := .slice p ((cd n).length) c) rfl rfl rfl ?_
          refine vm (i := 7) (v := .int .i64 ((i : Nat) : Int)) rfl rfl rfl ?_
          obtain ⟨b4, f4, hp4, hc4⟩ := (HP.mono (fun q hq => by first | exact hq | (simp only [List.mem_cons, List.mem_append, List.nil_append, List.not_mem_nil, or_assoc, or_false, false_or] at hq ⊢ <;> grind))).at hW8 (k := i) (by omega)
          refine vp (i := 8) (v := .pointer (some ⟨b4, f4 + i * 1, none⟩)) rfl rfl rfl (run_idxQ (p := p) (cap := c) (n := ((cd n).length)) (j := .i64) (k := i) (sz := 1) rfl Tryz.underlying32 (by kernel_rfl) (by kernel_rfl) hp4 (by kernel_rfl) (by omega)) ?_
          obtain ⟨x5, hx5⟩ : ∃ x, ((cd n) : List Nat)[i]? = some x := ⟨_, List.getElem?_eq_getElem (by omega)⟩
          have lx5 : x5 < 65536 := dOk.at (cd_ok n) hx5
          refine vv (i := 9) (v := .int .i64 ((x5 : Nat) : Int)) rfl rfl rfl (yb_ns (off := f4 + i * 1) rfl (by kernel_rfl) (fun W hW => hc4 W (hW.sub (fun q hq => by first | exact hq | (simp only [List.mem_cons, List.mem_append, List.nil_append, List.not_mem_nil, or_assoc, or_false, false_or] at hq ⊢ <;> grind))) _ _ hx5) Tryz.underlying3 rfl) ?_
          refine vp (i := 10) (v := .int .u32 ((x5 : Nat) : Int)) rfl rfl rfl (run_conv rfl (vx := (.int .i64 ((x5 : Nat) : Int))) (by kernel_rfl) fun w => cv_int Tryz.underlying3 Tryz.underlying22 (wr_u32 (by omega)) w) ?_
          refine vp (i := 11) (v := .int .u32 (((x5 * 65536) : Nat) : Int)) rfl rfl rfl (run_bin rfl (vx := (.int .u32 ((x5 : Nat) : Int))) (vy := (.int .u32 ((65536 : Nat) : Int))) (by kernel_rfl) (by kernel_rfl) fun w => bn_mul (z := (x5 * 65536)) rfl (wr_u32 (by omega)) w) ?_
          refine vp (i := 12) (v := .int .u32 ((((dg (dv ((cd n).take i)) (i / 2)) + (x5 * 65536)) : Nat) : Int)) rfl rfl rfl (run_bin rfl (vx := (.int .u32 (((dg (dv ((cd n).take i)) (i / 2)) : Nat) : Int))) (vy := (.int .u32 (((x5 * 65536) : Nat) : Int))) (by kernel_rfl) (by kernel_rfl) fun w => bn_add (z := ((dg (dv ((cd n).take i)) (i / 2)) + (x5 * 65536))) rfl (wr_u32 (by omega)) w) ?_
          refine vp (i := 13) (v := .pointer (some ⟨g2, 0 + (i / 2) * 1, none⟩)) rfl rfl rfl (run_idxA (j := .i64) (b := g2) (off := 0) (k := (i / 2)) (sz := 1) rfl Tryz.underlying23 (by kernel_rfl) (by kernel_rfl) (by kernel_rfl) (by omega)) ?_
          refine wpV_s [(g2, .cells (fa 8 (dg (dv ((cd n).take (i + 1))))) 23 (0, 0)), (g1, .cells (fa 8 (dg 0)) 23 (0, 0))] (i := 14) rfl (by kernel_rfl) rfl rfl rfl (st_to (off := 0 + (i / 2) * 1) ((lim_o (by omega) hx lx5 h3).2.trans (by rw [← dv_take hx5])) rfl (by kernel_rfl) (by kernel_rfl) (.head _) Bg2 (by kernel_rfl) rfl rfl (by simp only [fa_size]; omega) (.inr rfl) (List.forall_mem_cons.2 ⟨.inl rfl, (List.forall_mem_cons.2 ⟨.inr ⟨(.tail _ (.head _)), (by first | assumption | exact Ne.symm (by assumption))⟩, (List.forall_mem_nil _)⟩)⟩)) ?_
          refine wpV_done (by kernel_rfl) (fun W9 hW9 => ?_) _
          refine (show Code.wp _ _ _ _ _ from ?_)
          refine wp_region_L (W0 := w) [(g2, .cells (fa 8 (dg (dv ((cd n).take (i + 1))))) 23 (0, 0)), (g1, .cells (fa 8 (dg 0)) 23 (0, 0))] (hW9) ?_
          refine Tw.lm (v := .int .i64 ((i : Nat) : Int)) rfl rfl ?_
          refine Tw.lp (v := .int .i64 (((i + 1) : Nat) : Int)) rfl rfl (run_bin rfl (vx := (.int .i64 ((i : Nat) : Int))) (vy := (.int .i64 ((1 : Nat) : Int))) (by kernel_rfl) (by kernel_rfl) fun w => bn_add (z := (i + 1)) rfl (wr_i64 (by omega)) w) ?_
          refine Tw.lm (v := .int .i64 (((i + 1) : Nat) : Int)) rfl rfl ?_
          refine wpL_done (fun W10 hW10 => ?_)
          go_roundw
          case rel =>
            repeat apply Exists.intro
            exact ⟨⟨(i + 1), (by omega), rfl, (hW10.sub (fun p hp => by first | exact hp | (simp only [List.mem_cons, List.mem_append, List.nil_append, List.not_mem_nil, or_assoc, or_false, false_or, List.cons_append, List.append_assoc] at hp ⊢ <;> grind)))⟩, rfl⟩
          case measure => (show (cd n).length - (intOf (.int .i64 (((i + 1) : Nat) : Int))).toNat < (cd n).length - (intOf (.int .i64 ((i : Nat) : Int))).toNat); simp only [intOf]; omega
        | true =>
          have h3 : (i % 2) = 0 := of_decide_eq_true hd3
          clear hd3
          refine wp_cond_true rfl ?_
          refine wp_region_L (W0 := w) [(g2, .cells (fa 8 (dg (dv ((cd n).take i)))) 23 (0, 0)), (g1, .cells (fa 8 (dg 0)) 23 (0, 0))] (hW8) ?_
          refine Tw.lm (v := .int .i64 ((i : Nat) : Int)) rfl rfl ?_
          refine Tw.lp (v := .int .i64 (((i / 2) : Nat) : Int)) rfl rfl (run_bin rfl (vx := (.int .i64 ((i : Nat) : Int))) (vy := (.int .i64 ((2 : Nat) : Int))) (by kernel_rfl) (by kernel_rfl) fun w => bn_quo (z := (i / 2)) rfl (by omega) (wr_i64 (by omega)) w) ?_
          refine Tw.lm (v := .slice p ((cd n).length) c) rfl rfl ?_
          refine Tw.lm (v := .int .i64 ((i : Nat) : Int)) rfl rfl ?_
          obtain ⟨b6, f6, hp6, hc6⟩ := (HP.mono (fun q hq => by first | exact hq | (simp only [List.mem_cons, List.mem_append, List.nil_append, List.not_mem_nil, or_assoc, or_false, false_or] at hq ⊢ <;> grind))).at hW8 (k := i) (by omega)
          refine Tw.lp (v := .pointer (some ⟨b6, f6 + i * 1, none⟩)) rfl rfl (run_idxQ (p := p) (cap := c) (n := ((cd n).length)) (j := .i64) (k := i) (sz := 1) rfl Tryz.underlying32 (by kernel_rfl) (by kernel_rfl) hp6 (by kernel_rfl) (by omega)) ?_
          obtain ⟨x7, hx7⟩ : ∃ x, ((cd n) : List Nat)[i]? = some x := ⟨_, List.getElem?_eq_getElem (by omega)⟩
          have lx7 : x7 < 65536 := dOk.at (cd_ok n) hx7
          refine Tw.lv (v := .int .i64 ((x7 : Nat) : Int)) rfl rfl (yb_ns (off := f6 + i * 1) rfl (by kernel_rfl) (fun W hW => hc6 W (hW.sub (fun q hq => by first | exact hq | (simp only [List.mem_cons, List.mem_append, List.nil_append, List.not_mem_nil, or_assoc, or_false, false_or] at hq ⊢ <;> grind))) _ _ hx7) Tryz.underlying3 rfl) ?_
          refine Tw.lp (v := .int .u32 ((x7 : Nat) : Int)) rfl rfl (run_conv rfl (vx := (.int .i64 ((x7 : Nat) : Int))) (by kernel_rfl) fun w => cv_int Tryz.underlying3 Tryz.underlying22 (wr_u32 (by omega)) w) ?_
          refine Tw.lp (v := .pointer (some ⟨g2, 0 + (i / 2) * 1, none⟩)) rfl rfl (run_idxA (j := .i64) (b := g2) (off := 0) (k := (i / 2)) (sz := 1) rfl Tryz.underlying23 (by kernel_rfl) (by kernel_rfl) (by kernel_rfl) (by omega)) ?_
          refine wpL_s [(g2, .cells (fa 8 (dg (dv ((cd n).take (i + 1))))) 23 (0, 0)), (g1, .cells (fa 8 (dg 0)) 23 (0, 0))] rfl rfl (st_to (off := 0 + (i / 2) * 1) ((lim_e (by omega) hx lx7 h3).trans (by rw [← dv_take hx7])) rfl (by kernel_rfl) (by kernel_rfl) (.head _) Bg2 (by kernel_rfl) rfl rfl (by simp only [fa_size]; omega) (.inr rfl) (List.forall_mem_cons.2 ⟨.inl rfl, (List.forall_mem_cons.2 ⟨.inr ⟨(.tail _ (.head _)), (by first | assumption | exact Ne.symm (by assumption))⟩, (List.forall_mem_nil _)⟩)⟩)) ?_
          refine wpL_done (fun W11 hW11 => ?_)
          refine (show Code.wp _ _ _ _ _ from ?_)
          refine wp_region_L (W0 := w) [(g2, .cells (fa 8 (dg (dv ((cd n).take (i + 1))))) 23 (0, 0)), (g1, .cells (fa 8 (dg 0)) 23 (0, 0))] (hW11) ?_
          refine Tw.lm (v := .int .i64 ((i : Nat) : Int)) rfl rfl ?_
          refine Tw.lp (v := .int .i64 (((i + 1) : Nat) : Int)) rfl rfl (run_bin rfl (vx := (.int .i64 ((i : Nat) : Int))) (vy := (.int .i64 ((1 : Nat) : Int))) (by kernel_rfl) (by kernel_rfl) fun w => bn_add (z := (i + 1)) rfl (wr_i64 (by omega)) w) ?_
          refine Tw.lm (v := .int .i64 (((i + 1) : Nat) : Int)) rfl rfl ?_
          refine wpL_done (fun W12 hW12 => ?_)
          go_roundw
          case rel =>
            repeat apply Exists.intro
            exact ⟨⟨(i + 1), (by omega), rfl, (hW12.sub (fun p hp => by first | exact hp | (simp only [List.mem_cons, List.mem_append, List.nil_append, List.not_mem_nil, or_assoc, or_false, false_or, List.cons_append, List.append_assoc] at hp ⊢ <;> grind)))⟩, rfl⟩
          case measure => (show (cd n).length - (intOf (.int .i64 (((i + 1) : Nat) : Int))).toNat < (cd n).length - (intOf (.int .i64 ((i : Nat) : Int))).toNat); simp only [intOf]; omega
  | true =>
    have h1 : 16 < ((cd n).length) := of_decide_eq_true hd1
    clear hd1
    refine wp_cond_true rfl ?_
    refine wp_seq ?_
    refine wp_region_L (W0 := w) [(g2, .cells (fa 8 (dg 0)) 23 (0, 0)), (g1, .cells (fa 8 (dg 0)) 23 (0, 0))] (hW3) ?_
    refine Tw.lv (v := .agg (fa 8 (dg 0))) rfl rfl (yb_all rfl (by kernel_rfl) (.head _) Tryz.underlying23 rfl (by simp only [fa_size]; kernel_rfl)) ?_
    refine wpL_s [(g2, .cells (fa 8 (dg 0)) 23 (0, 0)), (g1, .cells (fa 8 (dg 0)) 23 (0, 0))] rfl rfl (st_all (by simp only [fa_size]) (by exact fa_one) rfl (by kernel_rfl) (by kernel_rfl) (.tail _ (.head _)) Bg1 (by simp only [fa_size]; kernel_rfl) (List.forall_mem_cons.2 ⟨.inr ⟨(.head _), (by first | assumption | exact Ne.symm (by assumption))⟩, (List.forall_mem_cons.2 ⟨.inl rfl, (List.forall_mem_nil _)⟩)⟩)) ?_
    refine Tw.lm (v := .bool false) rfl rfl ?_
    refine wpL_done (fun W13 hW13 => ?_)
    refine (show Code.wp _ _ _ _ _ from ?_)
    refine wp_ret ?_
    try simp only [inBlock_ret, then_ret]
    refine bodyPost_ret (v := .tuple #[.agg (fa 8 (dg 0)), .bool false]) ?_ rfl ?_
    · exact (res_cell_tmp (p := 2) (q := 3) rfl rfl (hW13.2 _ (.tail _ (.head _))) Tryz.underlying23 rfl (by simp only [fa_size]; kernel_rfl))
    · exact ⟨(by unfold limV; rw [if_neg (by omega)]), hW13.1⟩
end Go.Proofs.YtalmflgkbmnghaaGreatDoor
namespace Go.Proofs.YtalmflgkbmnghaaGreatDoor
open Go Go.RowKit Tw
set_option maxRecDepth 100000 in
set_option maxHeartbeats 20000000 in
theorem div_any (a b : Nat) (p q : Option Addr) (c d : Nat) (hb : 0 < b) (la : (cd a).length ≤ 90000) (hc : (cd a).length ≤ c) (w : World) (hp : SLV w p (nums (cd a))) (hq : SLV w q (nums (cd b))) : Calls Tryz.prog 61 #[.slice p (cd a).length c, .slice q (cd b).length d] w fun e w' => Ans2 w (cd (a / b)) (cd (a % b)) e w' := by
  have HP : NS (w : Base) p (cd a) [] := NS.base hp
  have HQ : NS (w : Base) q (cd b) [] := NS.base hq
  clear hp hq
  go_enter Tryz.func61, Tryz.ntmps61
  refine wp_seq ?_
  refine wp_region_L (W0 := w) [] (KS.start w) ?_
  refine Tw.lm (v := .slice none 0 0) rfl rfl ?_
  refine Tw.lm (v := .slice none 0 0) rfl rfl ?_
  refine wpL_done (fun W1 hW1 => ?_)
  refine (show Code.wp _ _ _ _ _ from ?_)
  refine wp_seq ?_
  refine wp_seq ?_
  refine wp_region_L (W0 := w) [] (hW1) ?_
  refine Tw.lm (v := .slice p ((cd a).length) c) rfl rfl ?_
  refine Tw.lm (v := .slice q ((cd b).length) d) rfl rfl ?_
  refine Tw.lv (v := .bool (decide (a < b))) rfl rfl (yb_call (f := 47) (args := #[.slice p ((cd a).length) c, .slice q ((cd b).length) d]) (fun _ => by kernel_rfl) fun W hW => less_any a b p q c d (by omega) W ((HP.mono (fun q hq => by first | exact hq | (simp only [List.mem_cons, List.mem_append, List.nil_append, List.not_mem_nil, or_assoc, or_false, false_or] at hq ⊢ <;> grind))) W hW) ((HQ.mono (fun q hq => by first | exact hq | (simp only [List.mem_cons, List.mem_append, List.nil_append, List.not_mem_nil, or_assoc, or_false, false_or] at hq ⊢ <;> grind))) W hW)) ?_
  refine wpL_done (fun W2 hW2 => ?_)
  refine (show Code.wp _ _ _ _ _ from ?_)
  cases hd1 : (decide (a < b)) with
  | false =>
    have h1 : ¬ (a < b) := of_decide_eq_false hd1
    clear hd1
    have ha := h1
    refine wp_cond_false rfl ?_
    refine wp_skip ?_
    refine (show Code.wp _ _ _ _ _ from ?_)
    refine wp_seq ?_
    refine wp_region_L (W0 := w) [] (hW2) ?_
    refine Tw.lm (v := .slice q ((cd b).length) d) rfl rfl ?_
    refine Tw.lp (v := .int .i64 ((((cd b).length) : Nat) : Int)) rfl rfl (run_lenL (p := q) (cap := d) (n := ((cd b).length)) rfl Tryz.underlying32 (by kernel_rfl)) ?_
    refine Tw.lm (v := .int .i64 ((((cd b).length) : Nat) : Int)) rfl rfl ?_
    refine wpL_done (fun W3 hW3 => ?_)
    refine (show Code.wp _ _ _ _ _ from ?_)
    refine wp_seq ?_
    have hlb := div_len ha
    have hl0 := cd_app hb
    refine wp_region_L (W0 := w) [] (hW3) ?_
    refine wpL_new (fun g => .slice (some ⟨g, 0, none⟩) 0 0) (obi := .cells #[] 3 (0, 0)) rfl rfl (fun _ => by kernel_rfl) (fun _ => by simp only [List.setIfInBounds_toArray, List.set_cons_succ, List.set_cons_zero] <;> rfl) fun g1 Bg1 Fg1 => ?_
    refine Tw.lm (v := .slice p ((cd a).length) c) rfl rfl ?_
    refine Tw.lm (v := .slice p ((cd a).length) c) rfl rfl ?_
    refine Tw.lp (v := .int .i64 ((((cd a).length) : Nat) : Int)) rfl rfl (run_lenL (p := p) (cap := c) (n := ((cd a).length)) rfl Tryz.underlying32 (by kernel_rfl)) ?_
    refine Tw.lm (v := .int .i64 ((((cd b).length) : Nat) : Int)) rfl rfl ?_
    refine Tw.lp (v := .int .i64 (((((cd a).length) - ((cd b).length)) : Nat) : Int)) rfl rfl (run_bin rfl (vx := (.int .i64 ((((cd a).length) : Nat) : Int))) (vy := (.int .i64 ((((cd b).length) : Nat) : Int))) (by kernel_rfl) (by kernel_rfl) fun w => bn_sub (z := (((cd a).length) - ((cd b).length))) rfl (by omega) (wr_i64 (by omega)) w) ?_
    refine Tw.lp (v := .int .i64 ((((((cd a).length) - ((cd b).length)) + 1) : Nat) : Int)) rfl rfl (run_bin rfl (vx := (.int .i64 (((((cd a).length) - ((cd b).length)) : Nat) : Int))) (vy := (.int .i64 ((1 : Nat) : Int))) (by kernel_rfl) (by kernel_rfl) fun w => bn_add (z := ((((cd a).length) - ((cd b).length)) + 1)) rfl (wr_i64 (by omega)) w) ?_
    refine Tw.lp (v := .slice (if c = ((((cd a).length) - ((cd b).length)) + 1) then p else p.map (·.add (((((cd a).length) - ((cd b).length)) + 1) * 1))) (((cd a).length) - ((((cd a).length) - ((cd b).length)) + 1)) (c - ((((cd a).length) - ((cd b).length)) + 1))) rfl rfl (run_cutL (p := p) (n := ((cd a).length)) (c := c) (i := ((((cd a).length) - ((cd b).length)) + 1)) (k1 := .i64) rfl Tryz.underlying32 (by kernel_rfl) (by kernel_rfl) (by kernel_rfl) (by omega)) ?_
    refine wpL_g (AppO w 3 1 [] (0 + (((cd a).length) - ((((cd a).length) - ((cd b).length)) + 1))) ((nums []) ++ nums ((cd a).drop ((((cd a).length) - ((cd b).length)) + 1)))) rfl rfl (app_any el_int (m := (((cd a).length) - ((((cd a).length) - ((cd b).length)) + 1))) (news := nums ((cd a).drop ((((cd a).length) - ((cd b).length)) + 1))) rfl (by kernel_rfl) (by kernel_rfl) (src_ns (c := (c - ((((cd a).length) - ((cd b).length)) + 1))) Tryz.underlying32 ((NS.drop (k := ((((cd a).length) - ((cd b).length)) + 1)) (HP.mono (fun q hq => by first | exact hq | (simp only [List.mem_cons, List.mem_append, List.nil_append, List.not_mem_nil, or_assoc, or_false, false_or] at hq ⊢ <;> grind))) hW3 hc).mono (fun q hq => by first | exact hq | (simp only [List.mem_cons, List.mem_append, List.nil_append, List.not_mem_nil, or_assoc, or_false, false_or] at hq ⊢ <;> grind))) (by simp)) (own_row (xs := (nums [])) Bg1 rfl (by omega)) (fun p hp => by cases List.mem_singleton.1 hp; exact (.head _)) (fun _ h => by cases h) (by omega) (by omega)) (fun _ => by simp only [List.setIfInBounds_toArray, List.set_cons_succ, List.set_cons_zero] <;> rfl) ?_
    rintro v2 Kl2 ⟨_, O2, N2, rfl⟩
    replace O2 : OwnL w 3 1 v2 (0 + (((cd a).length) - ((((cd a).length) - ((cd b).length)) + 1))) (nums ([] ++ ((cd a).drop ((((cd a).length) - ((cd b).length)) + 1)))) Kl2 := by rw [nums_app]; exact O2
    refine Tw.lm (v := v2) rfl rfl ?_
    refine wpL_done (fun W4 hW4 => ?_)
    refine (show Code.wp _ _ _ _ _ from ?_)
    refine wp_seq ?_
    refine wp_region_L (W0 := w) Kl2 (hW4) ?_
    refine Tw.lm (v := .slice p ((cd a).length) c) rfl rfl ?_
    refine Tw.lp (v := .int .i64 ((((cd a).length) : Nat) : Int)) rfl rfl (run_lenL (p := p) (cap := c) (n := ((cd a).length)) rfl Tryz.underlying32 (by kernel_rfl)) ?_
    refine Tw.lm (v := .int .i64 ((((cd b).length) : Nat) : Int)) rfl rfl ?_
    refine Tw.lp (v := .int .i64 (((((cd a).length) - ((cd b).length)) : Nat) : Int)) rfl rfl (run_bin rfl (vx := (.int .i64 ((((cd a).length) : Nat) : Int))) (vy := (.int .i64 ((((cd b).length) : Nat) : Int))) (by kernel_rfl) (by kernel_rfl) fun w => bn_sub (z := (((cd a).length) - ((cd b).length))) rfl (by omega) (wr_i64 (by omega)) w) ?_
    refine Tw.lp (v := .int .i64 ((((((cd a).length) - ((cd b).length)) + 1) : Nat) : Int)) rfl rfl (run_bin rfl (vx := (.int .i64 (((((cd a).length) - ((cd b).length)) : Nat) : Int))) (vy := (.int .i64 ((1 : Nat) : Int))) (by kernel_rfl) (by kernel_rfl) fun w => bn_add (z := ((((cd a).length) - ((cd b).length)) + 1)) rfl (wr_i64 (by omega)) w) ?_
    refine wpL_new (fun g => .slice (some ⟨g, 0, none⟩) ((((cd a).length) - ((cd b).length)) + 1) ((((cd a).length) - ((cd b).length)) + 1)) (obi := .cells (nums (List.replicate ((((cd a).length) - ((cd b).length)) + 1) 0)).toArray 3 (0, 0)) rfl rfl (run_mk (b := 8) rfl Tryz.underlying32 (by kernel_rfl) (by decide) (by kernel_rfl) (by kernel_rfl) (by omega)) (fun _ => by simp only [List.setIfInBounds_toArray, List.set_cons_succ, List.set_cons_zero] <;> rfl) fun g3 Bg3 Fg3 => ?_
    obtain dj4_0 : Dk g3 Kl2 := by simpa only [dj_app_l, dj_app_r, dj_cons_l, dj_cons_r, dj_nil_l, dj_nil_r, dk_app, dk_cons, dk_nil, and_true, true_and, and_assoc] using (show Dk g3 Kl2 from Fg3)
    refine Tw.lm (v := .slice (some ⟨g3, 0, none⟩) ((((cd a).length) - ((cd b).length)) + 1) ((((cd a).length) - ((cd b).length)) + 1)) rfl rfl ?_
    refine wpL_done (fun W5 hW5 => ?_)
    refine (show Code.wp _ _ _ _ _ from ?_)
    refine wp_seq ?_
    refine wp_seq ?_
    refine wp_region_L (W0 := w) ((g3, .cells (nums (List.replicate ((((cd a).length) - ((cd b).length)) + 1) 0)).toArray 3 (0, 0)) :: Kl2) (hW5) ?_
    refine Tw.lm (v := .slice p ((cd a).length) c) rfl rfl ?_
    refine Tw.lp (v := .int .i64 ((((cd a).length) : Nat) : Int)) rfl rfl (run_lenL (p := p) (cap := c) (n := ((cd a).length)) rfl Tryz.underlying32 (by kernel_rfl)) ?_
    refine Tw.lm (v := .int .i64 ((((cd b).length) : Nat) : Int)) rfl rfl ?_
    refine Tw.lp (v := .int .i64 (((((cd a).length) - ((cd b).length)) : Nat) : Int)) rfl rfl (run_bin rfl (vx := (.int .i64 ((((cd a).length) : Nat) : Int))) (vy := (.int .i64 ((((cd b).length) : Nat) : Int))) (by kernel_rfl) (by kernel_rfl) fun w => bn_sub (z := (((cd a).length) - ((cd b).length))) rfl (by omega) (wr_i64 (by omega)) w) ?_
    refine Tw.lm (v := .int .i64 (((((cd a).length) - ((cd b).length)) : Nat) : Int)) rfl rfl ?_
    refine wpL_done (fun W6 hW6 => ?_)
    refine (show Code.wp _ _ _ _ _ from ?_)
    refine wp_block ?_
    obtain ⟨p5, c5, rfl, hc5, HN5, HF5⟩ := own_ns O2
    have hD : ([] ++ ((cd a).drop (((cd a).length - (cd b).length) + 1)) : List Nat) = cd (dv ((cd a).drop (((cd a).length - (cd b).length) + 1))) := (List.nil_append _).trans (cd_drop a _)
    have hDn : (0 + (((cd a).length) - ((((cd a).length) - ((cd b).length)) + 1))) = (cd (dv ((cd a).drop (((cd a).length - (cd b).length) + 1)))).length := by rw [← cd_drop a]; simp
    rw [hDn]
    rw [hD] at HN5
    rw [hDn] at hc5
    have hst := start_lt (a := a) (b := b) (i := (((cd a).length - (cd b).length) + 1)) hb (by omega)
    go_loopw [9, 7] (fun u9 u7 wr => ∃ (z : Int) (k : Nat) (pr : Option Addr) (cr : Nat) (r : Nat) (O : List Nat) (Kt : List (Nat × Obj)), (NS (w : Base) pr (cd r) Kt) ∧ ((cd r).length ≤ cr) ∧ (z = (k : Int) - 1) ∧ (O.length = (((cd a).length - (cd b).length) + 1)) ∧ (k ≤ (((cd a).length - (cd b).length) + 1)) ∧ (r = dv ((cd a).drop k) % b) ∧ (dv (O.drop k) = dv ((cd a).drop k) / b) ∧ (dOk O) ∧ (Dk g3 Kt) ∧ u9 = .int .i64 z ∧ u7 = .slice pr ((cd r).length) cr ∧ KS w ((g3, .cells (nums O).toArray 3 (0, 0)) :: Kt) wr) (fun u9 _ _ => (intOf u9 + 1).toNat)
    case atStart => exact ⟨(((((cd a).length - (cd b).length) : Nat) : Int)), (((cd a).length - (cd b).length) + 1), p5, c5, (dv ((cd a).drop (((cd a).length - (cd b).length) + 1))), (List.replicate ((((cd a).length) - ((cd b).length)) + 1) 0), Kl2, (HN5.mono (fun q hq => by first | exact hq | (simp only [List.mem_cons, List.mem_append, List.nil_append, List.not_mem_nil, or_assoc, or_false, false_or] at hq ⊢ <;> grind))), hc5, (by omega), (by simp), (Nat.le_refl _), (Nat.mod_eq_of_lt hst).symm, (by rw [rep_drop, Nat.div_eq_of_lt hst]), (dOk.rep _), (show Dk g3 Kl2 from (by (try simp only [dj_app_l, dj_app_r, dj_cons_l, dj_cons_r, dj_nil_l, dj_nil_r, dk_app, dk_cons, dk_nil, and_true, true_and, and_assoc]); repeat' (first | trivial | assumption | exact Dj.symm (by assumption) | exact Ne.symm (by assumption) | apply And.intro))), rfl, rfl, (hW6.sub (fun p hp => by first | exact hp | (simp only [List.mem_cons, List.mem_append, List.nil_append, List.not_mem_nil, or_assoc, or_false, false_or, List.cons_append, List.append_assoc] at hp ⊢ <;> grind)))⟩
    case round =>
      obtain ⟨z, k, pr, cr, r, O, Kt, HR, hcr, hz, hOl, hk, hr, hOv, hOk, hDk, rfl, rfl, hL7⟩ := hrel
      refine wp_seq ?_
      refine wp_seq ?_
      refine wp_region_L (W0 := w) ((g3, .cells (nums O).toArray 3 (0, 0)) :: Kt) (hL7) ?_
      refine Tw.lm (v := .int .i64 z) rfl rfl ?_
      refine Tw.lp (v := .bool (!(decide (z < 0)))) rfl rfl (run_bin rfl (vx := (.int .i64 z)) (vy := (.int .i64 0)) (by kernel_rfl) (by kernel_rfl) fun w => bi_geq rfl w) ?_
      refine wpL_done (fun W8 hW8 => ?_)
      refine (show Code.wp _ _ _ _ _ from ?_)
      cases hd2 : (decide (z < 0)) with
      | false =>
        have h2 : ¬ (z < 0) := of_decide_eq_false hd2
        clear hd2
        obtain ⟨j, rfl⟩ := Int.eq_ofNat_of_zero_le (show 0 ≤ z by omega)
        obtain rfl : k = j + 1 := by omega
        have hrb : r < b := by rw [hr]; exact Nat.mod_lt _ hb
        have hrl : (cd r).length ≤ (cd b).length := cd_le.2 (Nat.lt_trans hrb (cd_hi b))
        refine wp_cond_true rfl ?_
        refine wp_skip ?_
        refine (show Code.wp _ _ _ _ _ from ?_)
        refine wp_seq ?_
        refine wp_block ?_
        refine wp_seq ?_
        refine wp_region_L (W0 := w) ((g3, .cells (nums O).toArray 3 (0, 0)) :: Kt) (hW8) ?_
        refine Tw.lm (v := .slice p ((cd a).length) c) rfl rfl ?_
        refine Tw.lm (v := .int .i64 ((j : Nat) : Int)) rfl rfl ?_
        obtain ⟨b6, f6, hp6, hc6⟩ := (HP.mono (fun q hq => by first | exact hq | (simp only [List.mem_cons, List.mem_append, List.nil_append, List.not_mem_nil, or_assoc, or_false, false_or] at hq ⊢ <;> grind))).at hW8 (k := j) (by omega)
        refine Tw.lp (v := .pointer (some ⟨b6, f6 + j * 1, none⟩)) rfl rfl (run_idxQ (p := p) (cap := c) (n := ((cd a).length)) (j := .i64) (k := j) (sz := 1) rfl Tryz.underlying32 (by kernel_rfl) (by kernel_rfl) hp6 (by kernel_rfl) (by omega)) ?_
        obtain ⟨x7, hx7⟩ : ∃ x, ((cd a) : List Nat)[j]? = some x := ⟨_, List.getElem?_eq_getElem (by omega)⟩
        have lx7 : x7 < 65536 := dOk.at (cd_ok a) hx7
        refine Tw.lv (v := .int .i64 ((x7 : Nat) : Int)) rfl rfl (yb_ns (off := f6 + j * 1) rfl (by kernel_rfl) (fun W hW => hc6 W (hW.sub (fun q hq => by first | exact hq | (simp only [List.mem_cons, List.mem_append, List.nil_append, List.not_mem_nil, or_assoc, or_false, false_or] at hq ⊢ <;> grind))) _ _ hx7) Tryz.underlying3 rfl) ?_
        refine wpL_new (fun g => .slice (some ⟨g, 0, none⟩) 1 1) (obi := .cells #[.int .i64 ((x7 : Nat) : Int)] 3 (0, 0)) rfl rfl (fun _ => by kernel_rfl) (fun _ => by simp only [List.setIfInBounds_toArray, List.set_cons_succ, List.set_cons_zero] <;> rfl) fun g8 Bg8 Fg8 => ?_
        obtain ⟨dj9_0, dj9_1⟩ : g3 ≠ g8 ∧ Dk g8 Kt := by simpa only [dj_app_l, dj_app_r, dj_cons_l, dj_cons_r, dj_nil_l, dj_nil_r, dk_app, dk_cons, dk_nil, and_true, true_and, and_assoc] using (show Dk g8 ((g3, .cells (nums O).toArray 3 (0, 0)) :: Kt) from Fg8)
        refine Tw.lm (v := .slice pr ((cd r).length) cr) rfl rfl ?_
        refine wpL_g (AppO w 3 1 ((g3, .cells (nums O).toArray 3 (0, 0)) :: Kt) (1 + ((cd r).length)) ((nums [x7]) ++ nums (cd r))) rfl rfl (app_any el_int (m := ((cd r).length)) (news := nums (cd r)) rfl (by kernel_rfl) (by kernel_rfl) (src_ns (c := cr) Tryz.underlying32 (HR.mono (fun q hq => by first | exact hq | (simp only [List.mem_cons, List.mem_append, List.nil_append, List.not_mem_nil, or_assoc, or_false, false_or] at hq ⊢ <;> grind))) rfl) (own_row (xs := (nums [x7])) Bg8 rfl (by omega)) (fun p hp => by cases List.mem_singleton.1 hp; exact (.head _)) (fun p hp => ⟨by simp only [List.mem_cons, List.mem_append, List.nil_append, List.not_mem_nil, or_assoc, or_false, false_or] at hp ⊢ <;> grind, (show Dj ((g3, .cells (nums O).toArray 3 (0, 0)) :: Kt) [(g8, .cells #[.int .i64 ((x7 : Nat) : Int)] 3 (0, 0))] from (by (try simp only [dj_app_l, dj_app_r, dj_cons_l, dj_cons_r, dj_nil_l, dj_nil_r, dk_app, dk_cons, dk_nil, and_true, true_and, and_assoc]); repeat' (first | trivial | assumption | exact Dj.symm (by assumption) | exact Ne.symm (by assumption) | apply And.intro))) p hp⟩) (by omega) (by omega)) (fun _ => by simp only [List.setIfInBounds_toArray, List.set_cons_succ, List.set_cons_zero] <;> rfl) ?_
        rintro v10 K9 ⟨Kl10, O10, N10, rfl⟩
        replace O10 : OwnL w 3 1 v10 (1 + ((cd r).length)) (nums ([x7] ++ (cd r))) Kl10 := by rw [nums_app]; exact O10
        obtain ⟨dj11_0, dj11_1⟩ : Dk g3 Kl10 ∧ Dj Kt Kl10 := by simpa only [dj_app_l, dj_app_r, dj_cons_l, dj_cons_r, dj_nil_l, dj_nil_r, dk_app, dk_cons, dk_nil, and_true, true_and, and_assoc] using (show Dj ((g3, .cells (nums O).toArray 3 (0, 0)) :: Kt) Kl10 from N10)
        obtain ⟨p12, c12, rfl, hc12, HN12, HF12⟩ := own_ns O10
        obtain ⟨y, hy⟩ : ∃ y, y = x7 + 65536 * r := ⟨_, rfl⟩
        have hyl : (cd y).length ≤ (cd b).length - 1 + 2 := by rw [hy]; exact div_x lx7 hrb rfl hl0
        have hq : y / b < 65536 := by rw [hy]; exact quo_lt hb lx7 hrb
        refine Tw.lv (v := .slice p12 ((cd y).length) c12) rfl rfl (yb_call (f := 81) (args := #[.slice p12 (1 + ((cd r).length)) c12]) (fun _ => by kernel_rfl) fun W hW => trim_any ([x7] ++ (cd r)) y (1 + ((cd r).length)) p12 c12 ((show dOk [x7] from fun z hz => by cases List.mem_singleton.1 hz; exact lx7).app (cd_ok r)) ((dv_cons x7 r).trans hy.symm) (own_len O10).symm hc12 (by omega) W ((HN12.mono (fun q hq => by first | exact hq | (simp only [List.mem_cons, List.mem_append, List.nil_append, List.not_mem_nil, or_assoc, or_false, false_or] at hq ⊢ <;> grind))) W hW)) ?_
        refine Tw.lm (v := .slice p12 ((cd y).length) c12) rfl rfl ?_
        refine wpL_done (fun W9 hW9 => ?_)
        refine (show Code.wp _ _ _ _ _ from ?_)
        refine wp_seq ?_
        refine wp_region_L (W0 := w) ((g3, .cells (nums O).toArray 3 (0, 0)) :: (Kt ++ Kl10)) (hW9) ?_
        refine Tw.lm (v := .int .i64 0) rfl rfl ?_
        refine wpL_done (fun W10 hW10 => ?_)
        refine (show Code.wp _ _ _ _ _ from ?_)
        refine wp_seq ?_
        refine wp_seq ?_
        refine wp_region_L (W0 := w) ((g3, .cells (nums O).toArray 3 (0, 0)) :: (Kt ++ Kl10)) (hW10) ?_
        refine Tw.lm (v := .slice p12 ((cd y).length) c12) rfl rfl ?_
        refine Tw.lp (v := .int .i64 ((((cd y).length) : Nat) : Int)) rfl rfl (run_lenL (p := p12) (cap := c12) (n := ((cd y).length)) rfl Tryz.underlying32 (by kernel_rfl)) ?_
        refine Tw.lp (v := .int .i64 (((((cd y).length) : Nat) : Int) - 1)) rfl rfl (run_bin rfl (vx := (.int .i64 ((((cd y).length) : Nat) : Int))) (vy := (.int .i64 ((1 : Nat) : Int))) (by kernel_rfl) (by kernel_rfl) fun w => bi_sub (z := (((((cd y).length) : Nat) : Int) - 1)) rfl (wi_i64 (by omega)) w) ?_
        refine Tw.lm (v := .int .i64 (((((cd y).length) : Nat) : Int) - 1)) rfl rfl ?_
        refine wpL_done (fun W11 hW11 => ?_)
        refine (show Code.wp _ _ _ _ _ from ?_)
        refine wp_block ?_
        go_loopw [10, 11] (fun u10 u11 wr => ∃ (tp : Nat) (z2 : Int) (k2 : Nat), (z2 = (k2 : Int) - 1) ∧ (k2 ≤ (cd y).length) ∧ (tp = dv ((cd y).drop k2)) ∧ (((cd b).length - 1 ≤ k2 ∨ k2 = (cd y).length)) ∧ u10 = .int .i64 ((tp : Nat) : Int) ∧ u11 = .int .i64 z2 ∧ KS w ((g3, .cells (nums O).toArray 3 (0, 0)) :: (Kt ++ Kl10)) wr) (fun _ u11 _ => (intOf u11 + 1).toNat)
        case atStart => exact ⟨0, ((((cd y).length : Nat) : Int) - 1), (cd y).length, rfl, (Nat.le_refl _), (drop_big (Nat.le_refl _)).symm, (.inr rfl), rfl, rfl, (hW11.sub (fun p hp => by first | exact hp | (simp only [List.mem_cons, List.mem_append, List.nil_append, List.not_mem_nil, or_assoc, or_false, false_or, List.cons_append, List.append_assoc] at hp ⊢ <;> grind)))⟩
        case round =>
          obtain ⟨tp, z2, k2, hz2, hk2, htp, hkk, rfl, rfl, hL12⟩ := hrel
          refine wp_seq ?_
          refine wp_seq ?_
          refine wp_region_L (W0 := w) ((g3, .cells (nums O).toArray 3 (0, 0)) :: (Kt ++ Kl10)) (hL12) ?_
          refine Tw.lm (v := .int .i64 z2) rfl rfl ?_
          refine Tw.lm (v := .int .i64 ((((cd b).length) : Nat) : Int)) rfl rfl ?_
          refine Tw.lp (v := .int .i64 (((((cd b).length) : Nat) : Int) - 1)) rfl rfl (run_bin rfl (vx := (.int .i64 ((((cd b).length) : Nat) : Int))) (vy := (.int .i64 ((1 : Nat) : Int))) (by kernel_rfl) (by kernel_rfl) fun w => bi_sub (z := (((((cd b).length) : Nat) : Int) - 1)) rfl (wi_i64 (by omega)) w) ?_
          refine Tw.lp (v := .bool (!(decide (z2 < (((((cd b).length) : Nat) : Int) - 1))))) rfl rfl (run_bin rfl (vx := (.int .i64 z2)) (vy := (.int .i64 (((((cd b).length) : Nat) : Int) - 1))) (by kernel_rfl) (by kernel_rfl) fun w => bi_geq rfl w) ?_
          refine wpL_done (fun W13 hW13 => ?_)
          refine (show Code.wp _ _ _ _ _ from ?_)
          cases hd3 : (decide (z2 < (((((cd b).length) : Nat) : Int) - 1))) with
          | false =>
            have h3 : ¬ (z2 < (((((cd b).length) : Nat) : Int) - 1)) := of_decide_eq_false hd3
            clear hd3
            obtain ⟨j2, rfl⟩ := Int.eq_ofNat_of_zero_le (show 0 ≤ z2 by omega)
            obtain rfl : k2 = j2 + 1 := by omega
            have htb : tp < 65536 := by rw [htp]; exact drop_lt (cd_ok y) (j2 + 1) 1 (by omega)
            refine wp_cond_true rfl ?_
            refine wp_skip ?_
            refine (show Code.wp _ _ _ _ _ from ?_)
            refine wp_seq ?_
            refine wp_block ?_
            refine wp_region_L (W0 := w) ((g3, .cells (nums O).toArray 3 (0, 0)) :: (Kt ++ Kl10)) (hW13) ?_
            refine Tw.lm (v := .int .i64 ((tp : Nat) : Int)) rfl rfl ?_
            refine Tw.lp (v := .int .i64 (((tp * 65536) : Nat) : Int)) rfl rfl (run_bin rfl (vx := (.int .i64 ((tp : Nat) : Int))) (vy := (.int .i64 ((65536 : Nat) : Int))) (by kernel_rfl) (by kernel_rfl) fun w => bn_mul (z := (tp * 65536)) rfl (wr_i64 (by omega)) w) ?_
            refine Tw.lm (v := .slice p12 ((cd y).length) c12) rfl rfl ?_
            refine Tw.lm (v := .int .i64 ((j2 : Nat) : Int)) rfl rfl ?_
            obtain ⟨b13, f13, hp13, hc13⟩ := ((ns_trim HN12 ((show dOk [x7] from fun z hz => by cases List.mem_singleton.1 hz; exact lx7).app (cd_ok r)) ((dv_cons x7 r).trans hy.symm)).mono (fun q hq => by first | exact hq | (simp only [List.mem_cons, List.mem_append, List.nil_append, List.not_mem_nil, or_assoc, or_false, false_or] at hq ⊢ <;> grind))).at hW13 (k := j2) (by omega)
            refine Tw.lp (v := .pointer (some ⟨b13, f13 + j2 * 1, none⟩)) rfl rfl (run_idxQ (p := p12) (cap := c12) (n := ((cd y).length)) (j := .i64) (k := j2) (sz := 1) rfl Tryz.underlying32 (by kernel_rfl) (by kernel_rfl) hp13 (by kernel_rfl) (by omega)) ?_
            obtain ⟨x14, hx14⟩ : ∃ x, ((cd y) : List Nat)[j2]? = some x := ⟨_, List.getElem?_eq_getElem (by omega)⟩
            have lx14 : x14 < 65536 := dOk.at (cd_ok y) hx14
            refine Tw.lv (v := .int .i64 ((x14 : Nat) : Int)) rfl rfl (yb_ns (off := f13 + j2 * 1) rfl (by kernel_rfl) (fun W hW => hc13 W (hW.sub (fun q hq => by first | exact hq | (simp only [List.mem_cons, List.mem_append, List.nil_append, List.not_mem_nil, or_assoc, or_false, false_or] at hq ⊢ <;> grind))) _ _ hx14) Tryz.underlying3 rfl) ?_
            refine Tw.lp (v := .int .i64 ((((tp * 65536) + x14) : Nat) : Int)) rfl rfl (run_bin rfl (vx := (.int .i64 (((tp * 65536) : Nat) : Int))) (vy := (.int .i64 ((x14 : Nat) : Int))) (by kernel_rfl) (by kernel_rfl) fun w => bn_add (z := ((tp * 65536) + x14)) rfl (wr_i64 (by omega)) w) ?_
            refine Tw.lm (v := .int .i64 ((((tp * 65536) + x14) : Nat) : Int)) rfl rfl ?_
            refine wpL_done (fun W14 hW14 => ?_)
            refine (show Code.wp _ _ _ _ _ from ?_)
            refine wp_region_L (W0 := w) ((g3, .cells (nums O).toArray 3 (0, 0)) :: (Kt ++ Kl10)) (hW14) ?_
            refine Tw.lm (v := .int .i64 ((j2 : Nat) : Int)) rfl rfl ?_
            refine Tw.lp (v := .int .i64 (((j2 : Nat) : Int) - 1)) rfl rfl (run_bin rfl (vx := (.int .i64 ((j2 : Nat) : Int))) (vy := (.int .i64 ((1 : Nat) : Int))) (by kernel_rfl) (by kernel_rfl) fun w => bi_sub (z := (((j2 : Nat) : Int) - 1)) rfl (wi_i64 (by omega)) w) ?_
            refine Tw.lm (v := .int .i64 (((j2 : Nat) : Int) - 1)) rfl rfl ?_
            refine wpL_done (fun W15 hW15 => ?_)
            go_roundw
            case rel =>
              repeat apply Exists.intro
              exact ⟨⟨((tp * 65536) + x14), (((j2 : Nat) : Int) - 1), j2, rfl, (by omega), (by have e := dv_drop hx14; rw [← htp] at e; omega), (.inl (by omega)), rfl, rfl, (hW15.sub (fun p hp => by first | exact hp | (simp only [List.mem_cons, List.mem_append, List.nil_append, List.not_mem_nil, or_assoc, or_false, false_or, List.cons_append, List.append_assoc] at hp ⊢ <;> grind)))⟩, rfl⟩
            case measure => (show (intOf (.int .i64 (((j2 : Nat) : Int) - 1)) + 1).toNat < (intOf (.int .i64 ((j2 : Nat) : Int)) + 1).toNat); simp only [intOf]; omega
          | true =>
            have h3 : z2 < (((((cd b).length) : Nat) : Int) - 1) := of_decide_eq_true hd3
            clear hd3
            refine wp_cond_false rfl ?_
            refine wp_exit ?_
            refine (show Code.wp _ _ _ _ _ from ?_)
            refine wp_seq ?_
            have htop : tp = y / 65536 ^ ((cd b).length - 1) := by
              refine top_val hyl ?_
              rcases hkk with h | h
              · rw [htp, show k2 = (cd b).length - 1 from by omega]
              · rcases Nat.lt_or_ge k2 ((cd b).length - 1) with h3 | h3
                · rw [htp, drop_big (Nat.le_of_eq h.symm), drop_big (by omega)]
                · rw [htp, show k2 = (cd b).length - 1 from by omega]
            have htb2 : tp < 4294967296 := by rw [htp]; exact drop_lt (cd_ok y) k2 2 (by omega)
            obtain ⟨x15, hx15⟩ : ∃ x, ((cd b) : List Nat)[(((cd b).length) - 1)]? = some x := ⟨_, List.getElem?_eq_getElem (by omega)⟩
            have lx15 : x15 < 65536 := dOk.at (cd_ok b) hx15
            have hd1 : tp / (x15 + 1) ≤ tp := Nat.div_le_self _ _
            have hd2 : tp / x15 ≤ tp := Nat.div_le_self _ _
            have ht0 : 0 < x15 := (top_digit (n := (cd b).length - 1) (by omega) hx15).1
            refine wp_region_V (W0 := w) ((g3, .cells (nums O).toArray 3 (0, 0)) :: (Kt ++ Kl10)) (by kernel_rfl) (hW13) ?_
            refine vm (i := 0) (v := .int .i64 ((tp : Nat) : Int)) rfl rfl rfl ?_
            refine vm (i := 1) (v := .slice q ((cd b).length) d) rfl rfl rfl ?_
            refine vm (i := 2) (v := .int .i64 ((((cd b).length) : Nat) : Int)) rfl rfl rfl ?_
            refine vp (i := 3) (v := .int .i64 (((((cd b).length) - 1) : Nat) : Int)) rfl rfl rfl (run_bin rfl (vx := (.int .i64 ((((cd b).length) : Nat) : Int))) (vy := (.int .i64 ((1 : Nat) : Int))) (by kernel_rfl) (by kernel_rfl) fun w => bn_sub (z := (((cd b).length) - 1)) rfl (by omega) (wr_i64 (by omega)) w) ?_
            obtain ⟨b16, f16, hp16, hc16⟩ := (HQ.mono (fun q hq => by first | exact hq | (simp only [List.mem_cons, List.mem_append, List.nil_append, List.not_mem_nil, or_assoc, or_false, false_or] at hq ⊢ <;> grind))).at hW13 (k := (((cd b).length) - 1)) (by omega)
            refine vp (i := 4) (v := .pointer (some ⟨b16, f16 + (((cd b).length) - 1) * 1, none⟩)) rfl rfl rfl (run_idxQ (p := q) (cap := d) (n := ((cd b).length)) (j := .i64) (k := (((cd b).length) - 1)) (sz := 1) rfl Tryz.underlying32 (by kernel_rfl) (by kernel_rfl) hp16 (by kernel_rfl) (by omega)) ?_
            refine vv (i := 5) (v := .int .i64 ((x15 : Nat) : Int)) rfl rfl rfl (yb_ns (off := f16 + (((cd b).length) - 1) * 1) rfl (by kernel_rfl) (fun W hW => hc16 W (hW.sub (fun q hq => by first | exact hq | (simp only [List.mem_cons, List.mem_append, List.nil_append, List.not_mem_nil, or_assoc, or_false, false_or] at hq ⊢ <;> grind))) _ _ hx15) Tryz.underlying3 rfl) ?_
            refine vp (i := 6) (v := .int .i64 (((x15 + 1) : Nat) : Int)) rfl rfl rfl (run_bin rfl (vx := (.int .i64 ((x15 : Nat) : Int))) (vy := (.int .i64 ((1 : Nat) : Int))) (by kernel_rfl) (by kernel_rfl) fun w => bn_add (z := (x15 + 1)) rfl (wr_i64 (by omega)) w) ?_
            refine vp (i := 7) (v := .int .i64 (((tp / (x15 + 1)) : Nat) : Int)) rfl rfl rfl (run_bin rfl (vx := (.int .i64 ((tp : Nat) : Int))) (vy := (.int .i64 (((x15 + 1) : Nat) : Int))) (by kernel_rfl) (by kernel_rfl) fun w => bn_quo (z := (tp / (x15 + 1))) rfl (by omega) (wr_i64 (by omega)) w) ?_
            refine vm (i := 8) (v := .int .i64 ((tp : Nat) : Int)) rfl rfl rfl ?_
            refine vm (i := 9) (v := .slice q ((cd b).length) d) rfl rfl rfl ?_
            refine vm (i := 10) (v := .int .i64 ((((cd b).length) : Nat) : Int)) rfl rfl rfl ?_
            refine vp (i := 11) (v := .int .i64 (((((cd b).length) - 1) : Nat) : Int)) rfl rfl rfl (run_bin rfl (vx := (.int .i64 ((((cd b).length) : Nat) : Int))) (vy := (.int .i64 ((1 : Nat) : Int))) (by kernel_rfl) (by kernel_rfl) fun w => bn_sub (z := (((cd b).length) - 1)) rfl (by omega) (wr_i64 (by omega)) w) ?_
            refine vp (i := 12) (v := .pointer (some ⟨b16, f16 + (((cd b).length) - 1) * 1, none⟩)) rfl rfl rfl (run_idxQ (p := q) (cap := d) (n := ((cd b).length)) (j := .i64) (k := (((cd b).length) - 1)) (sz := 1) rfl Tryz.underlying32 (by kernel_rfl) (by kernel_rfl) hp16 (by kernel_rfl) (by omega)) ?_
            refine vv (i := 13) (v := .int .i64 ((x15 : Nat) : Int)) rfl rfl rfl (yb_ns (off := f16 + (((cd b).length) - 1) * 1) rfl (by kernel_rfl) (fun W hW => hc16 W (hW.sub (fun q hq => by first | exact hq | (simp only [List.mem_cons, List.mem_append, List.nil_append, List.not_mem_nil, or_assoc, or_false, false_or] at hq ⊢ <;> grind))) _ _ hx15) Tryz.underlying3 rfl) ?_
            refine vp (i := 14) (v := .int .i64 (((tp / x15) : Nat) : Int)) rfl rfl rfl (run_bin rfl (vx := (.int .i64 ((tp : Nat) : Int))) (vy := (.int .i64 ((x15 : Nat) : Int))) (by kernel_rfl) (by kernel_rfl) fun w => bn_quo (z := (tp / x15)) rfl (by omega) (wr_i64 (by omega)) w) ?_
            refine vp (i := 15) (v := .int .i64 (((min (tp / x15) 65535) : Nat) : Int)) rfl rfl rfl (run_minN rfl (x := (tp / x15)) (y := 65535) (by kernel_rfl) (by kernel_rfl)) ?_
            refine vm (i := 16) (v := .int .i64 (((tp / (x15 + 1)) : Nat) : Int)) rfl rfl rfl ?_
            refine vm (i := 17) (v := .int .i64 (((min (tp / x15) 65535) : Nat) : Int)) rfl rfl rfl ?_
            refine wpV_done (by kernel_rfl) (fun W16 hW16 => ?_) _
            refine (show Code.wp _ _ _ _ _ from ?_)
            refine wp_seq ?_
            refine wp_block ?_
            obtain ⟨hlo0, hhi0, ht0⟩ := div_bounds (x := y) rfl hl0 hx15 (lo := (tp / (x15 + 1))) (hi := (min (tp / x15) 65535)) (by rw [← htop]) (by rw [← htop]) hq hb
            go_loopw [12, 13] (fun u12 u13 wr => ∃ (lo hi : Nat), (lo ≤ y / b) ∧ (y / b ≤ hi) ∧ (hi ≤ 65535) ∧ u12 = .int .i64 ((lo : Nat) : Int) ∧ u13 = .int .i64 ((hi : Nat) : Int) ∧ KS w ((g3, .cells (nums O).toArray 3 (0, 0)) :: (Kt ++ Kl10)) wr) (fun u12 u13 _ => (intOf u13 - intOf u12).toNat)
            case atStart => exact ⟨(tp / (x15 + 1)), (min (tp / x15) 65535), hlo0, hhi0, (by omega), rfl, rfl, (hW16.sub (fun p hp => by first | exact hp | (simp only [List.mem_cons, List.mem_append, List.nil_append, List.not_mem_nil, or_assoc, or_false, false_or, List.cons_append, List.append_assoc] at hp ⊢ <;> grind)))⟩
            case round =>
              obtain ⟨lo, hi, hlo, hhi, hh, rfl, rfl, hL17⟩ := hrel
              refine wp_seq ?_
              refine wp_seq ?_
              refine wp_region_L (W0 := w) ((g3, .cells (nums O).toArray 3 (0, 0)) :: (Kt ++ Kl10)) (hL17) ?_
              refine Tw.lm (v := .int .i64 ((lo : Nat) : Int)) rfl rfl ?_
              refine Tw.lm (v := .int .i64 ((hi : Nat) : Int)) rfl rfl ?_
              refine Tw.lp (v := .bool (decide (lo < hi))) rfl rfl (run_bin rfl (vx := (.int .i64 ((lo : Nat) : Int))) (vy := (.int .i64 ((hi : Nat) : Int))) (by kernel_rfl) (by kernel_rfl) fun w => bn_lss rfl w) ?_
              refine wpL_done (fun W18 hW18 => ?_)
              refine (show Code.wp _ _ _ _ _ from ?_)
              cases hd4 : (decide (lo < hi)) with
              | false =>
                have h4 : ¬ (lo < hi) := of_decide_eq_false hd4
                clear hd4
                refine wp_cond_false rfl ?_
                refine wp_exit ?_
                refine (show Code.wp _ _ _ _ _ from ?_)
                refine wp_seq ?_
                refine wp_region_L (W0 := w) ((g3, .cells (nums O).toArray 3 (0, 0)) :: (Kt ++ Kl10)) (hW18) ?_
                refine Tw.lm (v := .slice (some ⟨g3, 0, none⟩) ((((cd a).length) - ((cd b).length)) + 1) ((((cd a).length) - ((cd b).length)) + 1)) rfl rfl ?_
                refine Tw.lm (v := .int .i64 ((j : Nat) : Int)) rfl rfl ?_
                refine Tw.lm (v := .int .i64 ((lo : Nat) : Int)) rfl rfl ?_
                refine Tw.lp (v := .pointer (some ⟨g3, 0 + j * 1, none⟩)) rfl rfl (run_idxL (j := .i64) (n := ((((cd a).length) - ((cd b).length)) + 1)) (cap := ((((cd a).length) - ((cd b).length)) + 1)) (b := g3) (off := 0) (k := j) (sz := 1) rfl Tryz.underlying32 (by kernel_rfl) (by kernel_rfl) (by kernel_rfl) (by omega)) ?_
                refine wpL_s ((g3, .cells (nums (O.set j lo)).toArray 3 (0, 0)) :: (Kt ++ Kl10)) rfl rfl (st_to (off := 0 + j * 1) (nums_set O j lo) rfl (by kernel_rfl) (by kernel_rfl) (.head _) Bg3 (by kernel_rfl) rfl rfl (by simp only [List.size_toArray, nums_len]; omega) (.inr rfl) (List.forall_mem_cons.2 ⟨.inl rfl, (fun p hp => .inr ⟨(.tail _ hp), ((show Dk g3 (Kt ++ Kl10) from (by (try simp only [dj_app_l, dj_app_r, dj_cons_l, dj_cons_r, dj_nil_l, dj_nil_r, dk_app, dk_cons, dk_nil, and_true, true_and, and_assoc]); repeat' (first | trivial | assumption | exact Dj.symm (by assumption) | exact Ne.symm (by assumption) | apply And.intro))) _ hp)⟩)⟩)) ?_
                refine wpL_done (fun W19 hW19 => ?_)
                refine (show Code.wp _ _ _ _ _ from ?_)
                refine wp_region_L (W0 := w) ((g3, .cells (nums (O.set j lo)).toArray 3 (0, 0)) :: (Kt ++ Kl10)) (hW19) ?_
                refine Tw.lm (v := .slice p12 ((cd y).length) c12) rfl rfl ?_
                refine Tw.lm (v := .slice q ((cd b).length) d) rfl rfl ?_
                refine Tw.lm (v := .int .i64 ((lo : Nat) : Int)) rfl rfl ?_
                refine wpL_c (f := 82) (args := #[.slice q ((cd b).length) d, .int .i64 ((lo : Nat) : Int)]) (AnsG w ((g3, .cells (nums (O.set j lo)).toArray 3 (0, 0)) :: (Kt ++ Kl10)) (cd (b * lo))) rfl (by kernel_rfl) (fun _ => (by kernel_rfl)) (fun W hW => (scale_any b lo q d (by omega) (by omega) W ((HQ.mono (fun q hq => by first | exact hq | (simp only [List.mem_cons, List.mem_append, List.nil_append, List.not_mem_nil, or_assoc, or_false, false_or] at hq ⊢ <;> grind))) W hW)).mono fun e w2 h => Ans.g h hW) (fun _ => by simp only [List.setIfInBounds_toArray, List.set_cons_succ, List.set_cons_zero] <;> rfl) ?_
                rintro v17 _ ⟨q17, d17, T17, rfl, C17, H17, F17, J17, rfl⟩
                obtain ⟨dj18_0, dj18_1, dj18_2⟩ : Dk g3 T17 ∧ Dj Kt T17 ∧ Dj Kl10 T17 := by simpa only [dj_app_l, dj_app_r, dj_cons_l, dj_cons_r, dj_nil_l, dj_nil_r, dk_app, dk_cons, dk_nil, and_true, true_and, and_assoc] using (show Dj ((g3, .cells (nums (O.set j lo)).toArray 3 (0, 0)) :: (Kt ++ Kl10)) T17 from J17)
                have hlq : lo = y / b := by omega
                refine wpL_c (f := 48) (args := #[.slice p12 ((cd y).length) c12, .slice q17 ((cd (b * lo)).length) d17]) (AnsG w ((g3, .cells (nums (O.set j lo)).toArray 3 (0, 0)) :: ((Kt ++ Kl10) ++ T17)) (cd (y - (b * lo)))) rfl (by kernel_rfl) (fun _ => (by kernel_rfl)) (fun W hW => (sub_any y (b * lo) p12 q17 c12 d17 (by rw [hlq]; exact Nat.mul_div_le y b) (by omega) W (((ns_trim HN12 ((show dOk [x7] from fun z hz => by cases List.mem_singleton.1 hz; exact lx7).app (cd_ok r)) ((dv_cons x7 r).trans hy.symm)).mono (fun q hq => by first | exact hq | (simp only [List.mem_cons, List.mem_append, List.nil_append, List.not_mem_nil, or_assoc, or_false, false_or] at hq ⊢ <;> grind))) W hW) ((H17.mono (fun q hq => by first | exact hq | (simp only [List.mem_cons, List.mem_append, List.nil_append, List.not_mem_nil, or_assoc, or_false, false_or] at hq ⊢ <;> grind))) W hW)).mono fun e w2 h => Ans.g h hW) (fun _ => by simp only [List.setIfInBounds_toArray, List.set_cons_succ, List.set_cons_zero] <;> rfl) ?_
                rintro v19 _ ⟨q19, d19, T19, rfl, C19, H19, F19, J19, rfl⟩
                obtain ⟨dj20_0, dj20_1, dj20_2, dj20_3⟩ : Dk g3 T19 ∧ Dj Kt T19 ∧ Dj Kl10 T19 ∧ Dj T17 T19 := by simpa only [dj_app_l, dj_app_r, dj_cons_l, dj_cons_r, dj_nil_l, dj_nil_r, dk_app, dk_cons, dk_nil, and_true, true_and, and_assoc] using (show Dj ((g3, .cells (nums (O.set j lo)).toArray 3 (0, 0)) :: ((Kt ++ Kl10) ++ T17)) T19 from J19)
                refine Tw.lm (v := .slice q19 ((cd (y - (b * lo))).length) d19) rfl rfl ?_
                refine wpL_done (fun W20 hW20 => ?_)
                refine (show Code.wp _ _ _ _ _ from ?_)
                refine wp_region_L (W0 := w) ((g3, .cells (nums (O.set j lo)).toArray 3 (0, 0)) :: (((Kt ++ Kl10) ++ T17) ++ T19)) (hW20) ?_
                refine Tw.lm (v := .int .i64 ((j : Nat) : Int)) rfl rfl ?_
                refine Tw.lp (v := .int .i64 (((j : Nat) : Int) - 1)) rfl rfl (run_bin rfl (vx := (.int .i64 ((j : Nat) : Int))) (vy := (.int .i64 ((1 : Nat) : Int))) (by kernel_rfl) (by kernel_rfl) fun w => bi_sub (z := (((j : Nat) : Int) - 1)) rfl (wi_i64 (by omega)) w) ?_
                refine Tw.lm (v := .int .i64 (((j : Nat) : Int) - 1)) rfl rfl ?_
                refine wpL_done (fun W21 hW21 => ?_)
                go_roundw
                case rel =>
                  repeat apply Exists.intro
                  exact ⟨⟨(((j : Nat) : Int) - 1), j, q19, d19, (y - (b * lo)), (O.set j lo), (Kt ++ (Kl10 ++ (T17 ++ T19))), (H19.mono (fun q hq => by first | exact hq | (simp only [List.mem_cons, List.mem_append, List.nil_append, List.not_mem_nil, or_assoc, or_false, false_or] at hq ⊢ <;> grind))), C19, rfl, (by simpa using hOl), (by omega), (by rw [hy]; exact (quo_digit hx7 hr hb (show lo = _ from by rw [← hy]; omega) (by omega) hOv).2), (quo_digit hx7 hr hb (show lo = _ from by rw [← hy]; omega) (by omega) hOv).1, (hOk.set (by omega)), (show Dk g3 (Kt ++ (Kl10 ++ (T17 ++ T19))) from (by (try simp only [dj_app_l, dj_app_r, dj_cons_l, dj_cons_r, dj_nil_l, dj_nil_r, dk_app, dk_cons, dk_nil, and_true, true_and, and_assoc]); repeat' (first | trivial | assumption | exact Dj.symm (by assumption) | exact Ne.symm (by assumption) | apply And.intro))), rfl, rfl, (hW21.sub (fun p hp => by first | exact hp | (simp only [List.mem_cons, List.mem_append, List.nil_append, List.not_mem_nil, or_assoc, or_false, false_or, List.cons_append, List.append_assoc] at hp ⊢ <;> grind)))⟩, rfl⟩
                case measure => (show (intOf (.int .i64 (((j : Nat) : Int) - 1)) + 1).toNat < (intOf (.int .i64 ((j : Nat) : Int)) + 1).toNat); simp only [intOf]; omega
              | true =>
                have h4 : lo < hi := of_decide_eq_true hd4
                clear hd4
                refine wp_cond_true rfl ?_
                refine wp_skip ?_
                refine (show Code.wp _ _ _ _ _ from ?_)
                refine wp_block ?_
                refine wp_seq ?_
                refine wp_region_L (W0 := w) ((g3, .cells (nums O).toArray 3 (0, 0)) :: (Kt ++ Kl10)) (hW18) ?_
                refine Tw.lm (v := .int .i64 ((lo : Nat) : Int)) rfl rfl ?_
                refine Tw.lm (v := .int .i64 ((hi : Nat) : Int)) rfl rfl ?_
                refine Tw.lp (v := .int .i64 (((lo + hi) : Nat) : Int)) rfl rfl (run_bin rfl (vx := (.int .i64 ((lo : Nat) : Int))) (vy := (.int .i64 ((hi : Nat) : Int))) (by kernel_rfl) (by kernel_rfl) fun w => bn_add (z := (lo + hi)) rfl (wr_i64 (by omega)) w) ?_
                refine Tw.lp (v := .int .i64 ((((lo + hi) + 1) : Nat) : Int)) rfl rfl (run_bin rfl (vx := (.int .i64 (((lo + hi) : Nat) : Int))) (vy := (.int .i64 ((1 : Nat) : Int))) (by kernel_rfl) (by kernel_rfl) fun w => bn_add (z := ((lo + hi) + 1)) rfl (wr_i64 (by omega)) w) ?_
                refine Tw.lp (v := .int .i64 (((((lo + hi) + 1) / 2) : Nat) : Int)) rfl rfl (run_bin rfl (vx := (.int .i64 ((((lo + hi) + 1) : Nat) : Int))) (vy := (.int .i64 ((2 : Nat) : Int))) (by kernel_rfl) (by kernel_rfl) fun w => bn_quo (z := (((lo + hi) + 1) / 2)) rfl (by omega) (wr_i64 (by omega)) w) ?_
                refine Tw.lm (v := .int .i64 (((((lo + hi) + 1) / 2) : Nat) : Int)) rfl rfl ?_
                refine wpL_done (fun W22 hW22 => ?_)
                refine (show Code.wp _ _ _ _ _ from ?_)
                refine wp_seq ?_
                refine wp_region_L (W0 := w) ((g3, .cells (nums O).toArray 3 (0, 0)) :: (Kt ++ Kl10)) (hW22) ?_
                refine Tw.lm (v := .slice p12 ((cd y).length) c12) rfl rfl ?_
                refine Tw.lm (v := .slice q ((cd b).length) d) rfl rfl ?_
                refine Tw.lm (v := .int .i64 (((((lo + hi) + 1) / 2) : Nat) : Int)) rfl rfl ?_
                refine wpL_c (f := 82) (args := #[.slice q ((cd b).length) d, .int .i64 (((((lo + hi) + 1) / 2) : Nat) : Int)]) (AnsG w ((g3, .cells (nums O).toArray 3 (0, 0)) :: (Kt ++ Kl10)) (cd (b * (((lo + hi) + 1) / 2)))) rfl (by kernel_rfl) (fun _ => (by kernel_rfl)) (fun W hW => (scale_any b (((lo + hi) + 1) / 2) q d (by omega) (by omega) W ((HQ.mono (fun q hq => by first | exact hq | (simp only [List.mem_cons, List.mem_append, List.nil_append, List.not_mem_nil, or_assoc, or_false, false_or] at hq ⊢ <;> grind))) W hW)).mono fun e w2 h => Ans.g h hW) (fun _ => by simp only [List.setIfInBounds_toArray, List.set_cons_succ, List.set_cons_zero] <;> rfl) ?_
                rintro v21 _ ⟨q21, d21, T21, rfl, C21, H21, F21, J21, rfl⟩
                obtain ⟨dj22_0, dj22_1, dj22_2⟩ : Dk g3 T21 ∧ Dj Kt T21 ∧ Dj Kl10 T21 := by simpa only [dj_app_l, dj_app_r, dj_cons_l, dj_cons_r, dj_nil_l, dj_nil_r, dk_app, dk_cons, dk_nil, and_true, true_and, and_assoc] using (show Dj ((g3, .cells (nums O).toArray 3 (0, 0)) :: (Kt ++ Kl10)) T21 from J21)
                refine Tw.lv (v := .bool (decide (y < (b * (((lo + hi) + 1) / 2))))) rfl rfl (yb_call (f := 47) (args := #[.slice p12 ((cd y).length) c12, .slice q21 ((cd (b * (((lo + hi) + 1) / 2))).length) d21]) (fun _ => by kernel_rfl) fun W hW => less_any y (b * (((lo + hi) + 1) / 2)) p12 q21 c12 d21 (by omega) W (((ns_trim HN12 ((show dOk [x7] from fun z hz => by cases List.mem_singleton.1 hz; exact lx7).app (cd_ok r)) ((dv_cons x7 r).trans hy.symm)).mono (fun q hq => by first | exact hq | (simp only [List.mem_cons, List.mem_append, List.nil_append, List.not_mem_nil, or_assoc, or_false, false_or] at hq ⊢ <;> grind))) W hW) ((H21.mono (fun q hq => by first | exact hq | (simp only [List.mem_cons, List.mem_append, List.nil_append, List.not_mem_nil, or_assoc, or_false, false_or] at hq ⊢ <;> grind))) W hW)) ?_
                refine wpL_done (fun W23 hW23 => ?_)
                refine (show Code.wp _ _ _ _ _ from ?_)
                cases hd5 : (decide (y < (b * (((lo + hi) + 1) / 2)))) with
                | false =>
                  have h5 : ¬ (y < (b * (((lo + hi) + 1) / 2))) := of_decide_eq_false hd5
                  clear hd5
                  refine wp_cond_false rfl ?_
                  refine wp_region_L (W0 := w) ((g3, .cells (nums O).toArray 3 (0, 0)) :: ((Kt ++ Kl10) ++ T21)) (hW23) ?_
                  refine Tw.lm (v := .int .i64 (((((lo + hi) + 1) / 2) : Nat) : Int)) rfl rfl ?_
                  refine Tw.lm (v := .int .i64 (((((lo + hi) + 1) / 2) : Nat) : Int)) rfl rfl ?_
                  refine wpL_done (fun W24 hW24 => ?_)
                  go_roundw
                  case rel =>
                    repeat apply Exists.intro
                    exact ⟨⟨(((lo + hi) + 1) / 2), hi, (mid_geq hb h5), hhi, (by omega), rfl, rfl, (hW24.sub (fun p hp => by first | exact hp | (simp only [List.mem_cons, List.mem_append, List.nil_append, List.not_mem_nil, or_assoc, or_false, false_or, List.cons_append, List.append_assoc] at hp ⊢ <;> grind)))⟩, rfl⟩
                  case measure => (show (intOf (.int .i64 ((hi : Nat) : Int)) - intOf (.int .i64 (((((lo + hi) + 1) / 2) : Nat) : Int))).toNat < (intOf (.int .i64 ((hi : Nat) : Int)) - intOf (.int .i64 ((lo : Nat) : Int))).toNat); simp only [intOf]; omega
                | true =>
                  have h5 : y < (b * (((lo + hi) + 1) / 2)) := of_decide_eq_true hd5
                  clear hd5
                  refine wp_cond_true rfl ?_
                  refine wp_region_L (W0 := w) ((g3, .cells (nums O).toArray 3 (0, 0)) :: ((Kt ++ Kl10) ++ T21)) (hW23) ?_
                  refine Tw.lm (v := .int .i64 (((((lo + hi) + 1) / 2) : Nat) : Int)) rfl rfl ?_
                  refine Tw.lp (v := .int .i64 ((((((lo + hi) + 1) / 2) - 1) : Nat) : Int)) rfl rfl (run_bin rfl (vx := (.int .i64 (((((lo + hi) + 1) / 2) : Nat) : Int))) (vy := (.int .i64 ((1 : Nat) : Int))) (by kernel_rfl) (by kernel_rfl) fun w => bn_sub (z := ((((lo + hi) + 1) / 2) - 1)) rfl (by omega) (wr_i64 (by omega)) w) ?_
                  refine Tw.lm (v := .int .i64 ((((((lo + hi) + 1) / 2) - 1) : Nat) : Int)) rfl rfl ?_
                  refine wpL_done (fun W25 hW25 => ?_)
                  go_roundw
                  case rel =>
                    repeat apply Exists.intro
                    exact ⟨⟨lo, ((((lo + hi) + 1) / 2) - 1), hlo, (by have := mid_less hb h5; omega), (by omega), rfl, rfl, (hW25.sub (fun p hp => by first | exact hp | (simp only [List.mem_cons, List.mem_append, List.nil_append, List.not_mem_nil, or_assoc, or_false, false_or, List.cons_append, List.append_assoc] at hp ⊢ <;> grind)))⟩, rfl⟩
                  case measure => (show (intOf (.int .i64 ((((((lo + hi) + 1) / 2) - 1) : Nat) : Int)) - intOf (.int .i64 ((lo : Nat) : Int))).toNat < (intOf (.int .i64 ((hi : Nat) : Int)) - intOf (.int .i64 ((lo : Nat) : Int))).toNat); simp only [intOf]; omega
      | true =>
        have h2 : z < 0 := of_decide_eq_true hd2
        clear hd2
        refine wp_cond_false rfl ?_
        refine wp_exit ?_
        refine (show Code.wp _ _ _ _ _ from ?_)
        refine wp_seq ?_
        obtain rfl : k = 0 := by omega
        have hQ : dv O = a / b := cd_quo a b O hOv
        have hR2 : r = a % b := by rw [hr, List.drop_zero, dv_cd]
        clear hr
        subst hR2
        refine wp_region_L (W0 := w) ((g3, .cells (nums O).toArray 3 (0, 0)) :: Kt) (hW8) ?_
        refine Tw.lm (v := .slice (some ⟨g3, 0, none⟩) ((((cd a).length) - ((cd b).length)) + 1) ((((cd a).length) - ((cd b).length)) + 1)) rfl rfl ?_
        refine Tw.lv (v := .slice (some ⟨g3, 0, none⟩) ((cd (a / b)).length) ((((cd a).length) - ((cd b).length)) + 1)) rfl rfl (yb_call (f := 81) (args := #[.slice (some ⟨g3, 0, none⟩) ((((cd a).length) - ((cd b).length)) + 1) ((((cd a).length) - ((cd b).length)) + 1)]) (fun _ => by kernel_rfl) fun W hW => trim_any O (a / b) ((((cd a).length) - ((cd b).length)) + 1) (some ⟨g3, 0, none⟩) ((((cd a).length) - ((cd b).length)) + 1) hOk hQ hOl.symm (Nat.le_refl _) (by omega) W (((show NS (w : Base) (some ⟨g3, 0, none⟩) O [(g3, .cells (nums O).toArray 3 (0, 0))] from ns_blk).mono (fun q hq => by first | exact hq | (simp only [List.mem_cons, List.mem_append, List.nil_append, List.not_mem_nil, or_assoc, or_false, false_or] at hq ⊢ <;> grind))) W hW)) ?_
        refine Tw.lm (v := .slice pr ((cd (a % b)).length) cr) rfl rfl ?_
        refine Tw.lm (v := .slice (some ⟨g3, 0, none⟩) ((cd (a / b)).length) ((((cd a).length) - ((cd b).length)) + 1)) rfl rfl ?_
        refine Tw.lm (v := .slice pr ((cd (a % b)).length) cr) rfl rfl ?_
        refine wpL_done (fun W26 hW26 => ?_)
        refine (show Code.wp _ _ _ _ _ from ?_)
        refine wp_ret ?_
        try simp only [inBlock_ret, then_ret]
        refine bodyPost_ret (v := .tuple #[.slice (some ⟨g3, 0, none⟩) ((cd (a / b)).length) ((((cd a).length) - ((cd b).length)) + 1), .slice pr ((cd (a % b)).length) cr]) ?_ rfl ?_
        · kernel_rfl
        · exact ⟨_, _, _, _, rfl, (Nat.le_trans (cd_trim_le hOk hQ hOl.symm) (Nat.le_refl _)), hcr, (((ns_trim (show NS (w : Base) (some ⟨g3, 0, none⟩) O [(g3, .cells (nums O).toArray 3 (0, 0))] from ns_blk) hOk hQ).mono (fun q hq => by first | exact hq | (simp only [List.mem_cons, List.mem_append, List.nil_append, List.not_mem_nil, or_assoc, or_false, false_or] at hq ⊢ <;> grind)))) _ hW26, ((HR.mono (fun q hq => by first | exact hq | (simp only [List.mem_cons, List.mem_append, List.nil_append, List.not_mem_nil, or_assoc, or_false, false_or] at hq ⊢ <;> grind)))) _ hW26, hW26.1⟩
  | true =>
    have h1 : a < b := of_decide_eq_true hd1
    clear hd1
    have ha := h1
    refine wp_cond_true rfl ?_
    refine wp_seq ?_
    refine wp_region_L (W0 := w) [] (hW2) ?_
    refine Tw.lm (v := .slice p ((cd a).length) c) rfl rfl ?_
    refine Tw.lm (v := .slice none 0 0) rfl rfl ?_
    refine Tw.lm (v := .slice p ((cd a).length) c) rfl rfl ?_
    refine wpL_done (fun W27 hW27 => ?_)
    refine (show Code.wp _ _ _ _ _ from ?_)
    refine wp_ret ?_
    try simp only [inBlock_ret, then_ret]
    refine bodyPost_ret (v := .tuple #[.slice none 0 0, .slice p ((cd a).length) c]) ?_ rfl ?_
    · kernel_rfl
    · exact (by rw [(div_none ha).1, (div_none ha).2]; exact ⟨none, 0, p, c, rfl, Nat.zero_le _, hc, .inl rfl, (HP.mono (fun q hq => by cases hq)) _ (hW27.sub (fun q hq => hq)), hW27.1⟩)
end Go.Proofs.YtalmflgkbmnghaaGreatDoor
namespace Go.Proofs.YtalmflgkbmnghaaGreatDoor
open Go Go.RowKit Tw
noncomputable def valOf (w : World) (v : Value) : Nat := Classical.epsilon fun y => ∃ p c, v = .slice p (cd y).length c ∧ SLV w p (nums (cd y))
theorem nums_inj : ∀ {l m : List Nat}, nums l = nums m → l = m
  | [], [], _ => rfl
  | [], _ :: _, h => by simp [nums] at h
  | _ :: _, [], h => by simp [nums] at h
  | x :: r, y :: q, h => by
    simp only [nums, List.map_cons, List.cons.injEq, Value.int.injEq, true_and] at h
    have e : x = y := by omega
    rw [e, nums_inj (l := r) (m := q) h.2]
theorem slv_same {w : World} {p : Option Addr} {l m : List Nat} (h : SLV w p (nums l)) (h2 : SLV w p (nums m)) (hl : l.length = m.length) : l = m := by
  rcases h with h | ⟨b, off, rfl, _, hc⟩
  · have : l = [] := nums_inj (h.trans rfl)
    subst this
    exact (List.eq_nil_of_length_eq_zero (by simpa using hl.symm)).symm
  · rcases h2 with h2 | ⟨b2, off2, e, _, hc2⟩
    · have : m = [] := nums_inj (h2.trans rfl)
      subst this
      exact List.eq_nil_of_length_eq_zero (by simpa using hl)
    · cases e
      refine nums_inj (List.ext_getElem? fun i => ?_)
      rcases Nat.lt_or_ge i l.length with hi | hi
      · obtain ⟨u, hu⟩ : ∃ u, (nums l)[i]? = some u := ⟨_, List.getElem?_eq_getElem (by rw [nums_len]; exact hi)⟩
        obtain ⟨v, hv⟩ : ∃ u, (nums m)[i]? = some u := ⟨_, List.getElem?_eq_getElem (by rw [nums_len]; omega)⟩
        have e1 := hc i u hu
        have e2 := hc2 i v hv
        rw [e1] at e2
        rw [hu, hv, Option.some.inj e2]
      · rw [List.getElem?_eq_none (by rw [nums_len]; exact hi), List.getElem?_eq_none (by rw [nums_len]; omega)]
theorem valOf_eq {w : World} {p : Option Addr} {c y : Nat} (h : SLV w p (nums (cd y))) : valOf w (.slice p (cd y).length c) = y := by
  have hs := Classical.epsilon_spec (p := fun z => ∃ p' c', (Value.slice p (cd y).length c) = .slice p' (cd z).length c' ∧ SLV w p' (nums (cd z))) ⟨y, p, c, rfl, h⟩
  show Classical.epsilon (fun z => ∃ p' c', (Value.slice p (cd y).length c) = .slice p' (cd z).length c' ∧ SLV w p' (nums (cd z))) = y
  revert hs
  generalize Classical.epsilon (fun z => ∃ p' c', (Value.slice p (cd y).length c) = .slice p' (cd z).length c' ∧ SLV w p' (nums (cd z))) = z
  rintro ⟨p', c', e, hz⟩
  injection e with e1 e2 e3
  subst e1
  have := congrArg dv (slv_same hz h e2.symm)
  rwa [dv_cd, dv_cd] at this
theorem cd_mod_len {x y n : Nat} (h0 : 0 < y) (h : (cd y).length ≤ n) : (cd (x % y)).length ≤ n := by
  exact cd_le.2 (Nat.lt_trans (Nat.mod_lt x h0) (cd_le.1 h))
theorem gcd_end {x y g : Nat} (h : Nat.gcd x y = g) (hy : (cd y).length = 0) : x = g := by
  rw [cd_len0.1 hy, Nat.gcd_zero_right] at h
  exact h
set_option maxRecDepth 100000 in
set_option maxHeartbeats 4000000 in
theorem common_any (a b : Nat) (p q : Option Addr) (c d : Nat) (la : (cd a).length ≤ 90000) (lb : (cd b).length ≤ 90000) (hca : (cd a).length ≤ c) (hcb : (cd b).length ≤ d) (w : World) (hp : SLV w p (nums (cd a))) (hq : SLV w q (nums (cd b))) : Calls Tryz.prog 51 #[.slice p (cd a).length c, .slice q (cd b).length d] w fun e w' => AnsV w (cd (Nat.gcd a b)) e w' := by
  have HP : NS (w : Base) p (cd a) [] := NS.base hp
  have HQ : NS (w : Base) q (cd b) [] := NS.base hq
  clear hp hq
  go_enter Tryz.func51, Tryz.ntmps51
  refine wp_seq ?_
  refine wp_region_L (W0 := w) [] (KS.start w) ?_
  refine Tw.lm (v := .slice none 0 0) rfl rfl ?_
  refine wpL_done (fun W1 hW1 => ?_)
  refine (show Code.wp _ _ _ _ _ from ?_)
  refine wp_seq ?_
  refine wp_block ?_
  go_loopw [0, 1] (fun u0 u1 wr => ∃ (x y : Nat) (px py : Option Addr) (cx cy : Nat) (Kt : List (Nat × Obj)), (NS (w : Base) px (cd x) Kt) ∧ (NS (w : Base) py (cd y) Kt) ∧ ((cd x).length ≤ cx) ∧ ((cd y).length ≤ cy) ∧ (Nat.gcd x y = Nat.gcd a b) ∧ ((cd x).length ≤ 90000) ∧ ((cd y).length ≤ 90000) ∧ u0 = .slice px ((cd x).length) cx ∧ u1 = .slice py ((cd y).length) cy ∧ KS w Kt wr) (fun _ u1 wz => valOf wz u1)
  case atStart => exact ⟨a, b, p, q, c, d, [], HP, HQ, hca, hcb, rfl, la, lb, rfl, rfl, (hW1.sub (fun p hp => by first | exact hp | (simp only [List.mem_cons, List.mem_append, List.nil_append, List.not_mem_nil, or_assoc, or_false, false_or, List.cons_append, List.append_assoc] at hp ⊢ <;> grind)))⟩
  case round =>
    obtain ⟨x, y, px, py, cx, cy, Kt, HX, HY, hcx, hcy, hg, hlx, hly, rfl, rfl, hL2⟩ := hrel
    refine wp_seq ?_
    refine wp_seq ?_
    refine wp_region_L (W0 := w) Kt (hL2) ?_
    refine Tw.lm (v := .slice py ((cd y).length) cy) rfl rfl ?_
    refine Tw.lp (v := .int .i64 ((((cd y).length) : Nat) : Int)) rfl rfl (run_lenL (p := py) (cap := cy) (n := ((cd y).length)) rfl Tryz.underlying32 (by kernel_rfl)) ?_
    refine Tw.lp (v := .bool (decide (0 < ((cd y).length)))) rfl rfl (run_bin rfl (vx := (.int .i64 ((((cd y).length) : Nat) : Int))) (vy := (.int .i64 ((0 : Nat) : Int))) (by kernel_rfl) (by kernel_rfl) fun w => bn_gtr rfl w) ?_
    refine wpL_done (fun W3 hW3 => ?_)
    refine (show Code.wp _ _ _ _ _ from ?_)
    cases hd1 : (decide (0 < ((cd y).length))) with
    | false =>
      have h1 : ¬ (0 < ((cd y).length)) := of_decide_eq_false hd1
      clear hd1
      refine wp_cond_false rfl ?_
      refine wp_exit ?_
      refine (show Code.wp _ _ _ _ _ from ?_)
      refine wp_seq ?_
      refine wp_region_L (W0 := w) Kt (hW3) ?_
      refine Tw.lm (v := .slice px ((cd x).length) cx) rfl rfl ?_
      refine Tw.lm (v := .slice px ((cd x).length) cx) rfl rfl ?_
      refine wpL_done (fun W4 hW4 => ?_)
      refine (show Code.wp _ _ _ _ _ from ?_)
      refine wp_ret ?_
      try simp only [inBlock_ret, then_ret]
      refine bodyPost_ret (v := .slice px ((cd x).length) cx) ?_ rfl ?_
      · kernel_rfl
      · exact (gcd_end hg (by omega) ▸ ⟨_, _, rfl, hcx, ((HX.mono (fun q hq => by first | exact hq | (simp only [List.mem_cons, List.mem_append, List.nil_append, List.not_mem_nil, or_assoc, or_false, false_or] at hq ⊢ <;> grind)))) _ hW4, hW4.1⟩)
    | true =>
      have h1 : 0 < ((cd y).length) := of_decide_eq_true hd1
      clear hd1
      refine wp_cond_true rfl ?_
      refine wp_skip ?_
      refine (show Code.wp _ _ _ _ _ from ?_)
      refine wp_block ?_
      refine wp_seq ?_
      refine wp_region_L (W0 := w) Kt (hW3) ?_
      refine Tw.lm (v := .slice px ((cd x).length) cx) rfl rfl ?_
      refine Tw.lm (v := .slice py ((cd y).length) cy) rfl rfl ?_
      refine wpL_c (f := 61) (args := #[.slice px ((cd x).length) cx, .slice py ((cd y).length) cy]) (AnsW2 w Kt (cd (x / y)) (cd (x % y))) rfl (by kernel_rfl) (fun _ => (by kernel_rfl)) (fun W hW => (div_any x y px py cx cy (cd_pos' (by omega)) hlx hcx W ((HX.mono (fun q hq => by first | exact hq | (simp only [List.mem_cons, List.mem_append, List.nil_append, List.not_mem_nil, or_assoc, or_false, false_or] at hq ⊢ <;> grind))) W hW) ((HY.mono (fun q hq => by first | exact hq | (simp only [List.mem_cons, List.mem_append, List.nil_append, List.not_mem_nil, or_assoc, or_false, false_or] at hq ⊢ <;> grind))) W hW)).mono fun e w2 h => Ans2.g h hW) (fun _ => by simp only [List.setIfInBounds_toArray, List.set_cons_succ, List.set_cons_zero] <;> rfl) ?_
      rintro v1 _ ⟨q1, d1, r1, g1, T1, rfl, C1, E1, H1, G1, rfl⟩
      refine Tw.lm (v := .tuple #[.slice q1 ((cd (x / y)).length) d1, .slice r1 ((cd (x % y)).length) g1]) rfl rfl ?_
      refine Tw.lm (v := .slice q1 ((cd (x / y)).length) d1) rfl rfl ?_
      refine Tw.lm (v := .slice r1 ((cd (x % y)).length) g1) rfl rfl ?_
      refine Tw.lm (v := .slice q1 ((cd (x / y)).length) d1) rfl rfl ?_
      refine Tw.lm (v := .slice r1 ((cd (x % y)).length) g1) rfl rfl ?_
      refine wpL_done (fun W5 hW5 => ?_)
      refine (show Code.wp _ _ _ _ _ from ?_)
      refine wp_region_L (W0 := w) (Kt ++ T1) (hW5) ?_
      refine Tw.lm (v := .slice py ((cd y).length) cy) rfl rfl ?_
      refine Tw.lm (v := .slice r1 ((cd (x % y)).length) g1) rfl rfl ?_
      refine Tw.lm (v := .slice py ((cd y).length) cy) rfl rfl ?_
      refine Tw.lm (v := .slice r1 ((cd (x % y)).length) g1) rfl rfl ?_
      refine wpL_done (fun W6 hW6 => ?_)
      go_roundw
      case rel =>
        repeat apply Exists.intro
        exact ⟨⟨y, (x % y), py, r1, cy, g1, (Kt ++ T1), (HY.mono (fun q hq => by first | exact hq | (simp only [List.mem_cons, List.mem_append, List.nil_append, List.not_mem_nil, or_assoc, or_false, false_or] at hq ⊢ <;> grind))), (G1.mono (fun q hq => by first | exact hq | (simp only [List.mem_cons, List.mem_append, List.nil_append, List.not_mem_nil, or_assoc, or_false, false_or] at hq ⊢ <;> grind))), hcy, E1, ((Nat.gcd_comm y ((x % y))).trans ((Nat.gcd_rec y x).symm.trans ((Nat.gcd_comm y x).trans hg))), hly, (cd_mod_len (cd_pos' (by omega)) hly), rfl, rfl, (hW6.sub (fun p hp => by first | exact hp | (simp only [List.mem_cons, List.mem_append, List.nil_append, List.not_mem_nil, or_assoc, or_false, false_or, List.cons_append, List.append_assoc] at hp ⊢ <;> grind)))⟩, rfl⟩
      case measure => show valOf _ (.slice r1 ((cd (x % y)).length) g1) < valOf _ (.slice py ((cd y).length) cy); rw [valOf_eq ((G1.mono (fun q hq => by first | exact hq | (simp only [List.mem_cons, List.mem_append, List.nil_append, List.not_mem_nil, or_assoc, or_false, false_or] at hq ⊢ <;> grind))) _ hW6), valOf_eq (HY _ hL2)]; exact Nat.mod_lt _ (cd_pos' (by omega))
end Go.Proofs.YtalmflgkbmnghaaGreatDoor
namespace Go.Proofs.YtalmflgkbmnghaaGreatDoor
open Go Go.RowKit Tw
open Tf (dg R R_pos R_le R_succ dg_of_lt setd setd_eq)
theorem cd_R8 {x : Nat} : (cd x).length ≤ 16 ↔ x < R 8 := by rw [cd_le, R_sq]
theorem limbs_yes {n : Nat} (h : (cd n).length ≤ 16) : limV n = .tuple #[.agg (fa 8 (dg n)), .bool true] := if_pos h
theorem limbs_no {n : Nat} (h : ¬ (cd n).length ≤ 16) : limV n = .tuple #[.agg (fa 8 (dg 0)), .bool false] := if_neg h
theorem ret_v {a b : Value} (h : a = b) : Ending.returned a = .returned b := by rw [h]
theorem mk_yes {neg B : Bool} {X Y : Nat} (h1 : (cd X).length ≤ 16) (h2 : (cd Y).length ≤ 16) (hB : B = (neg && decide (X ≠ 0))) : (Value.tuple #[.agg (frcC B X Y), .int .i64 0]) = packV neg X Y := by
  subst hB
  unfold packV
  rw [if_pos ⟨cd_R8.1 h1, cd_R8.1 h2⟩]
  rfl
theorem mk_no {neg : Bool} {X Y : Nat} (h : ¬ (cd X).length ≤ 16 ∨ ¬ (cd Y).length ≤ 16) : (Value.tuple #[.agg (frcC false 0 0), .int .i64 3]) = packV neg X Y := by
  unfold packV
  rw [if_neg (fun ⟨a, b⟩ => h.elim (fun h => h (cd_R8.2 a)) (fun h => h (cd_R8.2 b)))]
  rfl
theorem pos_ne {X : Nat} : decide (0 < (cd X).length) = decide (X ≠ 0) := by
  rw [decide_eq_decide, Nat.pos_iff_ne_zero, ne_eq, ne_eq, cd_len0]
theorem cd_gcd_len {n m k : Nat} (hm : 0 < m) (h : (cd m).length ≤ k) : (cd (Nat.gcd n m)).length ≤ k := cd_le.2 (Nat.lt_of_le_of_lt (Nat.gcd_le_right _ hm) (cd_le.1 h))
theorem cd_div_len {x y n : Nat} (h : (cd x).length ≤ n) : (cd (x / y)).length ≤ n := cd_le.2 (Nat.lt_of_le_of_lt (Nat.div_le_self _ _) (cd_le.1 h))
theorem frc_onec {s : Bool} {n d : Nat} : ∀ v ∈ (frcC s n d).toList, v.oneCell' = true := by
  intro v hv
  unfold frcC at hv
  simp only [Array.toList_append, List.mem_append] at hv
  rcases hv with (hv | hv) | hv
  · simp at hv; subst hv; rfl
  · exact fa_one v hv
  · exact fa_one v hv
set_option maxRecDepth 100000 in
set_option maxHeartbeats 20000000 in
theorem make0_any (neg : Bool) (n m : Nat) (p q : Option Addr) (c d : Nat) (hm : 0 < m) (la : (cd n).length ≤ 80000) (lb : (cd m).length ≤ 80000) (hca : (cd n).length ≤ c) (hcb : (cd m).length ≤ d) (w : World) (hp : SLV w p (nums (cd n))) (hq : SLV w q (nums (cd m))) : Calls Tryz.prog 45 #[.bool neg, .slice p (cd n).length c, .slice q (cd m).length d] w fun e w' => e = .returned (packV neg (n / Nat.gcd n m) (m / Nat.gcd n m)) ∧ Below w.heap.size w w' := by
  have HP : NS (w : Base) p (cd n) [] := NS.base hp
  have HQ : NS (w : Base) q (cd m) [] := NS.base hq
  clear hp hq
  have hgp : 0 < Nat.gcd n m := Nat.gcd_pos_of_pos_right _ hm
  have lX : (cd (n / Nat.gcd n m)).length ≤ 80000 := cd_div_len la
  have lY : (cd (m / Nat.gcd n m)).length ≤ 80000 := cd_div_len lb
  have lgg : (cd (Nat.gcd n m)).length ≤ 80000 := cd_gcd_len hm lb
  go_enter Tryz.func45, Tryz.ntmps45
  refine wp_seq ?_
  refine wp_region_L (W0 := w) [] (KS.start w) ?_
  refine wpL_new (fun g => .pointer (some ⟨g, 0, none⟩)) (obi := .cells (frcC false 0 0) 34 (0, 0)) rfl rfl (fun _ => by kernel_rfl) (fun _ => by simp only [List.setIfInBounds_toArray, List.set_cons_succ, List.set_cons_zero] <;> rfl) fun g1 Bg1 Fg1 => ?_
  refine Tw.lm (v := .int .i64 0) rfl rfl ?_
  refine wpL_done (fun W1 hW1 => ?_)
  refine (show Code.wp _ _ _ _ _ from ?_)
  refine wp_seq ?_
  refine wp_region_L (W0 := w) [(g1, .cells (frcC false 0 0) 34 (0, 0))] (hW1) ?_
  refine Tw.lm (v := .slice p ((cd n).length) c) rfl rfl ?_
  refine Tw.lm (v := .slice q ((cd m).length) d) rfl rfl ?_
  refine wpL_c (f := 51) (args := #[.slice p ((cd n).length) c, .slice q ((cd m).length) d]) (AnsW w [(g1, .cells (frcC false 0 0) 34 (0, 0))] (cd (Nat.gcd n m))) rfl (by kernel_rfl) (fun _ => (by kernel_rfl)) (fun W hW => (common_any n m p q c d (by omega) (by omega) hca hcb W ((HP.mono (fun q hq => by first | exact hq | (simp only [List.mem_cons, List.mem_append, List.nil_append, List.not_mem_nil, or_assoc, or_false, false_or] at hq ⊢ <;> grind))) W hW) ((HQ.mono (fun q hq => by first | exact hq | (simp only [List.mem_cons, List.mem_append, List.nil_append, List.not_mem_nil, or_assoc, or_false, false_or] at hq ⊢ <;> grind))) W hW)).mono fun e w2 h => AnsV.g h hW) (fun _ => by simp only [List.setIfInBounds_toArray, List.set_cons_succ, List.set_cons_zero] <;> rfl) ?_
  rintro v2 _ ⟨q2, d2, T2, rfl, C2, H2, rfl⟩
  refine Tw.lm (v := .slice q2 ((cd (Nat.gcd n m)).length) d2) rfl rfl ?_
  refine wpL_done (fun W2 hW2 => ?_)
  refine (show Code.wp _ _ _ _ _ from ?_)
  refine wp_seq ?_
  refine wp_region_L (W0 := w) ((g1, .cells (frcC false 0 0) 34 (0, 0)) :: T2) (hW2) ?_
  refine Tw.lm (v := .slice p ((cd n).length) c) rfl rfl ?_
  refine Tw.lm (v := .slice q2 ((cd (Nat.gcd n m)).length) d2) rfl rfl ?_
  refine wpL_c (f := 61) (args := #[.slice p ((cd n).length) c, .slice q2 ((cd (Nat.gcd n m)).length) d2]) (AnsW2 w ((g1, .cells (frcC false 0 0) 34 (0, 0)) :: T2) (cd (n / Nat.gcd n m)) (cd (n % Nat.gcd n m))) rfl (by kernel_rfl) (fun _ => (by kernel_rfl)) (fun W hW => (div_any n (Nat.gcd n m) p q2 c d2 hgp (by omega) hca W ((HP.mono (fun q hq => by first | exact hq | (simp only [List.mem_cons, List.mem_append, List.nil_append, List.not_mem_nil, or_assoc, or_false, false_or] at hq ⊢ <;> grind))) W hW) ((H2.mono (fun q hq => by first | exact hq | (simp only [List.mem_cons, List.mem_append, List.nil_append, List.not_mem_nil, or_assoc, or_false, false_or] at hq ⊢ <;> grind))) W hW)).mono fun e w2 h => Ans2.g h hW) (fun _ => by simp only [List.setIfInBounds_toArray, List.set_cons_succ, List.set_cons_zero] <;> rfl) ?_
  rintro v3 _ ⟨q3, d3, r3, g3, T3, rfl, C3, E3, H3, G3, rfl⟩
  refine Tw.lm (v := .tuple #[.slice q3 ((cd (n / Nat.gcd n m)).length) d3, .slice r3 ((cd (n % Nat.gcd n m)).length) g3]) rfl rfl ?_
  refine Tw.lm (v := .slice q3 ((cd (n / Nat.gcd n m)).length) d3) rfl rfl ?_
  refine Tw.lm (v := .slice r3 ((cd (n % Nat.gcd n m)).length) g3) rfl rfl ?_
  refine Tw.lm (v := .slice q3 ((cd (n / Nat.gcd n m)).length) d3) rfl rfl ?_
  refine Tw.lm (v := .slice r3 ((cd (n % Nat.gcd n m)).length) g3) rfl rfl ?_
  refine wpL_done (fun W3 hW3 => ?_)
  refine (show Code.wp _ _ _ _ _ from ?_)
  refine wp_seq ?_
  refine wp_region_L (W0 := w) ((g1, .cells (frcC false 0 0) 34 (0, 0)) :: (T2 ++ T3)) (hW3) ?_
  refine Tw.lm (v := .slice q ((cd m).length) d) rfl rfl ?_
  refine Tw.lm (v := .slice q2 ((cd (Nat.gcd n m)).length) d2) rfl rfl ?_
  refine wpL_c (f := 61) (args := #[.slice q ((cd m).length) d, .slice q2 ((cd (Nat.gcd n m)).length) d2]) (AnsW2 w ((g1, .cells (frcC false 0 0) 34 (0, 0)) :: (T2 ++ T3)) (cd (m / Nat.gcd n m)) (cd (m % Nat.gcd n m))) rfl (by kernel_rfl) (fun _ => (by kernel_rfl)) (fun W hW => (div_any m (Nat.gcd n m) q q2 d d2 hgp (by omega) hcb W ((HQ.mono (fun q hq => by first | exact hq | (simp only [List.mem_cons, List.mem_append, List.nil_append, List.not_mem_nil, or_assoc, or_false, false_or] at hq ⊢ <;> grind))) W hW) ((H2.mono (fun q hq => by first | exact hq | (simp only [List.mem_cons, List.mem_append, List.nil_append, List.not_mem_nil, or_assoc, or_false, false_or] at hq ⊢ <;> grind))) W hW)).mono fun e w2 h => Ans2.g h hW) (fun _ => by simp only [List.setIfInBounds_toArray, List.set_cons_succ, List.set_cons_zero] <;> rfl) ?_
  rintro v4 _ ⟨q4, d4, r4, g4, T4, rfl, C4, E4, H4, G4, rfl⟩
  refine Tw.lm (v := .tuple #[.slice q4 ((cd (m / Nat.gcd n m)).length) d4, .slice r4 ((cd (m % Nat.gcd n m)).length) g4]) rfl rfl ?_
  refine Tw.lm (v := .slice q4 ((cd (m / Nat.gcd n m)).length) d4) rfl rfl ?_
  refine Tw.lm (v := .slice r4 ((cd (m % Nat.gcd n m)).length) g4) rfl rfl ?_
  refine Tw.lm (v := .slice q4 ((cd (m / Nat.gcd n m)).length) d4) rfl rfl ?_
  refine Tw.lm (v := .slice r4 ((cd (m % Nat.gcd n m)).length) g4) rfl rfl ?_
  refine wpL_done (fun W4 hW4 => ?_)
  refine (show Code.wp _ _ _ _ _ from ?_)
  refine wp_seq ?_
  refine wp_region_L (W0 := w) ((g1, .cells (frcC false 0 0) 34 (0, 0)) :: ((T2 ++ T3) ++ T4)) (hW4) ?_
  refine Tw.lm (v := .slice q3 ((cd (n / Nat.gcd n m)).length) d3) rfl rfl ?_
  cases hd1 : (decide ((cd (n / Nat.gcd n m)).length ≤ 16)) with
  | false =>
    have h1 : ¬ ((cd (n / Nat.gcd n m)).length ≤ 16) := of_decide_eq_false hd1
    clear hd1
    refine Tw.lv (v := .tuple #[.agg (fa 8 (dg 0)), .bool false]) rfl rfl (yb_call (f := 83) (args := #[.slice q3 ((cd (n / Nat.gcd n m)).length) d3]) (fun _ => by kernel_rfl) fun W hW => limbs_no h1 ▸ limbs_any (n / Nat.gcd n m) q3 d3 (by omega) W ((H3.mono (fun q hq => by first | exact hq | (simp only [List.mem_cons, List.mem_append, List.nil_append, List.not_mem_nil, or_assoc, or_false, false_or] at hq ⊢ <;> grind))) W hW)) ?_
    refine Tw.lm (v := .tuple #[.agg (fa 8 (dg 0)), .bool false]) rfl rfl ?_
    refine Tw.lm (v := .agg (fa 8 (dg 0))) rfl rfl ?_
    refine Tw.lm (v := .bool false) rfl rfl ?_
    refine wpL_new (fun g => .pointer (some ⟨g, 0, none⟩)) (obi := .cells (fa 8 (dg 0)) 23 (0, 0)) rfl rfl (fun _ => by kernel_rfl) (fun _ => by simp only [List.setIfInBounds_toArray, List.set_cons_succ, List.set_cons_zero] <;> rfl) fun g5 Bg5 Fg5 => ?_
    obtain ⟨dj6_0, dj6_1, dj6_2, dj6_3⟩ : g1 ≠ g5 ∧ Dk g5 T2 ∧ Dk g5 T3 ∧ Dk g5 T4 := by simpa only [dj_app_l, dj_app_r, dj_cons_l, dj_cons_r, dj_nil_l, dj_nil_r, dk_app, dk_cons, dk_nil, and_true, true_and, and_assoc] using (show Dk g5 ((g1, .cells (frcC false 0 0) 34 (0, 0)) :: ((T2 ++ T3) ++ T4)) from Fg5)
    refine wpL_s ((g5, .cells (fa 8 (dg 0)) 23 (0, 0)) :: (g1, .cells (frcC false 0 0) 34 (0, 0)) :: ((T2 ++ T3) ++ T4)) rfl rfl (st_all (by simp only [fa_size]) (by exact fa_one) rfl (by kernel_rfl) (by kernel_rfl) (.head _) Bg5 (by simp only [fa_size]; kernel_rfl) (List.forall_mem_cons.2 ⟨.inl rfl, (List.forall_mem_cons.2 ⟨.inr ⟨(.tail _ (.head _)), (by first | assumption | exact Ne.symm (by assumption))⟩, (fun p hp => .inr ⟨(.tail _ (.tail _ hp)), ((show Dk g5 ((T2 ++ T3) ++ T4) from (by (try simp only [dj_app_l, dj_app_r, dj_cons_l, dj_cons_r, dj_nil_l, dj_nil_r, dk_app, dk_cons, dk_nil, and_true, true_and, and_assoc]); repeat' (first | trivial | assumption | exact Dj.symm (by assumption) | exact Ne.symm (by assumption) | apply And.intro))) _ hp)⟩)⟩)⟩)) ?_
    refine Tw.lm (v := .bool false) rfl rfl ?_
    refine wpL_done (fun W5 hW5 => ?_)
    refine (show Code.wp _ _ _ _ _ from ?_)
    refine wp_seq ?_
    refine wp_region_L (W0 := w) ((g5, .cells (fa 8 (dg 0)) 23 (0, 0)) :: (g1, .cells (frcC false 0 0) 34 (0, 0)) :: ((T2 ++ T3) ++ T4)) (hW5) ?_
    refine Tw.lm (v := .slice q4 ((cd (m / Nat.gcd n m)).length) d4) rfl rfl ?_
    cases hd2 : (decide ((cd (m / Nat.gcd n m)).length ≤ 16)) with
    | false =>
      have h2 : ¬ ((cd (m / Nat.gcd n m)).length ≤ 16) := of_decide_eq_false hd2
      clear hd2
      refine Tw.lv (v := .tuple #[.agg (fa 8 (dg 0)), .bool false]) rfl rfl (yb_call (f := 83) (args := #[.slice q4 ((cd (m / Nat.gcd n m)).length) d4]) (fun _ => by kernel_rfl) fun W hW => limbs_no h2 ▸ limbs_any (m / Nat.gcd n m) q4 d4 (by omega) W ((H4.mono (fun q hq => by first | exact hq | (simp only [List.mem_cons, List.mem_append, List.nil_append, List.not_mem_nil, or_assoc, or_false, false_or] at hq ⊢ <;> grind))) W hW)) ?_
      refine Tw.lm (v := .tuple #[.agg (fa 8 (dg 0)), .bool false]) rfl rfl ?_
      refine Tw.lm (v := .agg (fa 8 (dg 0))) rfl rfl ?_
      refine Tw.lm (v := .bool false) rfl rfl ?_
      refine wpL_new (fun g => .pointer (some ⟨g, 0, none⟩)) (obi := .cells (fa 8 (dg 0)) 23 (0, 0)) rfl rfl (fun _ => by kernel_rfl) (fun _ => by simp only [List.setIfInBounds_toArray, List.set_cons_succ, List.set_cons_zero] <;> rfl) fun g7 Bg7 Fg7 => ?_
      obtain ⟨dj8_0, dj8_1, dj8_2, dj8_3, dj8_4⟩ : g5 ≠ g7 ∧ g1 ≠ g7 ∧ Dk g7 T2 ∧ Dk g7 T3 ∧ Dk g7 T4 := by simpa only [dj_app_l, dj_app_r, dj_cons_l, dj_cons_r, dj_nil_l, dj_nil_r, dk_app, dk_cons, dk_nil, and_true, true_and, and_assoc] using (show Dk g7 ((g5, .cells (fa 8 (dg 0)) 23 (0, 0)) :: (g1, .cells (frcC false 0 0) 34 (0, 0)) :: ((T2 ++ T3) ++ T4)) from Fg7)
      refine wpL_s ((g7, .cells (fa 8 (dg 0)) 23 (0, 0)) :: (g5, .cells (fa 8 (dg 0)) 23 (0, 0)) :: (g1, .cells (frcC false 0 0) 34 (0, 0)) :: ((T2 ++ T3) ++ T4)) rfl rfl (st_all (by simp only [fa_size]) (by exact fa_one) rfl (by kernel_rfl) (by kernel_rfl) (.head _) Bg7 (by simp only [fa_size]; kernel_rfl) (List.forall_mem_cons.2 ⟨.inl rfl, (List.forall_mem_cons.2 ⟨.inr ⟨(.tail _ (.head _)), (by first | assumption | exact Ne.symm (by assumption))⟩, (List.forall_mem_cons.2 ⟨.inr ⟨(.tail _ (.tail _ (.head _))), (by first | assumption | exact Ne.symm (by assumption))⟩, (fun p hp => .inr ⟨(.tail _ (.tail _ (.tail _ hp))), ((show Dk g7 ((T2 ++ T3) ++ T4) from (by (try simp only [dj_app_l, dj_app_r, dj_cons_l, dj_cons_r, dj_nil_l, dj_nil_r, dk_app, dk_cons, dk_nil, and_true, true_and, and_assoc]); repeat' (first | trivial | assumption | exact Dj.symm (by assumption) | exact Ne.symm (by assumption) | apply And.intro))) _ hp)⟩)⟩)⟩)⟩)) ?_
      refine Tw.lm (v := .bool false) rfl rfl ?_
      refine wpL_done (fun W6 hW6 => ?_)
      refine (show Code.wp _ _ _ _ _ from ?_)
      refine wp_seq ?_
      refine wp_seq ?_
      refine wp_region_L (W0 := w) ((g7, .cells (fa 8 (dg 0)) 23 (0, 0)) :: (g5, .cells (fa 8 (dg 0)) 23 (0, 0)) :: (g1, .cells (frcC false 0 0) 34 (0, 0)) :: ((T2 ++ T3) ++ T4)) (hW6) ?_
      refine Tw.lm (v := .bool false) rfl rfl ?_
      refine Tw.lm (v := .bool true) rfl rfl ?_
      refine Tw.lm (v := .bool true) rfl rfl ?_
      refine Tw.ln rfl ?_
      refine Tw.ln rfl ?_
      refine Tw.lm (v := .bool true) rfl rfl ?_
      refine wpL_done (fun W7 hW7 => ?_)
      refine (show Code.wp _ _ _ _ _ from ?_)
      refine wp_cond_true rfl ?_
      refine wp_seq ?_
      refine wp_region_L (W0 := w) [(g7, .cells (fa 8 (dg 0)) 23 (0, 0)), (g5, .cells (fa 8 (dg 0)) 23 (0, 0)), (g1, .cells (frcC false 0 0) 34 (0, 0))] ((hW7.sub (fun p hp => by simp only [List.mem_cons, List.mem_append, List.nil_append, List.not_mem_nil, or_assoc, or_false, false_or] at hp ⊢ <;> grind))) ?_
      refine Tw.lm (v := .agg (frcC false 0 0)) rfl rfl ?_
      refine wpL_s [(g7, .cells (fa 8 (dg 0)) 23 (0, 0)), (g5, .cells (fa 8 (dg 0)) 23 (0, 0)), (g1, .cells (frcC false 0 0) 34 (0, 0))] rfl rfl (st_all (by simp only [frcC_size]) (by exact frc_onec) rfl (by kernel_rfl) (by kernel_rfl) (.tail _ (.tail _ (.head _))) Bg1 (by simp only [frcC_size]; kernel_rfl) (List.forall_mem_cons.2 ⟨.inr ⟨(.head _), (by first | assumption | exact Ne.symm (by assumption))⟩, (List.forall_mem_cons.2 ⟨.inr ⟨(.tail _ (.head _)), (by first | assumption | exact Ne.symm (by assumption))⟩, (List.forall_mem_cons.2 ⟨.inl rfl, (List.forall_mem_nil _)⟩)⟩)⟩)) ?_
      refine Tw.lm (v := .int .i64 3) rfl rfl ?_
      refine wpL_done (fun W8 hW8 => ?_)
      refine (show Code.wp _ _ _ _ _ from ?_)
      refine wp_ret ?_
      try simp only [inBlock_ret, then_ret]
      refine bodyPost_ret (v := .tuple #[.agg (frcC false 0 0), .int .i64 3]) ?_ rfl ?_
      · exact (res_cell_tmp (p := 6) (q := 7) rfl rfl (hW8.2 _ (.tail _ (.tail _ (.head _)))) Tryz.underlying34 rfl (by simp only [frcC_size]; kernel_rfl))
      · exact ⟨(ret_v (mk_no (.inl h1))), hW8.1⟩
    | true =>
      have h2 : (cd (m / Nat.gcd n m)).length ≤ 16 := of_decide_eq_true hd2
      clear hd2
      refine Tw.lv (v := .tuple #[.agg (fa 8 (dg (m / Nat.gcd n m))), .bool true]) rfl rfl (yb_call (f := 83) (args := #[.slice q4 ((cd (m / Nat.gcd n m)).length) d4]) (fun _ => by kernel_rfl) fun W hW => limbs_yes h2 ▸ limbs_any (m / Nat.gcd n m) q4 d4 (by omega) W ((H4.mono (fun q hq => by first | exact hq | (simp only [List.mem_cons, List.mem_append, List.nil_append, List.not_mem_nil, or_assoc, or_false, false_or] at hq ⊢ <;> grind))) W hW)) ?_
      refine Tw.lm (v := .tuple #[.agg (fa 8 (dg (m / Nat.gcd n m))), .bool true]) rfl rfl ?_
      refine Tw.lm (v := .agg (fa 8 (dg (m / Nat.gcd n m)))) rfl rfl ?_
      refine Tw.lm (v := .bool true) rfl rfl ?_
      refine wpL_new (fun g => .pointer (some ⟨g, 0, none⟩)) (obi := .cells (fa 8 (dg 0)) 23 (0, 0)) rfl rfl (fun _ => by kernel_rfl) (fun _ => by simp only [List.setIfInBounds_toArray, List.set_cons_succ, List.set_cons_zero] <;> rfl) fun g9 Bg9 Fg9 => ?_
      obtain ⟨dj10_0, dj10_1, dj10_2, dj10_3, dj10_4⟩ : g5 ≠ g9 ∧ g1 ≠ g9 ∧ Dk g9 T2 ∧ Dk g9 T3 ∧ Dk g9 T4 := by simpa only [dj_app_l, dj_app_r, dj_cons_l, dj_cons_r, dj_nil_l, dj_nil_r, dk_app, dk_cons, dk_nil, and_true, true_and, and_assoc] using (show Dk g9 ((g5, .cells (fa 8 (dg 0)) 23 (0, 0)) :: (g1, .cells (frcC false 0 0) 34 (0, 0)) :: ((T2 ++ T3) ++ T4)) from Fg9)
      refine wpL_s ((g9, .cells (fa 8 (dg (m / Nat.gcd n m))) 23 (0, 0)) :: (g5, .cells (fa 8 (dg 0)) 23 (0, 0)) :: (g1, .cells (frcC false 0 0) 34 (0, 0)) :: ((T2 ++ T3) ++ T4)) rfl rfl (st_all (by simp only [fa_size]) (by exact fa_one) rfl (by kernel_rfl) (by kernel_rfl) (.head _) Bg9 (by simp only [fa_size]; kernel_rfl) (List.forall_mem_cons.2 ⟨.inl rfl, (List.forall_mem_cons.2 ⟨.inr ⟨(.tail _ (.head _)), (by first | assumption | exact Ne.symm (by assumption))⟩, (List.forall_mem_cons.2 ⟨.inr ⟨(.tail _ (.tail _ (.head _))), (by first | assumption | exact Ne.symm (by assumption))⟩, (fun p hp => .inr ⟨(.tail _ (.tail _ (.tail _ hp))), ((show Dk g9 ((T2 ++ T3) ++ T4) from (by (try simp only [dj_app_l, dj_app_r, dj_cons_l, dj_cons_r, dj_nil_l, dj_nil_r, dk_app, dk_cons, dk_nil, and_true, true_and, and_assoc]); repeat' (first | trivial | assumption | exact Dj.symm (by assumption) | exact Ne.symm (by assumption) | apply And.intro))) _ hp)⟩)⟩)⟩)⟩)) ?_
      refine Tw.lm (v := .bool true) rfl rfl ?_
      refine wpL_done (fun W9 hW9 => ?_)
      refine (show Code.wp _ _ _ _ _ from ?_)
      refine wp_seq ?_
      refine wp_seq ?_
      refine wp_region_L (W0 := w) ((g9, .cells (fa 8 (dg (m / Nat.gcd n m))) 23 (0, 0)) :: (g5, .cells (fa 8 (dg 0)) 23 (0, 0)) :: (g1, .cells (frcC false 0 0) 34 (0, 0)) :: ((T2 ++ T3) ++ T4)) (hW9) ?_
      refine Tw.lm (v := .bool false) rfl rfl ?_
      refine Tw.lm (v := .bool true) rfl rfl ?_
      refine Tw.lm (v := .bool true) rfl rfl ?_
      refine Tw.ln rfl ?_
      refine Tw.ln rfl ?_
      refine Tw.lm (v := .bool true) rfl rfl ?_
      refine wpL_done (fun W10 hW10 => ?_)
      refine (show Code.wp _ _ _ _ _ from ?_)
      refine wp_cond_true rfl ?_
      refine wp_seq ?_
      refine wp_region_L (W0 := w) [(g9, .cells (fa 8 (dg (m / Nat.gcd n m))) 23 (0, 0)), (g5, .cells (fa 8 (dg 0)) 23 (0, 0)), (g1, .cells (frcC false 0 0) 34 (0, 0))] ((hW10.sub (fun p hp => by simp only [List.mem_cons, List.mem_append, List.nil_append, List.not_mem_nil, or_assoc, or_false, false_or] at hp ⊢ <;> grind))) ?_
      refine Tw.lm (v := .agg (frcC false 0 0)) rfl rfl ?_
      refine wpL_s [(g9, .cells (fa 8 (dg (m / Nat.gcd n m))) 23 (0, 0)), (g5, .cells (fa 8 (dg 0)) 23 (0, 0)), (g1, .cells (frcC false 0 0) 34 (0, 0))] rfl rfl (st_all (by simp only [frcC_size]) (by exact frc_onec) rfl (by kernel_rfl) (by kernel_rfl) (.tail _ (.tail _ (.head _))) Bg1 (by simp only [frcC_size]; kernel_rfl) (List.forall_mem_cons.2 ⟨.inr ⟨(.head _), (by first | assumption | exact Ne.symm (by assumption))⟩, (List.forall_mem_cons.2 ⟨.inr ⟨(.tail _ (.head _)), (by first | assumption | exact Ne.symm (by assumption))⟩, (List.forall_mem_cons.2 ⟨.inl rfl, (List.forall_mem_nil _)⟩)⟩)⟩)) ?_
      refine Tw.lm (v := .int .i64 3) rfl rfl ?_
      refine wpL_done (fun W11 hW11 => ?_)
      refine (show Code.wp _ _ _ _ _ from ?_)
      refine wp_ret ?_
      try simp only [inBlock_ret, then_ret]
      refine bodyPost_ret (v := .tuple #[.agg (frcC false 0 0), .int .i64 3]) ?_ rfl ?_
      · exact (res_cell_tmp (p := 6) (q := 7) rfl rfl (hW11.2 _ (.tail _ (.tail _ (.head _)))) Tryz.underlying34 rfl (by simp only [frcC_size]; kernel_rfl))
      · exact ⟨(ret_v (mk_no (.inl h1))), hW11.1⟩
  | true =>
    have h1 : (cd (n / Nat.gcd n m)).length ≤ 16 := of_decide_eq_true hd1
    clear hd1
    refine Tw.lv (v := .tuple #[.agg (fa 8 (dg (n / Nat.gcd n m))), .bool true]) rfl rfl (yb_call (f := 83) (args := #[.slice q3 ((cd (n / Nat.gcd n m)).length) d3]) (fun _ => by kernel_rfl) fun W hW => limbs_yes h1 ▸ limbs_any (n / Nat.gcd n m) q3 d3 (by omega) W ((H3.mono (fun q hq => by first | exact hq | (simp only [List.mem_cons, List.mem_append, List.nil_append, List.not_mem_nil, or_assoc, or_false, false_or] at hq ⊢ <;> grind))) W hW)) ?_
    refine Tw.lm (v := .tuple #[.agg (fa 8 (dg (n / Nat.gcd n m))), .bool true]) rfl rfl ?_
    refine Tw.lm (v := .agg (fa 8 (dg (n / Nat.gcd n m)))) rfl rfl ?_
    refine Tw.lm (v := .bool true) rfl rfl ?_
    refine wpL_new (fun g => .pointer (some ⟨g, 0, none⟩)) (obi := .cells (fa 8 (dg 0)) 23 (0, 0)) rfl rfl (fun _ => by kernel_rfl) (fun _ => by simp only [List.setIfInBounds_toArray, List.set_cons_succ, List.set_cons_zero] <;> rfl) fun g11 Bg11 Fg11 => ?_
    obtain ⟨dj12_0, dj12_1, dj12_2, dj12_3⟩ : g1 ≠ g11 ∧ Dk g11 T2 ∧ Dk g11 T3 ∧ Dk g11 T4 := by simpa only [dj_app_l, dj_app_r, dj_cons_l, dj_cons_r, dj_nil_l, dj_nil_r, dk_app, dk_cons, dk_nil, and_true, true_and, and_assoc] using (show Dk g11 ((g1, .cells (frcC false 0 0) 34 (0, 0)) :: ((T2 ++ T3) ++ T4)) from Fg11)
    refine wpL_s ((g11, .cells (fa 8 (dg (n / Nat.gcd n m))) 23 (0, 0)) :: (g1, .cells (frcC false 0 0) 34 (0, 0)) :: ((T2 ++ T3) ++ T4)) rfl rfl (st_all (by simp only [fa_size]) (by exact fa_one) rfl (by kernel_rfl) (by kernel_rfl) (.head _) Bg11 (by simp only [fa_size]; kernel_rfl) (List.forall_mem_cons.2 ⟨.inl rfl, (List.forall_mem_cons.2 ⟨.inr ⟨(.tail _ (.head _)), (by first | assumption | exact Ne.symm (by assumption))⟩, (fun p hp => .inr ⟨(.tail _ (.tail _ hp)), ((show Dk g11 ((T2 ++ T3) ++ T4) from (by (try simp only [dj_app_l, dj_app_r, dj_cons_l, dj_cons_r, dj_nil_l, dj_nil_r, dk_app, dk_cons, dk_nil, and_true, true_and, and_assoc]); repeat' (first | trivial | assumption | exact Dj.symm (by assumption) | exact Ne.symm (by assumption) | apply And.intro))) _ hp)⟩)⟩)⟩)) ?_
    refine Tw.lm (v := .bool true) rfl rfl ?_
    refine wpL_done (fun W12 hW12 => ?_)
    refine (show Code.wp _ _ _ _ _ from ?_)
    refine wp_seq ?_
    refine wp_region_L (W0 := w) ((g11, .cells (fa 8 (dg (n / Nat.gcd n m))) 23 (0, 0)) :: (g1, .cells (frcC false 0 0) 34 (0, 0)) :: ((T2 ++ T3) ++ T4)) (hW12) ?_
    refine Tw.lm (v := .slice q4 ((cd (m / Nat.gcd n m)).length) d4) rfl rfl ?_
    cases hd3 : (decide ((cd (m / Nat.gcd n m)).length ≤ 16)) with
    | false =>
      have h3 : ¬ ((cd (m / Nat.gcd n m)).length ≤ 16) := of_decide_eq_false hd3
      clear hd3
      refine Tw.lv (v := .tuple #[.agg (fa 8 (dg 0)), .bool false]) rfl rfl (yb_call (f := 83) (args := #[.slice q4 ((cd (m / Nat.gcd n m)).length) d4]) (fun _ => by kernel_rfl) fun W hW => limbs_no h3 ▸ limbs_any (m / Nat.gcd n m) q4 d4 (by omega) W ((H4.mono (fun q hq => by first | exact hq | (simp only [List.mem_cons, List.mem_append, List.nil_append, List.not_mem_nil, or_assoc, or_false, false_or] at hq ⊢ <;> grind))) W hW)) ?_
      refine Tw.lm (v := .tuple #[.agg (fa 8 (dg 0)), .bool false]) rfl rfl ?_
      refine Tw.lm (v := .agg (fa 8 (dg 0))) rfl rfl ?_
      refine Tw.lm (v := .bool false) rfl rfl ?_
      refine wpL_new (fun g => .pointer (some ⟨g, 0, none⟩)) (obi := .cells (fa 8 (dg 0)) 23 (0, 0)) rfl rfl (fun _ => by kernel_rfl) (fun _ => by simp only [List.setIfInBounds_toArray, List.set_cons_succ, List.set_cons_zero] <;> rfl) fun g13 Bg13 Fg13 => ?_
      obtain ⟨dj14_0, dj14_1, dj14_2, dj14_3, dj14_4⟩ : g11 ≠ g13 ∧ g1 ≠ g13 ∧ Dk g13 T2 ∧ Dk g13 T3 ∧ Dk g13 T4 := by simpa only [dj_app_l, dj_app_r, dj_cons_l, dj_cons_r, dj_nil_l, dj_nil_r, dk_app, dk_cons, dk_nil, and_true, true_and, and_assoc] using (show Dk g13 ((g11, .cells (fa 8 (dg (n / Nat.gcd n m))) 23 (0, 0)) :: (g1, .cells (frcC false 0 0) 34 (0, 0)) :: ((T2 ++ T3) ++ T4)) from Fg13)
      refine wpL_s ((g13, .cells (fa 8 (dg 0)) 23 (0, 0)) :: (g11, .cells (fa 8 (dg (n / Nat.gcd n m))) 23 (0, 0)) :: (g1, .cells (frcC false 0 0) 34 (0, 0)) :: ((T2 ++ T3) ++ T4)) rfl rfl (st_all (by simp only [fa_size]) (by exact fa_one) rfl (by kernel_rfl) (by kernel_rfl) (.head _) Bg13 (by simp only [fa_size]; kernel_rfl) (List.forall_mem_cons.2 ⟨.inl rfl, (List.forall_mem_cons.2 ⟨.inr ⟨(.tail _ (.head _)), (by first | assumption | exact Ne.symm (by assumption))⟩, (List.forall_mem_cons.2 ⟨.inr ⟨(.tail _ (.tail _ (.head _))), (by first | assumption | exact Ne.symm (by assumption))⟩, (fun p hp => .inr ⟨(.tail _ (.tail _ (.tail _ hp))), ((show Dk g13 ((T2 ++ T3) ++ T4) from (by (try simp only [dj_app_l, dj_app_r, dj_cons_l, dj_cons_r, dj_nil_l, dj_nil_r, dk_app, dk_cons, dk_nil, and_true, true_and, and_assoc]); repeat' (first | trivial | assumption | exact Dj.symm (by assumption) | exact Ne.symm (by assumption) | apply And.intro))) _ hp)⟩)⟩)⟩)⟩)) ?_
      refine Tw.lm (v := .bool false) rfl rfl ?_
      refine wpL_done (fun W13 hW13 => ?_)
      refine (show Code.wp _ _ _ _ _ from ?_)
      refine wp_seq ?_
      refine wp_seq ?_
      refine wp_region_L (W0 := w) ((g13, .cells (fa 8 (dg 0)) 23 (0, 0)) :: (g11, .cells (fa 8 (dg (n / Nat.gcd n m))) 23 (0, 0)) :: (g1, .cells (frcC false 0 0) 34 (0, 0)) :: ((T2 ++ T3) ++ T4)) (hW13) ?_
      refine Tw.lm (v := .bool true) rfl rfl ?_
      refine Tw.lm (v := .bool false) rfl rfl ?_
      refine Tw.lm (v := .bool false) rfl rfl ?_
      refine Tw.lm (v := .bool false) rfl rfl ?_
      refine Tw.lm (v := .bool true) rfl rfl ?_
      refine Tw.lm (v := .bool true) rfl rfl ?_
      refine wpL_done (fun W14 hW14 => ?_)
      refine (show Code.wp _ _ _ _ _ from ?_)
      refine wp_cond_true rfl ?_
      refine wp_seq ?_
      refine wp_region_L (W0 := w) [(g13, .cells (fa 8 (dg 0)) 23 (0, 0)), (g11, .cells (fa 8 (dg (n / Nat.gcd n m))) 23 (0, 0)), (g1, .cells (frcC false 0 0) 34 (0, 0))] ((hW14.sub (fun p hp => by simp only [List.mem_cons, List.mem_append, List.nil_append, List.not_mem_nil, or_assoc, or_false, false_or] at hp ⊢ <;> grind))) ?_
      refine Tw.lm (v := .agg (frcC false 0 0)) rfl rfl ?_
      refine wpL_s [(g13, .cells (fa 8 (dg 0)) 23 (0, 0)), (g11, .cells (fa 8 (dg (n / Nat.gcd n m))) 23 (0, 0)), (g1, .cells (frcC false 0 0) 34 (0, 0))] rfl rfl (st_all (by simp only [frcC_size]) (by exact frc_onec) rfl (by kernel_rfl) (by kernel_rfl) (.tail _ (.tail _ (.head _))) Bg1 (by simp only [frcC_size]; kernel_rfl) (List.forall_mem_cons.2 ⟨.inr ⟨(.head _), (by first | assumption | exact Ne.symm (by assumption))⟩, (List.forall_mem_cons.2 ⟨.inr ⟨(.tail _ (.head _)), (by first | assumption | exact Ne.symm (by assumption))⟩, (List.forall_mem_cons.2 ⟨.inl rfl, (List.forall_mem_nil _)⟩)⟩)⟩)) ?_
      refine Tw.lm (v := .int .i64 3) rfl rfl ?_
      refine wpL_done (fun W15 hW15 => ?_)
      refine (show Code.wp _ _ _ _ _ from ?_)
      refine wp_ret ?_
      try simp only [inBlock_ret, then_ret]
      refine bodyPost_ret (v := .tuple #[.agg (frcC false 0 0), .int .i64 3]) ?_ rfl ?_
      · exact (res_cell_tmp (p := 6) (q := 7) rfl rfl (hW15.2 _ (.tail _ (.tail _ (.head _)))) Tryz.underlying34 rfl (by simp only [frcC_size]; kernel_rfl))
      · exact ⟨(ret_v (mk_no (.inr h3))), hW15.1⟩
    | true =>
      have h3 : (cd (m / Nat.gcd n m)).length ≤ 16 := of_decide_eq_true hd3
      clear hd3
      refine Tw.lv (v := .tuple #[.agg (fa 8 (dg (m / Nat.gcd n m))), .bool true]) rfl rfl (yb_call (f := 83) (args := #[.slice q4 ((cd (m / Nat.gcd n m)).length) d4]) (fun _ => by kernel_rfl) fun W hW => limbs_yes h3 ▸ limbs_any (m / Nat.gcd n m) q4 d4 (by omega) W ((H4.mono (fun q hq => by first | exact hq | (simp only [List.mem_cons, List.mem_append, List.nil_append, List.not_mem_nil, or_assoc, or_false, false_or] at hq ⊢ <;> grind))) W hW)) ?_
      refine Tw.lm (v := .tuple #[.agg (fa 8 (dg (m / Nat.gcd n m))), .bool true]) rfl rfl ?_
      refine Tw.lm (v := .agg (fa 8 (dg (m / Nat.gcd n m)))) rfl rfl ?_
      refine Tw.lm (v := .bool true) rfl rfl ?_
      refine wpL_new (fun g => .pointer (some ⟨g, 0, none⟩)) (obi := .cells (fa 8 (dg 0)) 23 (0, 0)) rfl rfl (fun _ => by kernel_rfl) (fun _ => by simp only [List.setIfInBounds_toArray, List.set_cons_succ, List.set_cons_zero] <;> rfl) fun g15 Bg15 Fg15 => ?_
      obtain ⟨dj16_0, dj16_1, dj16_2, dj16_3, dj16_4⟩ : g11 ≠ g15 ∧ g1 ≠ g15 ∧ Dk g15 T2 ∧ Dk g15 T3 ∧ Dk g15 T4 := by simpa only [dj_app_l, dj_app_r, dj_cons_l, dj_cons_r, dj_nil_l, dj_nil_r, dk_app, dk_cons, dk_nil, and_true, true_and, and_assoc] using (show Dk g15 ((g11, .cells (fa 8 (dg (n / Nat.gcd n m))) 23 (0, 0)) :: (g1, .cells (frcC false 0 0) 34 (0, 0)) :: ((T2 ++ T3) ++ T4)) from Fg15)
      refine wpL_s ((g15, .cells (fa 8 (dg (m / Nat.gcd n m))) 23 (0, 0)) :: (g11, .cells (fa 8 (dg (n / Nat.gcd n m))) 23 (0, 0)) :: (g1, .cells (frcC false 0 0) 34 (0, 0)) :: ((T2 ++ T3) ++ T4)) rfl rfl (st_all (by simp only [fa_size]) (by exact fa_one) rfl (by kernel_rfl) (by kernel_rfl) (.head _) Bg15 (by simp only [fa_size]; kernel_rfl) (List.forall_mem_cons.2 ⟨.inl rfl, (List.forall_mem_cons.2 ⟨.inr ⟨(.tail _ (.head _)), (by first | assumption | exact Ne.symm (by assumption))⟩, (List.forall_mem_cons.2 ⟨.inr ⟨(.tail _ (.tail _ (.head _))), (by first | assumption | exact Ne.symm (by assumption))⟩, (fun p hp => .inr ⟨(.tail _ (.tail _ (.tail _ hp))), ((show Dk g15 ((T2 ++ T3) ++ T4) from (by (try simp only [dj_app_l, dj_app_r, dj_cons_l, dj_cons_r, dj_nil_l, dj_nil_r, dk_app, dk_cons, dk_nil, and_true, true_and, and_assoc]); repeat' (first | trivial | assumption | exact Dj.symm (by assumption) | exact Ne.symm (by assumption) | apply And.intro))) _ hp)⟩)⟩)⟩)⟩)) ?_
      refine Tw.lm (v := .bool true) rfl rfl ?_
      refine wpL_done (fun W16 hW16 => ?_)
      refine (show Code.wp _ _ _ _ _ from ?_)
      refine wp_seq ?_
      refine wp_seq ?_
      refine wp_region_L (W0 := w) ((g15, .cells (fa 8 (dg (m / Nat.gcd n m))) 23 (0, 0)) :: (g11, .cells (fa 8 (dg (n / Nat.gcd n m))) 23 (0, 0)) :: (g1, .cells (frcC false 0 0) 34 (0, 0)) :: ((T2 ++ T3) ++ T4)) (hW16) ?_
      refine Tw.lm (v := .bool true) rfl rfl ?_
      refine Tw.lm (v := .bool false) rfl rfl ?_
      refine Tw.lm (v := .bool false) rfl rfl ?_
      refine Tw.lm (v := .bool true) rfl rfl ?_
      refine Tw.lm (v := .bool false) rfl rfl ?_
      refine Tw.lm (v := .bool false) rfl rfl ?_
      refine wpL_done (fun W17 hW17 => ?_)
      refine (show Code.wp _ _ _ _ _ from ?_)
      refine wp_cond_false rfl ?_
      refine wp_skip ?_
      refine (show Code.wp _ _ _ _ _ from ?_)
      refine wp_seq ?_
      refine wp_region_L (W0 := w) [(g15, .cells (fa 8 (dg (m / Nat.gcd n m))) 23 (0, 0)), (g11, .cells (fa 8 (dg (n / Nat.gcd n m))) 23 (0, 0)), (g1, .cells (frcC false 0 0) 34 (0, 0))] ((hW17.sub (fun p hp => by simp only [List.mem_cons, List.mem_append, List.nil_append, List.not_mem_nil, or_assoc, or_false, false_or] at hp ⊢ <;> grind))) ?_
      refine Tw.lm (v := .bool neg) rfl rfl ?_
      refine Tw.lm (v := .bool neg) rfl rfl ?_
      cases h4 : neg with
      | false =>
        refine Tw.ln rfl ?_
        refine Tw.ln rfl ?_
        refine Tw.ln rfl ?_
        refine Tw.lm (v := .bool false) rfl rfl ?_
        refine Tw.lv (v := .agg (fa 8 (dg (n / Nat.gcd n m)))) rfl rfl (yb_all rfl (by kernel_rfl) (.tail _ (.head _)) Tryz.underlying23 rfl (by simp only [fa_size]; kernel_rfl)) ?_
        refine Tw.lv (v := .agg (fa 8 (dg (m / Nat.gcd n m)))) rfl rfl (yb_all rfl (by kernel_rfl) (.head _) Tryz.underlying23 rfl (by simp only [fa_size]; kernel_rfl)) ?_
        refine Tw.lm (v := .agg (frcC false (n / Nat.gcd n m) (m / Nat.gcd n m))) rfl rfl ?_
        refine wpL_s [(g15, .cells (fa 8 (dg (m / Nat.gcd n m))) 23 (0, 0)), (g11, .cells (fa 8 (dg (n / Nat.gcd n m))) 23 (0, 0)), (g1, .cells (frcC false (n / Nat.gcd n m) (m / Nat.gcd n m)) 34 (0, 0))] rfl rfl (st_all (by simp only [frcC_size]) (by exact frc_onec) rfl (by kernel_rfl) (by kernel_rfl) (.tail _ (.tail _ (.head _))) Bg1 (by simp only [frcC_size]; kernel_rfl) (List.forall_mem_cons.2 ⟨.inr ⟨(.head _), (by first | assumption | exact Ne.symm (by assumption))⟩, (List.forall_mem_cons.2 ⟨.inr ⟨(.tail _ (.head _)), (by first | assumption | exact Ne.symm (by assumption))⟩, (List.forall_mem_cons.2 ⟨.inl rfl, (List.forall_mem_nil _)⟩)⟩)⟩)) ?_
        refine Tw.lm (v := .int .i64 0) rfl rfl ?_
        refine wpL_done (fun W18 hW18 => ?_)
        refine (show Code.wp _ _ _ _ _ from ?_)
        refine wp_ret ?_
        try simp only [inBlock_ret, then_ret]
        refine bodyPost_ret (v := .tuple #[.agg (frcC false (n / Nat.gcd n m) (m / Nat.gcd n m)), .int .i64 0]) ?_ rfl ?_
        · exact (res_cell_tmp (p := 6) (q := 7) rfl rfl (hW18.2 _ (.tail _ (.tail _ (.head _)))) Tryz.underlying34 rfl (by simp only [frcC_size]; kernel_rfl))
        · exact ⟨(ret_v (mk_yes h1 h3 rfl)), hW18.1⟩
      | true =>
        refine Tw.lm (v := .slice q3 ((cd (n / Nat.gcd n m)).length) d3) rfl rfl ?_
        refine Tw.lp (v := .int .i64 ((((cd (n / Nat.gcd n m)).length) : Nat) : Int)) rfl rfl (run_lenL (p := q3) (cap := d3) (n := ((cd (n / Nat.gcd n m)).length)) rfl Tryz.underlying32 (by kernel_rfl)) ?_
        refine Tw.lp (v := .bool (decide (0 < ((cd (n / Nat.gcd n m)).length)))) rfl rfl (run_bin rfl (vx := (.int .i64 ((((cd (n / Nat.gcd n m)).length) : Nat) : Int))) (vy := (.int .i64 ((0 : Nat) : Int))) (by kernel_rfl) (by kernel_rfl) fun w => bn_gtr rfl w) ?_
        refine Tw.lm (v := .bool (decide (0 < ((cd (n / Nat.gcd n m)).length)))) rfl rfl ?_
        refine Tw.lv (v := .agg (fa 8 (dg (n / Nat.gcd n m)))) rfl rfl (yb_all rfl (by kernel_rfl) (.tail _ (.head _)) Tryz.underlying23 rfl (by simp only [fa_size]; kernel_rfl)) ?_
        refine Tw.lv (v := .agg (fa 8 (dg (m / Nat.gcd n m)))) rfl rfl (yb_all rfl (by kernel_rfl) (.head _) Tryz.underlying23 rfl (by simp only [fa_size]; kernel_rfl)) ?_
        refine Tw.lm (v := .agg (frcC (decide (0 < ((cd (n / Nat.gcd n m)).length))) (n / Nat.gcd n m) (m / Nat.gcd n m))) rfl rfl ?_
        refine wpL_s [(g15, .cells (fa 8 (dg (m / Nat.gcd n m))) 23 (0, 0)), (g11, .cells (fa 8 (dg (n / Nat.gcd n m))) 23 (0, 0)), (g1, .cells (frcC (decide (0 < ((cd (n / Nat.gcd n m)).length))) (n / Nat.gcd n m) (m / Nat.gcd n m)) 34 (0, 0))] rfl rfl (st_all (by simp only [frcC_size]) (by exact frc_onec) rfl (by kernel_rfl) (by kernel_rfl) (.tail _ (.tail _ (.head _))) Bg1 (by simp only [frcC_size]; kernel_rfl) (List.forall_mem_cons.2 ⟨.inr ⟨(.head _), (by first | assumption | exact Ne.symm (by assumption))⟩, (List.forall_mem_cons.2 ⟨.inr ⟨(.tail _ (.head _)), (by first | assumption | exact Ne.symm (by assumption))⟩, (List.forall_mem_cons.2 ⟨.inl rfl, (List.forall_mem_nil _)⟩)⟩)⟩)) ?_
        refine Tw.lm (v := .int .i64 0) rfl rfl ?_
        refine wpL_done (fun W19 hW19 => ?_)
        refine (show Code.wp _ _ _ _ _ from ?_)
        refine wp_ret ?_
        try simp only [inBlock_ret, then_ret]
        refine bodyPost_ret (v := .tuple #[.agg (frcC (decide (0 < ((cd (n / Nat.gcd n m)).length))) (n / Nat.gcd n m) (m / Nat.gcd n m)), .int .i64 0]) ?_ rfl ?_
        · exact (res_cell_tmp (p := 6) (q := 7) rfl rfl (hW19.2 _ (.tail _ (.tail _ (.head _)))) Tryz.underlying34 rfl (by simp only [frcC_size]; kernel_rfl))
        · exact ⟨(ret_v (mk_yes h1 h3 (by rw [Bool.true_and]; exact pos_ne))), hW19.1⟩
end Go.Proofs.YtalmflgkbmnghaaGreatDoor
/- Loops over a string, calls of method values, lists cut to nothing. Over any program. -/
namespace Tw
open Go Go.RowKit Go.Proofs.YtalmflgkbmnghaaGreatDoor
section
variable {P : Program} {W0 : Base} {T E : TypeId}
end
section
def OVp {α : Type} (B : Nat) (E : TypeId) (R : World → Value → α → Prop) (W : World) (p : Option Addr) (l : List α) : Prop :=
  ∃ vs : List Value, vs.length = l.length ∧ (vs = [] ∨ ∃ g cur, p = some ⟨g, 0, none⟩ ∧ B ≤ g ∧ W.heap[g]? = some (.cells cur E (0, 0)) ∧ cur.toList.take vs.length = vs) ∧ ∀ (k : Nat) (x : Value) (y : α), vs[k]? = some x → l[k]? = some y → R W x y
def OV {α : Type} (B : Nat) (E : TypeId) (R : World → Value → α → Prop) (W : World) (v : Value) (l : List α) : Prop := ∃ p cap, v = .slice p l.length cap ∧ OVp B E R W p l
theorem OV.keeps {α : Type} {B : Nat} {E : TypeId} {R : World → Value → α → Prop} (hR : Keeps R) : Keeps (OV B E R) := by
  rintro W W' v y ⟨p, cap, h1, vs, h2, h3, h4⟩ hB
  refine ⟨p, cap, h1, vs, h2, h3.imp id ?_, fun k x y hx hy => hR _ _ _ _ (h4 k x y hx hy) hB⟩
  rintro ⟨g, cur, e1, e2, e3, e4⟩
  exact ⟨g, cur, e1, e2, (hB.block g (lt_of_block e3)).trans e3, e4⟩
theorem OVp.lvp {α : Type} {B : Nat} {E : TypeId} {R R' : World → Value → α → Prop} (hR : ∀ W v y, R W v y → R' W v y) {W : World} {p : Option Addr} {l : List α} (h : OVp B E R W p l) : LVp R' W p l := by
  obtain ⟨vs, h2, h3, h4⟩ := h
  refine ⟨vs, ?_, h2, fun k x y hx hy => hR _ _ _ (h4 k x y hx hy)⟩
  rcases h3 with h | ⟨g, cur, e1, e2, e3, e4⟩
  · exact .inl h
  · refine .inr ⟨g, 0, e1, lt_of_block e3, fun i u hu => ?_⟩
    rw [Nat.zero_add, cell_of_row W g i cur _ _ e3]
    rw [← e4, List.getElem?_take] at hu
    split at hu
    · simpa using hu
    · cases hu
theorem OV.lv {α : Type} {B : Nat} {E : TypeId} {R R' : World → Value → α → Prop} (hR : ∀ W v y, R W v y → R' W v y) (W : World) (v : Value) (l : List α) (h : OV B E R W v l) : LV R' W v l := by
  obtain ⟨p, cap, h1, h2⟩ := h
  exact ⟨p, cap, h1, h2.lvp hR⟩
theorem MkE.own {α : Type} {R : World → Value → α → Prop} {W0 : Base} {E : TypeId} {v : Value} {n : Nat} {xs : List Value} {l : List α} {K T : List (Nat × Obj)} (hO : OwnL W0 E 1 v n xs K) (hE : MkE R W0 xs l T) (hn : n = l.length) : MkV (OV W0.B E R) W0 v l (T ++ K) := by
  obtain ⟨h1, h2⟩ := hE
  intro W hW
  have hA := h2 W (hW.sub (fun p hp => List.mem_append_left K hp))
  rcases hO with ⟨rfl, rfl, rfl, rfl⟩ | ⟨g, cap, cur, rfl, hB, hR, rfl⟩
  · exact ⟨none, 0, by rw [← hn], [], h1, .inl rfl, hA⟩
  · have hb := hW.2 _ (List.mem_append_right T (.head _))
    refine ⟨some ⟨g, 0, none⟩, cap, by rw [hn], xs, h1, .inr ⟨g, cur, rfl, hB, hb, ?_⟩, hA⟩
    have := hR.2.2.2.2
    rwa [Nat.mul_one, hn, ← h1] at this
end
theorem wpV_g {P : Program} {md : Region.Mode} {ops : Array Oper} {Q : Exit → Act → World → Prop} {W0 : Base} {i : Nat} {oi : Oper} {d n : Nat} {listed : Array Bool} {tm : Array Value} {df : List Deferred} {K : List (Nat × Obj)} {T : Value → Array Value} (G : Value → List (Nat × Obj) → Prop)
    (hi : ops[i]? = some oi) (hdi : oi.dst = some d) (hs : isStore oi = true) (hr : Region.ready md ops listed = [i]) (hw : Region.wanted oi (yielded ops tm) = true)
    (hg : ∀ w, KS W0 K w → ∃ v K' w', (execOp (Act.eval ⟨tm, df⟩) oi).run P w = .ok (.value v) w' ∧ KS W0 K' w' ∧ G v K')
    (hT : ∀ v, tm.setIfInBounds d v = T v)
    (h : ∀ v K', G v K' → wpV P md ops Q W0 n (listed.setIfInBounds i true) ⟨T v, df⟩ K') : wpV P md ops Q W0 (n + 1) listed ⟨tm, df⟩ K :=
  ⟨fun h0 => (by rw [hr] at h0; cases h0), fun j hj => by
    rw [hr] at hj
    cases List.mem_singleton.1 hj
    refine ⟨oi, hi, .inr (.inr (.inr ⟨G, .inl hs, ⟨hw, fun w hK => (let ⟨_, K', _, h1, h2, h3⟩ := hg w hK; oto_of_run h1 ⟨K', h2, h3⟩)⟩, fun v K' hG => ?_⟩))⟩
    rw [hdi]
    simp only [Act.put]
    rw [hT v]
    exact h v K' hG⟩
end Tw
