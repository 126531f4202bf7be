import Derived.Test.YtjmcelgdjpdacaaDoorG07
/- ClockWrites: the law holds for every input; no condition but the row's own. -/
set_option linter.unusedVariables false
set_option linter.unusedSimpArgs false
set_option linter.unusedSectionVars false
namespace Go.Proofs.YtjmcelgdjpdacaaDoor
open Go.RowKit Tw
open Go
theorem run_remT {x y z : Int} (h : x.tmod y = z) (hy : y ≠ 0) (hr : -9223372036854775808 ≤ z ∧ z ≤ 9223372036854775807) {px py : Operand} (w : World) : (do eqGuard .rem 3 px py (.int .i64 x) (.int .i64 y); binOp .rem 3 (.int .i64 x) (.int .i64 y) : Sem Value).run Tryd.prog w = .ok (.int .i64 z) w := by
  subst h; go_simp
theorem tmod_range {x n : Int} (hn : 1 ≤ n) (hn1 : n ≤ 9223372036854775807) : -9223372036854775808 ≤ x.tmod n ∧ x.tmod n ≤ 9223372036854775807 := by
  have h1 := Int.tmod_lt_of_pos x (show 0 < n by omega)
  have h2 : -n < x.tmod n := by
    have := Int.tmod_lt_of_pos (-x) (show 0 < n by omega)
    rw [Int.neg_tmod] at this
    omega
  omega
theorem tmod_emod {x n : Int} (hn : 1 ≤ n) : x % n = if x.tmod n < 0 then x.tmod n + n else x.tmod n := by
  rw [Int.emod_eq_tmod]
  by_cases h : 0 ≤ x
  · rw [if_pos (.inl h)]
    have := Int.tmod_nonneg n h
    rw [if_neg (by omega)]
    omega
  · by_cases hd : n ∣ x
    · rw [if_pos (.inr hd), Int.tmod_eq_zero_of_dvd hd]
      simp
    · rw [if_neg (by omega)]
      have h0 : x.tmod n ≠ 0 := fun e => hd (Int.dvd_of_tmod_eq_zero e)
      have h1 : x.tmod n ≤ 0 := by
        have := Int.tmod_nonneg n (show 0 ≤ -x by omega)
        rw [Int.neg_tmod] at this
        omega
      rw [if_pos (by omega)]
      omega
theorem text_tail (t : Nat) : (textS t).drop ((textS t).length - 9) = dayL (t % 10080 / 1440) ++ 32 :: (two (t % 1440 / 60) ++ 58 :: two (t % 1440 % 60)) := by
  have h3 := day_len (t % 10080 / 1440)
  have h4 := two_len (n := t % 1440 / 60) (by omega)
  have h5 := two_len (n := t % 1440 % 60) (by omega)
  have e : textS t = (Lib.decDigits (t / 10080) ++ [32]) ++ (dayL (t % 10080 / 1440) ++ 32 :: (two (t % 1440 / 60) ++ 58 :: two (t % 1440 % 60))) := by rw [text_eq]; simp
  rw [e]
  generalize hr : dayL (t % 10080 / 1440) ++ 32 :: (two (t % 1440 / 60) ++ 58 :: two (t % 1440 % 60)) = r
  have hl : r.length = 9 := by rw [← hr]; simp only [List.length_append, List.length_cons, h3, h4, h5]
  generalize Lib.decDigits (t / 10080) ++ [32] = d
  rw [List.length_append, hl, Nat.add_sub_cancel, List.drop_left]
theorem text_week (t : Nat) : (textS (t + 10080)).drop ((textS (t + 10080)).length - 9) = (textS t).drop ((textS t).length - 9) := by
  rw [text_tail, text_tail, show (t + 10080) % 10080 = t % 10080 from by omega, show (t + 10080) % 1440 = t % 1440 from by omega]
set_option maxRecDepth 100000 in
set_option maxHeartbeats 2000000 in
theorem Pick_any (x n : Int) (hn : 1 ≤ n) (hn1 : n ≤ 4000000000) (w : World) : Calls Tryd.prog 34 #[.int .i64 x, .int .i64 n] w fun e w' => e = .returned (.int .i64 (x % n)) ∧ Below w.heap.size w w' := by
  have hr := tmod_range (x := x) hn (by omega)
  have he := tmod_emod (x := x) hn
  by_cases h0 : x.tmod n < 0
  · rw [if_pos h0] at he
    rw [he]
    go_enter Tryd.func34, Tryd.ntmps34
    refine wp_seq ?_
    refine wp_region_L (W0 := w) [] (KS.start w) ?_
    refine lm (v := .int .i64 0) rfl rfl ?_
    refine wpL_done (fun W1 hW1 => ?_)
    refine (show Code.wp _ _ _ _ _ from ?_)
    refine wp_seq ?_
    refine wp_seq ?_
    refine wp_region_L (W0 := w) [] (hW1) ?_
    refine lm (v := .int .i64 n) rfl rfl ?_
    refine lp (v := .bool false) rfl rfl (run_bin rfl (vx := .int .i64 n) (vy := .int .i64 1) (by kernel_rfl) (by kernel_rfl) fun w => run_lssI (decide_eq_false (by omega)) w) ?_
    refine wpL_done (fun W2 hW2 => ?_)
    clear hW1
    refine (show Code.wp _ _ _ _ _ from ?_)
    refine wp_cond_false rfl ?_
    refine wp_skip ?_
    refine (show Code.wp _ _ _ _ _ from ?_)
    refine wp_seq ?_
    refine wp_region_L (W0 := w) [] (hW2) ?_
    refine lm (v := .int .i64 x) rfl rfl ?_
    refine lm (v := .int .i64 n) rfl rfl ?_
    refine lp (v := .int .i64 (x.tmod n)) rfl rfl (run_bin rfl (vx := .int .i64 x) (vy := .int .i64 n) (by kernel_rfl) (by kernel_rfl) fun w => run_remT rfl (by omega) hr w) ?_
    refine lm (v := .int .i64 (x.tmod n)) rfl rfl ?_
    refine wpL_done (fun W3 hW3 => ?_)
    clear hW2
    refine (show Code.wp _ _ _ _ _ from ?_)
    refine wp_seq ?_
    refine wp_seq ?_
    refine wp_region_L (W0 := w) [] (hW3) ?_
    refine lm (v := .int .i64 (x.tmod n)) rfl rfl ?_
    refine lp (v := .bool true) rfl rfl (run_bin rfl (vx := .int .i64 (x.tmod n)) (vy := .int .i64 0) (by kernel_rfl) (by kernel_rfl) fun w => run_lssI (decide_eq_true h0) w) ?_
    refine wpL_done (fun W4 hW4 => ?_)
    clear hW3
    refine (show Code.wp _ _ _ _ _ from ?_)
    refine wp_cond_true rfl ?_
    refine wp_region_L (W0 := w) [] (hW4) ?_
    refine lm (v := .int .i64 (x.tmod n)) rfl rfl ?_
    refine lm (v := .int .i64 n) rfl rfl ?_
    refine lp (v := .int .i64 (x.tmod n + n)) rfl rfl (run_bin rfl (vx := .int .i64 (x.tmod n)) (vy := .int .i64 n) (by kernel_rfl) (by kernel_rfl) fun w => run_addI (z := (x.tmod n + n)) rfl (by omega) w) ?_
    refine lm (v := .int .i64 (x.tmod n + n)) rfl rfl ?_
    refine wpL_done (fun W5 hW5 => ?_)
    clear hW4
    refine (show Code.wp _ _ _ _ _ from ?_)
    refine wp_seq ?_
    refine wp_region_L (W0 := w) [] (hW5) ?_
    refine lm (v := .int .i64 (x.tmod n + n)) rfl rfl ?_
    refine lm (v := .int .i64 (x.tmod n + n)) rfl rfl ?_
    refine wpL_done (fun W6 hW6 => ?_)
    clear hW5
    refine (show Code.wp _ _ _ _ _ from ?_)
    refine wp_ret ?_
    try simp only [inBlock_ret, then_ret]
    go_ret
    exact ⟨rfl, hW6.1⟩
  · rw [if_neg h0] at he
    rw [he]
    go_enter Tryd.func34, Tryd.ntmps34
    refine wp_seq ?_
    refine wp_region_L (W0 := w) [] (KS.start w) ?_
    refine lm (v := .int .i64 0) rfl rfl ?_
    refine wpL_done (fun W1 hW1 => ?_)
    refine (show Code.wp _ _ _ _ _ from ?_)
    refine wp_seq ?_
    refine wp_seq ?_
    refine wp_region_L (W0 := w) [] (hW1) ?_
    refine lm (v := .int .i64 n) rfl rfl ?_
    refine lp (v := .bool false) rfl rfl (run_bin rfl (vx := .int .i64 n) (vy := .int .i64 1) (by kernel_rfl) (by kernel_rfl) fun w => run_lssI (decide_eq_false (by omega)) w) ?_
    refine wpL_done (fun W2 hW2 => ?_)
    clear hW1
    refine (show Code.wp _ _ _ _ _ from ?_)
    refine wp_cond_false rfl ?_
    refine wp_skip ?_
    refine (show Code.wp _ _ _ _ _ from ?_)
    refine wp_seq ?_
    refine wp_region_L (W0 := w) [] (hW2) ?_
    refine lm (v := .int .i64 x) rfl rfl ?_
    refine lm (v := .int .i64 n) rfl rfl ?_
    refine lp (v := .int .i64 (x.tmod n)) rfl rfl (run_bin rfl (vx := .int .i64 x) (vy := .int .i64 n) (by kernel_rfl) (by kernel_rfl) fun w => run_remT rfl (by omega) hr w) ?_
    refine lm (v := .int .i64 (x.tmod n)) rfl rfl ?_
    refine wpL_done (fun W3 hW3 => ?_)
    clear hW2
    refine (show Code.wp _ _ _ _ _ from ?_)
    refine wp_seq ?_
    refine wp_seq ?_
    refine wp_region_L (W0 := w) [] (hW3) ?_
    refine lm (v := .int .i64 (x.tmod n)) rfl rfl ?_
    refine lp (v := .bool false) rfl rfl (run_bin rfl (vx := .int .i64 (x.tmod n)) (vy := .int .i64 0) (by kernel_rfl) (by kernel_rfl) fun w => run_lssI (decide_eq_false h0) w) ?_
    refine wpL_done (fun W4 hW4 => ?_)
    clear hW3
    refine (show Code.wp _ _ _ _ _ from ?_)
    refine wp_cond_false rfl ?_
    refine wp_skip ?_
    refine (show Code.wp _ _ _ _ _ from ?_)
    refine wp_seq ?_
    refine wp_region_L (W0 := w) [] (hW4) ?_
    refine lm (v := .int .i64 (x.tmod n)) rfl rfl ?_
    refine lm (v := .int .i64 (x.tmod n)) rfl rfl ?_
    refine wpL_done (fun W5 hW5 => ?_)
    clear hW4
    refine (show Code.wp _ _ _ _ _ from ?_)
    refine wp_ret ?_
    try simp only [inBlock_ret, then_ret]
    go_ret
    exact ⟨rfl, hW5.1⟩
set_option maxRecDepth 100000 in
set_option maxHeartbeats 8000000 in
theorem ClockWrites_law (w : World) (hE : Env w) (a0 : Int) (r0 : -9223372036854775808 ≤ a0 ∧ a0 ≤ 9223372036854775807) : Calls Tryd.prog 12 #[.int .i64 a0] w fun e w' => e = .returned (.bool true) ∧ Below w.heap.size w w' := by
  have HE := Lib.hid hE
  clear hE
  obtain ⟨t, ht⟩ : ∃ t : Nat, a0 % 99989921 = (t : Int) := ⟨(a0 % 99989921).toNat, by omega⟩
  have hpk := fun W => Pick_any a0 99989921 (by omega) (by omega) W
  rw [ht] at hpk
  have t0 : t ≤ 99989920 := by omega
  have q1 := text_len (t := t) (by omega)
  have q2 := text_len (t := t + 10080) (by omega)
  have hT1 := fun W hW => Text_ok t (by omega) W hW
  have hT2 := fun W hW => Text_ok (t + 10080) (by omega) W hW
  have hR1 := fun W hW => Read_ok t (by omega) W hW
  have hR2 := fun W hW => Read_ok (t + 10080) (by omega) W hW
  have hwk := text_week t
  have hne : (textS t == textS (t + 10080)) = false := by
    rw [beq_eq_false_iff_ne]
    intro e
    have := text_inj (by omega) (by omega) e
    omega
  generalize textS t = sa at *
  generalize textS (t + 10080) = sb at *
  have heq : (sa.drop (sa.length - 9) == sb.drop (sb.length - 9)) = true := by rw [beq_iff_eq]; exact hwk.symm
  go_enter Tryd.func12, Tryd.ntmps12
  refine wp_seq ?_
  refine wp_region_L (W0 := w) [] (KS.start w) ?_
  refine lm (v := .bool false) rfl rfl ?_
  refine wpL_done (fun W1 hW1 => ?_)
  refine (show Code.wp _ _ _ _ _ from ?_)
  refine wp_seq ?_
  refine wp_seq ?_
  refine wp_region_L (W0 := w) [] (hW1) ?_
  refine lv (v := .bool true) rfl rfl (yb_call (f := 15) (args := #[]) (fun _ => by kernel_rfl) fun W hW => awake_any W (HE.out.keep hW.1)) ?_
  refine lm (v := .bool false) rfl rfl ?_
  refine wpL_done (fun W2 hW2 => ?_)
  clear hW1
  refine (show Code.wp _ _ _ _ _ from ?_)
  refine wp_cond_false rfl ?_
  refine wp_skip ?_
  refine (show Code.wp _ _ _ _ _ from ?_)
  refine wp_seq ?_
  refine wp_region_L (W0 := w) [] (hW2) ?_
  refine lm (v := .int .i64 a0) rfl rfl ?_
  refine lv (v := .int .i64 (t : Int)) rfl rfl (yb_call (f := 34) (args := #[.int .i64 a0, .int .i64 99989921]) (fun _ => by kernel_rfl) fun W hW => hpk W) ?_
  refine lm (v := .int .i64 (t : Int)) rfl rfl ?_
  refine wpL_done (fun W3 hW3 => ?_)
  clear hW2
  refine (show Code.wp _ _ _ _ _ from ?_)
  refine wp_seq ?_
  refine wp_region_L (W0 := w) [] (hW3) ?_
  refine lm (v := .int .i64 (t : Int)) rfl rfl ?_
  refine lv (v := .tuple #[strV sa, .int .i64 0]) rfl rfl (yb_call (f := 35) (args := #[.int .i64 (t : Int)]) (fun _ => by kernel_rfl) fun W hW => hT1 W (HE.out.keep hW.1)) ?_
  refine lm (v := .tuple #[strV sa, .int .i64 0]) rfl rfl ?_
  refine lm (v := strV sa) rfl rfl ?_
  refine lm (v := .int .i64 0) rfl rfl ?_
  refine lm (v := strV sa) rfl rfl ?_
  refine lm (v := .int .i64 0) rfl rfl ?_
  refine wpL_done (fun W4 hW4 => ?_)
  clear hW3
  refine (show Code.wp _ _ _ _ _ from ?_)
  refine wp_seq ?_
  refine wp_region_L (W0 := w) [] (hW4) ?_
  refine lm (v := .int .i64 (t : Int)) rfl rfl ?_
  refine lp (v := .int .i64 ((t + 10080 : Nat) : Int)) rfl rfl (run_bin rfl (vx := .int .i64 (t : Int)) (vy := .int .i64 10080) (by kernel_rfl) (by kernel_rfl) fun w => run_addI (z := ((t + 10080 : Nat) : Int)) (by omega) (by omega) w) ?_
  refine lv (v := .tuple #[strV sb, .int .i64 0]) rfl rfl (yb_call (f := 35) (args := #[.int .i64 ((t + 10080 : Nat) : Int)]) (fun _ => by kernel_rfl) fun W hW => hT2 W (HE.out.keep hW.1)) ?_
  refine lm (v := .tuple #[strV sb, .int .i64 0]) rfl rfl ?_
  refine lm (v := strV sb) rfl rfl ?_
  refine lm (v := .int .i64 0) rfl rfl ?_
  refine lm (v := strV sb) rfl rfl ?_
  refine lm (v := .int .i64 0) rfl rfl ?_
  refine wpL_done (fun W5 hW5 => ?_)
  clear hW4
  refine (show Code.wp _ _ _ _ _ from ?_)
  refine wp_seq ?_
  refine wp_region_L (W0 := w) [] (hW5) ?_
  refine lm (v := strV sa) rfl rfl ?_
  refine lv (v := .tuple #[.int .i64 (t : Int), .int .i64 0]) rfl rfl (yb_call (f := 36) (args := #[strV sa]) (fun _ => by kernel_rfl) fun W hW => hR1 W (HE.out.keep hW.1)) ?_
  refine lm (v := .tuple #[.int .i64 (t : Int), .int .i64 0]) rfl rfl ?_
  refine lm (v := .int .i64 (t : Int)) rfl rfl ?_
  refine lm (v := .int .i64 0) rfl rfl ?_
  refine lm (v := .int .i64 (t : Int)) rfl rfl ?_
  refine lm (v := .int .i64 0) rfl rfl ?_
  refine wpL_done (fun W6 hW6 => ?_)
  clear hW5
  refine (show Code.wp _ _ _ _ _ from ?_)
  refine wp_seq ?_
  refine wp_region_L (W0 := w) [] (hW6) ?_
  refine lm (v := strV sb) rfl rfl ?_
  refine lv (v := .tuple #[.int .i64 ((t + 10080 : Nat) : Int), .int .i64 0]) rfl rfl (yb_call (f := 36) (args := #[strV sb]) (fun _ => by kernel_rfl) fun W hW => hR2 W (HE.out.keep hW.1)) ?_
  refine lm (v := .tuple #[.int .i64 ((t + 10080 : Nat) : Int), .int .i64 0]) rfl rfl ?_
  refine lm (v := .int .i64 ((t + 10080 : Nat) : Int)) rfl rfl ?_
  refine lm (v := .int .i64 0) rfl rfl ?_
  refine lm (v := .int .i64 ((t + 10080 : Nat) : Int)) rfl rfl ?_
  refine lm (v := .int .i64 0) rfl rfl ?_
  refine wpL_done (fun W7 hW7 => ?_)
  clear hW6
  refine (show Code.wp _ _ _ _ _ from ?_)
  refine wp_seq ?_
  refine wp_region_V (W0 := w) [] (by kernel_rfl) (hW7) ?_
  refine vm (i := 0) (v := .int .i64 0) rfl rfl rfl ?_
  refine vm (i := 1) (v := .int .i64 0) rfl rfl rfl ?_
  refine vm (i := 2) (v := .int .i64 0) rfl rfl rfl ?_
  refine vm (i := 3) (v := .int .i64 0) rfl rfl rfl ?_
  refine vm (i := 4) (v := .int .i64 0) rfl rfl rfl ?_
  refine vm (i := 5) (v := .int .i64 0) rfl rfl rfl ?_
  refine vm (i := 6) (v := .int .i64 0) rfl rfl rfl ?_
  refine vm (i := 7) (v := .bool true) rfl rfl rfl ?_
  refine vm (i := 8) (v := .bool true) rfl rfl rfl ?_
  refine vm (i := 9) (v := .int .i64 (t : Int)) rfl rfl rfl ?_
  refine vm (i := 10) (v := .int .i64 (t : Int)) rfl rfl rfl ?_
  refine vp (i := 11) (v := .bool true) rfl rfl rfl (run_bin rfl (vx := .int .i64 (t : Int)) (vy := .int .i64 (t : Int)) (by kernel_rfl) (by kernel_rfl) fun w => run_eqlI (decide_eq_true rfl) w) ?_
  refine vm (i := 12) (v := .bool true) rfl rfl rfl ?_
  refine vm (i := 13) (v := .bool true) rfl rfl rfl ?_
  refine vm (i := 14) (v := .int .i64 ((t + 10080 : Nat) : Int)) rfl rfl rfl ?_
  refine vm (i := 15) (v := .int .i64 (t : Int)) rfl rfl rfl ?_
  refine vp (i := 16) (v := .int .i64 ((t + 10080 : Nat) : Int)) rfl rfl rfl (run_bin rfl (vx := .int .i64 (t : Int)) (vy := .int .i64 10080) (by kernel_rfl) (by kernel_rfl) fun w => run_addI (z := ((t + 10080 : Nat) : Int)) (by omega) (by omega) w) ?_
  refine vp (i := 17) (v := .bool true) rfl rfl rfl (run_bin rfl (vx := .int .i64 ((t + 10080 : Nat) : Int)) (vy := .int .i64 ((t + 10080 : Nat) : Int)) (by kernel_rfl) (by kernel_rfl) fun w => run_eqlI (decide_eq_true rfl) w) ?_
  refine vm (i := 18) (v := .bool true) rfl rfl rfl ?_
  refine vm (i := 19) (v := .bool true) rfl rfl rfl ?_
  refine vm (i := 20) (v := strV sa) rfl rfl rfl ?_
  refine vm (i := 21) (v := .int .i64 (sa.length : Int)) rfl rfl rfl ?_
  refine vp (i := 22) (v := .bool true) rfl rfl rfl (run_bin rfl (vx := .int .i64 (sa.length : Int)) (vy := .int .i64 11) (by kernel_rfl) (by kernel_rfl) fun w => run_geqI (decide_eq_true (by omega)) w) ?_
  refine vm (i := 23) (v := .bool true) rfl rfl rfl ?_
  refine vm (i := 24) (v := .bool true) rfl rfl rfl ?_
  refine vm (i := 25) (v := strV sb) rfl rfl rfl ?_
  refine vm (i := 26) (v := .int .i64 (sb.length : Int)) rfl rfl rfl ?_
  refine vp (i := 27) (v := .bool true) rfl rfl rfl (run_bin rfl (vx := .int .i64 (sb.length : Int)) (vy := .int .i64 11) (by kernel_rfl) (by kernel_rfl) fun w => run_geqI (decide_eq_true (by omega)) w) ?_
  refine vm (i := 28) (v := .bool true) rfl rfl rfl ?_
  refine vm (i := 29) (v := .bool true) rfl rfl rfl ?_
  refine vm (i := 30) (v := strV sa) rfl rfl rfl ?_
  refine vm (i := 31) (v := strV sa) rfl rfl rfl ?_
  refine vm (i := 32) (v := .int .i64 (sa.length : Int)) rfl rfl rfl ?_
  refine vp (i := 33) (v := .int .i64 ((sa.length - 9 : Nat) : Int)) rfl rfl rfl (run_bin rfl (vx := .int .i64 (sa.length : Int)) (vy := .int .i64 9) (by kernel_rfl) (by kernel_rfl) fun w => run_subI (z := ((sa.length - 9 : Nat) : Int)) (by omega) (by omega) w) ?_
  refine vp (i := 34) (v := strV (sa.drop (sa.length - 9))) rfl rfl rfl (run_sliceS (l := sa) (k := (sa.length - 9)) rfl (by kernel_rfl) (by kernel_rfl) (by omega)) ?_
  refine vm (i := 35) (v := strV sb) rfl rfl rfl ?_
  refine vm (i := 36) (v := strV sb) rfl rfl rfl ?_
  refine vm (i := 37) (v := .int .i64 (sb.length : Int)) rfl rfl rfl ?_
  refine vp (i := 38) (v := .int .i64 ((sb.length - 9 : Nat) : Int)) rfl rfl rfl (run_bin rfl (vx := .int .i64 (sb.length : Int)) (vy := .int .i64 9) (by kernel_rfl) (by kernel_rfl) fun w => run_subI (z := ((sb.length - 9 : Nat) : Int)) (by omega) (by omega) w) ?_
  refine vp (i := 39) (v := strV (sb.drop (sb.length - 9))) rfl rfl rfl (run_sliceS (l := sb) (k := (sb.length - 9)) rfl (by kernel_rfl) (by kernel_rfl) (by omega)) ?_
  refine vp (i := 40) (v := .bool true) rfl rfl rfl (run_bin rfl (vx := strV (sa.drop (sa.length - 9))) (vy := strV (sb.drop (sb.length - 9))) (by kernel_rfl) (by kernel_rfl) fun w => run_eqS heq w) ?_
  refine vm (i := 41) (v := .bool true) rfl rfl rfl ?_
  refine vm (i := 42) (v := .bool true) rfl rfl rfl ?_
  refine vm (i := 43) (v := strV sa) rfl rfl rfl ?_
  refine vm (i := 44) (v := strV sb) rfl rfl rfl ?_
  refine vp (i := 45) (v := .bool true) rfl rfl rfl (run_bin rfl (vx := strV sa) (vy := strV sb) (by kernel_rfl) (by kernel_rfl) fun w => run_neS hne w) ?_
  refine vm (i := 46) (v := .bool true) rfl rfl rfl ?_
  refine vm (i := 47) (v := .bool true) rfl rfl rfl ?_
  refine wpV_done (by kernel_rfl) (fun W8 hW8 => ?_) _
  clear hW7
  refine (show Code.wp _ _ _ _ _ from ?_)
  refine wp_ret ?_
  try simp only [inBlock_ret, then_ret]
  go_ret
  exact ⟨rfl, hW8.1⟩
end Go.Proofs.YtjmcelgdjpdacaaDoor
/- ClockWrites holds for every input: the program's own answer is true, wherever the listed variables are as the program's text lays them; each argument reads afterwards as it read before. -/
namespace Go.Proofs.YtjmcelgdjpdacaaDoor
open Go.ChangeShapes Go.WideShapes Go.ChangeAt Go.RowKit Tw
set_option maxRecDepth 100000 in
theorem clockWrites_lifted (os : Os) (started : os.Started) (H : Type) (enc : TypeId × Value → H) :
    ReturnsInHanded {} Tryd.checked os 12 .any (fun w args => (Rows.clockWritesSpec.pre enc Tryd.prog Tryd.f12 Rows.clockWritesRow.domain false w args ∧ laidMetH Tryd.prog laid6 w) ∧ sizedMet enc Tryd.prog Tryd.f12 (OpenSpec.ofChange Rows.clockWritesSpec) false w args) (Rows.clockWritesSpec.post enc Tryd.prog Tryd.f12 false true false false) := by
  refine handed_and_shaped (C := Tryd.checked) (X := fun w => laidMetH Tryd.prog laid6 w) (fun _ _ hh h => h.of_heap hh) own started (by kernel_rfl) Tryd.func12
    (ChangeSpec.witness_shaped (enc := enc) (C := Tryd.checked) (os := os) (X := fun w _ => laidMetH Tryd.prog laid6 w) false (World.doorLaid Tryd.prog 1000 os) #[.int .i64 0] 8 rfl (World.shaped_of_RefB (by kernel_rfl) (by kernel_rfl)) (by kernel_rfl) (by kernel_rfl) (by kernel_rfl) (door_met os _)) ?_
  intro W base args ds gs before hval0 hW hL hsh
  have hval : ∀ (j : Nat) t v, Tryd.f12.params[j]? = some t → args[j]? = some v → Value.okWide Tryd.prog W .any base t v := hval0
  have hW' := hW
  obtain ⟨p, q, hA0, hV, rfl, hfz, hnd⟩ := hW
  have hA : DataW.TrodAll enc Tryd.prog W 0 (fun _ => true) true Tryd.f12.params.toList args.toList ds p := hA0
  rw [Tryd.params12] at hA hval
  obtain ⟨v0, vs0, d0, ds0, p0, q0, hargs, rfl, rfl, h0, r0⟩ := trodAll_cons hA
  obtain ⟨rfl, rfl, rfl⟩ := trodAll_nil r0
  obtain rfl : args = #[v0] := by cases args; simp_all
  obtain ⟨rfl, rfl⟩ := trodVars_none hV
  obtain ⟨a0, rfl, rfl, rfl, w0⟩ := open_int Tryd.underlying3 (hval 0 3 v0 rfl rfl) h0
  have rr0 : -9223372036854775808 ≤ a0 ∧ a0 ≤ 9223372036854775807 := of_wf w0
  clear hA0 hval0
  simp only [List.append_nil] at hW'
  refine (ClockWrites_law W (env_of hL hsh) a0 rr0).mono fun e W' ⟨he, bel⟩ => ?_
  subst he
  exact ⟨_, rfl, _, _, _, [], [], [], hW', (trodAll_cons_mk (shut_bool Tryd.underlying4 _) trodAll_mk0), (trodAll_cons_mk (shut_int Tryd.underlying3 w0) trodAll_mk0), rfl, bel.frame _, fun h => by cases h⟩
theorem clockWrites_said : Rows.ClockWritesSaid :=
  OpenClaim.holds_of_wide 12 Tryd.f12 rfl rfl rfl rfl rfl rfl rfl ⟨rfl, rfl, rfl, rfl, rfl⟩ rfl rfl rfl rfl rfl (by kernel_rfl) Tryd.func12 (by kernel_rfl)
    (of_decide_eq_true (by kernel_rfl)) (by unfold Func.isWrapper; first | (rw [if_pos (by decide +kernel)]; kernel_rfl) | (rw [if_neg (by decide +kernel)]; exact ⟨rfl, rfl⟩))
    (fun os started H enc _ => clockWrites_lifted os started H enc)
theorem clockWrites_proved : Rows.ClockWritesCardSaid :=
  Claim7.holds_tied_plain_at .later [] [.data, .data, .data, .sentinel, .sentinel, .data] true Rows.clockWritesCard.stood.harness true
    clockWrites_said (fun _ h => by cases h) (by kernel_rfl) (fun _ h => by cases h) clockWrites_row_tie rfl ⟨rfl, rfl⟩ (by kernel_rfl) rfl
    (fun f fn hf hfn => by
      obtain rfl : f = 12 := Option.some.inj ((show Tryd.prog.funcNamed "twistlock/twistlocklaw02.ClockWrites" = some 12 by kernel_rfl).symm.trans hf) |>.symm
      obtain rfl : fn = Tryd.f12 := (Option.some.inj (Tryd.func12.symm.trans hfn)).symm
      exact ⟨by kernel_rfl, fun j t ht => by
        rw [Tryd.params12] at ht
        have hm : t ∈ [3] := by simpa using Array.mem_of_getElem? ht
        have hall : ([3].all fun u => !Tryd.prog.wantsStandIn u) = true := by kernel_rfl
        exact (show Tryd.prog.wantsStandIn t = false by simpa using List.all_eq_true.1 hall t hm)⟩)
    (by kernel_rfl)
#print axioms clockWrites_proved
end Go.Proofs.YtjmcelgdjpdacaaDoor
