import Derived.Test.YtjmcelgdjpdacaaDoorG06
import Derived.Test.YtjmcelgdjpdacaaDoorG01
import Derived.Test.YtjmcelgdjpdacaaDoorCards
import Derived.Test.YtjmcelgdjpdacaaDoorTie
import Derived.WalkKit
import Derived.ProofKit
import Derived.OpenShut
import Derived.LaidMore
import Derived.SizedLaws
import Derived.ChangeOld
import Derived.Shelf.Vars
import Derived.Stop.Joined
import Derived.Stop.LaidErr
import Derived.SevenTiedAt
/- Part of the proof: Vd, Cf, Vh, Vr. -/
set_option linter.unusedVariables false
set_option linter.unusedSimpArgs false
set_option linter.unusedSectionVars false
namespace Go.Proofs.YtjmcelgdjpdacaaDoor
open Go.RowKit Tw
open Go
set_option maxRecDepth 100000 in
set_option maxHeartbeats 8000000 in
theorem weekday_any (l : List UInt8) (w : World) (hE : Env w) : Calls Tryd.prog 74 #[strV l] w fun e w' => e = .returned (.int .i64 ((dayV l : Nat) : Int)) ∧ Below w.heap.size w w' := by
  have HE := Lib.hid hE
  clear hE
  by_cases h0 : l = dayL 0
  · have e0 : (dayL 0 == l) = true := by rw [beq_iff_eq]; exact h0.symm
    have hr : dayV l = 0 := by unfold dayV; rw [if_pos h0]
    rw [hr]
    go_enter Tryd.func74, Tryd.ntmps74
    refine wp_seq ?_
    refine wp_region_L (W0 := w) [] (KS.start w) ?_
    refine lm (v := .int .i64 0) rfl rfl ?_
    refine wpL_done (fun W1 hW1 => ?_)
    refine (show Code.wp _ _ _ _ _ from ?_)
    refine wp_seq ?_
    refine wp_seq ?_
    refine wp_region_L (W0 := w) [] (hW1) ?_
    refine lv (v := .agg daysC) rfl rfl (yb_days rfl (by kernel_rfl) HE.out HE.out.glt) ?_
    refine lm (v := .int .i64 0) rfl rfl ?_
    refine wpL_done (fun W2 hW2 => ?_)
    clear hW1
    refine (show Code.wp _ _ _ _ _ from ?_)
    refine wp_block ?_
    refine wp_loop_rounds 9 ?_
    refine (show Code.wp _ _ _ _ _ from ?_)
    refine wp_seq ?_
    refine wp_region_L (W0 := w) [] (hW2) ?_
    refine lm (v := .bool true) rfl rfl ?_
    refine wpL_done (fun W3 hW3 => ?_)
    clear hW2
    refine (show Code.wp _ _ _ _ _ from ?_)
    refine wp_seq ?_
    refine wp_cond_true rfl ?_
    refine wp_skip ?_
    refine (show Code.wp _ _ _ _ _ from ?_)
    refine wp_seq ?_
    refine wp_block ?_
    refine wp_seq ?_
    refine wp_region_L (W0 := w) [] (hW3) ?_
    refine lm (v := .int .i64 0) rfl rfl ?_
    refine lp (v := strV (dayL 0)) rfl rfl (run_idxd (k := 0) rfl (by kernel_rfl) (by kernel_rfl) (by omega)) ?_
    refine lm (v := .int .i64 0) rfl rfl ?_
    refine lm (v := strV (dayL 0)) rfl rfl ?_
    refine wpL_done (fun W4 hW4 => ?_)
    clear hW3
    refine (show Code.wp _ _ _ _ _ from ?_)
    refine wp_seq ?_
    refine wp_region_L (W0 := w) [] (hW4) ?_
    refine lm (v := strV (dayL 0)) rfl rfl ?_
    refine lm (v := strV l) rfl rfl ?_
    refine lp (v := .bool true) rfl rfl (run_bin rfl (vx := strV (dayL 0)) (vy := strV l) (by kernel_rfl) (by kernel_rfl) fun w => run_eqS e0 w) ?_
    refine wpL_done (fun W5 hW5 => ?_)
    clear hW4
    refine (show Code.wp _ _ _ _ _ from ?_)
    refine wp_cond_true rfl ?_
    refine wp_seq ?_
    refine wp_region_L (W0 := w) [] (hW5) ?_
    refine lm (v := .int .i64 0) rfl rfl ?_
    refine lm (v := .int .i64 0) rfl rfl ?_
    refine wpL_done (fun W6 hW6 => ?_)
    clear hW5
    refine (show Code.wp _ _ _ _ _ from ?_)
    refine wp_ret ?_
    try simp only [inBlock_ret, then_ret]
    go_ret
    exact ⟨rfl, hW6.1⟩
  · by_cases h1 : l = dayL 1
    · have e0 : (dayL 0 == l) = false := by rw [beq_eq_false_iff_ne]; exact fun e => h0 e.symm
      have e1 : (dayL 1 == l) = true := by rw [beq_iff_eq]; exact h1.symm
      have hr : dayV l = 1 := by unfold dayV; rw [if_neg h0, if_pos h1]
      rw [hr]
      go_enter Tryd.func74, Tryd.ntmps74
      refine wp_seq ?_
      refine wp_region_L (W0 := w) [] (KS.start w) ?_
      refine lm (v := .int .i64 0) rfl rfl ?_
      refine wpL_done (fun W1 hW1 => ?_)
      refine (show Code.wp _ _ _ _ _ from ?_)
      refine wp_seq ?_
      refine wp_seq ?_
      refine wp_region_L (W0 := w) [] (hW1) ?_
      refine lv (v := .agg daysC) rfl rfl (yb_days rfl (by kernel_rfl) HE.out HE.out.glt) ?_
      refine lm (v := .int .i64 0) rfl rfl ?_
      refine wpL_done (fun W2 hW2 => ?_)
      clear hW1
      refine (show Code.wp _ _ _ _ _ from ?_)
      refine wp_block ?_
      refine wp_loop_rounds 9 ?_
      refine (show Code.wp _ _ _ _ _ from ?_)
      refine wp_seq ?_
      refine wp_region_L (W0 := w) [] (hW2) ?_
      refine lm (v := .bool true) rfl rfl ?_
      refine wpL_done (fun W3 hW3 => ?_)
      clear hW2
      refine (show Code.wp _ _ _ _ _ from ?_)
      refine wp_seq ?_
      refine wp_cond_true rfl ?_
      refine wp_skip ?_
      refine (show Code.wp _ _ _ _ _ from ?_)
      refine wp_seq ?_
      refine wp_block ?_
      refine wp_seq ?_
      refine wp_region_L (W0 := w) [] (hW3) ?_
      refine lm (v := .int .i64 0) rfl rfl ?_
      refine lp (v := strV (dayL 0)) rfl rfl (run_idxd (k := 0) rfl (by kernel_rfl) (by kernel_rfl) (by omega)) ?_
      refine lm (v := .int .i64 0) rfl rfl ?_
      refine lm (v := strV (dayL 0)) rfl rfl ?_
      refine wpL_done (fun W4 hW4 => ?_)
      clear hW3
      refine (show Code.wp _ _ _ _ _ from ?_)
      refine wp_seq ?_
      refine wp_region_L (W0 := w) [] (hW4) ?_
      refine lm (v := strV (dayL 0)) rfl rfl ?_
      refine lm (v := strV l) rfl rfl ?_
      refine lp (v := .bool false) rfl rfl (run_bin rfl (vx := strV (dayL 0)) (vy := strV l) (by kernel_rfl) (by kernel_rfl) fun w => run_eqS e0 w) ?_
      refine wpL_done (fun W5 hW5 => ?_)
      clear hW4
      refine (show Code.wp _ _ _ _ _ from ?_)
      refine wp_cond_false rfl ?_
      refine wp_skip ?_
      refine (show Code.wp _ _ _ _ _ from ?_)
      refine wp_region_L (W0 := w) [] (hW5) ?_
      refine lm (v := .int .i64 1) rfl rfl ?_
      refine lm (v := .int .i64 1) rfl rfl ?_
      refine wpL_done (fun W6 hW6 => ?_)
      clear hW5
      refine (show Code.wp _ _ _ _ _ from ?_)
      refine wp_seq ?_
      refine wp_region_L (W0 := w) [] (hW6) ?_
      refine lm (v := .bool true) rfl rfl ?_
      refine wpL_done (fun W7 hW7 => ?_)
      clear hW6
      refine (show Code.wp _ _ _ _ _ from ?_)
      refine wp_seq ?_
      refine wp_cond_true rfl ?_
      refine wp_skip ?_
      refine (show Code.wp _ _ _ _ _ from ?_)
      refine wp_seq ?_
      refine wp_block ?_
      refine wp_seq ?_
      refine wp_region_L (W0 := w) [] (hW7) ?_
      refine lm (v := .int .i64 1) rfl rfl ?_
      refine lp (v := strV (dayL 1)) rfl rfl (run_idxd (k := 1) rfl (by kernel_rfl) (by kernel_rfl) (by omega)) ?_
      refine lm (v := .int .i64 1) rfl rfl ?_
      refine lm (v := strV (dayL 1)) rfl rfl ?_
      refine wpL_done (fun W8 hW8 => ?_)
      clear hW7
      refine (show Code.wp _ _ _ _ _ from ?_)
      refine wp_seq ?_
      refine wp_region_L (W0 := w) [] (hW8) ?_
      refine lm (v := strV (dayL 1)) rfl rfl ?_
      refine lm (v := strV l) rfl rfl ?_
      refine lp (v := .bool true) rfl rfl (run_bin rfl (vx := strV (dayL 1)) (vy := strV l) (by kernel_rfl) (by kernel_rfl) fun w => run_eqS e1 w) ?_
      refine wpL_done (fun W9 hW9 => ?_)
      clear hW8
      refine (show Code.wp _ _ _ _ _ from ?_)
      refine wp_cond_true rfl ?_
      refine wp_seq ?_
      refine wp_region_L (W0 := w) [] (hW9) ?_
      refine lm (v := .int .i64 1) rfl rfl ?_
      refine lm (v := .int .i64 1) rfl rfl ?_
      refine wpL_done (fun W10 hW10 => ?_)
      clear hW9
      refine (show Code.wp _ _ _ _ _ from ?_)
      refine wp_ret ?_
      try simp only [inBlock_ret, then_ret]
      go_ret
      exact ⟨rfl, hW10.1⟩
    · by_cases h2 : l = dayL 2
      · have e0 : (dayL 0 == l) = false := by rw [beq_eq_false_iff_ne]; exact fun e => h0 e.symm
        have e1 : (dayL 1 == l) = false := by rw [beq_eq_false_iff_ne]; exact fun e => h1 e.symm
        have e2 : (dayL 2 == l) = true := by rw [beq_iff_eq]; exact h2.symm
        have hr : dayV l = 2 := by unfold dayV; rw [if_neg h0, if_neg h1, if_pos h2]
        rw [hr]
        go_enter Tryd.func74, Tryd.ntmps74
        refine wp_seq ?_
        refine wp_region_L (W0 := w) [] (KS.start w) ?_
        refine lm (v := .int .i64 0) rfl rfl ?_
        refine wpL_done (fun W1 hW1 => ?_)
        refine (show Code.wp _ _ _ _ _ from ?_)
        refine wp_seq ?_
        refine wp_seq ?_
        refine wp_region_L (W0 := w) [] (hW1) ?_
        refine lv (v := .agg daysC) rfl rfl (yb_days rfl (by kernel_rfl) HE.out HE.out.glt) ?_
        refine lm (v := .int .i64 0) rfl rfl ?_
        refine wpL_done (fun W2 hW2 => ?_)
        clear hW1
        refine (show Code.wp _ _ _ _ _ from ?_)
        refine wp_block ?_
        refine wp_loop_rounds 9 ?_
        refine (show Code.wp _ _ _ _ _ from ?_)
        refine wp_seq ?_
        refine wp_region_L (W0 := w) [] (hW2) ?_
        refine lm (v := .bool true) rfl rfl ?_
        refine wpL_done (fun W3 hW3 => ?_)
        clear hW2
        refine (show Code.wp _ _ _ _ _ from ?_)
        refine wp_seq ?_
        refine wp_cond_true rfl ?_
        refine wp_skip ?_
        refine (show Code.wp _ _ _ _ _ from ?_)
        refine wp_seq ?_
        refine wp_block ?_
        refine wp_seq ?_
        refine wp_region_L (W0 := w) [] (hW3) ?_
        refine lm (v := .int .i64 0) rfl rfl ?_
        refine lp (v := strV (dayL 0)) rfl rfl (run_idxd (k := 0) rfl (by kernel_rfl) (by kernel_rfl) (by omega)) ?_
        refine lm (v := .int .i64 0) rfl rfl ?_
        refine lm (v := strV (dayL 0)) rfl rfl ?_
        refine wpL_done (fun W4 hW4 => ?_)
        clear hW3
        refine (show Code.wp _ _ _ _ _ from ?_)
        refine wp_seq ?_
        refine wp_region_L (W0 := w) [] (hW4) ?_
        refine lm (v := strV (dayL 0)) rfl rfl ?_
        refine lm (v := strV l) rfl rfl ?_
        refine lp (v := .bool false) rfl rfl (run_bin rfl (vx := strV (dayL 0)) (vy := strV l) (by kernel_rfl) (by kernel_rfl) fun w => run_eqS e0 w) ?_
        refine wpL_done (fun W5 hW5 => ?_)
        clear hW4
        refine (show Code.wp _ _ _ _ _ from ?_)
        refine wp_cond_false rfl ?_
        refine wp_skip ?_
        refine (show Code.wp _ _ _ _ _ from ?_)
        refine wp_region_L (W0 := w) [] (hW5) ?_
        refine lm (v := .int .i64 1) rfl rfl ?_
        refine lm (v := .int .i64 1) rfl rfl ?_
        refine wpL_done (fun W6 hW6 => ?_)
        clear hW5
        refine (show Code.wp _ _ _ _ _ from ?_)
        refine wp_seq ?_
        refine wp_region_L (W0 := w) [] (hW6) ?_
        refine lm (v := .bool true) rfl rfl ?_
        refine wpL_done (fun W7 hW7 => ?_)
        clear hW6
        refine (show Code.wp _ _ _ _ _ from ?_)
        refine wp_seq ?_
        refine wp_cond_true rfl ?_
        refine wp_skip ?_
        refine (show Code.wp _ _ _ _ _ from ?_)
        refine wp_seq ?_
        refine wp_block ?_
        refine wp_seq ?_
        refine wp_region_L (W0 := w) [] (hW7) ?_
        refine lm (v := .int .i64 1) rfl rfl ?_
        refine lp (v := strV (dayL 1)) rfl rfl (run_idxd (k := 1) rfl (by kernel_rfl) (by kernel_rfl) (by omega)) ?_
        refine lm (v := .int .i64 1) rfl rfl ?_
        refine lm (v := strV (dayL 1)) rfl rfl ?_
        refine wpL_done (fun W8 hW8 => ?_)
        clear hW7
        refine (show Code.wp _ _ _ _ _ from ?_)
        refine wp_seq ?_
        refine wp_region_L (W0 := w) [] (hW8) ?_
        refine lm (v := strV (dayL 1)) rfl rfl ?_
        refine lm (v := strV l) rfl rfl ?_
        refine lp (v := .bool false) rfl rfl (run_bin rfl (vx := strV (dayL 1)) (vy := strV l) (by kernel_rfl) (by kernel_rfl) fun w => run_eqS e1 w) ?_
        refine wpL_done (fun W9 hW9 => ?_)
        clear hW8
        refine (show Code.wp _ _ _ _ _ from ?_)
        refine wp_cond_false rfl ?_
        refine wp_skip ?_
        refine (show Code.wp _ _ _ _ _ from ?_)
        refine wp_region_L (W0 := w) [] (hW9) ?_
        refine lm (v := .int .i64 2) rfl rfl ?_
        refine lm (v := .int .i64 2) rfl rfl ?_
        refine wpL_done (fun W10 hW10 => ?_)
        clear hW9
        refine (show Code.wp _ _ _ _ _ from ?_)
        refine wp_seq ?_
        refine wp_region_L (W0 := w) [] (hW10) ?_
        refine lm (v := .bool true) rfl rfl ?_
        refine wpL_done (fun W11 hW11 => ?_)
        clear hW10
        refine (show Code.wp _ _ _ _ _ from ?_)
        refine wp_seq ?_
        refine wp_cond_true rfl ?_
        refine wp_skip ?_
        refine (show Code.wp _ _ _ _ _ from ?_)
        refine wp_seq ?_
        refine wp_block ?_
        refine wp_seq ?_
        refine wp_region_L (W0 := w) [] (hW11) ?_
        refine lm (v := .int .i64 2) rfl rfl ?_
        refine lp (v := strV (dayL 2)) rfl rfl (run_idxd (k := 2) rfl (by kernel_rfl) (by kernel_rfl) (by omega)) ?_
        refine lm (v := .int .i64 2) rfl rfl ?_
        refine lm (v := strV (dayL 2)) rfl rfl ?_
        refine wpL_done (fun W12 hW12 => ?_)
        clear hW11
        refine (show Code.wp _ _ _ _ _ from ?_)
        refine wp_seq ?_
        refine wp_region_L (W0 := w) [] (hW12) ?_
        refine lm (v := strV (dayL 2)) rfl rfl ?_
        refine lm (v := strV l) rfl rfl ?_
        refine lp (v := .bool true) rfl rfl (run_bin rfl (vx := strV (dayL 2)) (vy := strV l) (by kernel_rfl) (by kernel_rfl) fun w => run_eqS e2 w) ?_
        refine wpL_done (fun W13 hW13 => ?_)
        clear hW12
        refine (show Code.wp _ _ _ _ _ from ?_)
        refine wp_cond_true rfl ?_
        refine wp_seq ?_
        refine wp_region_L (W0 := w) [] (hW13) ?_
        refine lm (v := .int .i64 2) rfl rfl ?_
        refine lm (v := .int .i64 2) rfl rfl ?_
        refine wpL_done (fun W14 hW14 => ?_)
        clear hW13
        refine (show Code.wp _ _ _ _ _ from ?_)
        refine wp_ret ?_
        try simp only [inBlock_ret, then_ret]
        go_ret
        exact ⟨rfl, hW14.1⟩
      · by_cases h3 : l = dayL 3
        · have e0 : (dayL 0 == l) = false := by rw [beq_eq_false_iff_ne]; exact fun e => h0 e.symm
          have e1 : (dayL 1 == l) = false := by rw [beq_eq_false_iff_ne]; exact fun e => h1 e.symm
          have e2 : (dayL 2 == l) = false := by rw [beq_eq_false_iff_ne]; exact fun e => h2 e.symm
          have e3 : (dayL 3 == l) = true := by rw [beq_iff_eq]; exact h3.symm
          have hr : dayV l = 3 := by unfold dayV; rw [if_neg h0, if_neg h1, if_neg h2, if_pos h3]
          rw [hr]
          go_enter Tryd.func74, Tryd.ntmps74
          refine wp_seq ?_
          refine wp_region_L (W0 := w) [] (KS.start w) ?_
          refine lm (v := .int .i64 0) rfl rfl ?_
          refine wpL_done (fun W1 hW1 => ?_)
          refine (show Code.wp _ _ _ _ _ from ?_)
          refine wp_seq ?_
          refine wp_seq ?_
          refine wp_region_L (W0 := w) [] (hW1) ?_
          refine lv (v := .agg daysC) rfl rfl (yb_days rfl (by kernel_rfl) HE.out HE.out.glt) ?_
          refine lm (v := .int .i64 0) rfl rfl ?_
          refine wpL_done (fun W2 hW2 => ?_)
          clear hW1
          refine (show Code.wp _ _ _ _ _ from ?_)
          refine wp_block ?_
          refine wp_loop_rounds 9 ?_
          refine (show Code.wp _ _ _ _ _ from ?_)
          refine wp_seq ?_
          refine wp_region_L (W0 := w) [] (hW2) ?_
          refine lm (v := .bool true) rfl rfl ?_
          refine wpL_done (fun W3 hW3 => ?_)
          clear hW2
          refine (show Code.wp _ _ _ _ _ from ?_)
          refine wp_seq ?_
          refine wp_cond_true rfl ?_
          refine wp_skip ?_
          refine (show Code.wp _ _ _ _ _ from ?_)
          refine wp_seq ?_
          refine wp_block ?_
          refine wp_seq ?_
          refine wp_region_L (W0 := w) [] (hW3) ?_
          refine lm (v := .int .i64 0) rfl rfl ?_
          refine lp (v := strV (dayL 0)) rfl rfl (run_idxd (k := 0) rfl (by kernel_rfl) (by kernel_rfl) (by omega)) ?_
          refine lm (v := .int .i64 0) rfl rfl ?_
          refine lm (v := strV (dayL 0)) rfl rfl ?_
          refine wpL_done (fun W4 hW4 => ?_)
          clear hW3
          refine (show Code.wp _ _ _ _ _ from ?_)
          refine wp_seq ?_
          refine wp_region_L (W0 := w) [] (hW4) ?_
          refine lm (v := strV (dayL 0)) rfl rfl ?_
          refine lm (v := strV l) rfl rfl ?_
          refine lp (v := .bool false) rfl rfl (run_bin rfl (vx := strV (dayL 0)) (vy := strV l) (by kernel_rfl) (by kernel_rfl) fun w => run_eqS e0 w) ?_
          refine wpL_done (fun W5 hW5 => ?_)
          clear hW4
          refine (show Code.wp _ _ _ _ _ from ?_)
          refine wp_cond_false rfl ?_
          refine wp_skip ?_
          refine (show Code.wp _ _ _ _ _ from ?_)
          refine wp_region_L (W0 := w) [] (hW5) ?_
          refine lm (v := .int .i64 1) rfl rfl ?_
          refine lm (v := .int .i64 1) rfl rfl ?_
          refine wpL_done (fun W6 hW6 => ?_)
          clear hW5
          refine (show Code.wp _ _ _ _ _ from ?_)
          refine wp_seq ?_
          refine wp_region_L (W0 := w) [] (hW6) ?_
          refine lm (v := .bool true) rfl rfl ?_
          refine wpL_done (fun W7 hW7 => ?_)
          clear hW6
          refine (show Code.wp _ _ _ _ _ from ?_)
          refine wp_seq ?_
          refine wp_cond_true rfl ?_
          refine wp_skip ?_
          refine (show Code.wp _ _ _ _ _ from ?_)
          refine wp_seq ?_
          refine wp_block ?_
          refine wp_seq ?_
          refine wp_region_L (W0 := w) [] (hW7) ?_
          refine lm (v := .int .i64 1) rfl rfl ?_
          refine lp (v := strV (dayL 1)) rfl rfl (run_idxd (k := 1) rfl (by kernel_rfl) (by kernel_rfl) (by omega)) ?_
          refine lm (v := .int .i64 1) rfl rfl ?_
          refine lm (v := strV (dayL 1)) rfl rfl ?_
          refine wpL_done (fun W8 hW8 => ?_)
          clear hW7
          refine (show Code.wp _ _ _ _ _ from ?_)
          refine wp_seq ?_
          refine wp_region_L (W0 := w) [] (hW8) ?_
          refine lm (v := strV (dayL 1)) rfl rfl ?_
          refine lm (v := strV l) rfl rfl ?_
          refine lp (v := .bool false) rfl rfl (run_bin rfl (vx := strV (dayL 1)) (vy := strV l) (by kernel_rfl) (by kernel_rfl) fun w => run_eqS e1 w) ?_
          refine wpL_done (fun W9 hW9 => ?_)
          clear hW8
          refine (show Code.wp _ _ _ _ _ from ?_)
          refine wp_cond_false rfl ?_
          refine wp_skip ?_
          refine (show Code.wp _ _ _ _ _ from ?_)
          refine wp_region_L (W0 := w) [] (hW9) ?_
          refine lm (v := .int .i64 2) rfl rfl ?_
          refine lm (v := .int .i64 2) rfl rfl ?_
          refine wpL_done (fun W10 hW10 => ?_)
          clear hW9
          refine (show Code.wp _ _ _ _ _ from ?_)
          refine wp_seq ?_
          refine wp_region_L (W0 := w) [] (hW10) ?_
          refine lm (v := .bool true) rfl rfl ?_
          refine wpL_done (fun W11 hW11 => ?_)
          clear hW10
          refine (show Code.wp _ _ _ _ _ from ?_)
          refine wp_seq ?_
          refine wp_cond_true rfl ?_
          refine wp_skip ?_
          refine (show Code.wp _ _ _ _ _ from ?_)
          refine wp_seq ?_
          refine wp_block ?_
          refine wp_seq ?_
          refine wp_region_L (W0 := w) [] (hW11) ?_
          refine lm (v := .int .i64 2) rfl rfl ?_
          refine lp (v := strV (dayL 2)) rfl rfl (run_idxd (k := 2) rfl (by kernel_rfl) (by kernel_rfl) (by omega)) ?_
          refine lm (v := .int .i64 2) rfl rfl ?_
          refine lm (v := strV (dayL 2)) rfl rfl ?_
          refine wpL_done (fun W12 hW12 => ?_)
          clear hW11
          refine (show Code.wp _ _ _ _ _ from ?_)
          refine wp_seq ?_
          refine wp_region_L (W0 := w) [] (hW12) ?_
          refine lm (v := strV (dayL 2)) rfl rfl ?_
          refine lm (v := strV l) rfl rfl ?_
          refine lp (v := .bool false) rfl rfl (run_bin rfl (vx := strV (dayL 2)) (vy := strV l) (by kernel_rfl) (by kernel_rfl) fun w => run_eqS e2 w) ?_
          refine wpL_done (fun W13 hW13 => ?_)
          clear hW12
          refine (show Code.wp _ _ _ _ _ from ?_)
          refine wp_cond_false rfl ?_
          refine wp_skip ?_
          refine (show Code.wp _ _ _ _ _ from ?_)
          refine wp_region_L (W0 := w) [] (hW13) ?_
          refine lm (v := .int .i64 3) rfl rfl ?_
          refine lm (v := .int .i64 3) rfl rfl ?_
          refine wpL_done (fun W14 hW14 => ?_)
          clear hW13
          refine (show Code.wp _ _ _ _ _ from ?_)
          refine wp_seq ?_
          refine wp_region_L (W0 := w) [] (hW14) ?_
          refine lm (v := .bool true) rfl rfl ?_
          refine wpL_done (fun W15 hW15 => ?_)
          clear hW14
          refine (show Code.wp _ _ _ _ _ from ?_)
          refine wp_seq ?_
          refine wp_cond_true rfl ?_
          refine wp_skip ?_
          refine (show Code.wp _ _ _ _ _ from ?_)
          refine wp_seq ?_
          refine wp_block ?_
          refine wp_seq ?_
          refine wp_region_L (W0 := w) [] (hW15) ?_
          refine lm (v := .int .i64 3) rfl rfl ?_
          refine lp (v := strV (dayL 3)) rfl rfl (run_idxd (k := 3) rfl (by kernel_rfl) (by kernel_rfl) (by omega)) ?_
          refine lm (v := .int .i64 3) rfl rfl ?_
          refine lm (v := strV (dayL 3)) rfl rfl ?_
          refine wpL_done (fun W16 hW16 => ?_)
          clear hW15
          refine (show Code.wp _ _ _ _ _ from ?_)
          refine wp_seq ?_
          refine wp_region_L (W0 := w) [] (hW16) ?_
          refine lm (v := strV (dayL 3)) rfl rfl ?_
          refine lm (v := strV l) rfl rfl ?_
          refine lp (v := .bool true) rfl rfl (run_bin rfl (vx := strV (dayL 3)) (vy := strV l) (by kernel_rfl) (by kernel_rfl) fun w => run_eqS e3 w) ?_
          refine wpL_done (fun W17 hW17 => ?_)
          clear hW16
          refine (show Code.wp _ _ _ _ _ from ?_)
          refine wp_cond_true rfl ?_
          refine wp_seq ?_
          refine wp_region_L (W0 := w) [] (hW17) ?_
          refine lm (v := .int .i64 3) rfl rfl ?_
          refine lm (v := .int .i64 3) rfl rfl ?_
          refine wpL_done (fun W18 hW18 => ?_)
          clear hW17
          refine (show Code.wp _ _ _ _ _ from ?_)
          refine wp_ret ?_
          try simp only [inBlock_ret, then_ret]
          go_ret
          exact ⟨rfl, hW18.1⟩
        · by_cases h4 : l = dayL 4
          · have e0 : (dayL 0 == l) = false := by rw [beq_eq_false_iff_ne]; exact fun e => h0 e.symm
            have e1 : (dayL 1 == l) = false := by rw [beq_eq_false_iff_ne]; exact fun e => h1 e.symm
            have e2 : (dayL 2 == l) = false := by rw [beq_eq_false_iff_ne]; exact fun e => h2 e.symm
            have e3 : (dayL 3 == l) = false := by rw [beq_eq_false_iff_ne]; exact fun e => h3 e.symm
            have e4 : (dayL 4 == l) = true := by rw [beq_iff_eq]; exact h4.symm
            have hr : dayV l = 4 := by unfold dayV; rw [if_neg h0, if_neg h1, if_neg h2, if_neg h3, if_pos h4]
            rw [hr]
            go_enter Tryd.func74, Tryd.ntmps74
            refine wp_seq ?_
            refine wp_region_L (W0 := w) [] (KS.start w) ?_
            refine lm (v := .int .i64 0) rfl rfl ?_
            refine wpL_done (fun W1 hW1 => ?_)
            refine (show Code.wp _ _ _ _ _ from ?_)
            refine wp_seq ?_
            refine wp_seq ?_
            refine wp_region_L (W0 := w) [] (hW1) ?_
            refine lv (v := .agg daysC) rfl rfl (yb_days rfl (by kernel_rfl) HE.out HE.out.glt) ?_
            refine lm (v := .int .i64 0) rfl rfl ?_
            refine wpL_done (fun W2 hW2 => ?_)
            clear hW1
            refine (show Code.wp _ _ _ _ _ from ?_)
            refine wp_block ?_
            refine wp_loop_rounds 9 ?_
            refine (show Code.wp _ _ _ _ _ from ?_)
            refine wp_seq ?_
            refine wp_region_L (W0 := w) [] (hW2) ?_
            refine lm (v := .bool true) rfl rfl ?_
            refine wpL_done (fun W3 hW3 => ?_)
            clear hW2
            refine (show Code.wp _ _ _ _ _ from ?_)
            refine wp_seq ?_
            refine wp_cond_true rfl ?_
            refine wp_skip ?_
            refine (show Code.wp _ _ _ _ _ from ?_)
            refine wp_seq ?_
            refine wp_block ?_
            refine wp_seq ?_
            refine wp_region_L (W0 := w) [] (hW3) ?_
            refine lm (v := .int .i64 0) rfl rfl ?_
            refine lp (v := strV (dayL 0)) rfl rfl (run_idxd (k := 0) rfl (by kernel_rfl) (by kernel_rfl) (by omega)) ?_
            refine lm (v := .int .i64 0) rfl rfl ?_
            refine lm (v := strV (dayL 0)) rfl rfl ?_
            refine wpL_done (fun W4 hW4 => ?_)
            clear hW3
            refine (show Code.wp _ _ _ _ _ from ?_)
            refine wp_seq ?_
            refine wp_region_L (W0 := w) [] (hW4) ?_
            refine lm (v := strV (dayL 0)) rfl rfl ?_
            refine lm (v := strV l) rfl rfl ?_
            refine lp (v := .bool false) rfl rfl (run_bin rfl (vx := strV (dayL 0)) (vy := strV l) (by kernel_rfl) (by kernel_rfl) fun w => run_eqS e0 w) ?_
            refine wpL_done (fun W5 hW5 => ?_)
            clear hW4
            refine (show Code.wp _ _ _ _ _ from ?_)
            refine wp_cond_false rfl ?_
            refine wp_skip ?_
            refine (show Code.wp _ _ _ _ _ from ?_)
            refine wp_region_L (W0 := w) [] (hW5) ?_
            refine lm (v := .int .i64 1) rfl rfl ?_
            refine lm (v := .int .i64 1) rfl rfl ?_
            refine wpL_done (fun W6 hW6 => ?_)
            clear hW5
            refine (show Code.wp _ _ _ _ _ from ?_)
            refine wp_seq ?_
            refine wp_region_L (W0 := w) [] (hW6) ?_
            refine lm (v := .bool true) rfl rfl ?_
            refine wpL_done (fun W7 hW7 => ?_)
            clear hW6
            refine (show Code.wp _ _ _ _ _ from ?_)
            refine wp_seq ?_
            refine wp_cond_true rfl ?_
            refine wp_skip ?_
            refine (show Code.wp _ _ _ _ _ from ?_)
            refine wp_seq ?_
            refine wp_block ?_
            refine wp_seq ?_
            refine wp_region_L (W0 := w) [] (hW7) ?_
            refine lm (v := .int .i64 1) rfl rfl ?_
            refine lp (v := strV (dayL 1)) rfl rfl (run_idxd (k := 1) rfl (by kernel_rfl) (by kernel_rfl) (by omega)) ?_
            refine lm (v := .int .i64 1) rfl rfl ?_
            refine lm (v := strV (dayL 1)) rfl rfl ?_
            refine wpL_done (fun W8 hW8 => ?_)
            clear hW7
            refine (show Code.wp _ _ _ _ _ from ?_)
            refine wp_seq ?_
            refine wp_region_L (W0 := w) [] (hW8) ?_
            refine lm (v := strV (dayL 1)) rfl rfl ?_
            refine lm (v := strV l) rfl rfl ?_
            refine lp (v := .bool false) rfl rfl (run_bin rfl (vx := strV (dayL 1)) (vy := strV l) (by kernel_rfl) (by kernel_rfl) fun w => run_eqS e1 w) ?_
            refine wpL_done (fun W9 hW9 => ?_)
            clear hW8
            refine (show Code.wp _ _ _ _ _ from ?_)
            refine wp_cond_false rfl ?_
            refine wp_skip ?_
            refine (show Code.wp _ _ _ _ _ from ?_)
            refine wp_region_L (W0 := w) [] (hW9) ?_
            refine lm (v := .int .i64 2) rfl rfl ?_
            refine lm (v := .int .i64 2) rfl rfl ?_
            refine wpL_done (fun W10 hW10 => ?_)
            clear hW9
            refine (show Code.wp _ _ _ _ _ from ?_)
            refine wp_seq ?_
            refine wp_region_L (W0 := w) [] (hW10) ?_
            refine lm (v := .bool true) rfl rfl ?_
            refine wpL_done (fun W11 hW11 => ?_)
            clear hW10
            refine (show Code.wp _ _ _ _ _ from ?_)
            refine wp_seq ?_
            refine wp_cond_true rfl ?_
            refine wp_skip ?_
            refine (show Code.wp _ _ _ _ _ from ?_)
            refine wp_seq ?_
            refine wp_block ?_
            refine wp_seq ?_
            refine wp_region_L (W0 := w) [] (hW11) ?_
            refine lm (v := .int .i64 2) rfl rfl ?_
            refine lp (v := strV (dayL 2)) rfl rfl (run_idxd (k := 2) rfl (by kernel_rfl) (by kernel_rfl) (by omega)) ?_
            refine lm (v := .int .i64 2) rfl rfl ?_
            refine lm (v := strV (dayL 2)) rfl rfl ?_
            refine wpL_done (fun W12 hW12 => ?_)
            clear hW11
            refine (show Code.wp _ _ _ _ _ from ?_)
            refine wp_seq ?_
            refine wp_region_L (W0 := w) [] (hW12) ?_
            refine lm (v := strV (dayL 2)) rfl rfl ?_
            refine lm (v := strV l) rfl rfl ?_
            refine lp (v := .bool false) rfl rfl (run_bin rfl (vx := strV (dayL 2)) (vy := strV l) (by kernel_rfl) (by kernel_rfl) fun w => run_eqS e2 w) ?_
            refine wpL_done (fun W13 hW13 => ?_)
            clear hW12
            refine (show Code.wp _ _ _ _ _ from ?_)
            refine wp_cond_false rfl ?_
            refine wp_skip ?_
            refine (show Code.wp _ _ _ _ _ from ?_)
            refine wp_region_L (W0 := w) [] (hW13) ?_
            refine lm (v := .int .i64 3) rfl rfl ?_
            refine lm (v := .int .i64 3) rfl rfl ?_
            refine wpL_done (fun W14 hW14 => ?_)
            clear hW13
            refine (show Code.wp _ _ _ _ _ from ?_)
            refine wp_seq ?_
            refine wp_region_L (W0 := w) [] (hW14) ?_
            refine lm (v := .bool true) rfl rfl ?_
            refine wpL_done (fun W15 hW15 => ?_)
            clear hW14
            refine (show Code.wp _ _ _ _ _ from ?_)
            refine wp_seq ?_
            refine wp_cond_true rfl ?_
            refine wp_skip ?_
            refine (show Code.wp _ _ _ _ _ from ?_)
            refine wp_seq ?_
            refine wp_block ?_
            refine wp_seq ?_
            refine wp_region_L (W0 := w) [] (hW15) ?_
            refine lm (v := .int .i64 3) rfl rfl ?_
            refine lp (v := strV (dayL 3)) rfl rfl (run_idxd (k := 3) rfl (by kernel_rfl) (by kernel_rfl) (by omega)) ?_
            refine lm (v := .int .i64 3) rfl rfl ?_
            refine lm (v := strV (dayL 3)) rfl rfl ?_
            refine wpL_done (fun W16 hW16 => ?_)
            clear hW15
            refine (show Code.wp _ _ _ _ _ from ?_)
            refine wp_seq ?_
            refine wp_region_L (W0 := w) [] (hW16) ?_
            refine lm (v := strV (dayL 3)) rfl rfl ?_
            refine lm (v := strV l) rfl rfl ?_
            refine lp (v := .bool false) rfl rfl (run_bin rfl (vx := strV (dayL 3)) (vy := strV l) (by kernel_rfl) (by kernel_rfl) fun w => run_eqS e3 w) ?_
            refine wpL_done (fun W17 hW17 => ?_)
            clear hW16
            refine (show Code.wp _ _ _ _ _ from ?_)
            refine wp_cond_false rfl ?_
            refine wp_skip ?_
            refine (show Code.wp _ _ _ _ _ from ?_)
            refine wp_region_L (W0 := w) [] (hW17) ?_
            refine lm (v := .int .i64 4) rfl rfl ?_
            refine lm (v := .int .i64 4) rfl rfl ?_
            refine wpL_done (fun W18 hW18 => ?_)
            clear hW17
            refine (show Code.wp _ _ _ _ _ from ?_)
            refine wp_seq ?_
            refine wp_region_L (W0 := w) [] (hW18) ?_
            refine lm (v := .bool true) rfl rfl ?_
            refine wpL_done (fun W19 hW19 => ?_)
            clear hW18
            refine (show Code.wp _ _ _ _ _ from ?_)
            refine wp_seq ?_
            refine wp_cond_true rfl ?_
            refine wp_skip ?_
            refine (show Code.wp _ _ _ _ _ from ?_)
            refine wp_seq ?_
            refine wp_block ?_
            refine wp_seq ?_
            refine wp_region_L (W0 := w) [] (hW19) ?_
            refine lm (v := .int .i64 4) rfl rfl ?_
            refine lp (v := strV (dayL 4)) rfl rfl (run_idxd (k := 4) rfl (by kernel_rfl) (by kernel_rfl) (by omega)) ?_
            refine lm (v := .int .i64 4) rfl rfl ?_
            refine lm (v := strV (dayL 4)) rfl rfl ?_
            refine wpL_done (fun W20 hW20 => ?_)
            clear hW19
            refine (show Code.wp _ _ _ _ _ from ?_)
            refine wp_seq ?_
            refine wp_region_L (W0 := w) [] (hW20) ?_
            refine lm (v := strV (dayL 4)) rfl rfl ?_
            refine lm (v := strV l) rfl rfl ?_
            refine lp (v := .bool true) rfl rfl (run_bin rfl (vx := strV (dayL 4)) (vy := strV l) (by kernel_rfl) (by kernel_rfl) fun w => run_eqS e4 w) ?_
            refine wpL_done (fun W21 hW21 => ?_)
            clear hW20
            refine (show Code.wp _ _ _ _ _ from ?_)
            refine wp_cond_true rfl ?_
            refine wp_seq ?_
            refine wp_region_L (W0 := w) [] (hW21) ?_
            refine lm (v := .int .i64 4) rfl rfl ?_
            refine lm (v := .int .i64 4) rfl rfl ?_
            refine wpL_done (fun W22 hW22 => ?_)
            clear hW21
            refine (show Code.wp _ _ _ _ _ from ?_)
            refine wp_ret ?_
            try simp only [inBlock_ret, then_ret]
            go_ret
            exact ⟨rfl, hW22.1⟩
          · by_cases h5 : l = dayL 5
            · have e0 : (dayL 0 == l) = false := by rw [beq_eq_false_iff_ne]; exact fun e => h0 e.symm
              have e1 : (dayL 1 == l) = false := by rw [beq_eq_false_iff_ne]; exact fun e => h1 e.symm
              have e2 : (dayL 2 == l) = false := by rw [beq_eq_false_iff_ne]; exact fun e => h2 e.symm
              have e3 : (dayL 3 == l) = false := by rw [beq_eq_false_iff_ne]; exact fun e => h3 e.symm
              have e4 : (dayL 4 == l) = false := by rw [beq_eq_false_iff_ne]; exact fun e => h4 e.symm
              have e5 : (dayL 5 == l) = true := by rw [beq_iff_eq]; exact h5.symm
              have hr : dayV l = 5 := by unfold dayV; rw [if_neg h0, if_neg h1, if_neg h2, if_neg h3, if_neg h4, if_pos h5]
              rw [hr]
              go_enter Tryd.func74, Tryd.ntmps74
              refine wp_seq ?_
              refine wp_region_L (W0 := w) [] (KS.start w) ?_
              refine lm (v := .int .i64 0) rfl rfl ?_
              refine wpL_done (fun W1 hW1 => ?_)
              refine (show Code.wp _ _ _ _ _ from ?_)
              refine wp_seq ?_
              refine wp_seq ?_
              refine wp_region_L (W0 := w) [] (hW1) ?_
              refine lv (v := .agg daysC) rfl rfl (yb_days rfl (by kernel_rfl) HE.out HE.out.glt) ?_
              refine lm (v := .int .i64 0) rfl rfl ?_
              refine wpL_done (fun W2 hW2 => ?_)
              clear hW1
              refine (show Code.wp _ _ _ _ _ from ?_)
              refine wp_block ?_
              refine wp_loop_rounds 9 ?_
              refine (show Code.wp _ _ _ _ _ from ?_)
              refine wp_seq ?_
              refine wp_region_L (W0 := w) [] (hW2) ?_
              refine lm (v := .bool true) rfl rfl ?_
              refine wpL_done (fun W3 hW3 => ?_)
              clear hW2
              refine (show Code.wp _ _ _ _ _ from ?_)
              refine wp_seq ?_
              refine wp_cond_true rfl ?_
              refine wp_skip ?_
              refine (show Code.wp _ _ _ _ _ from ?_)
              refine wp_seq ?_
              refine wp_block ?_
              refine wp_seq ?_
              refine wp_region_L (W0 := w) [] (hW3) ?_
              refine lm (v := .int .i64 0) rfl rfl ?_
              refine lp (v := strV (dayL 0)) rfl rfl (run_idxd (k := 0) rfl (by kernel_rfl) (by kernel_rfl) (by omega)) ?_
              refine lm (v := .int .i64 0) rfl rfl ?_
              refine lm (v := strV (dayL 0)) rfl rfl ?_
              refine wpL_done (fun W4 hW4 => ?_)
              clear hW3
              refine (show Code.wp _ _ _ _ _ from ?_)
              refine wp_seq ?_
              refine wp_region_L (W0 := w) [] (hW4) ?_
              refine lm (v := strV (dayL 0)) rfl rfl ?_
              refine lm (v := strV l) rfl rfl ?_
              refine lp (v := .bool false) rfl rfl (run_bin rfl (vx := strV (dayL 0)) (vy := strV l) (by kernel_rfl) (by kernel_rfl) fun w => run_eqS e0 w) ?_
              refine wpL_done (fun W5 hW5 => ?_)
              clear hW4
              refine (show Code.wp _ _ _ _ _ from ?_)
              refine wp_cond_false rfl ?_
              refine wp_skip ?_
              refine (show Code.wp _ _ _ _ _ from ?_)
              refine wp_region_L (W0 := w) [] (hW5) ?_
              refine lm (v := .int .i64 1) rfl rfl ?_
              refine lm (v := .int .i64 1) rfl rfl ?_
              refine wpL_done (fun W6 hW6 => ?_)
              clear hW5
              refine (show Code.wp _ _ _ _ _ from ?_)
              refine wp_seq ?_
              refine wp_region_L (W0 := w) [] (hW6) ?_
              refine lm (v := .bool true) rfl rfl ?_
              refine wpL_done (fun W7 hW7 => ?_)
              clear hW6
              refine (show Code.wp _ _ _ _ _ from ?_)
              refine wp_seq ?_
              refine wp_cond_true rfl ?_
              refine wp_skip ?_
              refine (show Code.wp _ _ _ _ _ from ?_)
              refine wp_seq ?_
              refine wp_block ?_
              refine wp_seq ?_
              refine wp_region_L (W0 := w) [] (hW7) ?_
              refine lm (v := .int .i64 1) rfl rfl ?_
              refine lp (v := strV (dayL 1)) rfl rfl (run_idxd (k := 1) rfl (by kernel_rfl) (by kernel_rfl) (by omega)) ?_
              refine lm (v := .int .i64 1) rfl rfl ?_
              refine lm (v := strV (dayL 1)) rfl rfl ?_
              refine wpL_done (fun W8 hW8 => ?_)
              clear hW7
              refine (show Code.wp _ _ _ _ _ from ?_)
              refine wp_seq ?_
              refine wp_region_L (W0 := w) [] (hW8) ?_
              refine lm (v := strV (dayL 1)) rfl rfl ?_
              refine lm (v := strV l) rfl rfl ?_
              refine lp (v := .bool false) rfl rfl (run_bin rfl (vx := strV (dayL 1)) (vy := strV l) (by kernel_rfl) (by kernel_rfl) fun w => run_eqS e1 w) ?_
              refine wpL_done (fun W9 hW9 => ?_)
              clear hW8
              refine (show Code.wp _ _ _ _ _ from ?_)
              refine wp_cond_false rfl ?_
              refine wp_skip ?_
              refine (show Code.wp _ _ _ _ _ from ?_)
              refine wp_region_L (W0 := w) [] (hW9) ?_
              refine lm (v := .int .i64 2) rfl rfl ?_
              refine lm (v := .int .i64 2) rfl rfl ?_
              refine wpL_done (fun W10 hW10 => ?_)
              clear hW9
              refine (show Code.wp _ _ _ _ _ from ?_)
              refine wp_seq ?_
              refine wp_region_L (W0 := w) [] (hW10) ?_
              refine lm (v := .bool true) rfl rfl ?_
              refine wpL_done (fun W11 hW11 => ?_)
              clear hW10
              refine (show Code.wp _ _ _ _ _ from ?_)
              refine wp_seq ?_
              refine wp_cond_true rfl ?_
              refine wp_skip ?_
              refine (show Code.wp _ _ _ _ _ from ?_)
              refine wp_seq ?_
              refine wp_block ?_
              refine wp_seq ?_
              refine wp_region_L (W0 := w) [] (hW11) ?_
              refine lm (v := .int .i64 2) rfl rfl ?_
              refine lp (v := strV (dayL 2)) rfl rfl (run_idxd (k := 2) rfl (by kernel_rfl) (by kernel_rfl) (by omega)) ?_
              refine lm (v := .int .i64 2) rfl rfl ?_
              refine lm (v := strV (dayL 2)) rfl rfl ?_
              refine wpL_done (fun W12 hW12 => ?_)
              clear hW11
              refine (show Code.wp _ _ _ _ _ from ?_)
              refine wp_seq ?_
              refine wp_region_L (W0 := w) [] (hW12) ?_
              refine lm (v := strV (dayL 2)) rfl rfl ?_
              refine lm (v := strV l) rfl rfl ?_
              refine lp (v := .bool false) rfl rfl (run_bin rfl (vx := strV (dayL 2)) (vy := strV l) (by kernel_rfl) (by kernel_rfl) fun w => run_eqS e2 w) ?_
              refine wpL_done (fun W13 hW13 => ?_)
              clear hW12
              refine (show Code.wp _ _ _ _ _ from ?_)
              refine wp_cond_false rfl ?_
              refine wp_skip ?_
              refine (show Code.wp _ _ _ _ _ from ?_)
              refine wp_region_L (W0 := w) [] (hW13) ?_
              refine lm (v := .int .i64 3) rfl rfl ?_
              refine lm (v := .int .i64 3) rfl rfl ?_
              refine wpL_done (fun W14 hW14 => ?_)
              clear hW13
              refine (show Code.wp _ _ _ _ _ from ?_)
              refine wp_seq ?_
              refine wp_region_L (W0 := w) [] (hW14) ?_
              refine lm (v := .bool true) rfl rfl ?_
              refine wpL_done (fun W15 hW15 => ?_)
              clear hW14
              refine (show Code.wp _ _ _ _ _ from ?_)
              refine wp_seq ?_
              refine wp_cond_true rfl ?_
              refine wp_skip ?_
              refine (show Code.wp _ _ _ _ _ from ?_)
              refine wp_seq ?_
              refine wp_block ?_
              refine wp_seq ?_
              refine wp_region_L (W0 := w) [] (hW15) ?_
              refine lm (v := .int .i64 3) rfl rfl ?_
              refine lp (v := strV (dayL 3)) rfl rfl (run_idxd (k := 3) rfl (by kernel_rfl) (by kernel_rfl) (by omega)) ?_
              refine lm (v := .int .i64 3) rfl rfl ?_
              refine lm (v := strV (dayL 3)) rfl rfl ?_
              refine wpL_done (fun W16 hW16 => ?_)
              clear hW15
              refine (show Code.wp _ _ _ _ _ from ?_)
              refine wp_seq ?_
              refine wp_region_L (W0 := w) [] (hW16) ?_
              refine lm (v := strV (dayL 3)) rfl rfl ?_
              refine lm (v := strV l) rfl rfl ?_
              refine lp (v := .bool false) rfl rfl (run_bin rfl (vx := strV (dayL 3)) (vy := strV l) (by kernel_rfl) (by kernel_rfl) fun w => run_eqS e3 w) ?_
              refine wpL_done (fun W17 hW17 => ?_)
              clear hW16
              refine (show Code.wp _ _ _ _ _ from ?_)
              refine wp_cond_false rfl ?_
              refine wp_skip ?_
              refine (show Code.wp _ _ _ _ _ from ?_)
              refine wp_region_L (W0 := w) [] (hW17) ?_
              refine lm (v := .int .i64 4) rfl rfl ?_
              refine lm (v := .int .i64 4) rfl rfl ?_
              refine wpL_done (fun W18 hW18 => ?_)
              clear hW17
              refine (show Code.wp _ _ _ _ _ from ?_)
              refine wp_seq ?_
              refine wp_region_L (W0 := w) [] (hW18) ?_
              refine lm (v := .bool true) rfl rfl ?_
              refine wpL_done (fun W19 hW19 => ?_)
              clear hW18
              refine (show Code.wp _ _ _ _ _ from ?_)
              refine wp_seq ?_
              refine wp_cond_true rfl ?_
              refine wp_skip ?_
              refine (show Code.wp _ _ _ _ _ from ?_)
              refine wp_seq ?_
              refine wp_block ?_
              refine wp_seq ?_
              refine wp_region_L (W0 := w) [] (hW19) ?_
              refine lm (v := .int .i64 4) rfl rfl ?_
              refine lp (v := strV (dayL 4)) rfl rfl (run_idxd (k := 4) rfl (by kernel_rfl) (by kernel_rfl) (by omega)) ?_
              refine lm (v := .int .i64 4) rfl rfl ?_
              refine lm (v := strV (dayL 4)) rfl rfl ?_
              refine wpL_done (fun W20 hW20 => ?_)
              clear hW19
              refine (show Code.wp _ _ _ _ _ from ?_)
              refine wp_seq ?_
              refine wp_region_L (W0 := w) [] (hW20) ?_
              refine lm (v := strV (dayL 4)) rfl rfl ?_
              refine lm (v := strV l) rfl rfl ?_
              refine lp (v := .bool false) rfl rfl (run_bin rfl (vx := strV (dayL 4)) (vy := strV l) (by kernel_rfl) (by kernel_rfl) fun w => run_eqS e4 w) ?_
              refine wpL_done (fun W21 hW21 => ?_)
              clear hW20
              refine (show Code.wp _ _ _ _ _ from ?_)
              refine wp_cond_false rfl ?_
              refine wp_skip ?_
              refine (show Code.wp _ _ _ _ _ from ?_)
              refine wp_region_L (W0 := w) [] (hW21) ?_
              refine lm (v := .int .i64 5) rfl rfl ?_
              refine lm (v := .int .i64 5) rfl rfl ?_
              refine wpL_done (fun W22 hW22 => ?_)
              clear hW21
              refine (show Code.wp _ _ _ _ _ from ?_)
              refine wp_seq ?_
              refine wp_region_L (W0 := w) [] (hW22) ?_
              refine lm (v := .bool true) rfl rfl ?_
              refine wpL_done (fun W23 hW23 => ?_)
              clear hW22
              refine (show Code.wp _ _ _ _ _ from ?_)
              refine wp_seq ?_
              refine wp_cond_true rfl ?_
              refine wp_skip ?_
              refine (show Code.wp _ _ _ _ _ from ?_)
              refine wp_seq ?_
              refine wp_block ?_
              refine wp_seq ?_
              refine wp_region_L (W0 := w) [] (hW23) ?_
              refine lm (v := .int .i64 5) rfl rfl ?_
              refine lp (v := strV (dayL 5)) rfl rfl (run_idxd (k := 5) rfl (by kernel_rfl) (by kernel_rfl) (by omega)) ?_
              refine lm (v := .int .i64 5) rfl rfl ?_
              refine lm (v := strV (dayL 5)) rfl rfl ?_
              refine wpL_done (fun W24 hW24 => ?_)
              clear hW23
              refine (show Code.wp _ _ _ _ _ from ?_)
              refine wp_seq ?_
              refine wp_region_L (W0 := w) [] (hW24) ?_
              refine lm (v := strV (dayL 5)) rfl rfl ?_
              refine lm (v := strV l) rfl rfl ?_
              refine lp (v := .bool true) rfl rfl (run_bin rfl (vx := strV (dayL 5)) (vy := strV l) (by kernel_rfl) (by kernel_rfl) fun w => run_eqS e5 w) ?_
              refine wpL_done (fun W25 hW25 => ?_)
              clear hW24
              refine (show Code.wp _ _ _ _ _ from ?_)
              refine wp_cond_true rfl ?_
              refine wp_seq ?_
              refine wp_region_L (W0 := w) [] (hW25) ?_
              refine lm (v := .int .i64 5) rfl rfl ?_
              refine lm (v := .int .i64 5) rfl rfl ?_
              refine wpL_done (fun W26 hW26 => ?_)
              clear hW25
              refine (show Code.wp _ _ _ _ _ from ?_)
              refine wp_ret ?_
              try simp only [inBlock_ret, then_ret]
              go_ret
              exact ⟨rfl, hW26.1⟩
            · by_cases h6 : l = dayL 6
              · have e0 : (dayL 0 == l) = false := by rw [beq_eq_false_iff_ne]; exact fun e => h0 e.symm
                have e1 : (dayL 1 == l) = false := by rw [beq_eq_false_iff_ne]; exact fun e => h1 e.symm
                have e2 : (dayL 2 == l) = false := by rw [beq_eq_false_iff_ne]; exact fun e => h2 e.symm
                have e3 : (dayL 3 == l) = false := by rw [beq_eq_false_iff_ne]; exact fun e => h3 e.symm
                have e4 : (dayL 4 == l) = false := by rw [beq_eq_false_iff_ne]; exact fun e => h4 e.symm
                have e5 : (dayL 5 == l) = false := by rw [beq_eq_false_iff_ne]; exact fun e => h5 e.symm
                have e6 : (dayL 6 == l) = true := by rw [beq_iff_eq]; exact h6.symm
                have hr : dayV l = 6 := by unfold dayV; rw [if_neg h0, if_neg h1, if_neg h2, if_neg h3, if_neg h4, if_neg h5, if_pos h6]
                rw [hr]
                go_enter Tryd.func74, Tryd.ntmps74
                refine wp_seq ?_
                refine wp_region_L (W0 := w) [] (KS.start w) ?_
                refine lm (v := .int .i64 0) rfl rfl ?_
                refine wpL_done (fun W1 hW1 => ?_)
                refine (show Code.wp _ _ _ _ _ from ?_)
                refine wp_seq ?_
                refine wp_seq ?_
                refine wp_region_L (W0 := w) [] (hW1) ?_
                refine lv (v := .agg daysC) rfl rfl (yb_days rfl (by kernel_rfl) HE.out HE.out.glt) ?_
                refine lm (v := .int .i64 0) rfl rfl ?_
                refine wpL_done (fun W2 hW2 => ?_)
                clear hW1
                refine (show Code.wp _ _ _ _ _ from ?_)
                refine wp_block ?_
                refine wp_loop_rounds 9 ?_
                refine (show Code.wp _ _ _ _ _ from ?_)
                refine wp_seq ?_
                refine wp_region_L (W0 := w) [] (hW2) ?_
                refine lm (v := .bool true) rfl rfl ?_
                refine wpL_done (fun W3 hW3 => ?_)
                clear hW2
                refine (show Code.wp _ _ _ _ _ from ?_)
                refine wp_seq ?_
                refine wp_cond_true rfl ?_
                refine wp_skip ?_
                refine (show Code.wp _ _ _ _ _ from ?_)
                refine wp_seq ?_
                refine wp_block ?_
                refine wp_seq ?_
                refine wp_region_L (W0 := w) [] (hW3) ?_
                refine lm (v := .int .i64 0) rfl rfl ?_
                refine lp (v := strV (dayL 0)) rfl rfl (run_idxd (k := 0) rfl (by kernel_rfl) (by kernel_rfl) (by omega)) ?_
                refine lm (v := .int .i64 0) rfl rfl ?_
                refine lm (v := strV (dayL 0)) rfl rfl ?_
                refine wpL_done (fun W4 hW4 => ?_)
                clear hW3
                refine (show Code.wp _ _ _ _ _ from ?_)
                refine wp_seq ?_
                refine wp_region_L (W0 := w) [] (hW4) ?_
                refine lm (v := strV (dayL 0)) rfl rfl ?_
                refine lm (v := strV l) rfl rfl ?_
                refine lp (v := .bool false) rfl rfl (run_bin rfl (vx := strV (dayL 0)) (vy := strV l) (by kernel_rfl) (by kernel_rfl) fun w => run_eqS e0 w) ?_
                refine wpL_done (fun W5 hW5 => ?_)
                clear hW4
                refine (show Code.wp _ _ _ _ _ from ?_)
                refine wp_cond_false rfl ?_
                refine wp_skip ?_
                refine (show Code.wp _ _ _ _ _ from ?_)
                refine wp_region_L (W0 := w) [] (hW5) ?_
                refine lm (v := .int .i64 1) rfl rfl ?_
                refine lm (v := .int .i64 1) rfl rfl ?_
                refine wpL_done (fun W6 hW6 => ?_)
                clear hW5
                refine (show Code.wp _ _ _ _ _ from ?_)
                refine wp_seq ?_
                refine wp_region_L (W0 := w) [] (hW6) ?_
                refine lm (v := .bool true) rfl rfl ?_
                refine wpL_done (fun W7 hW7 => ?_)
                clear hW6
                refine (show Code.wp _ _ _ _ _ from ?_)
                refine wp_seq ?_
                refine wp_cond_true rfl ?_
                refine wp_skip ?_
                refine (show Code.wp _ _ _ _ _ from ?_)
                refine wp_seq ?_
                refine wp_block ?_
                refine wp_seq ?_
                refine wp_region_L (W0 := w) [] (hW7) ?_
                refine lm (v := .int .i64 1) rfl rfl ?_
                refine lp (v := strV (dayL 1)) rfl rfl (run_idxd (k := 1) rfl (by kernel_rfl) (by kernel_rfl) (by omega)) ?_
                refine lm (v := .int .i64 1) rfl rfl ?_
                refine lm (v := strV (dayL 1)) rfl rfl ?_
                refine wpL_done (fun W8 hW8 => ?_)
                clear hW7
                refine (show Code.wp _ _ _ _ _ from ?_)
                refine wp_seq ?_
                refine wp_region_L (W0 := w) [] (hW8) ?_
                refine lm (v := strV (dayL 1)) rfl rfl ?_
                refine lm (v := strV l) rfl rfl ?_
                refine lp (v := .bool false) rfl rfl (run_bin rfl (vx := strV (dayL 1)) (vy := strV l) (by kernel_rfl) (by kernel_rfl) fun w => run_eqS e1 w) ?_
                refine wpL_done (fun W9 hW9 => ?_)
                clear hW8
                refine (show Code.wp _ _ _ _ _ from ?_)
                refine wp_cond_false rfl ?_
                refine wp_skip ?_
                refine (show Code.wp _ _ _ _ _ from ?_)
                refine wp_region_L (W0 := w) [] (hW9) ?_
                refine lm (v := .int .i64 2) rfl rfl ?_
                refine lm (v := .int .i64 2) rfl rfl ?_
                refine wpL_done (fun W10 hW10 => ?_)
                clear hW9
                refine (show Code.wp _ _ _ _ _ from ?_)
                refine wp_seq ?_
                refine wp_region_L (W0 := w) [] (hW10) ?_
                refine lm (v := .bool true) rfl rfl ?_
                refine wpL_done (fun W11 hW11 => ?_)
                clear hW10
                refine (show Code.wp _ _ _ _ _ from ?_)
                refine wp_seq ?_
                refine wp_cond_true rfl ?_
                refine wp_skip ?_
                refine (show Code.wp _ _ _ _ _ from ?_)
                refine wp_seq ?_
                refine wp_block ?_
                refine wp_seq ?_
                refine wp_region_L (W0 := w) [] (hW11) ?_
                refine lm (v := .int .i64 2) rfl rfl ?_
                refine lp (v := strV (dayL 2)) rfl rfl (run_idxd (k := 2) rfl (by kernel_rfl) (by kernel_rfl) (by omega)) ?_
                refine lm (v := .int .i64 2) rfl rfl ?_
                refine lm (v := strV (dayL 2)) rfl rfl ?_
                refine wpL_done (fun W12 hW12 => ?_)
                clear hW11
                refine (show Code.wp _ _ _ _ _ from ?_)
                refine wp_seq ?_
                refine wp_region_L (W0 := w) [] (hW12) ?_
                refine lm (v := strV (dayL 2)) rfl rfl ?_
                refine lm (v := strV l) rfl rfl ?_
                refine lp (v := .bool false) rfl rfl (run_bin rfl (vx := strV (dayL 2)) (vy := strV l) (by kernel_rfl) (by kernel_rfl) fun w => run_eqS e2 w) ?_
                refine wpL_done (fun W13 hW13 => ?_)
                clear hW12
                refine (show Code.wp _ _ _ _ _ from ?_)
                refine wp_cond_false rfl ?_
                refine wp_skip ?_
                refine (show Code.wp _ _ _ _ _ from ?_)
                refine wp_region_L (W0 := w) [] (hW13) ?_
                refine lm (v := .int .i64 3) rfl rfl ?_
                refine lm (v := .int .i64 3) rfl rfl ?_
                refine wpL_done (fun W14 hW14 => ?_)
                clear hW13
                refine (show Code.wp _ _ _ _ _ from ?_)
                refine wp_seq ?_
                refine wp_region_L (W0 := w) [] (hW14) ?_
                refine lm (v := .bool true) rfl rfl ?_
                refine wpL_done (fun W15 hW15 => ?_)
                clear hW14
                refine (show Code.wp _ _ _ _ _ from ?_)
                refine wp_seq ?_
                refine wp_cond_true rfl ?_
                refine wp_skip ?_
                refine (show Code.wp _ _ _ _ _ from ?_)
                refine wp_seq ?_
                refine wp_block ?_
                refine wp_seq ?_
                refine wp_region_L (W0 := w) [] (hW15) ?_
                refine lm (v := .int .i64 3) rfl rfl ?_
                refine lp (v := strV (dayL 3)) rfl rfl (run_idxd (k := 3) rfl (by kernel_rfl) (by kernel_rfl) (by omega)) ?_
                refine lm (v := .int .i64 3) rfl rfl ?_
                refine lm (v := strV (dayL 3)) rfl rfl ?_
                refine wpL_done (fun W16 hW16 => ?_)
                clear hW15
                refine (show Code.wp _ _ _ _ _ from ?_)
                refine wp_seq ?_
                refine wp_region_L (W0 := w) [] (hW16) ?_
                refine lm (v := strV (dayL 3)) rfl rfl ?_
                refine lm (v := strV l) rfl rfl ?_
                refine lp (v := .bool false) rfl rfl (run_bin rfl (vx := strV (dayL 3)) (vy := strV l) (by kernel_rfl) (by kernel_rfl) fun w => run_eqS e3 w) ?_
                refine wpL_done (fun W17 hW17 => ?_)
                clear hW16
                refine (show Code.wp _ _ _ _ _ from ?_)
                refine wp_cond_false rfl ?_
                refine wp_skip ?_
                refine (show Code.wp _ _ _ _ _ from ?_)
                refine wp_region_L (W0 := w) [] (hW17) ?_
                refine lm (v := .int .i64 4) rfl rfl ?_
                refine lm (v := .int .i64 4) rfl rfl ?_
                refine wpL_done (fun W18 hW18 => ?_)
                clear hW17
                refine (show Code.wp _ _ _ _ _ from ?_)
                refine wp_seq ?_
                refine wp_region_L (W0 := w) [] (hW18) ?_
                refine lm (v := .bool true) rfl rfl ?_
                refine wpL_done (fun W19 hW19 => ?_)
                clear hW18
                refine (show Code.wp _ _ _ _ _ from ?_)
                refine wp_seq ?_
                refine wp_cond_true rfl ?_
                refine wp_skip ?_
                refine (show Code.wp _ _ _ _ _ from ?_)
                refine wp_seq ?_
                refine wp_block ?_
                refine wp_seq ?_
                refine wp_region_L (W0 := w) [] (hW19) ?_
                refine lm (v := .int .i64 4) rfl rfl ?_
                refine lp (v := strV (dayL 4)) rfl rfl (run_idxd (k := 4) rfl (by kernel_rfl) (by kernel_rfl) (by omega)) ?_
                refine lm (v := .int .i64 4) rfl rfl ?_
                refine lm (v := strV (dayL 4)) rfl rfl ?_
                refine wpL_done (fun W20 hW20 => ?_)
                clear hW19
                refine (show Code.wp _ _ _ _ _ from ?_)
                refine wp_seq ?_
                refine wp_region_L (W0 := w) [] (hW20) ?_
                refine lm (v := strV (dayL 4)) rfl rfl ?_
                refine lm (v := strV l) rfl rfl ?_
                refine lp (v := .bool false) rfl rfl (run_bin rfl (vx := strV (dayL 4)) (vy := strV l) (by kernel_rfl) (by kernel_rfl) fun w => run_eqS e4 w) ?_
                refine wpL_done (fun W21 hW21 => ?_)
                clear hW20
                refine (show Code.wp _ _ _ _ _ from ?_)
                refine wp_cond_false rfl ?_
                refine wp_skip ?_
                refine (show Code.wp _ _ _ _ _ from ?_)
                refine wp_region_L (W0 := w) [] (hW21) ?_
                refine lm (v := .int .i64 5) rfl rfl ?_
                refine lm (v := .int .i64 5) rfl rfl ?_
                refine wpL_done (fun W22 hW22 => ?_)
                clear hW21
                refine (show Code.wp _ _ _ _ _ from ?_)
                refine wp_seq ?_
                refine wp_region_L (W0 := w) [] (hW22) ?_
                refine lm (v := .bool true) rfl rfl ?_
                refine wpL_done (fun W23 hW23 => ?_)
                clear hW22
                refine (show Code.wp _ _ _ _ _ from ?_)
                refine wp_seq ?_
                refine wp_cond_true rfl ?_
                refine wp_skip ?_
                refine (show Code.wp _ _ _ _ _ from ?_)
                refine wp_seq ?_
                refine wp_block ?_
                refine wp_seq ?_
                refine wp_region_L (W0 := w) [] (hW23) ?_
                refine lm (v := .int .i64 5) rfl rfl ?_
                refine lp (v := strV (dayL 5)) rfl rfl (run_idxd (k := 5) rfl (by kernel_rfl) (by kernel_rfl) (by omega)) ?_
                refine lm (v := .int .i64 5) rfl rfl ?_
                refine lm (v := strV (dayL 5)) rfl rfl ?_
                refine wpL_done (fun W24 hW24 => ?_)
                clear hW23
                refine (show Code.wp _ _ _ _ _ from ?_)
                refine wp_seq ?_
                refine wp_region_L (W0 := w) [] (hW24) ?_
                refine lm (v := strV (dayL 5)) rfl rfl ?_
                refine lm (v := strV l) rfl rfl ?_
                refine lp (v := .bool false) rfl rfl (run_bin rfl (vx := strV (dayL 5)) (vy := strV l) (by kernel_rfl) (by kernel_rfl) fun w => run_eqS e5 w) ?_
                refine wpL_done (fun W25 hW25 => ?_)
                clear hW24
                refine (show Code.wp _ _ _ _ _ from ?_)
                refine wp_cond_false rfl ?_
                refine wp_skip ?_
                refine (show Code.wp _ _ _ _ _ from ?_)
                refine wp_region_L (W0 := w) [] (hW25) ?_
                refine lm (v := .int .i64 6) rfl rfl ?_
                refine lm (v := .int .i64 6) rfl rfl ?_
                refine wpL_done (fun W26 hW26 => ?_)
                clear hW25
                refine (show Code.wp _ _ _ _ _ from ?_)
                refine wp_seq ?_
                refine wp_region_L (W0 := w) [] (hW26) ?_
                refine lm (v := .bool true) rfl rfl ?_
                refine wpL_done (fun W27 hW27 => ?_)
                clear hW26
                refine (show Code.wp _ _ _ _ _ from ?_)
                refine wp_seq ?_
                refine wp_cond_true rfl ?_
                refine wp_skip ?_
                refine (show Code.wp _ _ _ _ _ from ?_)
                refine wp_seq ?_
                refine wp_block ?_
                refine wp_seq ?_
                refine wp_region_L (W0 := w) [] (hW27) ?_
                refine lm (v := .int .i64 6) rfl rfl ?_
                refine lp (v := strV (dayL 6)) rfl rfl (run_idxd (k := 6) rfl (by kernel_rfl) (by kernel_rfl) (by omega)) ?_
                refine lm (v := .int .i64 6) rfl rfl ?_
                refine lm (v := strV (dayL 6)) rfl rfl ?_
                refine wpL_done (fun W28 hW28 => ?_)
                clear hW27
                refine (show Code.wp _ _ _ _ _ from ?_)
                refine wp_seq ?_
                refine wp_region_L (W0 := w) [] (hW28) ?_
                refine lm (v := strV (dayL 6)) rfl rfl ?_
                refine lm (v := strV l) rfl rfl ?_
                refine lp (v := .bool true) rfl rfl (run_bin rfl (vx := strV (dayL 6)) (vy := strV l) (by kernel_rfl) (by kernel_rfl) fun w => run_eqS e6 w) ?_
                refine wpL_done (fun W29 hW29 => ?_)
                clear hW28
                refine (show Code.wp _ _ _ _ _ from ?_)
                refine wp_cond_true rfl ?_
                refine wp_seq ?_
                refine wp_region_L (W0 := w) [] (hW29) ?_
                refine lm (v := .int .i64 6) rfl rfl ?_
                refine lm (v := .int .i64 6) rfl rfl ?_
                refine wpL_done (fun W30 hW30 => ?_)
                clear hW29
                refine (show Code.wp _ _ _ _ _ from ?_)
                refine wp_ret ?_
                try simp only [inBlock_ret, then_ret]
                go_ret
                exact ⟨rfl, hW30.1⟩
              · have e0 : (dayL 0 == l) = false := by rw [beq_eq_false_iff_ne]; exact fun e => h0 e.symm
                have e1 : (dayL 1 == l) = false := by rw [beq_eq_false_iff_ne]; exact fun e => h1 e.symm
                have e2 : (dayL 2 == l) = false := by rw [beq_eq_false_iff_ne]; exact fun e => h2 e.symm
                have e3 : (dayL 3 == l) = false := by rw [beq_eq_false_iff_ne]; exact fun e => h3 e.symm
                have e4 : (dayL 4 == l) = false := by rw [beq_eq_false_iff_ne]; exact fun e => h4 e.symm
                have e5 : (dayL 5 == l) = false := by rw [beq_eq_false_iff_ne]; exact fun e => h5 e.symm
                have e6 : (dayL 6 == l) = false := by rw [beq_eq_false_iff_ne]; exact fun e => h6 e.symm
                have hr : dayV l = 0 := by unfold dayV; rw [if_neg h0, if_neg h1, if_neg h2, if_neg h3, if_neg h4, if_neg h5, if_neg h6]
                rw [hr]
                go_enter Tryd.func74, Tryd.ntmps74
                refine wp_seq ?_
                refine wp_region_L (W0 := w) [] (KS.start w) ?_
                refine lm (v := .int .i64 0) rfl rfl ?_
                refine wpL_done (fun W1 hW1 => ?_)
                refine (show Code.wp _ _ _ _ _ from ?_)
                refine wp_seq ?_
                refine wp_seq ?_
                refine wp_region_L (W0 := w) [] (hW1) ?_
                refine lv (v := .agg daysC) rfl rfl (yb_days rfl (by kernel_rfl) HE.out HE.out.glt) ?_
                refine lm (v := .int .i64 0) rfl rfl ?_
                refine wpL_done (fun W2 hW2 => ?_)
                clear hW1
                refine (show Code.wp _ _ _ _ _ from ?_)
                refine wp_block ?_
                refine wp_loop_rounds 9 ?_
                refine (show Code.wp _ _ _ _ _ from ?_)
                refine wp_seq ?_
                refine wp_region_L (W0 := w) [] (hW2) ?_
                refine lm (v := .bool true) rfl rfl ?_
                refine wpL_done (fun W3 hW3 => ?_)
                clear hW2
                refine (show Code.wp _ _ _ _ _ from ?_)
                refine wp_seq ?_
                refine wp_cond_true rfl ?_
                refine wp_skip ?_
                refine (show Code.wp _ _ _ _ _ from ?_)
                refine wp_seq ?_
                refine wp_block ?_
                refine wp_seq ?_
                refine wp_region_L (W0 := w) [] (hW3) ?_
                refine lm (v := .int .i64 0) rfl rfl ?_
                refine lp (v := strV (dayL 0)) rfl rfl (run_idxd (k := 0) rfl (by kernel_rfl) (by kernel_rfl) (by omega)) ?_
                refine lm (v := .int .i64 0) rfl rfl ?_
                refine lm (v := strV (dayL 0)) rfl rfl ?_
                refine wpL_done (fun W4 hW4 => ?_)
                clear hW3
                refine (show Code.wp _ _ _ _ _ from ?_)
                refine wp_seq ?_
                refine wp_region_L (W0 := w) [] (hW4) ?_
                refine lm (v := strV (dayL 0)) rfl rfl ?_
                refine lm (v := strV l) rfl rfl ?_
                refine lp (v := .bool false) rfl rfl (run_bin rfl (vx := strV (dayL 0)) (vy := strV l) (by kernel_rfl) (by kernel_rfl) fun w => run_eqS e0 w) ?_
                refine wpL_done (fun W5 hW5 => ?_)
                clear hW4
                refine (show Code.wp _ _ _ _ _ from ?_)
                refine wp_cond_false rfl ?_
                refine wp_skip ?_
                refine (show Code.wp _ _ _ _ _ from ?_)
                refine wp_region_L (W0 := w) [] (hW5) ?_
                refine lm (v := .int .i64 1) rfl rfl ?_
                refine lm (v := .int .i64 1) rfl rfl ?_
                refine wpL_done (fun W6 hW6 => ?_)
                clear hW5
                refine (show Code.wp _ _ _ _ _ from ?_)
                refine wp_seq ?_
                refine wp_region_L (W0 := w) [] (hW6) ?_
                refine lm (v := .bool true) rfl rfl ?_
                refine wpL_done (fun W7 hW7 => ?_)
                clear hW6
                refine (show Code.wp _ _ _ _ _ from ?_)
                refine wp_seq ?_
                refine wp_cond_true rfl ?_
                refine wp_skip ?_
                refine (show Code.wp _ _ _ _ _ from ?_)
                refine wp_seq ?_
                refine wp_block ?_
                refine wp_seq ?_
                refine wp_region_L (W0 := w) [] (hW7) ?_
                refine lm (v := .int .i64 1) rfl rfl ?_
                refine lp (v := strV (dayL 1)) rfl rfl (run_idxd (k := 1) rfl (by kernel_rfl) (by kernel_rfl) (by omega)) ?_
                refine lm (v := .int .i64 1) rfl rfl ?_
                refine lm (v := strV (dayL 1)) rfl rfl ?_
                refine wpL_done (fun W8 hW8 => ?_)
                clear hW7
                refine (show Code.wp _ _ _ _ _ from ?_)
                refine wp_seq ?_
                refine wp_region_L (W0 := w) [] (hW8) ?_
                refine lm (v := strV (dayL 1)) rfl rfl ?_
                refine lm (v := strV l) rfl rfl ?_
                refine lp (v := .bool false) rfl rfl (run_bin rfl (vx := strV (dayL 1)) (vy := strV l) (by kernel_rfl) (by kernel_rfl) fun w => run_eqS e1 w) ?_
                refine wpL_done (fun W9 hW9 => ?_)
                clear hW8
                refine (show Code.wp _ _ _ _ _ from ?_)
                refine wp_cond_false rfl ?_
                refine wp_skip ?_
                refine (show Code.wp _ _ _ _ _ from ?_)
                refine wp_region_L (W0 := w) [] (hW9) ?_
                refine lm (v := .int .i64 2) rfl rfl ?_
                refine lm (v := .int .i64 2) rfl rfl ?_
                refine wpL_done (fun W10 hW10 => ?_)
                clear hW9
                refine (show Code.wp _ _ _ _ _ from ?_)
                refine wp_seq ?_
                refine wp_region_L (W0 := w) [] (hW10) ?_
                refine lm (v := .bool true) rfl rfl ?_
                refine wpL_done (fun W11 hW11 => ?_)
                clear hW10
                refine (show Code.wp _ _ _ _ _ from ?_)
                refine wp_seq ?_
                refine wp_cond_true rfl ?_
                refine wp_skip ?_
                refine (show Code.wp _ _ _ _ _ from ?_)
                refine wp_seq ?_
                refine wp_block ?_
                refine wp_seq ?_
                refine wp_region_L (W0 := w) [] (hW11) ?_
                refine lm (v := .int .i64 2) rfl rfl ?_
                refine lp (v := strV (dayL 2)) rfl rfl (run_idxd (k := 2) rfl (by kernel_rfl) (by kernel_rfl) (by omega)) ?_
                refine lm (v := .int .i64 2) rfl rfl ?_
                refine lm (v := strV (dayL 2)) rfl rfl ?_
                refine wpL_done (fun W12 hW12 => ?_)
                clear hW11
                refine (show Code.wp _ _ _ _ _ from ?_)
                refine wp_seq ?_
                refine wp_region_L (W0 := w) [] (hW12) ?_
                refine lm (v := strV (dayL 2)) rfl rfl ?_
                refine lm (v := strV l) rfl rfl ?_
                refine lp (v := .bool false) rfl rfl (run_bin rfl (vx := strV (dayL 2)) (vy := strV l) (by kernel_rfl) (by kernel_rfl) fun w => run_eqS e2 w) ?_
                refine wpL_done (fun W13 hW13 => ?_)
                clear hW12
                refine (show Code.wp _ _ _ _ _ from ?_)
                refine wp_cond_false rfl ?_
                refine wp_skip ?_
                refine (show Code.wp _ _ _ _ _ from ?_)
                refine wp_region_L (W0 := w) [] (hW13) ?_
                refine lm (v := .int .i64 3) rfl rfl ?_
                refine lm (v := .int .i64 3) rfl rfl ?_
                refine wpL_done (fun W14 hW14 => ?_)
                clear hW13
                refine (show Code.wp _ _ _ _ _ from ?_)
                refine wp_seq ?_
                refine wp_region_L (W0 := w) [] (hW14) ?_
                refine lm (v := .bool true) rfl rfl ?_
                refine wpL_done (fun W15 hW15 => ?_)
                clear hW14
                refine (show Code.wp _ _ _ _ _ from ?_)
                refine wp_seq ?_
                refine wp_cond_true rfl ?_
                refine wp_skip ?_
                refine (show Code.wp _ _ _ _ _ from ?_)
                refine wp_seq ?_
                refine wp_block ?_
                refine wp_seq ?_
                refine wp_region_L (W0 := w) [] (hW15) ?_
                refine lm (v := .int .i64 3) rfl rfl ?_
                refine lp (v := strV (dayL 3)) rfl rfl (run_idxd (k := 3) rfl (by kernel_rfl) (by kernel_rfl) (by omega)) ?_
                refine lm (v := .int .i64 3) rfl rfl ?_
                refine lm (v := strV (dayL 3)) rfl rfl ?_
                refine wpL_done (fun W16 hW16 => ?_)
                clear hW15
                refine (show Code.wp _ _ _ _ _ from ?_)
                refine wp_seq ?_
                refine wp_region_L (W0 := w) [] (hW16) ?_
                refine lm (v := strV (dayL 3)) rfl rfl ?_
                refine lm (v := strV l) rfl rfl ?_
                refine lp (v := .bool false) rfl rfl (run_bin rfl (vx := strV (dayL 3)) (vy := strV l) (by kernel_rfl) (by kernel_rfl) fun w => run_eqS e3 w) ?_
                refine wpL_done (fun W17 hW17 => ?_)
                clear hW16
                refine (show Code.wp _ _ _ _ _ from ?_)
                refine wp_cond_false rfl ?_
                refine wp_skip ?_
                refine (show Code.wp _ _ _ _ _ from ?_)
                refine wp_region_L (W0 := w) [] (hW17) ?_
                refine lm (v := .int .i64 4) rfl rfl ?_
                refine lm (v := .int .i64 4) rfl rfl ?_
                refine wpL_done (fun W18 hW18 => ?_)
                clear hW17
                refine (show Code.wp _ _ _ _ _ from ?_)
                refine wp_seq ?_
                refine wp_region_L (W0 := w) [] (hW18) ?_
                refine lm (v := .bool true) rfl rfl ?_
                refine wpL_done (fun W19 hW19 => ?_)
                clear hW18
                refine (show Code.wp _ _ _ _ _ from ?_)
                refine wp_seq ?_
                refine wp_cond_true rfl ?_
                refine wp_skip ?_
                refine (show Code.wp _ _ _ _ _ from ?_)
                refine wp_seq ?_
                refine wp_block ?_
                refine wp_seq ?_
                refine wp_region_L (W0 := w) [] (hW19) ?_
                refine lm (v := .int .i64 4) rfl rfl ?_
                refine lp (v := strV (dayL 4)) rfl rfl (run_idxd (k := 4) rfl (by kernel_rfl) (by kernel_rfl) (by omega)) ?_
                refine lm (v := .int .i64 4) rfl rfl ?_
                refine lm (v := strV (dayL 4)) rfl rfl ?_
                refine wpL_done (fun W20 hW20 => ?_)
                clear hW19
                refine (show Code.wp _ _ _ _ _ from ?_)
                refine wp_seq ?_
                refine wp_region_L (W0 := w) [] (hW20) ?_
                refine lm (v := strV (dayL 4)) rfl rfl ?_
                refine lm (v := strV l) rfl rfl ?_
                refine lp (v := .bool false) rfl rfl (run_bin rfl (vx := strV (dayL 4)) (vy := strV l) (by kernel_rfl) (by kernel_rfl) fun w => run_eqS e4 w) ?_
                refine wpL_done (fun W21 hW21 => ?_)
                clear hW20
                refine (show Code.wp _ _ _ _ _ from ?_)
                refine wp_cond_false rfl ?_
                refine wp_skip ?_
                refine (show Code.wp _ _ _ _ _ from ?_)
                refine wp_region_L (W0 := w) [] (hW21) ?_
                refine lm (v := .int .i64 5) rfl rfl ?_
                refine lm (v := .int .i64 5) rfl rfl ?_
                refine wpL_done (fun W22 hW22 => ?_)
                clear hW21
                refine (show Code.wp _ _ _ _ _ from ?_)
                refine wp_seq ?_
                refine wp_region_L (W0 := w) [] (hW22) ?_
                refine lm (v := .bool true) rfl rfl ?_
                refine wpL_done (fun W23 hW23 => ?_)
                clear hW22
                refine (show Code.wp _ _ _ _ _ from ?_)
                refine wp_seq ?_
                refine wp_cond_true rfl ?_
                refine wp_skip ?_
                refine (show Code.wp _ _ _ _ _ from ?_)
                refine wp_seq ?_
                refine wp_block ?_
                refine wp_seq ?_
                refine wp_region_L (W0 := w) [] (hW23) ?_
                refine lm (v := .int .i64 5) rfl rfl ?_
                refine lp (v := strV (dayL 5)) rfl rfl (run_idxd (k := 5) rfl (by kernel_rfl) (by kernel_rfl) (by omega)) ?_
                refine lm (v := .int .i64 5) rfl rfl ?_
                refine lm (v := strV (dayL 5)) rfl rfl ?_
                refine wpL_done (fun W24 hW24 => ?_)
                clear hW23
                refine (show Code.wp _ _ _ _ _ from ?_)
                refine wp_seq ?_
                refine wp_region_L (W0 := w) [] (hW24) ?_
                refine lm (v := strV (dayL 5)) rfl rfl ?_
                refine lm (v := strV l) rfl rfl ?_
                refine lp (v := .bool false) rfl rfl (run_bin rfl (vx := strV (dayL 5)) (vy := strV l) (by kernel_rfl) (by kernel_rfl) fun w => run_eqS e5 w) ?_
                refine wpL_done (fun W25 hW25 => ?_)
                clear hW24
                refine (show Code.wp _ _ _ _ _ from ?_)
                refine wp_cond_false rfl ?_
                refine wp_skip ?_
                refine (show Code.wp _ _ _ _ _ from ?_)
                refine wp_region_L (W0 := w) [] (hW25) ?_
                refine lm (v := .int .i64 6) rfl rfl ?_
                refine lm (v := .int .i64 6) rfl rfl ?_
                refine wpL_done (fun W26 hW26 => ?_)
                clear hW25
                refine (show Code.wp _ _ _ _ _ from ?_)
                refine wp_seq ?_
                refine wp_region_L (W0 := w) [] (hW26) ?_
                refine lm (v := .bool true) rfl rfl ?_
                refine wpL_done (fun W27 hW27 => ?_)
                clear hW26
                refine (show Code.wp _ _ _ _ _ from ?_)
                refine wp_seq ?_
                refine wp_cond_true rfl ?_
                refine wp_skip ?_
                refine (show Code.wp _ _ _ _ _ from ?_)
                refine wp_seq ?_
                refine wp_block ?_
                refine wp_seq ?_
                refine wp_region_L (W0 := w) [] (hW27) ?_
                refine lm (v := .int .i64 6) rfl rfl ?_
                refine lp (v := strV (dayL 6)) rfl rfl (run_idxd (k := 6) rfl (by kernel_rfl) (by kernel_rfl) (by omega)) ?_
                refine lm (v := .int .i64 6) rfl rfl ?_
                refine lm (v := strV (dayL 6)) rfl rfl ?_
                refine wpL_done (fun W28 hW28 => ?_)
                clear hW27
                refine (show Code.wp _ _ _ _ _ from ?_)
                refine wp_seq ?_
                refine wp_region_L (W0 := w) [] (hW28) ?_
                refine lm (v := strV (dayL 6)) rfl rfl ?_
                refine lm (v := strV l) rfl rfl ?_
                refine lp (v := .bool false) rfl rfl (run_bin rfl (vx := strV (dayL 6)) (vy := strV l) (by kernel_rfl) (by kernel_rfl) fun w => run_eqS e6 w) ?_
                refine wpL_done (fun W29 hW29 => ?_)
                clear hW28
                refine (show Code.wp _ _ _ _ _ from ?_)
                refine wp_cond_false rfl ?_
                refine wp_skip ?_
                refine (show Code.wp _ _ _ _ _ from ?_)
                refine wp_region_L (W0 := w) [] (hW29) ?_
                refine lm (v := .int .i64 7) rfl rfl ?_
                refine lm (v := .int .i64 7) rfl rfl ?_
                refine wpL_done (fun W30 hW30 => ?_)
                clear hW29
                refine (show Code.wp _ _ _ _ _ from ?_)
                refine wp_seq ?_
                refine wp_region_L (W0 := w) [] (hW30) ?_
                refine lm (v := .bool false) rfl rfl ?_
                refine wpL_done (fun W31 hW31 => ?_)
                clear hW30
                refine (show Code.wp _ _ _ _ _ from ?_)
                refine wp_seq ?_
                refine wp_cond_false rfl ?_
                refine wp_exit ?_
                refine (show Code.wp _ _ _ _ _ from ?_)
                refine wp_seq ?_
                refine wp_region_L (W0 := w) [] (hW31) ?_
                refine lm (v := .int .i64 0) rfl rfl ?_
                refine wpL_done (fun W32 hW32 => ?_)
                clear hW31
                refine (show Code.wp _ _ _ _ _ from ?_)
                refine wp_ret ?_
                try simp only [inBlock_ret, then_ret]
                go_ret
                exact ⟨rfl, hW32.1⟩
set_option maxRecDepth 100000 in
set_option maxHeartbeats 2000000 in
theorem number_any (l : List UInt8) (hl : l.length < 4294967281) (w : World) (hE : Env w) : Calls Tryd.prog 73 #[strV l] w fun e w' => e = .returned (.int .i64 (numV l)) ∧ Below w.heap.size w w' := by
  have HE := Lib.hid hE
  clear hE
  go_enter Tryd.func73, Tryd.ntmps73
  refine wp_seq ?_
  refine wp_region_L (W0 := w) [] (KS.start w) ?_
  refine lm (v := .int .i64 0) rfl rfl ?_
  refine wpL_done (fun W1 hW1 => ?_)
  refine (show Code.wp _ _ _ _ _ from ?_)
  refine wp_seq ?_
  refine wp_region_L (W0 := w) [] (hW1) ?_
  refine lm (v := strV l) rfl rfl ?_
  refine wpL_c (fun v K9 => ∃ ev, v = .tuple #[.int .i64 (numV l), ev] ∧ K9 = []) rfl (by kernel_rfl) (fun _ => (by kernel_rfl)) (fun W hW => (atoi_any l hl W (HE.out.keep hW.1)).mono fun e w' ⟨ev, he, hb⟩ => ⟨_, _, he, hW.below hb, ev, rfl, rfl⟩) (fun _ => by simp only [List.setIfInBounds_toArray, List.set_cons_succ, List.set_cons_zero] <;> rfl) ?_
  rintro v K9 ⟨ev, rfl, rfl⟩
  refine lm (v := .tuple #[.int .i64 (numV l), ev]) rfl rfl ?_
  refine lm (v := .int .i64 (numV l)) rfl rfl ?_
  refine lm (v := ev) rfl rfl ?_
  refine lm (v := .int .i64 (numV l)) rfl rfl ?_
  refine lm (v := ev) rfl rfl ?_
  refine wpL_done (fun W2 hW2 => ?_)
  clear hW1
  refine (show Code.wp _ _ _ _ _ from ?_)
  refine wp_seq ?_
  refine wp_region_L (W0 := w) [] (hW2) ?_
  refine lm (v := .int .i64 (numV l)) rfl rfl ?_
  refine lm (v := .int .i64 (numV l)) rfl rfl ?_
  refine wpL_done (fun W3 hW3 => ?_)
  clear hW2
  refine (show Code.wp _ _ _ _ _ from ?_)
  refine wp_ret ?_
  try simp only [inBlock_ret, then_ret]
  go_ret
  exact ⟨rfl, hW3.1⟩
set_option maxRecDepth 100000 in
set_option maxHeartbeats 8000000 in
theorem Read_walk (l c1 c2 c3 c4 c5 c6 lt : List UInt8) (b1 b2 b3 : Bool) (n1 n2 n3 m1 m2 m3 a1 a2 a3 te : Int) (d : Nat) (hd : d ≤ 6) (w : World) (HE : Hid (Env w))
    (HC1 : Hid (∀ W, Env W → Calls Tryd.prog 72 #[strV l, strV [32]] W fun e w' => e = .returned (.tuple #[strV c1, strV c2, .bool b1]) ∧ Below W.heap.size W w'))
    (HC2 : Hid (∀ W, Env W → Calls Tryd.prog 72 #[strV c2, strV [32]] W fun e w' => e = .returned (.tuple #[strV c3, strV c4, .bool b2]) ∧ Below W.heap.size W w'))
    (HC3 : Hid (∀ W, Env W → Calls Tryd.prog 72 #[strV c4, strV [58]] W fun e w' => e = .returned (.tuple #[strV c5, strV c6, .bool b3]) ∧ Below W.heap.size W w'))
    (HN1 : Hid (∀ W, Env W → Calls Tryd.prog 73 #[strV c1] W fun e w' => e = .returned (.int .i64 n1) ∧ Below W.heap.size W w'))
    (HD : Hid (∀ W, Env W → Calls Tryd.prog 74 #[strV c3] W fun e w' => e = .returned (.int .i64 (d : Int)) ∧ Below W.heap.size W w'))
    (HN2 : Hid (∀ W, Env W → Calls Tryd.prog 73 #[strV c5] W fun e w' => e = .returned (.int .i64 n2) ∧ Below W.heap.size W w'))
    (HN3 : Hid (∀ W, Env W → Calls Tryd.prog 73 #[strV c6] W fun e w' => e = .returned (.int .i64 n3) ∧ Below W.heap.size W w'))
    (hm1 : IntKind.i64.wrap (n1 * 10080) = m1) (ha1 : IntKind.i64.wrap (m1 + (d : Int) * 1440) = a1) (hm2 : IntKind.i64.wrap (n2 * 60) = m2) (ha2 : IntKind.i64.wrap (a1 + m2) = a2) (ha3 : IntKind.i64.wrap (a2 + n3) = a3)
    (HT : Hid (∀ W, Env W → Calls Tryd.prog 35 #[.int .i64 a3] W fun e w' => e = .returned (.tuple #[strV lt, .int .i64 te]) ∧ Below W.heap.size W w')) (hte : te = 0 ∨ te = 2) :
    Calls Tryd.prog 36 #[strV l] w fun e w' => e = .returned (if te = 0 ∧ lt = l then .tuple #[.int .i64 a3, .int .i64 0] else .tuple #[.int .i64 0, .int .i64 20]) ∧ Below w.heap.size w w' := by
  rcases hte with rfl | rfl
  · by_cases hq : lt = l
    · have hs : (lt == l) = true := by rw [beq_iff_eq]; exact hq
      rw [if_pos ⟨rfl, hq⟩]
      go_enter Tryd.func36, Tryd.ntmps36
      refine wp_seq ?_
      refine wp_region_L (W0 := w) [] (KS.start w) ?_
      refine lm (v := .int .i64 0) rfl rfl ?_
      refine lm (v := .int .i64 0) rfl rfl ?_
      refine wpL_done (fun W1 hW1 => ?_)
      refine (show Code.wp _ _ _ _ _ from ?_)
      refine wp_seq ?_
      refine wp_region_L (W0 := w) [] (hW1) ?_
      refine lm (v := strV l) rfl rfl ?_
      refine lv (v := .tuple #[strV c1, strV c2, .bool b1]) rfl rfl (yb_call (f := 72) (args := #[strV l, strV [32]]) (fun _ => by kernel_rfl) fun W hW => HC1.out W (HE.out.keep hW.1)) ?_
      refine lm (v := .tuple #[strV c1, strV c2, .bool b1]) rfl rfl ?_
      refine lm (v := strV c1) rfl rfl ?_
      refine lm (v := strV c2) rfl rfl ?_
      refine lm (v := .bool b1) rfl rfl ?_
      refine lm (v := strV c1) rfl rfl ?_
      refine lm (v := strV c2) rfl rfl ?_
      refine lm (v := .bool b1) rfl rfl ?_
      refine wpL_done (fun W2 hW2 => ?_)
      clear hW1
      refine (show Code.wp _ _ _ _ _ from ?_)
      refine wp_seq ?_
      refine wp_region_L (W0 := w) [] (hW2) ?_
      refine lm (v := strV c2) rfl rfl ?_
      refine lv (v := .tuple #[strV c3, strV c4, .bool b2]) rfl rfl (yb_call (f := 72) (args := #[strV c2, strV [32]]) (fun _ => by kernel_rfl) fun W hW => HC2.out W (HE.out.keep hW.1)) ?_
      refine lm (v := .tuple #[strV c3, strV c4, .bool b2]) rfl rfl ?_
      refine lm (v := strV c3) rfl rfl ?_
      refine lm (v := strV c4) rfl rfl ?_
      refine lm (v := .bool b2) rfl rfl ?_
      refine lm (v := strV c3) rfl rfl ?_
      refine lm (v := strV c4) rfl rfl ?_
      refine lm (v := .bool b2) rfl rfl ?_
      refine wpL_done (fun W3 hW3 => ?_)
      clear hW2
      refine (show Code.wp _ _ _ _ _ from ?_)
      refine wp_seq ?_
      refine wp_region_L (W0 := w) [] (hW3) ?_
      refine lm (v := strV c4) rfl rfl ?_
      refine lv (v := .tuple #[strV c5, strV c6, .bool b3]) rfl rfl (yb_call (f := 72) (args := #[strV c4, strV [58]]) (fun _ => by kernel_rfl) fun W hW => HC3.out W (HE.out.keep hW.1)) ?_
      refine lm (v := .tuple #[strV c5, strV c6, .bool b3]) rfl rfl ?_
      refine lm (v := strV c5) rfl rfl ?_
      refine lm (v := strV c6) rfl rfl ?_
      refine lm (v := .bool b3) rfl rfl ?_
      refine lm (v := strV c5) rfl rfl ?_
      refine lm (v := strV c6) rfl rfl ?_
      refine lm (v := .bool b3) rfl rfl ?_
      refine wpL_done (fun W4 hW4 => ?_)
      clear hW3
      refine (show Code.wp _ _ _ _ _ from ?_)
      refine wp_seq ?_
      refine wp_region_L (W0 := w) [] (hW4) ?_
      refine lm (v := strV c1) rfl rfl ?_
      refine lv (v := .int .i64 n1) rfl rfl (yb_call (f := 73) (args := #[strV c1]) (fun _ => by kernel_rfl) fun W hW => HN1.out W (HE.out.keep hW.1)) ?_
      refine lp (v := .int .i64 m1) rfl rfl (run_bin rfl (vx := .int .i64 n1) (vy := .int .i64 10080) (by kernel_rfl) (by kernel_rfl) fun w => run_mulW (z := m1) hm1 w) ?_
      refine lm (v := strV c3) rfl rfl ?_
      refine lv (v := .int .i64 (d : Int)) rfl rfl (yb_call (f := 74) (args := #[strV c3]) (fun _ => by kernel_rfl) fun W hW => HD.out W (HE.out.keep hW.1)) ?_
      refine lp (v := .int .i64 ((d : Int) * 1440)) rfl rfl (run_bin rfl (vx := .int .i64 (d : Int)) (vy := .int .i64 1440) (by kernel_rfl) (by kernel_rfl) fun w => run_mulW (z := ((d : Int) * 1440)) (wrap_in (by omega)) w) ?_
      refine lp (v := .int .i64 a1) rfl rfl (run_bin rfl (vx := .int .i64 m1) (vy := .int .i64 ((d : Int) * 1440)) (by kernel_rfl) (by kernel_rfl) fun w => run_addW (z := a1) ha1 w) ?_
      refine lm (v := strV c5) rfl rfl ?_
      refine lv (v := .int .i64 n2) rfl rfl (yb_call (f := 73) (args := #[strV c5]) (fun _ => by kernel_rfl) fun W hW => HN2.out W (HE.out.keep hW.1)) ?_
      refine lp (v := .int .i64 m2) rfl rfl (run_bin rfl (vx := .int .i64 n2) (vy := .int .i64 60) (by kernel_rfl) (by kernel_rfl) fun w => run_mulW (z := m2) hm2 w) ?_
      refine lp (v := .int .i64 a2) rfl rfl (run_bin rfl (vx := .int .i64 a1) (vy := .int .i64 m2) (by kernel_rfl) (by kernel_rfl) fun w => run_addW (z := a2) ha2 w) ?_
      refine lm (v := strV c6) rfl rfl ?_
      refine lv (v := .int .i64 n3) rfl rfl (yb_call (f := 73) (args := #[strV c6]) (fun _ => by kernel_rfl) fun W hW => HN3.out W (HE.out.keep hW.1)) ?_
      refine lp (v := .int .i64 a3) rfl rfl (run_bin rfl (vx := .int .i64 a2) (vy := .int .i64 n3) (by kernel_rfl) (by kernel_rfl) fun w => run_addW (z := a3) ha3 w) ?_
      refine lm (v := .int .i64 a3) rfl rfl ?_
      refine wpL_done (fun W5 hW5 => ?_)
      clear hW4
      refine (show Code.wp _ _ _ _ _ from ?_)
      refine wp_seq ?_
      refine wp_seq ?_
      refine wp_region_L (W0 := w) [] (hW5) ?_
      refine lm (v := .int .i64 a3) rfl rfl ?_
      refine lv (v := .tuple #[strV lt, .int .i64 0]) rfl rfl (yb_call (f := 35) (args := #[.int .i64 a3]) (fun _ => by kernel_rfl) fun W hW => HT.out W (HE.out.keep hW.1)) ?_
      refine lm (v := .tuple #[strV lt, .int .i64 0]) rfl rfl ?_
      refine lm (v := strV lt) rfl rfl ?_
      refine lm (v := .int .i64 0) rfl rfl ?_
      refine lm (v := strV lt) rfl rfl ?_
      refine lm (v := .int .i64 0) rfl rfl ?_
      refine wpL_done (fun W6 hW6 => ?_)
      clear hW5
      refine (show Code.wp _ _ _ _ _ from ?_)
      refine wp_seq ?_
      refine wp_region_L (W0 := w) [] (hW6) ?_
      refine lm (v := .int .i64 0) rfl rfl ?_
      refine lm (v := .bool false) rfl rfl ?_
      refine lm (v := .bool false) rfl rfl ?_
      refine lm (v := strV lt) rfl rfl ?_
      refine lm (v := strV l) rfl rfl ?_
      refine lp (v := .bool false) rfl rfl (run_bin rfl (vx := strV lt) (vy := strV l) (by kernel_rfl) (by kernel_rfl) fun w => run_neS hs w) ?_
      refine lm (v := .bool false) rfl rfl ?_
      refine wpL_done (fun W7 hW7 => ?_)
      clear hW6
      refine (show Code.wp _ _ _ _ _ from ?_)
      refine wp_cond_false rfl ?_
      refine wp_skip ?_
      refine (show Code.wp _ _ _ _ _ from ?_)
      refine wp_seq ?_
      refine wp_region_L (W0 := w) [] (hW7) ?_
      refine lm (v := .int .i64 a3) rfl rfl ?_
      refine lm (v := .int .i64 a3) rfl rfl ?_
      refine lm (v := .int .i64 0) rfl rfl ?_
      refine wpL_done (fun W8 hW8 => ?_)
      clear hW7
      refine (show Code.wp _ _ _ _ _ from ?_)
      refine wp_ret ?_
      try simp only [inBlock_ret, then_ret]
      exact bodyPost_ret (results_tmp2 rfl _ _ _) rfl ⟨by first | rfl, hW8.1⟩
    · have hs : (lt == l) = false := by rw [beq_eq_false_iff_ne]; exact hq
      rw [if_neg (fun h => hq h.2)]
      go_enter Tryd.func36, Tryd.ntmps36
      refine wp_seq ?_
      refine wp_region_L (W0 := w) [] (KS.start w) ?_
      refine lm (v := .int .i64 0) rfl rfl ?_
      refine lm (v := .int .i64 0) rfl rfl ?_
      refine wpL_done (fun W1 hW1 => ?_)
      refine (show Code.wp _ _ _ _ _ from ?_)
      refine wp_seq ?_
      refine wp_region_L (W0 := w) [] (hW1) ?_
      refine lm (v := strV l) rfl rfl ?_
      refine lv (v := .tuple #[strV c1, strV c2, .bool b1]) rfl rfl (yb_call (f := 72) (args := #[strV l, strV [32]]) (fun _ => by kernel_rfl) fun W hW => HC1.out W (HE.out.keep hW.1)) ?_
      refine lm (v := .tuple #[strV c1, strV c2, .bool b1]) rfl rfl ?_
      refine lm (v := strV c1) rfl rfl ?_
      refine lm (v := strV c2) rfl rfl ?_
      refine lm (v := .bool b1) rfl rfl ?_
      refine lm (v := strV c1) rfl rfl ?_
      refine lm (v := strV c2) rfl rfl ?_
      refine lm (v := .bool b1) rfl rfl ?_
      refine wpL_done (fun W2 hW2 => ?_)
      clear hW1
      refine (show Code.wp _ _ _ _ _ from ?_)
      refine wp_seq ?_
      refine wp_region_L (W0 := w) [] (hW2) ?_
      refine lm (v := strV c2) rfl rfl ?_
      refine lv (v := .tuple #[strV c3, strV c4, .bool b2]) rfl rfl (yb_call (f := 72) (args := #[strV c2, strV [32]]) (fun _ => by kernel_rfl) fun W hW => HC2.out W (HE.out.keep hW.1)) ?_
      refine lm (v := .tuple #[strV c3, strV c4, .bool b2]) rfl rfl ?_
      refine lm (v := strV c3) rfl rfl ?_
      refine lm (v := strV c4) rfl rfl ?_
      refine lm (v := .bool b2) rfl rfl ?_
      refine lm (v := strV c3) rfl rfl ?_
      refine lm (v := strV c4) rfl rfl ?_
      refine lm (v := .bool b2) rfl rfl ?_
      refine wpL_done (fun W3 hW3 => ?_)
      clear hW2
      refine (show Code.wp _ _ _ _ _ from ?_)
      refine wp_seq ?_
      refine wp_region_L (W0 := w) [] (hW3) ?_
      refine lm (v := strV c4) rfl rfl ?_
      refine lv (v := .tuple #[strV c5, strV c6, .bool b3]) rfl rfl (yb_call (f := 72) (args := #[strV c4, strV [58]]) (fun _ => by kernel_rfl) fun W hW => HC3.out W (HE.out.keep hW.1)) ?_
      refine lm (v := .tuple #[strV c5, strV c6, .bool b3]) rfl rfl ?_
      refine lm (v := strV c5) rfl rfl ?_
      refine lm (v := strV c6) rfl rfl ?_
      refine lm (v := .bool b3) rfl rfl ?_
      refine lm (v := strV c5) rfl rfl ?_
      refine lm (v := strV c6) rfl rfl ?_
      refine lm (v := .bool b3) rfl rfl ?_
      refine wpL_done (fun W4 hW4 => ?_)
      clear hW3
      refine (show Code.wp _ _ _ _ _ from ?_)
      refine wp_seq ?_
      refine wp_region_L (W0 := w) [] (hW4) ?_
      refine lm (v := strV c1) rfl rfl ?_
      refine lv (v := .int .i64 n1) rfl rfl (yb_call (f := 73) (args := #[strV c1]) (fun _ => by kernel_rfl) fun W hW => HN1.out W (HE.out.keep hW.1)) ?_
      refine lp (v := .int .i64 m1) rfl rfl (run_bin rfl (vx := .int .i64 n1) (vy := .int .i64 10080) (by kernel_rfl) (by kernel_rfl) fun w => run_mulW (z := m1) hm1 w) ?_
      refine lm (v := strV c3) rfl rfl ?_
      refine lv (v := .int .i64 (d : Int)) rfl rfl (yb_call (f := 74) (args := #[strV c3]) (fun _ => by kernel_rfl) fun W hW => HD.out W (HE.out.keep hW.1)) ?_
      refine lp (v := .int .i64 ((d : Int) * 1440)) rfl rfl (run_bin rfl (vx := .int .i64 (d : Int)) (vy := .int .i64 1440) (by kernel_rfl) (by kernel_rfl) fun w => run_mulW (z := ((d : Int) * 1440)) (wrap_in (by omega)) w) ?_
      refine lp (v := .int .i64 a1) rfl rfl (run_bin rfl (vx := .int .i64 m1) (vy := .int .i64 ((d : Int) * 1440)) (by kernel_rfl) (by kernel_rfl) fun w => run_addW (z := a1) ha1 w) ?_
      refine lm (v := strV c5) rfl rfl ?_
      refine lv (v := .int .i64 n2) rfl rfl (yb_call (f := 73) (args := #[strV c5]) (fun _ => by kernel_rfl) fun W hW => HN2.out W (HE.out.keep hW.1)) ?_
      refine lp (v := .int .i64 m2) rfl rfl (run_bin rfl (vx := .int .i64 n2) (vy := .int .i64 60) (by kernel_rfl) (by kernel_rfl) fun w => run_mulW (z := m2) hm2 w) ?_
      refine lp (v := .int .i64 a2) rfl rfl (run_bin rfl (vx := .int .i64 a1) (vy := .int .i64 m2) (by kernel_rfl) (by kernel_rfl) fun w => run_addW (z := a2) ha2 w) ?_
      refine lm (v := strV c6) rfl rfl ?_
      refine lv (v := .int .i64 n3) rfl rfl (yb_call (f := 73) (args := #[strV c6]) (fun _ => by kernel_rfl) fun W hW => HN3.out W (HE.out.keep hW.1)) ?_
      refine lp (v := .int .i64 a3) rfl rfl (run_bin rfl (vx := .int .i64 a2) (vy := .int .i64 n3) (by kernel_rfl) (by kernel_rfl) fun w => run_addW (z := a3) ha3 w) ?_
      refine lm (v := .int .i64 a3) rfl rfl ?_
      refine wpL_done (fun W5 hW5 => ?_)
      clear hW4
      refine (show Code.wp _ _ _ _ _ from ?_)
      refine wp_seq ?_
      refine wp_seq ?_
      refine wp_region_L (W0 := w) [] (hW5) ?_
      refine lm (v := .int .i64 a3) rfl rfl ?_
      refine lv (v := .tuple #[strV lt, .int .i64 0]) rfl rfl (yb_call (f := 35) (args := #[.int .i64 a3]) (fun _ => by kernel_rfl) fun W hW => HT.out W (HE.out.keep hW.1)) ?_
      refine lm (v := .tuple #[strV lt, .int .i64 0]) rfl rfl ?_
      refine lm (v := strV lt) rfl rfl ?_
      refine lm (v := .int .i64 0) rfl rfl ?_
      refine lm (v := strV lt) rfl rfl ?_
      refine lm (v := .int .i64 0) rfl rfl ?_
      refine wpL_done (fun W6 hW6 => ?_)
      clear hW5
      refine (show Code.wp _ _ _ _ _ from ?_)
      refine wp_seq ?_
      refine wp_region_L (W0 := w) [] (hW6) ?_
      refine lm (v := .int .i64 0) rfl rfl ?_
      refine lm (v := .bool false) rfl rfl ?_
      refine lm (v := .bool false) rfl rfl ?_
      refine lm (v := strV lt) rfl rfl ?_
      refine lm (v := strV l) rfl rfl ?_
      refine lp (v := .bool true) rfl rfl (run_bin rfl (vx := strV lt) (vy := strV l) (by kernel_rfl) (by kernel_rfl) fun w => run_neS hs w) ?_
      refine lm (v := .bool true) rfl rfl ?_
      refine wpL_done (fun W7 hW7 => ?_)
      clear hW6
      refine (show Code.wp _ _ _ _ _ from ?_)
      refine wp_cond_true rfl ?_
      refine wp_seq ?_
      refine wp_region_L (W0 := w) [] (hW7) ?_
      refine lm (v := .int .i64 0) rfl rfl ?_
      refine lm (v := .int .i64 20) rfl rfl ?_
      refine wpL_done (fun W8 hW8 => ?_)
      clear hW7
      refine (show Code.wp _ _ _ _ _ from ?_)
      refine wp_ret ?_
      try simp only [inBlock_ret, then_ret]
      exact bodyPost_ret (results_tmp2 rfl _ _ _) rfl ⟨by first | rfl, hW8.1⟩
  · rw [if_neg (fun h => by have := h.1; omega)]
    go_enter Tryd.func36, Tryd.ntmps36
    refine wp_seq ?_
    refine wp_region_L (W0 := w) [] (KS.start w) ?_
    refine lm (v := .int .i64 0) rfl rfl ?_
    refine lm (v := .int .i64 0) rfl rfl ?_
    refine wpL_done (fun W1 hW1 => ?_)
    refine (show Code.wp _ _ _ _ _ from ?_)
    refine wp_seq ?_
    refine wp_region_L (W0 := w) [] (hW1) ?_
    refine lm (v := strV l) rfl rfl ?_
    refine lv (v := .tuple #[strV c1, strV c2, .bool b1]) rfl rfl (yb_call (f := 72) (args := #[strV l, strV [32]]) (fun _ => by kernel_rfl) fun W hW => HC1.out W (HE.out.keep hW.1)) ?_
    refine lm (v := .tuple #[strV c1, strV c2, .bool b1]) rfl rfl ?_
    refine lm (v := strV c1) rfl rfl ?_
    refine lm (v := strV c2) rfl rfl ?_
    refine lm (v := .bool b1) rfl rfl ?_
    refine lm (v := strV c1) rfl rfl ?_
    refine lm (v := strV c2) rfl rfl ?_
    refine lm (v := .bool b1) rfl rfl ?_
    refine wpL_done (fun W2 hW2 => ?_)
    clear hW1
    refine (show Code.wp _ _ _ _ _ from ?_)
    refine wp_seq ?_
    refine wp_region_L (W0 := w) [] (hW2) ?_
    refine lm (v := strV c2) rfl rfl ?_
    refine lv (v := .tuple #[strV c3, strV c4, .bool b2]) rfl rfl (yb_call (f := 72) (args := #[strV c2, strV [32]]) (fun _ => by kernel_rfl) fun W hW => HC2.out W (HE.out.keep hW.1)) ?_
    refine lm (v := .tuple #[strV c3, strV c4, .bool b2]) rfl rfl ?_
    refine lm (v := strV c3) rfl rfl ?_
    refine lm (v := strV c4) rfl rfl ?_
    refine lm (v := .bool b2) rfl rfl ?_
    refine lm (v := strV c3) rfl rfl ?_
    refine lm (v := strV c4) rfl rfl ?_
    refine lm (v := .bool b2) rfl rfl ?_
    refine wpL_done (fun W3 hW3 => ?_)
    clear hW2
    refine (show Code.wp _ _ _ _ _ from ?_)
    refine wp_seq ?_
    refine wp_region_L (W0 := w) [] (hW3) ?_
    refine lm (v := strV c4) rfl rfl ?_
    refine lv (v := .tuple #[strV c5, strV c6, .bool b3]) rfl rfl (yb_call (f := 72) (args := #[strV c4, strV [58]]) (fun _ => by kernel_rfl) fun W hW => HC3.out W (HE.out.keep hW.1)) ?_
    refine lm (v := .tuple #[strV c5, strV c6, .bool b3]) rfl rfl ?_
    refine lm (v := strV c5) rfl rfl ?_
    refine lm (v := strV c6) rfl rfl ?_
    refine lm (v := .bool b3) rfl rfl ?_
    refine lm (v := strV c5) rfl rfl ?_
    refine lm (v := strV c6) rfl rfl ?_
    refine lm (v := .bool b3) rfl rfl ?_
    refine wpL_done (fun W4 hW4 => ?_)
    clear hW3
    refine (show Code.wp _ _ _ _ _ from ?_)
    refine wp_seq ?_
    refine wp_region_L (W0 := w) [] (hW4) ?_
    refine lm (v := strV c1) rfl rfl ?_
    refine lv (v := .int .i64 n1) rfl rfl (yb_call (f := 73) (args := #[strV c1]) (fun _ => by kernel_rfl) fun W hW => HN1.out W (HE.out.keep hW.1)) ?_
    refine lp (v := .int .i64 m1) rfl rfl (run_bin rfl (vx := .int .i64 n1) (vy := .int .i64 10080) (by kernel_rfl) (by kernel_rfl) fun w => run_mulW (z := m1) hm1 w) ?_
    refine lm (v := strV c3) rfl rfl ?_
    refine lv (v := .int .i64 (d : Int)) rfl rfl (yb_call (f := 74) (args := #[strV c3]) (fun _ => by kernel_rfl) fun W hW => HD.out W (HE.out.keep hW.1)) ?_
    refine lp (v := .int .i64 ((d : Int) * 1440)) rfl rfl (run_bin rfl (vx := .int .i64 (d : Int)) (vy := .int .i64 1440) (by kernel_rfl) (by kernel_rfl) fun w => run_mulW (z := ((d : Int) * 1440)) (wrap_in (by omega)) w) ?_
    refine lp (v := .int .i64 a1) rfl rfl (run_bin rfl (vx := .int .i64 m1) (vy := .int .i64 ((d : Int) * 1440)) (by kernel_rfl) (by kernel_rfl) fun w => run_addW (z := a1) ha1 w) ?_
    refine lm (v := strV c5) rfl rfl ?_
    refine lv (v := .int .i64 n2) rfl rfl (yb_call (f := 73) (args := #[strV c5]) (fun _ => by kernel_rfl) fun W hW => HN2.out W (HE.out.keep hW.1)) ?_
    refine lp (v := .int .i64 m2) rfl rfl (run_bin rfl (vx := .int .i64 n2) (vy := .int .i64 60) (by kernel_rfl) (by kernel_rfl) fun w => run_mulW (z := m2) hm2 w) ?_
    refine lp (v := .int .i64 a2) rfl rfl (run_bin rfl (vx := .int .i64 a1) (vy := .int .i64 m2) (by kernel_rfl) (by kernel_rfl) fun w => run_addW (z := a2) ha2 w) ?_
    refine lm (v := strV c6) rfl rfl ?_
    refine lv (v := .int .i64 n3) rfl rfl (yb_call (f := 73) (args := #[strV c6]) (fun _ => by kernel_rfl) fun W hW => HN3.out W (HE.out.keep hW.1)) ?_
    refine lp (v := .int .i64 a3) rfl rfl (run_bin rfl (vx := .int .i64 a2) (vy := .int .i64 n3) (by kernel_rfl) (by kernel_rfl) fun w => run_addW (z := a3) ha3 w) ?_
    refine lm (v := .int .i64 a3) rfl rfl ?_
    refine wpL_done (fun W5 hW5 => ?_)
    clear hW4
    refine (show Code.wp _ _ _ _ _ from ?_)
    refine wp_seq ?_
    refine wp_seq ?_
    refine wp_region_L (W0 := w) [] (hW5) ?_
    refine lm (v := .int .i64 a3) rfl rfl ?_
    refine lv (v := .tuple #[strV lt, .int .i64 2]) rfl rfl (yb_call (f := 35) (args := #[.int .i64 a3]) (fun _ => by kernel_rfl) fun W hW => HT.out W (HE.out.keep hW.1)) ?_
    refine lm (v := .tuple #[strV lt, .int .i64 2]) rfl rfl ?_
    refine lm (v := strV lt) rfl rfl ?_
    refine lm (v := .int .i64 2) rfl rfl ?_
    refine lm (v := strV lt) rfl rfl ?_
    refine lm (v := .int .i64 2) rfl rfl ?_
    refine wpL_done (fun W6 hW6 => ?_)
    clear hW5
    refine (show Code.wp _ _ _ _ _ from ?_)
    refine wp_seq ?_
    refine wp_region_L (W0 := w) [] (hW6) ?_
    refine lm (v := .int .i64 2) rfl rfl ?_
    refine lm (v := .bool true) rfl rfl ?_
    refine lm (v := .bool true) rfl rfl ?_
    refine ln rfl ?_
    refine ln rfl ?_
    refine ln rfl ?_
    refine lm (v := .bool true) rfl rfl ?_
    refine wpL_done (fun W7 hW7 => ?_)
    clear hW6
    refine (show Code.wp _ _ _ _ _ from ?_)
    refine wp_cond_true rfl ?_
    refine wp_seq ?_
    refine wp_region_L (W0 := w) [] (hW7) ?_
    refine lm (v := .int .i64 0) rfl rfl ?_
    refine lm (v := .int .i64 20) rfl rfl ?_
    refine wpL_done (fun W8 hW8 => ?_)
    clear hW7
    refine (show Code.wp _ _ _ _ _ from ?_)
    refine wp_ret ?_
    try simp only [inBlock_ret, then_ret]
    exact bodyPost_ret (results_tmp2 rfl _ _ _) rfl ⟨by first | rfl, hW8.1⟩
theorem Read_any (l : List UInt8) (hl : l.length < 4294967281) (w : World) (hE : Env w) : ∃ a te lt, (isT a = true → te = 0 ∧ lt = textS a.toNat) ∧ (isT a = false → te = 2 ∧ lt = []) ∧
    (∀ m1 a1 m2 a2, IntKind.i64.wrap (numV (wkL l) * 10080) = m1 → IntKind.i64.wrap (m1 + ((dayV (dyL l) : Nat) : Int) * 1440) = a1 → IntKind.i64.wrap (numV (hrL l) * 60) = m2 → IntKind.i64.wrap (a1 + m2) = a2 → a = IntKind.i64.wrap (a2 + numV (mnL l))) ∧
    Calls Tryd.prog 36 #[strV l] w fun e w' => e = .returned (if te = (0 : Int) ∧ lt = l then .tuple #[.int .i64 a, .int .i64 0] else .tuple #[.int .i64 0, .int .i64 20]) ∧ Below w.heap.size w w' := by
  have k1 := cut_le l [32]
  have k2 := cut_le (r1L l) [32]
  have k3 := cut_le (r2L l) [58]
  have e1 : (wkL l).length < 4294967281 := by unfold wkL; omega
  have e2 : (r1L l).length < 4294967281 := by unfold r1L; omega
  have e3 : (r2L l).length < 4294967281 := by have h : (r2L l).length ≤ (r1L l).length := k2.2; omega
  have e4 : (hrL l).length < 4294967281 := by have h : (hrL l).length ≤ (r2L l).length := k3.1; omega
  have e5 : (mnL l).length < 4294967281 := by have h : (mnL l).length ≤ (r2L l).length := k3.2; omega
  obtain ⟨a, ha⟩ : ∃ a, IntKind.i64.wrap (IntKind.i64.wrap (IntKind.i64.wrap (IntKind.i64.wrap (numV (wkL l) * 10080) + ((dayV (dyL l) : Nat) : Int) * 1440) + IntKind.i64.wrap (numV (hrL l) * 60)) + numV (mnL l)) = a := ⟨_, rfl⟩
  have run : ∀ (te : Int) (lt : List UInt8), (te = 0 ∨ te = 2) → (∀ W, Env W → Calls Tryd.prog 35 #[.int .i64 a] W fun e w' => e = .returned (.tuple #[strV lt, .int .i64 te]) ∧ Below W.heap.size W w') →
      Calls Tryd.prog 36 #[strV l] w fun e w' => e = .returned (if te = (0 : Int) ∧ lt = l then .tuple #[.int .i64 a, .int .i64 0] else .tuple #[.int .i64 0, .int .i64 20]) ∧ Below w.heap.size w w' := fun te lt hte hT =>
    Read_walk l (wkL l) (r1L l) (dyL l) (r2L l) (hrL l) (mnL l) lt _ _ _ (numV (wkL l)) (numV (hrL l)) (numV (mnL l)) _ _ 0 _ _ a te (dayV (dyL l)) (dayV_le _) w hE
      (fun W hW => cut_any l [32] hl W hW) (fun W hW => cut_any (r1L l) [32] e2 W hW) (fun W hW => cut_any (r2L l) [58] e3 W hW) (fun W hW => number_any _ e1 W hW) (fun W hW => weekday_any _ W hW) (fun W hW => number_any _ e4 W hW) (fun W hW => number_any _ e5 W hW) rfl rfl rfl rfl ha hT hte
  have hdet : ∀ m1 a1 m2 a2, IntKind.i64.wrap (numV (wkL l) * 10080) = m1 → IntKind.i64.wrap (m1 + ((dayV (dyL l) : Nat) : Int) * 1440) = a1 → IntKind.i64.wrap (numV (hrL l) * 60) = m2 → IntKind.i64.wrap (a1 + m2) = a2 → a = IntKind.i64.wrap (a2 + numV (mnL l)) := by
    rintro m1 a1 m2 a2 rfl rfl rfl rfl
    exact ha.symm
  cases hi : isT a with
  | true =>
    have hr := isT_range hi
    refine ⟨a, 0, textS a.toNat, fun _ => ⟨rfl, rfl⟩, (fun h => absurd (hi.symm.trans h) (by decide)), hdet, run 0 _ (.inl rfl) fun W hW => ?_⟩
    have := Text_ok a.toNat (by omega) W hW
    rw [Int.toNat_of_nonneg hr.1] at this
    exact this
  | false => exact ⟨a, 2, [], (fun h => absurd (hi.symm.trans h) (by decide)), fun _ => ⟨rfl, rfl⟩, hdet, run 2 _ (.inr rfl) fun W hW => Text_err a hi W⟩
theorem Read_ok (t : Nat) (ht : t ≤ 100000000) (w : World) (hE : Env w) : Calls Tryd.prog 36 #[strV (textS t)] w fun e w' => e = .returned (.tuple #[.int .i64 (t : Int), .int .i64 0]) ∧ Below w.heap.size w w' := by
  have hl := text_len ht
  obtain ⟨a, te, lt, h1, _, h3, h4⟩ := Read_any (textS t) (by omega) w hE
  obtain ⟨n1, n2, n3, n4⟩ := text_nums ht
  have ha := h3 ((t / 10080 : Nat) * 10080 : Int) (((t / 10080 : Nat) * 10080 : Int) + ((t % 10080 / 1440 : Nat) : Int) * 1440) (((t % 1440 / 60 : Nat) : Int) * 60) (((t / 10080 : Nat) * 10080 : Int) + ((t % 10080 / 1440 : Nat) : Int) * 1440 + ((t % 1440 / 60 : Nat) : Int) * 60)
    (by rw [n1]; exact wrap_in (by omega)) (by rw [n2]; exact wrap_in (by omega)) (by rw [n3]; exact wrap_in (by omega)) (wrap_in (by omega))
  rw [n4, wrap_in (by omega)] at ha
  have ha2 : a = (t : Int) := by omega
  subst ha2
  obtain ⟨rfl, rfl⟩ := h1 (by simp [isT]; omega)
  rw [if_pos ⟨rfl, by rw [Int.toNat_natCast]⟩] at h4
  exact h4
theorem Read_err (l : List UInt8) (hl : l.length < 4294967281) (h : ∀ t, t ≤ 100000000 → textS t ≠ l) (w : World) (hE : Env w) : Calls Tryd.prog 36 #[strV l] w fun e w' => e = .returned (.tuple #[.int .i64 0, .int .i64 20]) ∧ Below w.heap.size w w' := by
  obtain ⟨a, te, lt, h1, h2, _, h4⟩ := Read_any l hl w hE
  rw [if_neg] at h4
  · exact h4
  · rintro ⟨rfl, rfl⟩
    cases hi : isT a with
    | true =>
      have hr := isT_range hi
      exact h a.toNat (by omega) (h1 hi).2.symm
    | false => exact absurd (h2 hi).1 (by omega)
end Go.Proofs.YtjmcelgdjpdacaaDoor
namespace Go.Proofs.YtjmcelgdjpdacaaDoor
open Go.RowKit Tw
def fitS (x m : Int) : List (Int × Int) → Option Int
  | [] => none
  | s :: l => if m ≤ s.2 - max s.1 x then some (max s.1 x) else fitS x m l
def finS (x : Int) (left : Int) : List (Int × Int) → Option Int
  | [] => none
  | s :: l => if left ≤ s.2 - max s.1 x then some (max s.1 x + left) else finS x (left - max 0 (s.2 - max s.1 x)) l
def endV (o : Option Int) : Value := match o with
  | some e => .tuple #[.int .i64 e, .int .i64 0]
  | none => .tuple #[.int .i64 0, .int .i64 6]
set_option maxRecDepth 100000 in
set_option maxHeartbeats 2000000 in
theorem Fit_any (p : Option Addr) (cap : Nat) (l : List (Int × Int)) (w : World) (hcell : SL w p l) (hlen : (l.length : Int) ≤ 9223372036854775806) (x m : Int) : Calls Tryd.prog 22 #[.slice p l.length cap, .int .i64 x, .int .i64 m] w fun e w' => e = .returned (if apart l = true ∧ isT x = true ∧ 1 ≤ m ∧ m ≤ 100000000 then endV (fitS x m l) else .tuple #[.int .i64 0, .int .i64 2]) ∧ Below w.heap.size w w' := by
  by_cases hwk0 : apart l = true ∧ isT x = true ∧ 1 ≤ m ∧ m ≤ 100000000
  · have hwk := fun (W : World) (hc : SL W p l) => isWork_any p cap l W hc hlen x m
    rw [if_pos hwk0]
    simp only [hwk0.1, hwk0.2.1, decide_eq_true hwk0.2.2.1, decide_eq_true hwk0.2.2.2, Bool.and_self] at hwk
    have HC := Lib.hid hcell
    clear hcell
    go_enter Tryd.func22, Tryd.ntmps22
    refine wp_seq ?_
    refine wp_region_L (W0 := w) [] (KS.start w) ?_
    refine lm (v := .int .i64 0) rfl rfl ?_
    refine lm (v := .int .i64 0) rfl rfl ?_
    refine wpL_done (fun W1 hW1 => ?_)
    refine (show Code.wp _ _ _ _ _ from ?_)
    refine wp_seq ?_
    refine wp_seq ?_
    refine wp_region_L (W0 := w) [] (hW1) ?_
    refine lm (v := .slice p l.length cap) rfl rfl ?_
    refine lm (v := .int .i64 x) rfl rfl ?_
    refine lm (v := .int .i64 m) rfl rfl ?_
    refine lv (v := .bool true) rfl rfl (yb_call (f := 57) (args := #[.slice p l.length cap, .int .i64 x, .int .i64 m]) (fun _ => by kernel_rfl) fun W hW => hwk W (sl_keep HC.out hW.1)) ?_
    refine lm (v := .bool false) rfl rfl ?_
    refine wpL_done (fun W2 hW2 => ?_)
    clear hW1
    refine (show Code.wp _ _ _ _ _ from ?_)
    refine wp_cond_false rfl ?_
    refine wp_skip ?_
    refine (show Code.wp _ _ _ _ _ from ?_)
    refine wp_seq ?_
    refine wp_seq ?_
    refine wp_region_L (W0 := w) [] (hW2) ?_
    refine lm (v := .slice p l.length cap) rfl rfl ?_
    refine lm (v := .int .i64 (l.length : Int)) rfl rfl ?_
    refine lm (v := .int .i64 0) rfl rfl ?_
    refine wpL_done (fun W3 hW3 => ?_)
    clear hW2
    refine (show Code.wp _ _ _ _ _ from ?_)
    refine wp_block ?_
    go_loopw [18] (fun u wr => ∃ (k : Nat), k ≤ l.length ∧ (fitS x m l = fitS x m (l.drop k)) ∧ u = .int .i64 (k : Int) ∧ KS w [] wr) (fun u _ => (l.length - intOf u).toNat)
    case atStart => exact ⟨0, by omega, rfl, rfl, ks_none (hW3)⟩
    case round =>
      obtain ⟨k, hk, hin, rfl, hKS⟩ := hrel
      by_cases hkn : k < l.length
      · obtain ⟨⟨f, t⟩, hget⟩ : ∃ s, l[k]? = some s := ⟨_, List.getElem?_eq_getElem hkn⟩
        obtain ⟨b, off, hp, hcell⟩ := HC.out.resolve_left (fun e => by rw [e] at hkn; simp at hkn)
        have hg := apart_get hwk0.1 hget
        have hx := isT_range hwk0.2.1
        have hm := hwk0.2.2
        have hin1 := hin
        rw [drop_get hget] at hin1
        by_cases he : m ≤ t - max f x
        · have hres : endV (fitS x m l) = .tuple #[.int .i64 ((max f x)), .int .i64 0] := by rw [hin1]; simp only [fitS]; rw [if_pos he]; rfl
          refine wp_seq ?_
          refine wp_region_L (W0 := w) [] (hKS) ?_
          refine lp (v := .bool true) rfl rfl (run_bin rfl (vx := .int .i64 (k : Int)) (vy := .int .i64 (l.length : Int)) (by kernel_rfl) (by kernel_rfl) fun w => run_lssI (decide_eq_true (by omega)) w) ?_
          refine wpL_done (fun W4 hW4 => ?_)
          refine (show Code.wp _ _ _ _ _ from ?_)
          refine wp_seq ?_
          refine wp_cond_true rfl ?_
          refine wp_skip ?_
          refine (show Code.wp _ _ _ _ _ from ?_)
          refine wp_seq ?_
          refine wp_block ?_
          refine wp_seq ?_
          refine wp_region_L (W0 := w) [] (hW4) ?_
          refine lp (v := .pointer (some ⟨b, off + 2 * k, none⟩)) rfl rfl (run_idxp (b := b) (off := off) (n := l.length) (cap := cap) (k := k) rfl (by kernel_rfl) hp (by kernel_rfl) hkn) ?_
          refine lv (v := .agg #[.int .i64 f, .int .i64 t]) rfl rfl (yb_load2 rfl (by kernel_rfl) (hcell k (f, t) hget).1 (hcell k (f, t) hget).2 (World.block_lt_of_cell? _ _ (hcell k (f, t) hget).1)) ?_
          refine wpL_new (fun g => .pointer (some ⟨g, 0, none⟩)) (obi := .cells #[.int .i64 0, .int .i64 0] 41 (0, 0)) rfl rfl (fun _ => by kernel_rfl) (fun _ => by simp only [List.setIfInBounds_toArray, List.set_cons_succ, List.set_cons_zero] <;> rfl) fun g1 Bg1 Fg1 => ?_
          try simp only [List.forall_mem_cons] at Fg1
          refine wpL_s [(g1, .cells #[.int .i64 f, .int .i64 t] 41 (0, 0))] rfl rfl (st_span rfl (by kernel_rfl) (by kernel_rfl) (.head _) (by omega) (List.forall_mem_cons.2 ⟨.inl rfl, (List.forall_mem_nil _)⟩)) ?_
          refine wpL_done (fun W5 hW5 => ?_)
          clear hW4
          refine (show Code.wp _ _ _ _ _ from ?_)
          refine wp_seq ?_
          refine wp_region_L (W0 := w) [(g1, .cells #[.int .i64 f, .int .i64 t] 41 (0, 0))] (hW5) ?_
          refine lm (v := .pointer (some ⟨g1, 0, none⟩)) rfl rfl ?_
          refine lv (v := .int .i64 f) rfl rfl (yb_loadc (off := 0) rfl (by kernel_rfl) (.head _) Tryd.underlying3 rfl (by kernel_rfl)) ?_
          refine lm (v := .int .i64 x) rfl rfl ?_
          refine lp (v := .int .i64 (max f x)) rfl rfl (fun _ => run_maxI rfl (by kernel_rfl) rfl) ?_
          refine lm (v := .int .i64 (max f x)) rfl rfl ?_
          refine wpL_done (fun W6 hW6 => ?_)
          clear hW5
          refine (show Code.wp _ _ _ _ _ from ?_)
          refine wp_seq ?_
          refine wp_region_L (W0 := w) [(g1, .cells #[.int .i64 f, .int .i64 t] 41 (0, 0))] (hW6) ?_
          refine lm (v := .pointer (some ⟨g1, 1, none⟩)) rfl rfl ?_
          refine lv (v := .int .i64 t) rfl rfl (yb_loadc (off := 1) rfl (by kernel_rfl) (.head _) Tryd.underlying3 rfl (by kernel_rfl)) ?_
          refine lm (v := .int .i64 (max f x)) rfl rfl ?_
          refine lp (v := .int .i64 (t - (max f x))) rfl rfl (run_bin rfl (vx := .int .i64 t) (vy := .int .i64 (max f x)) (by kernel_rfl) (by kernel_rfl) fun w => run_subI (z := (t - (max f x))) rfl (by omega) w) ?_
          refine lm (v := .int .i64 m) rfl rfl ?_
          refine lp (v := .bool true) rfl rfl (run_bin rfl (vx := .int .i64 (t - (max f x))) (vy := .int .i64 m) (by kernel_rfl) (by kernel_rfl) fun w => run_geqI (decide_eq_true he) w) ?_
          refine wpL_done (fun W7 hW7 => ?_)
          clear hW6
          refine (show Code.wp _ _ _ _ _ from ?_)
          refine wp_cond_true rfl ?_
          refine wp_seq ?_
          refine wp_region_L (W0 := w) [(g1, .cells #[.int .i64 f, .int .i64 t] 41 (0, 0))] (hW7) ?_
          refine lm (v := .int .i64 (max f x)) rfl rfl ?_
          refine lm (v := .int .i64 (max f x)) rfl rfl ?_
          refine lm (v := .int .i64 0) rfl rfl ?_
          refine wpL_done (fun W8 hW8 => ?_)
          clear hW7
          refine (show Code.wp _ _ _ _ _ from ?_)
          refine wp_ret ?_
          try simp only [inBlock_ret, then_ret]
          exact bodyPost_ret (results_tmp2 rfl _ _ _) rfl ⟨by first | rfl | (rw [hres]; rfl), hW8.1⟩
        · refine wp_seq ?_
          refine wp_region_L (W0 := w) [] (hKS) ?_
          refine lp (v := .bool true) rfl rfl (run_bin rfl (vx := .int .i64 (k : Int)) (vy := .int .i64 (l.length : Int)) (by kernel_rfl) (by kernel_rfl) fun w => run_lssI (decide_eq_true (by omega)) w) ?_
          refine wpL_done (fun W4 hW4 => ?_)
          refine (show Code.wp _ _ _ _ _ from ?_)
          refine wp_seq ?_
          refine wp_cond_true rfl ?_
          refine wp_skip ?_
          refine (show Code.wp _ _ _ _ _ from ?_)
          refine wp_seq ?_
          refine wp_block ?_
          refine wp_seq ?_
          refine wp_region_L (W0 := w) [] (hW4) ?_
          refine lp (v := .pointer (some ⟨b, off + 2 * k, none⟩)) rfl rfl (run_idxp (b := b) (off := off) (n := l.length) (cap := cap) (k := k) rfl (by kernel_rfl) hp (by kernel_rfl) hkn) ?_
          refine lv (v := .agg #[.int .i64 f, .int .i64 t]) rfl rfl (yb_load2 rfl (by kernel_rfl) (hcell k (f, t) hget).1 (hcell k (f, t) hget).2 (World.block_lt_of_cell? _ _ (hcell k (f, t) hget).1)) ?_
          refine wpL_new (fun g => .pointer (some ⟨g, 0, none⟩)) (obi := .cells #[.int .i64 0, .int .i64 0] 41 (0, 0)) rfl rfl (fun _ => by kernel_rfl) (fun _ => by simp only [List.setIfInBounds_toArray, List.set_cons_succ, List.set_cons_zero] <;> rfl) fun g1 Bg1 Fg1 => ?_
          try simp only [List.forall_mem_cons] at Fg1
          refine wpL_s [(g1, .cells #[.int .i64 f, .int .i64 t] 41 (0, 0))] rfl rfl (st_span rfl (by kernel_rfl) (by kernel_rfl) (.head _) (by omega) (List.forall_mem_cons.2 ⟨.inl rfl, (List.forall_mem_nil _)⟩)) ?_
          refine wpL_done (fun W5 hW5 => ?_)
          clear hW4
          refine (show Code.wp _ _ _ _ _ from ?_)
          refine wp_seq ?_
          refine wp_region_L (W0 := w) [(g1, .cells #[.int .i64 f, .int .i64 t] 41 (0, 0))] (hW5) ?_
          refine lm (v := .pointer (some ⟨g1, 0, none⟩)) rfl rfl ?_
          refine lv (v := .int .i64 f) rfl rfl (yb_loadc (off := 0) rfl (by kernel_rfl) (.head _) Tryd.underlying3 rfl (by kernel_rfl)) ?_
          refine lm (v := .int .i64 x) rfl rfl ?_
          refine lp (v := .int .i64 (max f x)) rfl rfl (fun _ => run_maxI rfl (by kernel_rfl) rfl) ?_
          refine lm (v := .int .i64 (max f x)) rfl rfl ?_
          refine wpL_done (fun W6 hW6 => ?_)
          clear hW5
          refine (show Code.wp _ _ _ _ _ from ?_)
          refine wp_seq ?_
          refine wp_region_L (W0 := w) [(g1, .cells #[.int .i64 f, .int .i64 t] 41 (0, 0))] (hW6) ?_
          refine lm (v := .pointer (some ⟨g1, 1, none⟩)) rfl rfl ?_
          refine lv (v := .int .i64 t) rfl rfl (yb_loadc (off := 1) rfl (by kernel_rfl) (.head _) Tryd.underlying3 rfl (by kernel_rfl)) ?_
          refine lm (v := .int .i64 (max f x)) rfl rfl ?_
          refine lp (v := .int .i64 (t - (max f x))) rfl rfl (run_bin rfl (vx := .int .i64 t) (vy := .int .i64 (max f x)) (by kernel_rfl) (by kernel_rfl) fun w => run_subI (z := (t - (max f x))) rfl (by omega) w) ?_
          refine lm (v := .int .i64 m) rfl rfl ?_
          refine lp (v := .bool false) rfl rfl (run_bin rfl (vx := .int .i64 (t - (max f x))) (vy := .int .i64 m) (by kernel_rfl) (by kernel_rfl) fun w => run_geqI (decide_eq_false he) w) ?_
          refine wpL_done (fun W7 hW7 => ?_)
          clear hW6
          refine (show Code.wp _ _ _ _ _ from ?_)
          refine wp_cond_false rfl ?_
          refine wp_skip ?_
          refine (show Code.wp _ _ _ _ _ from ?_)
          refine wp_region_L (W0 := w) [(g1, .cells #[.int .i64 f, .int .i64 t] 41 (0, 0))] (hW7) ?_
          refine lp (v := .int .i64 ((k + 1 : Nat) : Int)) rfl rfl (run_bin rfl (vx := .int .i64 (k : Int)) (vy := .int .i64 1) (by kernel_rfl) (by kernel_rfl) fun w => run_addI (z := ((k + 1 : Nat) : Int)) rfl (len_range hlen (by omega)) w) ?_
          refine lm (v := .int .i64 ((k + 1 : Nat) : Int)) rfl rfl ?_
          refine wpL_done (fun W8 hW8 => ?_)
          clear hW7
          go_roundw
          case rel =>
            repeat apply Exists.intro
            exact ⟨⟨k + 1, by omega, by rw [hin1, fitS, if_neg he], rfl, ks_none hW8⟩, rfl⟩
          case measure => (show (l.length - intOf (.int .i64 ((k + 1 : Nat) : Int))).toNat < (l.length - intOf (.int .i64 (k : Int))).toNat); simp only [intOf]; omega
      · have hnil : l.drop k = [] := List.drop_eq_nil_of_le (by omega)
        have hres : endV (fitS x m l) = .tuple #[.int .i64 0, .int .i64 6] := by rw [hin, hnil]; rfl
        refine wp_seq ?_
        refine wp_region_L (W0 := w) [] (hKS) ?_
        refine lp (v := .bool false) rfl rfl (run_bin rfl (vx := .int .i64 (k : Int)) (vy := .int .i64 (l.length : Int)) (by kernel_rfl) (by kernel_rfl) fun w => run_lssI (decide_eq_false (by omega)) w) ?_
        refine wpL_done (fun W4 hW4 => ?_)
        refine (show Code.wp _ _ _ _ _ from ?_)
        refine wp_seq ?_
        refine wp_cond_false rfl ?_
        refine wp_exit ?_
        refine (show Code.wp _ _ _ _ _ from ?_)
        refine wp_seq ?_
        refine wp_region_L (W0 := w) [] (hW4) ?_
        refine lm (v := .int .i64 0) rfl rfl ?_
        refine lm (v := .int .i64 6) rfl rfl ?_
        refine wpL_done (fun W5 hW5 => ?_)
        clear hW4
        refine (show Code.wp _ _ _ _ _ from ?_)
        refine wp_ret ?_
        try simp only [inBlock_ret, then_ret]
        exact bodyPost_ret (results_tmp2 rfl _ _ _) rfl ⟨by first | rfl | (rw [hres]; rfl), hW5.1⟩
  · have hwk := fun (W : World) (hc : SL W p l) => isWork_any p cap l W hc hlen x m
    rw [if_neg hwk0]
    have hf : (apart l && isT x && decide (1 ≤ m) && decide (m ≤ 100000000)) = false := by rw [Bool.eq_false_iff]; intro h; simp only [Bool.and_eq_true, decide_eq_true_eq] at h; exact hwk0 ⟨h.1.1.1, h.1.1.2, h.1.2, h.2⟩
    simp only [hf] at hwk
    have HC := Lib.hid hcell
    clear hcell
    go_enter Tryd.func22, Tryd.ntmps22
    refine wp_seq ?_
    refine wp_region_L (W0 := w) [] (KS.start w) ?_
    refine lm (v := .int .i64 0) rfl rfl ?_
    refine lm (v := .int .i64 0) rfl rfl ?_
    refine wpL_done (fun W1 hW1 => ?_)
    refine (show Code.wp _ _ _ _ _ from ?_)
    refine wp_seq ?_
    refine wp_seq ?_
    refine wp_region_L (W0 := w) [] (hW1) ?_
    refine lm (v := .slice p l.length cap) rfl rfl ?_
    refine lm (v := .int .i64 x) rfl rfl ?_
    refine lm (v := .int .i64 m) rfl rfl ?_
    refine lv (v := .bool false) rfl rfl (yb_call (f := 57) (args := #[.slice p l.length cap, .int .i64 x, .int .i64 m]) (fun _ => by kernel_rfl) fun W hW => hwk W (sl_keep HC.out hW.1)) ?_
    refine lm (v := .bool true) rfl rfl ?_
    refine wpL_done (fun W2 hW2 => ?_)
    clear hW1
    refine (show Code.wp _ _ _ _ _ from ?_)
    refine wp_cond_true rfl ?_
    refine wp_seq ?_
    refine wp_region_L (W0 := w) [] (hW2) ?_
    refine lm (v := .int .i64 0) rfl rfl ?_
    refine lm (v := .int .i64 2) rfl rfl ?_
    refine wpL_done (fun W3 hW3 => ?_)
    clear hW2
    refine (show Code.wp _ _ _ _ _ from ?_)
    refine wp_ret ?_
    try simp only [inBlock_ret, then_ret]
    exact bodyPost_ret (results_tmp2 rfl _ _ _) rfl ⟨by first | rfl | (rw [hres]; rfl), hW3.1⟩
set_option maxRecDepth 100000 in
set_option maxHeartbeats 2000000 in
theorem Finish_any (p : Option Addr) (cap : Nat) (l : List (Int × Int)) (w : World) (hcell : SL w p l) (hlen : (l.length : Int) ≤ 9223372036854775806) (x m : Int) : Calls Tryd.prog 20 #[.slice p l.length cap, .int .i64 x, .int .i64 m] w fun e w' => e = .returned (if apart l = true ∧ isT x = true ∧ 1 ≤ m ∧ m ≤ 100000000 then endV (finS x m l) else .tuple #[.int .i64 0, .int .i64 2]) ∧ Below w.heap.size w w' := by
  by_cases hwk0 : apart l = true ∧ isT x = true ∧ 1 ≤ m ∧ m ≤ 100000000
  · have hwk := fun (W : World) (hc : SL W p l) => isWork_any p cap l W hc hlen x m
    rw [if_pos hwk0]
    simp only [hwk0.1, hwk0.2.1, decide_eq_true hwk0.2.2.1, decide_eq_true hwk0.2.2.2, Bool.and_self] at hwk
    have HC := Lib.hid hcell
    clear hcell
    go_enter Tryd.func20, Tryd.ntmps20
    refine wp_seq ?_
    refine wp_region_L (W0 := w) [] (KS.start w) ?_
    refine lm (v := .int .i64 0) rfl rfl ?_
    refine lm (v := .int .i64 0) rfl rfl ?_
    refine wpL_done (fun W1 hW1 => ?_)
    refine (show Code.wp _ _ _ _ _ from ?_)
    refine wp_seq ?_
    refine wp_seq ?_
    refine wp_region_L (W0 := w) [] (hW1) ?_
    refine lm (v := .slice p l.length cap) rfl rfl ?_
    refine lm (v := .int .i64 x) rfl rfl ?_
    refine lm (v := .int .i64 m) rfl rfl ?_
    refine lv (v := .bool true) rfl rfl (yb_call (f := 57) (args := #[.slice p l.length cap, .int .i64 x, .int .i64 m]) (fun _ => by kernel_rfl) fun W hW => hwk W (sl_keep HC.out hW.1)) ?_
    refine lm (v := .bool false) rfl rfl ?_
    refine wpL_done (fun W2 hW2 => ?_)
    clear hW1
    refine (show Code.wp _ _ _ _ _ from ?_)
    refine wp_cond_false rfl ?_
    refine wp_skip ?_
    refine (show Code.wp _ _ _ _ _ from ?_)
    refine wp_seq ?_
    refine wp_region_L (W0 := w) [] (hW2) ?_
    refine lm (v := .int .i64 m) rfl rfl ?_
    refine lm (v := .int .i64 m) rfl rfl ?_
    refine wpL_done (fun W3 hW3 => ?_)
    clear hW2
    refine (show Code.wp _ _ _ _ _ from ?_)
    refine wp_seq ?_
    refine wp_seq ?_
    refine wp_region_L (W0 := w) [] (hW3) ?_
    refine lm (v := .slice p l.length cap) rfl rfl ?_
    refine lm (v := .int .i64 (l.length : Int)) rfl rfl ?_
    refine lm (v := .int .i64 0) rfl rfl ?_
    refine wpL_done (fun W4 hW4 => ?_)
    clear hW3
    refine (show Code.wp _ _ _ _ _ from ?_)
    refine wp_block ?_
    go_loopw [20, 8] (fun u uleft wr => ∃ (k : Nat) (left : Int), k ≤ l.length ∧ (finS x m l = finS x left (l.drop k) ∧ 1 ≤ left ∧ left ≤ 100000000) ∧ u = .int .i64 (k : Int) ∧ uleft = .int .i64 left ∧ KS w [] wr) (fun u _ _ => (l.length - intOf u).toNat)
    case atStart => exact ⟨0, m, by omega, ⟨rfl, hwk0.2.2.1, hwk0.2.2.2⟩, rfl, rfl, ks_none (hW4)⟩
    case round =>
      obtain ⟨k, left, hk, hin, rfl, rfl, hKS⟩ := hrel
      by_cases hkn : k < l.length
      · obtain ⟨⟨f, t⟩, hget⟩ : ∃ s, l[k]? = some s := ⟨_, List.getElem?_eq_getElem hkn⟩
        obtain ⟨b, off, hp, hcell⟩ := HC.out.resolve_left (fun e => by rw [e] at hkn; simp at hkn)
        have hg := apart_get hwk0.1 hget
        have hx := isT_range hwk0.2.1
        have hm := hwk0.2.2
        obtain ⟨hin1, hin2, hin3⟩ := hin
        rw [drop_get hget] at hin1
        by_cases he : left ≤ t - max f x
        · have hres : endV (finS x m l) = .tuple #[.int .i64 ((max f x) + left), .int .i64 0] := by rw [hin1]; simp only [finS]; rw [if_pos he]; rfl
          refine wp_seq ?_
          refine wp_region_L (W0 := w) [] (hKS) ?_
          refine lp (v := .bool true) rfl rfl (run_bin rfl (vx := .int .i64 (k : Int)) (vy := .int .i64 (l.length : Int)) (by kernel_rfl) (by kernel_rfl) fun w => run_lssI (decide_eq_true (by omega)) w) ?_
          refine wpL_done (fun W5 hW5 => ?_)
          refine (show Code.wp _ _ _ _ _ from ?_)
          refine wp_seq ?_
          refine wp_cond_true rfl ?_
          refine wp_skip ?_
          refine (show Code.wp _ _ _ _ _ from ?_)
          refine wp_seq ?_
          refine wp_block ?_
          refine wp_seq ?_
          refine wp_region_L (W0 := w) [] (hW5) ?_
          refine lp (v := .pointer (some ⟨b, off + 2 * k, none⟩)) rfl rfl (run_idxp (b := b) (off := off) (n := l.length) (cap := cap) (k := k) rfl (by kernel_rfl) hp (by kernel_rfl) hkn) ?_
          refine lv (v := .agg #[.int .i64 f, .int .i64 t]) rfl rfl (yb_load2 rfl (by kernel_rfl) (hcell k (f, t) hget).1 (hcell k (f, t) hget).2 (World.block_lt_of_cell? _ _ (hcell k (f, t) hget).1)) ?_
          refine wpL_new (fun g => .pointer (some ⟨g, 0, none⟩)) (obi := .cells #[.int .i64 0, .int .i64 0] 41 (0, 0)) rfl rfl (fun _ => by kernel_rfl) (fun _ => by simp only [List.setIfInBounds_toArray, List.set_cons_succ, List.set_cons_zero] <;> rfl) fun g1 Bg1 Fg1 => ?_
          try simp only [List.forall_mem_cons] at Fg1
          refine wpL_s [(g1, .cells #[.int .i64 f, .int .i64 t] 41 (0, 0))] rfl rfl (st_span rfl (by kernel_rfl) (by kernel_rfl) (.head _) (by omega) (List.forall_mem_cons.2 ⟨.inl rfl, (List.forall_mem_nil _)⟩)) ?_
          refine wpL_done (fun W6 hW6 => ?_)
          clear hW5
          refine (show Code.wp _ _ _ _ _ from ?_)
          refine wp_seq ?_
          refine wp_region_L (W0 := w) [(g1, .cells #[.int .i64 f, .int .i64 t] 41 (0, 0))] (hW6) ?_
          refine lm (v := .pointer (some ⟨g1, 0, none⟩)) rfl rfl ?_
          refine lv (v := .int .i64 f) rfl rfl (yb_loadc (off := 0) rfl (by kernel_rfl) (.head _) Tryd.underlying3 rfl (by kernel_rfl)) ?_
          refine lm (v := .int .i64 x) rfl rfl ?_
          refine lp (v := .int .i64 (max f x)) rfl rfl (fun _ => run_maxI rfl (by kernel_rfl) rfl) ?_
          refine lm (v := .int .i64 (max f x)) rfl rfl ?_
          refine wpL_done (fun W7 hW7 => ?_)
          clear hW6
          refine (show Code.wp _ _ _ _ _ from ?_)
          refine wp_seq ?_
          refine wp_seq ?_
          refine wp_region_L (W0 := w) [(g1, .cells #[.int .i64 f, .int .i64 t] 41 (0, 0))] (hW7) ?_
          refine lm (v := .pointer (some ⟨g1, 1, none⟩)) rfl rfl ?_
          refine lv (v := .int .i64 t) rfl rfl (yb_loadc (off := 1) rfl (by kernel_rfl) (.head _) Tryd.underlying3 rfl (by kernel_rfl)) ?_
          refine lm (v := .int .i64 (max f x)) rfl rfl ?_
          refine lp (v := .int .i64 (t - (max f x))) rfl rfl (run_bin rfl (vx := .int .i64 t) (vy := .int .i64 (max f x)) (by kernel_rfl) (by kernel_rfl) fun w => run_subI (z := (t - (max f x))) rfl (by omega) w) ?_
          refine lm (v := .int .i64 left) rfl rfl ?_
          refine lp (v := .bool true) rfl rfl (run_bin rfl (vx := .int .i64 (t - (max f x))) (vy := .int .i64 left) (by kernel_rfl) (by kernel_rfl) fun w => run_geqI (decide_eq_true he) w) ?_
          refine wpL_done (fun W8 hW8 => ?_)
          clear hW7
          refine (show Code.wp _ _ _ _ _ from ?_)
          refine wp_cond_true rfl ?_
          refine wp_seq ?_
          refine wp_region_L (W0 := w) [(g1, .cells #[.int .i64 f, .int .i64 t] 41 (0, 0))] (hW8) ?_
          refine lm (v := .int .i64 (max f x)) rfl rfl ?_
          refine lm (v := .int .i64 left) rfl rfl ?_
          refine lp (v := .int .i64 ((max f x) + left)) rfl rfl (run_bin rfl (vx := .int .i64 (max f x)) (vy := .int .i64 left) (by kernel_rfl) (by kernel_rfl) fun w => run_addI (z := ((max f x) + left)) rfl (by omega) w) ?_
          refine lm (v := .int .i64 ((max f x) + left)) rfl rfl ?_
          refine lm (v := .int .i64 0) rfl rfl ?_
          refine wpL_done (fun W9 hW9 => ?_)
          clear hW8
          refine (show Code.wp _ _ _ _ _ from ?_)
          refine wp_ret ?_
          try simp only [inBlock_ret, then_ret]
          exact bodyPost_ret (results_tmp2 rfl _ _ _) rfl ⟨by first | rfl | (rw [hres]; rfl), hW9.1⟩
        · refine wp_seq ?_
          refine wp_region_L (W0 := w) [] (hKS) ?_
          refine lp (v := .bool true) rfl rfl (run_bin rfl (vx := .int .i64 (k : Int)) (vy := .int .i64 (l.length : Int)) (by kernel_rfl) (by kernel_rfl) fun w => run_lssI (decide_eq_true (by omega)) w) ?_
          refine wpL_done (fun W5 hW5 => ?_)
          refine (show Code.wp _ _ _ _ _ from ?_)
          refine wp_seq ?_
          refine wp_cond_true rfl ?_
          refine wp_skip ?_
          refine (show Code.wp _ _ _ _ _ from ?_)
          refine wp_seq ?_
          refine wp_block ?_
          refine wp_seq ?_
          refine wp_region_L (W0 := w) [] (hW5) ?_
          refine lp (v := .pointer (some ⟨b, off + 2 * k, none⟩)) rfl rfl (run_idxp (b := b) (off := off) (n := l.length) (cap := cap) (k := k) rfl (by kernel_rfl) hp (by kernel_rfl) hkn) ?_
          refine lv (v := .agg #[.int .i64 f, .int .i64 t]) rfl rfl (yb_load2 rfl (by kernel_rfl) (hcell k (f, t) hget).1 (hcell k (f, t) hget).2 (World.block_lt_of_cell? _ _ (hcell k (f, t) hget).1)) ?_
          refine wpL_new (fun g => .pointer (some ⟨g, 0, none⟩)) (obi := .cells #[.int .i64 0, .int .i64 0] 41 (0, 0)) rfl rfl (fun _ => by kernel_rfl) (fun _ => by simp only [List.setIfInBounds_toArray, List.set_cons_succ, List.set_cons_zero] <;> rfl) fun g1 Bg1 Fg1 => ?_
          try simp only [List.forall_mem_cons] at Fg1
          refine wpL_s [(g1, .cells #[.int .i64 f, .int .i64 t] 41 (0, 0))] rfl rfl (st_span rfl (by kernel_rfl) (by kernel_rfl) (.head _) (by omega) (List.forall_mem_cons.2 ⟨.inl rfl, (List.forall_mem_nil _)⟩)) ?_
          refine wpL_done (fun W6 hW6 => ?_)
          clear hW5
          refine (show Code.wp _ _ _ _ _ from ?_)
          refine wp_seq ?_
          refine wp_region_L (W0 := w) [(g1, .cells #[.int .i64 f, .int .i64 t] 41 (0, 0))] (hW6) ?_
          refine lm (v := .pointer (some ⟨g1, 0, none⟩)) rfl rfl ?_
          refine lv (v := .int .i64 f) rfl rfl (yb_loadc (off := 0) rfl (by kernel_rfl) (.head _) Tryd.underlying3 rfl (by kernel_rfl)) ?_
          refine lm (v := .int .i64 x) rfl rfl ?_
          refine lp (v := .int .i64 (max f x)) rfl rfl (fun _ => run_maxI rfl (by kernel_rfl) rfl) ?_
          refine lm (v := .int .i64 (max f x)) rfl rfl ?_
          refine wpL_done (fun W7 hW7 => ?_)
          clear hW6
          refine (show Code.wp _ _ _ _ _ from ?_)
          refine wp_seq ?_
          refine wp_seq ?_
          refine wp_region_L (W0 := w) [(g1, .cells #[.int .i64 f, .int .i64 t] 41 (0, 0))] (hW7) ?_
          refine lm (v := .pointer (some ⟨g1, 1, none⟩)) rfl rfl ?_
          refine lv (v := .int .i64 t) rfl rfl (yb_loadc (off := 1) rfl (by kernel_rfl) (.head _) Tryd.underlying3 rfl (by kernel_rfl)) ?_
          refine lm (v := .int .i64 (max f x)) rfl rfl ?_
          refine lp (v := .int .i64 (t - (max f x))) rfl rfl (run_bin rfl (vx := .int .i64 t) (vy := .int .i64 (max f x)) (by kernel_rfl) (by kernel_rfl) fun w => run_subI (z := (t - (max f x))) rfl (by omega) w) ?_
          refine lm (v := .int .i64 left) rfl rfl ?_
          refine lp (v := .bool false) rfl rfl (run_bin rfl (vx := .int .i64 (t - (max f x))) (vy := .int .i64 left) (by kernel_rfl) (by kernel_rfl) fun w => run_geqI (decide_eq_false he) w) ?_
          refine wpL_done (fun W8 hW8 => ?_)
          clear hW7
          refine (show Code.wp _ _ _ _ _ from ?_)
          refine wp_cond_false rfl ?_
          refine wp_skip ?_
          refine (show Code.wp _ _ _ _ _ from ?_)
          refine wp_region_L (W0 := w) [(g1, .cells #[.int .i64 f, .int .i64 t] 41 (0, 0))] (hW8) ?_
          refine lm (v := .int .i64 left) rfl rfl ?_
          refine lm (v := .pointer (some ⟨g1, 1, none⟩)) rfl rfl ?_
          refine lv (v := .int .i64 t) rfl rfl (yb_loadc (off := 1) rfl (by kernel_rfl) (.head _) Tryd.underlying3 rfl (by kernel_rfl)) ?_
          refine lm (v := .int .i64 (max f x)) rfl rfl ?_
          refine lp (v := .int .i64 (t - (max f x))) rfl rfl (run_bin rfl (vx := .int .i64 t) (vy := .int .i64 (max f x)) (by kernel_rfl) (by kernel_rfl) fun w => run_subI (z := (t - (max f x))) rfl (by omega) w) ?_
          refine lp (v := .int .i64 (max 0 (t - (max f x)))) rfl rfl (fun _ => run_maxI rfl (by kernel_rfl) rfl) ?_
          refine lp (v := .int .i64 (left - max 0 (t - (max f x)))) rfl rfl (run_bin rfl (vx := .int .i64 left) (vy := .int .i64 (max 0 (t - (max f x)))) (by kernel_rfl) (by kernel_rfl) fun w => run_subI (z := (left - max 0 (t - (max f x)))) rfl (by omega) w) ?_
          refine lm (v := .int .i64 (left - max 0 (t - (max f x)))) rfl rfl ?_
          refine wpL_done (fun W9 hW9 => ?_)
          clear hW8
          refine (show Code.wp _ _ _ _ _ from ?_)
          refine wp_region_L (W0 := w) [(g1, .cells #[.int .i64 f, .int .i64 t] 41 (0, 0))] (hW9) ?_
          refine lp (v := .int .i64 ((k + 1 : Nat) : Int)) rfl rfl (run_bin rfl (vx := .int .i64 (k : Int)) (vy := .int .i64 1) (by kernel_rfl) (by kernel_rfl) fun w => run_addI (z := ((k + 1 : Nat) : Int)) rfl (len_range hlen (by omega)) w) ?_
          refine lm (v := .int .i64 ((k + 1 : Nat) : Int)) rfl rfl ?_
          refine wpL_done (fun W10 hW10 => ?_)
          clear hW9
          go_roundw
          case rel =>
            repeat apply Exists.intro
            exact ⟨⟨k + 1, left - max 0 (t - max f x), by omega, ⟨by rw [hin1, finS, if_neg he], by omega, by omega⟩, rfl, rfl, ks_none hW10⟩, rfl⟩
          case measure => (show (l.length - intOf (.int .i64 ((k + 1 : Nat) : Int))).toNat < (l.length - intOf (.int .i64 (k : Int))).toNat); simp only [intOf]; omega
      · have hnil : l.drop k = [] := List.drop_eq_nil_of_le (by omega)
        have hres : endV (finS x m l) = .tuple #[.int .i64 0, .int .i64 6] := by rw [hin.1, hnil]; rfl
        refine wp_seq ?_
        refine wp_region_L (W0 := w) [] (hKS) ?_
        refine lp (v := .bool false) rfl rfl (run_bin rfl (vx := .int .i64 (k : Int)) (vy := .int .i64 (l.length : Int)) (by kernel_rfl) (by kernel_rfl) fun w => run_lssI (decide_eq_false (by omega)) w) ?_
        refine wpL_done (fun W5 hW5 => ?_)
        refine (show Code.wp _ _ _ _ _ from ?_)
        refine wp_seq ?_
        refine wp_cond_false rfl ?_
        refine wp_exit ?_
        refine (show Code.wp _ _ _ _ _ from ?_)
        refine wp_seq ?_
        refine wp_region_L (W0 := w) [] (hW5) ?_
        refine lm (v := .int .i64 0) rfl rfl ?_
        refine lm (v := .int .i64 6) rfl rfl ?_
        refine wpL_done (fun W6 hW6 => ?_)
        clear hW5
        refine (show Code.wp _ _ _ _ _ from ?_)
        refine wp_ret ?_
        try simp only [inBlock_ret, then_ret]
        exact bodyPost_ret (results_tmp2 rfl _ _ _) rfl ⟨by first | rfl | (rw [hres]; rfl), hW6.1⟩
  · have hwk := fun (W : World) (hc : SL W p l) => isWork_any p cap l W hc hlen x m
    rw [if_neg hwk0]
    have hf : (apart l && isT x && decide (1 ≤ m) && decide (m ≤ 100000000)) = false := by rw [Bool.eq_false_iff]; intro h; simp only [Bool.and_eq_true, decide_eq_true_eq] at h; exact hwk0 ⟨h.1.1.1, h.1.1.2, h.1.2, h.2⟩
    simp only [hf] at hwk
    have HC := Lib.hid hcell
    clear hcell
    go_enter Tryd.func20, Tryd.ntmps20
    refine wp_seq ?_
    refine wp_region_L (W0 := w) [] (KS.start w) ?_
    refine lm (v := .int .i64 0) rfl rfl ?_
    refine lm (v := .int .i64 0) rfl rfl ?_
    refine wpL_done (fun W1 hW1 => ?_)
    refine (show Code.wp _ _ _ _ _ from ?_)
    refine wp_seq ?_
    refine wp_seq ?_
    refine wp_region_L (W0 := w) [] (hW1) ?_
    refine lm (v := .slice p l.length cap) rfl rfl ?_
    refine lm (v := .int .i64 x) rfl rfl ?_
    refine lm (v := .int .i64 m) rfl rfl ?_
    refine lv (v := .bool false) rfl rfl (yb_call (f := 57) (args := #[.slice p l.length cap, .int .i64 x, .int .i64 m]) (fun _ => by kernel_rfl) fun W hW => hwk W (sl_keep HC.out hW.1)) ?_
    refine lm (v := .bool true) rfl rfl ?_
    refine wpL_done (fun W2 hW2 => ?_)
    clear hW1
    refine (show Code.wp _ _ _ _ _ from ?_)
    refine wp_cond_true rfl ?_
    refine wp_seq ?_
    refine wp_region_L (W0 := w) [] (hW2) ?_
    refine lm (v := .int .i64 0) rfl rfl ?_
    refine lm (v := .int .i64 2) rfl rfl ?_
    refine wpL_done (fun W3 hW3 => ?_)
    clear hW2
    refine (show Code.wp _ _ _ _ _ from ?_)
    refine wp_ret ?_
    try simp only [inBlock_ret, then_ret]
    exact bodyPost_ret (results_tmp2 rfl _ _ _) rfl ⟨by first | rfl | (rw [hres]; rfl), hW3.1⟩
end Go.Proofs.YtjmcelgdjpdacaaDoor
namespace Go.Proofs.YtjmcelgdjpdacaaDoor
open Go.RowKit Tw
open Go
theorem spans_ex {w W : World} {p1 p2 : Option Addr} {c1 c2 : Nat} (h1 : AV W W.heap.size portW p1 c1) (h2 : AV W W.heap.size [(1800, 2000)] p2 c2) {K : List (Nat × Obj)} (hW : KS w K W) : Calls Tryd.prog 25 #[.agg #[.slice p1 portW.length c1, .slice p2 [((1800 : Int), (2000 : Int))].length c2], .int .i64 0, .int .i64 3000] W fun e w' => ∃ v K', e = .returned v ∧ KS w K' w' ∧ GT w K [(360, 1320), (2000, 2760)] v K' := by
  have h := Spans_ok portW [(1800, 2000)] p1 p2 c1 c2 0 3000 1 W h1 h2 (by decide +kernel) (by omega) (by omega) (by omega) (by omega) (by decide +kernel)
  rw [show mergeL (withoutL [(1800, 2000)] (weeksL 0 3000 portW 1 (0 - 0 % 10080))) = [(360, 1320), (2000, 2760)] from by decide +kernel] at h
  exact calls_gt hW h
theorem tide_ex : TideR 100 1491 2 60 90 := tidal_iff.1 (by decide +kernel)
theorem windows_ex {w W : World} {K : List (Nat × Obj)} (hW : KS w K W) : Calls Tryd.prog 30 #[.agg #[.int .i64 100, .int .i64 1491, .int .i64 2, .int .i64 60, .int .i64 90], .int .i64 0, .int .i64 200] W fun e w' => ∃ v K', e = .returned v ∧ KS w K' w' ∧ GT w K [(40, 190)] v K' := by
  have h := Windows_ok 100 1491 2 60 90 (by omega) tide_ex 0 200 400 W (by omega) (by omega) (by omega) (by decide +kernel) (by decide +kernel)
  rw [show mergeL (windowsL 100 1491 2 60 90 0 200 400 (firstV 100 1491 2 (0 - 90))) = [(40, 190)] from by decide +kernel] at h
  exact calls_gt hW h
theorem high_ex (k v : Int) (h0 : 0 ≤ k) (h1 : k ≤ 3) (hv : highV 100 1491 2 k = v) (W : World) : Calls Tryd.prog 29 #[.agg #[.int .i64 100, .int .i64 1491, .int .i64 2, .int .i64 60, .int .i64 90], .int .i64 k] W fun e w' => e = .returned (.tuple #[.int .i64 v, .int .i64 0]) ∧ Below W.heap.size W w' := by
  have h := High_any 100 1491 2 60 90 (by omega) k W
  rw [if_pos ⟨by decide +kernel, h0⟩, if_neg (by have h3 : 3 < firstV 100 1491 2 100000000 := (by decide +kernel); omega), hv] at h
  exact h
theorem fit_ex {W : World} {p : Option Addr} {cap : Nat} (h : SL W p [(360, 1320), (2000, 2760)]) : Calls Tryd.prog 22 #[.slice p [((360 : Int), (1320 : Int)), (2000, 2760)].length cap, .int .i64 1200, .int .i64 200] W fun e w' => e = .returned (.tuple #[.int .i64 2000, .int .i64 0]) ∧ Below W.heap.size W w' := by
  have h := Fit_any p cap [(360, 1320), (2000, 2760)] W h (by decide) 1200 200
  rw [if_pos (by decide +kernel), show fitS 1200 200 [(360, 1320), (2000, 2760)] = some 2000 from by decide +kernel] at h
  exact h
theorem finish_ex {W : World} {p : Option Addr} {cap : Nat} (h : SL W p [(360, 1320), (2000, 2760)]) : Calls Tryd.prog 20 #[.slice p [((360 : Int), (1320 : Int)), (2000, 2760)].length cap, .int .i64 1200, .int .i64 200] W fun e w' => e = .returned (.tuple #[.int .i64 2080, .int .i64 0]) ∧ Below W.heap.size W w' := by
  have h := Finish_any p cap [(360, 1320), (2000, 2760)] W h (by decide) 1200 200
  rw [if_pos (by decide +kernel), show finS 1200 200 [(360, 1320), (2000, 2760)] = some 2080 from by decide +kernel] at h
  exact h
theorem text_e1 (W : World) (hE : Env W) : Calls Tryd.prog 35 #[.int .i64 10080] W fun e w' => e = .returned (.tuple #[strV [49, 32, 77, 111, 110, 32, 48, 48, 58, 48, 48], .int .i64 0]) ∧ Below W.heap.size W w' := by
  have h := Text_ok 10080 (by omega) W hE
  rw [text_ex1] at h
  exact h
theorem text_e2 (W : World) (hE : Env W) : Calls Tryd.prog 35 #[.int .i64 9125] W fun e w' => e = .returned (.tuple #[strV [48, 32, 83, 117, 110, 32, 48, 56, 58, 48, 53], .int .i64 0]) ∧ Below W.heap.size W w' := by
  have h := Text_ok 9125 (by omega) W hE
  rw [text_ex2] at h
  exact h
theorem read_e0 (W : World) (hE : Env W) : Calls Tryd.prog 36 #[strV [48, 32, 83, 117, 110, 32, 48, 56, 58, 48, 53]] W fun e w' => e = .returned (.tuple #[.int .i64 9125, .int .i64 0]) ∧ Below W.heap.size W w' := by
  have h := Read_ok 9125 (by omega) W hE
  rw [text_ex2] at h
  exact h
set_option maxRecDepth 100000 in
set_option maxHeartbeats 20000000 in
theorem awake_any (w : World) (hE : Env w) : Calls Tryd.prog 15 #[] w fun e w' => e = .returned (.bool true) ∧ Below w.heap.size w w' := by
  have HE := Lib.hid hE
  clear hE
  go_enter Tryd.func15, Tryd.ntmps15
  refine wp_seq ?_
  refine wp_region_L (W0 := w) [] (KS.start w) ?_
  refine lm (v := .bool false) rfl rfl ?_
  refine wpL_done (fun W1 hW1 => ?_)
  refine (show Code.wp _ _ _ _ _ from ?_)
  refine wp_seq ?_
  refine wp_region_L (W0 := w) [] (hW1) ?_
  refine wpL_c (GP w []) rfl (by kernel_rfl) (fun _ => (by kernel_rfl)) (fun W hW => port_g hW) (fun _ => by simp only [List.setIfInBounds_toArray, List.set_cons_succ, List.set_cons_zero] <;> rfl) ?_
  rintro v Kz1 ⟨pa, ca, pb, cb, rfl, hasA, hasB, hs1⟩
  refine wpL_c (GT w Kz1 [(360, 1320), (2000, 2760)]) rfl (by kernel_rfl) (fun _ => (by kernel_rfl)) (fun W hW => spans_ex (hasA W (hW.sub (fun q h => h))) (hasB W (hW.sub (fun q h => h))) hW) (fun _ => by simp only [List.setIfInBounds_toArray, List.set_cons_succ, List.set_cons_zero] <;> rfl) ?_
  rintro v Kz2 ⟨pc, cc, rfl, hasC, hs2⟩
  refine lm (v := .tuple #[.slice pc [((360 : Int), (1320 : Int)), (2000, 2760)].length cc, .int .i64 0]) rfl rfl ?_
  refine lm (v := .slice pc [((360 : Int), (1320 : Int)), (2000, 2760)].length cc) rfl rfl ?_
  refine lm (v := .int .i64 0) rfl rfl ?_
  refine lm (v := .slice pc [((360 : Int), (1320 : Int)), (2000, 2760)].length cc) rfl rfl ?_
  refine lm (v := .int .i64 0) rfl rfl ?_
  refine wpL_done (fun W2 hW2 => ?_)
  clear hW1
  refine (show Code.wp _ _ _ _ _ from ?_)
  refine wp_seq ?_
  refine wp_seq ?_
  refine wp_region_L (W0 := w) Kz2 (hW2) ?_
  refine lm (v := .int .i64 0) rfl rfl ?_
  refine lm (v := .bool false) rfl rfl ?_
  refine lm (v := .bool false) rfl rfl ?_
  refine lm (v := .slice pc [((360 : Int), (1320 : Int)), (2000, 2760)].length cc) rfl rfl ?_
  refine lm (v := .agg #[.int .i64 360, .int .i64 1320]) rfl rfl ?_
  refine lm (v := .agg #[.int .i64 2000, .int .i64 2760]) rfl rfl ?_
  refine wpL_newg (fun g => .slice (some ⟨g, 0, none⟩) 2 2) (obi := .cells #[.int .i64 360, .int .i64 1320, .int .i64 2000, .int .i64 2760] 41 (0, 0)) rfl (by kernel_rfl) (fun _ => by kernel_rfl) (fun _ => by simp only [List.setIfInBounds_toArray, List.set_cons_succ, List.set_cons_zero] <;> rfl) fun g1 Bg1 Fg1 => ?_
  try simp only [List.forall_mem_cons] at Fg1
  refine lv (v := .bool true) rfl rfl (yb_call (f := 33) (args := #[.slice pc [((360 : Int), (1320 : Int)), (2000, 2760)].length cc, .slice (some ⟨g1, 0, none⟩) 2 2]) (fun _ => by kernel_rfl) fun W hW => same_true [((360 : Int), (1320 : Int)), (2000, 2760)] _ _ _ _ W (hasC W (hW.sub (fun q h => (.tail _ h)))).sl (lit_av (m := [((360 : Int), (1320 : Int)), ((2000 : Int), (2760 : Int))]) (hW.2 _ (.head _)) (by decide)).sl (by decide)) ?_
  refine lm (v := .bool false) rfl rfl ?_
  refine lm (v := .bool false) rfl rfl ?_
  refine wpL_done (fun W3 hW3 => ?_)
  clear hW2
  refine (show Code.wp _ _ _ _ _ from ?_)
  refine wp_cond_false rfl ?_
  refine wp_skip ?_
  refine (show Code.wp _ _ _ _ _ from ?_)
  refine wp_seq ?_
  refine wp_region_L (W0 := w) ((g1, .cells #[.int .i64 360, .int .i64 1320, .int .i64 2000, .int .i64 2760] 41 (0, 0)) :: Kz2) (hW3) ?_
  refine lm (v := .slice pc [((360 : Int), (1320 : Int)), (2000, 2760)].length cc) rfl rfl ?_
  refine lv (v := .tuple #[.int .i64 2000, .int .i64 0]) rfl rfl (yb_call (f := 22) (args := #[.slice pc [((360 : Int), (1320 : Int)), (2000, 2760)].length cc, .int .i64 1200, .int .i64 200]) (fun _ => by kernel_rfl) fun W hW => fit_ex (hasC W (hW.sub (fun q h => (.tail _ h)))).sl) ?_
  refine lm (v := .tuple #[.int .i64 2000, .int .i64 0]) rfl rfl ?_
  refine lm (v := .int .i64 2000) rfl rfl ?_
  refine lm (v := .int .i64 0) rfl rfl ?_
  refine lm (v := .int .i64 2000) rfl rfl ?_
  refine lm (v := .int .i64 0) rfl rfl ?_
  refine wpL_done (fun W4 hW4 => ?_)
  clear hW3
  refine (show Code.wp _ _ _ _ _ from ?_)
  refine wp_seq ?_
  refine wp_region_L (W0 := w) ((g1, .cells #[.int .i64 360, .int .i64 1320, .int .i64 2000, .int .i64 2760] 41 (0, 0)) :: Kz2) (hW4) ?_
  refine lm (v := .slice pc [((360 : Int), (1320 : Int)), (2000, 2760)].length cc) rfl rfl ?_
  refine lv (v := .tuple #[.int .i64 2080, .int .i64 0]) rfl rfl (yb_call (f := 20) (args := #[.slice pc [((360 : Int), (1320 : Int)), (2000, 2760)].length cc, .int .i64 1200, .int .i64 200]) (fun _ => by kernel_rfl) fun W hW => finish_ex (hasC W (hW.sub (fun q h => (.tail _ h)))).sl) ?_
  refine lm (v := .tuple #[.int .i64 2080, .int .i64 0]) rfl rfl ?_
  refine lm (v := .int .i64 2080) rfl rfl ?_
  refine lm (v := .int .i64 0) rfl rfl ?_
  refine lm (v := .int .i64 2080) rfl rfl ?_
  refine lm (v := .int .i64 0) rfl rfl ?_
  refine wpL_done (fun W5 hW5 => ?_)
  clear hW4
  refine (show Code.wp _ _ _ _ _ from ?_)
  refine wp_seq ?_
  refine wp_region_L (W0 := w) ((g1, .cells #[.int .i64 360, .int .i64 1320, .int .i64 2000, .int .i64 2760] 41 (0, 0)) :: Kz2) (hW5) ?_
  refine lm (v := .agg #[.int .i64 100, .int .i64 1491, .int .i64 2, .int .i64 60, .int .i64 90]) rfl rfl ?_
  refine wpL_new (fun g => .pointer (some ⟨g, 0, none⟩)) (obi := .cells #[.int .i64 0, .int .i64 0, .int .i64 0, .int .i64 0, .int .i64 0] 28 (0, 0)) rfl rfl (fun _ => by kernel_rfl) (fun _ => by simp only [List.setIfInBounds_toArray, List.set_cons_succ, List.set_cons_zero] <;> rfl) fun g2 Bg2 Fg2 => ?_
  try simp only [List.forall_mem_cons] at Fg2
  refine wpL_s ((g2, .cells #[.int .i64 100, .int .i64 1491, .int .i64 2, .int .i64 60, .int .i64 90] 28 (0, 0)) :: (g1, .cells #[.int .i64 360, .int .i64 1320, .int .i64 2000, .int .i64 2760] 41 (0, 0)) :: Kz2) rfl rfl (st_row (v := .agg #[.int .i64 100, .int .i64 1491, .int .i64 2, .int .i64 60, .int .i64 90]) (off := 0) rfl (by kernel_rfl) (by kernel_rfl) (.head _) (by omega) (by rw [size_tide]; rfl) (by simp [Value.cells]) (by intro v hv; simp [Value.cells] at hv; rcases hv with rfl | rfl | rfl | rfl | rfl <;> rfl) rfl (List.forall_mem_cons.2 ⟨.inl rfl, (List.forall_mem_cons.2 ⟨.inr ⟨(.tail _ (.head _)), Fg2.1⟩, (fun p hp => .inr ⟨(.tail _ (.tail _ hp)), Fg2.2 p hp⟩)⟩)⟩)) ?_
  refine wpL_done (fun W6 hW6 => ?_)
  clear hW5
  refine (show Code.wp _ _ _ _ _ from ?_)
  refine wp_seq ?_
  refine wp_region_L (W0 := w) ((g2, .cells #[.int .i64 100, .int .i64 1491, .int .i64 2, .int .i64 60, .int .i64 90] 28 (0, 0)) :: (g1, .cells #[.int .i64 360, .int .i64 1320, .int .i64 2000, .int .i64 2760] 41 (0, 0)) :: Kz2) (hW6) ?_
  refine lv (v := .agg #[.int .i64 100, .int .i64 1491, .int .i64 2, .int .i64 60, .int .i64 90]) rfl rfl (yb_load (n := 5) (off := 0) rfl (by kernel_rfl) (.head _) Tryd.underlying28 rfl size_tide (by simp) (by kernel_rfl)) ?_
  refine wpL_c (GT w ((g2, .cells #[.int .i64 100, .int .i64 1491, .int .i64 2, .int .i64 60, .int .i64 90] 28 (0, 0)) :: (g1, .cells #[.int .i64 360, .int .i64 1320, .int .i64 2000, .int .i64 2760] 41 (0, 0)) :: Kz2) [(40, 190)]) rfl (by kernel_rfl) (fun _ => (by kernel_rfl)) (fun W hW => windows_ex hW) (fun _ => by simp only [List.setIfInBounds_toArray, List.set_cons_succ, List.set_cons_zero] <;> rfl) ?_
  rintro v Kz3 ⟨pd, cd, rfl, hasD, hs3⟩
  refine lm (v := .tuple #[.slice pd [((40 : Int), (190 : Int))].length cd, .int .i64 0]) rfl rfl ?_
  refine lm (v := .slice pd [((40 : Int), (190 : Int))].length cd) rfl rfl ?_
  refine lm (v := .int .i64 0) rfl rfl ?_
  refine lm (v := .slice pd [((40 : Int), (190 : Int))].length cd) rfl rfl ?_
  refine lm (v := .int .i64 0) rfl rfl ?_
  refine wpL_done (fun W7 hW7 => ?_)
  clear hW6
  refine (show Code.wp _ _ _ _ _ from ?_)
  refine wp_seq ?_
  refine wp_seq ?_
  refine wp_region_L (W0 := w) Kz3 (hW7) ?_
  refine lm (v := .int .i64 0) rfl rfl ?_
  refine lm (v := .int .i64 0) rfl rfl ?_
  refine lm (v := .int .i64 0) rfl rfl ?_
  refine lm (v := .int .i64 0) rfl rfl ?_
  refine lm (v := .int .i64 0) rfl rfl ?_
  refine lm (v := .bool false) rfl rfl ?_
  refine lm (v := .bool false) rfl rfl ?_
  refine lm (v := .int .i64 2000) rfl rfl ?_
  refine lm (v := .bool false) rfl rfl ?_
  refine lm (v := .bool false) rfl rfl ?_
  refine lm (v := .bool false) rfl rfl ?_
  refine lm (v := .int .i64 2080) rfl rfl ?_
  refine lm (v := .bool false) rfl rfl ?_
  refine lm (v := .bool false) rfl rfl ?_
  refine lm (v := .bool false) rfl rfl ?_
  refine lm (v := .slice pd [((40 : Int), (190 : Int))].length cd) rfl rfl ?_
  refine lm (v := .agg #[.int .i64 40, .int .i64 190]) rfl rfl ?_
  refine wpL_newg (fun g => .slice (some ⟨g, 0, none⟩) 1 1) (obi := .cells #[.int .i64 40, .int .i64 190] 41 (0, 0)) rfl (by kernel_rfl) (fun _ => by kernel_rfl) (fun _ => by simp only [List.setIfInBounds_toArray, List.set_cons_succ, List.set_cons_zero] <;> rfl) fun g3 Bg3 Fg3 => ?_
  try simp only [List.forall_mem_cons] at Fg3
  refine lv (v := .bool true) rfl rfl (yb_call (f := 33) (args := #[.slice pd [((40 : Int), (190 : Int))].length cd, .slice (some ⟨g3, 0, none⟩) 1 1]) (fun _ => by kernel_rfl) fun W hW => same_true [((40 : Int), (190 : Int))] _ _ _ _ W (hasD W (hW.sub (fun q h => (.tail _ h)))).sl (lit_av (m := [((40 : Int), (190 : Int))]) (hW.2 _ (.head _)) (by decide)).sl (by decide)) ?_
  refine lm (v := .bool false) rfl rfl ?_
  refine lm (v := .bool false) rfl rfl ?_
  refine wpL_done (fun W8 hW8 => ?_)
  clear hW7
  refine (show Code.wp _ _ _ _ _ from ?_)
  refine wp_cond_false rfl ?_
  refine wp_skip ?_
  refine (show Code.wp _ _ _ _ _ from ?_)
  refine wp_seq ?_
  refine wp_seq ?_
  refine wp_region_L (W0 := w) ((g3, .cells #[.int .i64 40, .int .i64 190] 41 (0, 0)) :: Kz3) (hW8) ?_
  refine wpL_new (fun g => .slice (some ⟨g, 0, none⟩) 4 4) (obi := .cells #[.int .i64 100, .int .i64 845, .int .i64 1591, .int .i64 2336] 3 (0, 0)) rfl rfl (fun _ => by kernel_rfl) (fun _ => by simp only [List.setIfInBounds_toArray, List.set_cons_succ, List.set_cons_zero] <;> rfl) fun g4 Bg4 Fg4 => ?_
  try simp only [List.forall_mem_cons] at Fg4
  refine lm (v := .int .i64 4) rfl rfl ?_
  refine lm (v := .int .i64 0) rfl rfl ?_
  refine wpL_done (fun W9 hW9 => ?_)
  clear hW8
  refine (show Code.wp _ _ _ _ _ from ?_)
  refine wp_block ?_
  refine wp_loop_rounds 6 ?_
  refine (show Code.wp _ _ _ _ _ from ?_)
  refine wp_seq ?_
  refine wp_region_L (W0 := w) ((g4, .cells #[.int .i64 100, .int .i64 845, .int .i64 1591, .int .i64 2336] 3 (0, 0)) :: (g3, .cells #[.int .i64 40, .int .i64 190] 41 (0, 0)) :: Kz3) (hW9) ?_
  refine lm (v := .bool true) rfl rfl ?_
  refine wpL_done (fun W10 hW10 => ?_)
  clear hW9
  refine (show Code.wp _ _ _ _ _ from ?_)
  refine wp_seq ?_
  refine wp_cond_true rfl ?_
  refine wp_skip ?_
  refine (show Code.wp _ _ _ _ _ from ?_)
  refine wp_seq ?_
  refine wp_block ?_
  refine wp_seq ?_
  refine wp_region_L (W0 := w) ((g4, .cells #[.int .i64 100, .int .i64 845, .int .i64 1591, .int .i64 2336] 3 (0, 0)) :: (g3, .cells #[.int .i64 40, .int .i64 190] 41 (0, 0)) :: Kz3) (hW10) ?_
  refine lm (v := .int .i64 0) rfl rfl ?_
  refine lm (v := .pointer (some ⟨g4, 0, none⟩)) rfl rfl ?_
  refine lv (v := .int .i64 100) rfl rfl (yb_loadc (off := 0) rfl (by kernel_rfl) (.head _) Tryd.underlying3 rfl (by kernel_rfl)) ?_
  refine lm (v := .int .i64 0) rfl rfl ?_
  refine lm (v := .int .i64 100) rfl rfl ?_
  refine wpL_done (fun W11 hW11 => ?_)
  clear hW10
  refine (show Code.wp _ _ _ _ _ from ?_)
  refine wp_seq ?_
  refine wp_region_L (W0 := w) ((g4, .cells #[.int .i64 100, .int .i64 845, .int .i64 1591, .int .i64 2336] 3 (0, 0)) :: (g3, .cells #[.int .i64 40, .int .i64 190] 41 (0, 0)) :: Kz3) (hW11) ?_
  refine lv (v := .agg #[.int .i64 100, .int .i64 1491, .int .i64 2, .int .i64 60, .int .i64 90]) rfl rfl (yb_load (n := 5) (off := 0) rfl (by kernel_rfl) (.tail _ (.tail _ (hs3 _ (.head _)))) Tryd.underlying28 rfl size_tide (by simp) (by kernel_rfl)) ?_
  refine lm (v := .int .i64 0) rfl rfl ?_
  refine lv (v := .tuple #[.int .i64 100, .int .i64 0]) rfl rfl (yb_call (f := 29) (args := #[.agg #[.int .i64 100, .int .i64 1491, .int .i64 2, .int .i64 60, .int .i64 90], .int .i64 0]) (fun _ => by kernel_rfl) fun W hW => high_ex 0 100 (by omega) (by omega) (by decide +kernel) W) ?_
  refine lm (v := .tuple #[.int .i64 100, .int .i64 0]) rfl rfl ?_
  refine lm (v := .int .i64 100) rfl rfl ?_
  refine lm (v := .int .i64 0) rfl rfl ?_
  refine lm (v := .int .i64 100) rfl rfl ?_
  refine lm (v := .int .i64 0) rfl rfl ?_
  refine wpL_done (fun W12 hW12 => ?_)
  clear hW11
  refine (show Code.wp _ _ _ _ _ from ?_)
  refine wp_seq ?_
  refine wp_region_L (W0 := w) ((g4, .cells #[.int .i64 100, .int .i64 845, .int .i64 1591, .int .i64 2336] 3 (0, 0)) :: (g3, .cells #[.int .i64 40, .int .i64 190] 41 (0, 0)) :: Kz3) (hW12) ?_
  refine lm (v := .int .i64 100) rfl rfl ?_
  refine lm (v := .int .i64 100) rfl rfl ?_
  refine lm (v := .bool false) rfl rfl ?_
  refine lm (v := .bool false) rfl rfl ?_
  refine lm (v := .int .i64 0) rfl rfl ?_
  refine lm (v := .bool false) rfl rfl ?_
  refine lm (v := .bool false) rfl rfl ?_
  refine wpL_done (fun W13 hW13 => ?_)
  clear hW12
  refine (show Code.wp _ _ _ _ _ from ?_)
  refine wp_cond_false rfl ?_
  refine wp_skip ?_
  refine (show Code.wp _ _ _ _ _ from ?_)
  refine wp_region_L (W0 := w) ((g4, .cells #[.int .i64 100, .int .i64 845, .int .i64 1591, .int .i64 2336] 3 (0, 0)) :: (g3, .cells #[.int .i64 40, .int .i64 190] 41 (0, 0)) :: Kz3) (hW13) ?_
  refine lm (v := .int .i64 1) rfl rfl ?_
  refine lm (v := .int .i64 1) rfl rfl ?_
  refine wpL_done (fun W14 hW14 => ?_)
  clear hW13
  refine (show Code.wp _ _ _ _ _ from ?_)
  refine wp_seq ?_
  refine wp_region_L (W0 := w) ((g4, .cells #[.int .i64 100, .int .i64 845, .int .i64 1591, .int .i64 2336] 3 (0, 0)) :: (g3, .cells #[.int .i64 40, .int .i64 190] 41 (0, 0)) :: Kz3) (hW14) ?_
  refine lm (v := .bool true) rfl rfl ?_
  refine wpL_done (fun W15 hW15 => ?_)
  clear hW14
  refine (show Code.wp _ _ _ _ _ from ?_)
  refine wp_seq ?_
  refine wp_cond_true rfl ?_
  refine wp_skip ?_
  refine (show Code.wp _ _ _ _ _ from ?_)
  refine wp_seq ?_
  refine wp_block ?_
  refine wp_seq ?_
  refine wp_region_L (W0 := w) ((g4, .cells #[.int .i64 100, .int .i64 845, .int .i64 1591, .int .i64 2336] 3 (0, 0)) :: (g3, .cells #[.int .i64 40, .int .i64 190] 41 (0, 0)) :: Kz3) (hW15) ?_
  refine lm (v := .int .i64 1) rfl rfl ?_
  refine lm (v := .pointer (some ⟨g4, 1, none⟩)) rfl rfl ?_
  refine lv (v := .int .i64 845) rfl rfl (yb_loadc (off := 1) rfl (by kernel_rfl) (.head _) Tryd.underlying3 rfl (by kernel_rfl)) ?_
  refine lm (v := .int .i64 1) rfl rfl ?_
  refine lm (v := .int .i64 845) rfl rfl ?_
  refine wpL_done (fun W16 hW16 => ?_)
  clear hW15
  refine (show Code.wp _ _ _ _ _ from ?_)
  refine wp_seq ?_
  refine wp_region_L (W0 := w) ((g4, .cells #[.int .i64 100, .int .i64 845, .int .i64 1591, .int .i64 2336] 3 (0, 0)) :: (g3, .cells #[.int .i64 40, .int .i64 190] 41 (0, 0)) :: Kz3) (hW16) ?_
  refine lv (v := .agg #[.int .i64 100, .int .i64 1491, .int .i64 2, .int .i64 60, .int .i64 90]) rfl rfl (yb_load (n := 5) (off := 0) rfl (by kernel_rfl) (.tail _ (.tail _ (hs3 _ (.head _)))) Tryd.underlying28 rfl size_tide (by simp) (by kernel_rfl)) ?_
  refine lm (v := .int .i64 1) rfl rfl ?_
  refine lv (v := .tuple #[.int .i64 845, .int .i64 0]) rfl rfl (yb_call (f := 29) (args := #[.agg #[.int .i64 100, .int .i64 1491, .int .i64 2, .int .i64 60, .int .i64 90], .int .i64 1]) (fun _ => by kernel_rfl) fun W hW => high_ex 1 845 (by omega) (by omega) (by decide +kernel) W) ?_
  refine lm (v := .tuple #[.int .i64 845, .int .i64 0]) rfl rfl ?_
  refine lm (v := .int .i64 845) rfl rfl ?_
  refine lm (v := .int .i64 0) rfl rfl ?_
  refine lm (v := .int .i64 845) rfl rfl ?_
  refine lm (v := .int .i64 0) rfl rfl ?_
  refine wpL_done (fun W17 hW17 => ?_)
  clear hW16
  refine (show Code.wp _ _ _ _ _ from ?_)
  refine wp_seq ?_
  refine wp_region_L (W0 := w) ((g4, .cells #[.int .i64 100, .int .i64 845, .int .i64 1591, .int .i64 2336] 3 (0, 0)) :: (g3, .cells #[.int .i64 40, .int .i64 190] 41 (0, 0)) :: Kz3) (hW17) ?_
  refine lm (v := .int .i64 845) rfl rfl ?_
  refine lm (v := .int .i64 845) rfl rfl ?_
  refine lm (v := .bool false) rfl rfl ?_
  refine lm (v := .bool false) rfl rfl ?_
  refine lm (v := .int .i64 0) rfl rfl ?_
  refine lm (v := .bool false) rfl rfl ?_
  refine lm (v := .bool false) rfl rfl ?_
  refine wpL_done (fun W18 hW18 => ?_)
  clear hW17
  refine (show Code.wp _ _ _ _ _ from ?_)
  refine wp_cond_false rfl ?_
  refine wp_skip ?_
  refine (show Code.wp _ _ _ _ _ from ?_)
  refine wp_region_L (W0 := w) ((g4, .cells #[.int .i64 100, .int .i64 845, .int .i64 1591, .int .i64 2336] 3 (0, 0)) :: (g3, .cells #[.int .i64 40, .int .i64 190] 41 (0, 0)) :: Kz3) (hW18) ?_
  refine lm (v := .int .i64 2) rfl rfl ?_
  refine lm (v := .int .i64 2) rfl rfl ?_
  refine wpL_done (fun W19 hW19 => ?_)
  clear hW18
  refine (show Code.wp _ _ _ _ _ from ?_)
  refine wp_seq ?_
  refine wp_region_L (W0 := w) ((g4, .cells #[.int .i64 100, .int .i64 845, .int .i64 1591, .int .i64 2336] 3 (0, 0)) :: (g3, .cells #[.int .i64 40, .int .i64 190] 41 (0, 0)) :: Kz3) (hW19) ?_
  refine lm (v := .bool true) rfl rfl ?_
  refine wpL_done (fun W20 hW20 => ?_)
  clear hW19
  refine (show Code.wp _ _ _ _ _ from ?_)
  refine wp_seq ?_
  refine wp_cond_true rfl ?_
  refine wp_skip ?_
  refine (show Code.wp _ _ _ _ _ from ?_)
  refine wp_seq ?_
  refine wp_block ?_
  refine wp_seq ?_
  refine wp_region_L (W0 := w) ((g4, .cells #[.int .i64 100, .int .i64 845, .int .i64 1591, .int .i64 2336] 3 (0, 0)) :: (g3, .cells #[.int .i64 40, .int .i64 190] 41 (0, 0)) :: Kz3) (hW20) ?_
  refine lm (v := .int .i64 2) rfl rfl ?_
  refine lm (v := .pointer (some ⟨g4, 2, none⟩)) rfl rfl ?_
  refine lv (v := .int .i64 1591) rfl rfl (yb_loadc (off := 2) rfl (by kernel_rfl) (.head _) Tryd.underlying3 rfl (by kernel_rfl)) ?_
  refine lm (v := .int .i64 2) rfl rfl ?_
  refine lm (v := .int .i64 1591) rfl rfl ?_
  refine wpL_done (fun W21 hW21 => ?_)
  clear hW20
  refine (show Code.wp _ _ _ _ _ from ?_)
  refine wp_seq ?_
  refine wp_region_L (W0 := w) ((g4, .cells #[.int .i64 100, .int .i64 845, .int .i64 1591, .int .i64 2336] 3 (0, 0)) :: (g3, .cells #[.int .i64 40, .int .i64 190] 41 (0, 0)) :: Kz3) (hW21) ?_
  refine lv (v := .agg #[.int .i64 100, .int .i64 1491, .int .i64 2, .int .i64 60, .int .i64 90]) rfl rfl (yb_load (n := 5) (off := 0) rfl (by kernel_rfl) (.tail _ (.tail _ (hs3 _ (.head _)))) Tryd.underlying28 rfl size_tide (by simp) (by kernel_rfl)) ?_
  refine lm (v := .int .i64 2) rfl rfl ?_
  refine lv (v := .tuple #[.int .i64 1591, .int .i64 0]) rfl rfl (yb_call (f := 29) (args := #[.agg #[.int .i64 100, .int .i64 1491, .int .i64 2, .int .i64 60, .int .i64 90], .int .i64 2]) (fun _ => by kernel_rfl) fun W hW => high_ex 2 1591 (by omega) (by omega) (by decide +kernel) W) ?_
  refine lm (v := .tuple #[.int .i64 1591, .int .i64 0]) rfl rfl ?_
  refine lm (v := .int .i64 1591) rfl rfl ?_
  refine lm (v := .int .i64 0) rfl rfl ?_
  refine lm (v := .int .i64 1591) rfl rfl ?_
  refine lm (v := .int .i64 0) rfl rfl ?_
  refine wpL_done (fun W22 hW22 => ?_)
  clear hW21
  refine (show Code.wp _ _ _ _ _ from ?_)
  refine wp_seq ?_
  refine wp_region_L (W0 := w) ((g4, .cells #[.int .i64 100, .int .i64 845, .int .i64 1591, .int .i64 2336] 3 (0, 0)) :: (g3, .cells #[.int .i64 40, .int .i64 190] 41 (0, 0)) :: Kz3) (hW22) ?_
  refine lm (v := .int .i64 1591) rfl rfl ?_
  refine lm (v := .int .i64 1591) rfl rfl ?_
  refine lm (v := .bool false) rfl rfl ?_
  refine lm (v := .bool false) rfl rfl ?_
  refine lm (v := .int .i64 0) rfl rfl ?_
  refine lm (v := .bool false) rfl rfl ?_
  refine lm (v := .bool false) rfl rfl ?_
  refine wpL_done (fun W23 hW23 => ?_)
  clear hW22
  refine (show Code.wp _ _ _ _ _ from ?_)
  refine wp_cond_false rfl ?_
  refine wp_skip ?_
  refine (show Code.wp _ _ _ _ _ from ?_)
  refine wp_region_L (W0 := w) ((g4, .cells #[.int .i64 100, .int .i64 845, .int .i64 1591, .int .i64 2336] 3 (0, 0)) :: (g3, .cells #[.int .i64 40, .int .i64 190] 41 (0, 0)) :: Kz3) (hW23) ?_
  refine lm (v := .int .i64 3) rfl rfl ?_
  refine lm (v := .int .i64 3) rfl rfl ?_
  refine wpL_done (fun W24 hW24 => ?_)
  clear hW23
  refine (show Code.wp _ _ _ _ _ from ?_)
  refine wp_seq ?_
  refine wp_region_L (W0 := w) ((g4, .cells #[.int .i64 100, .int .i64 845, .int .i64 1591, .int .i64 2336] 3 (0, 0)) :: (g3, .cells #[.int .i64 40, .int .i64 190] 41 (0, 0)) :: Kz3) (hW24) ?_
  refine lm (v := .bool true) rfl rfl ?_
  refine wpL_done (fun W25 hW25 => ?_)
  clear hW24
  refine (show Code.wp _ _ _ _ _ from ?_)
  refine wp_seq ?_
  refine wp_cond_true rfl ?_
  refine wp_skip ?_
  refine (show Code.wp _ _ _ _ _ from ?_)
  refine wp_seq ?_
  refine wp_block ?_
  refine wp_seq ?_
  refine wp_region_L (W0 := w) ((g4, .cells #[.int .i64 100, .int .i64 845, .int .i64 1591, .int .i64 2336] 3 (0, 0)) :: (g3, .cells #[.int .i64 40, .int .i64 190] 41 (0, 0)) :: Kz3) (hW25) ?_
  refine lm (v := .int .i64 3) rfl rfl ?_
  refine lm (v := .pointer (some ⟨g4, 3, none⟩)) rfl rfl ?_
  refine lv (v := .int .i64 2336) rfl rfl (yb_loadc (off := 3) rfl (by kernel_rfl) (.head _) Tryd.underlying3 rfl (by kernel_rfl)) ?_
  refine lm (v := .int .i64 3) rfl rfl ?_
  refine lm (v := .int .i64 2336) rfl rfl ?_
  refine wpL_done (fun W26 hW26 => ?_)
  clear hW25
  refine (show Code.wp _ _ _ _ _ from ?_)
  refine wp_seq ?_
  refine wp_region_L (W0 := w) ((g4, .cells #[.int .i64 100, .int .i64 845, .int .i64 1591, .int .i64 2336] 3 (0, 0)) :: (g3, .cells #[.int .i64 40, .int .i64 190] 41 (0, 0)) :: Kz3) (hW26) ?_
  refine lv (v := .agg #[.int .i64 100, .int .i64 1491, .int .i64 2, .int .i64 60, .int .i64 90]) rfl rfl (yb_load (n := 5) (off := 0) rfl (by kernel_rfl) (.tail _ (.tail _ (hs3 _ (.head _)))) Tryd.underlying28 rfl size_tide (by simp) (by kernel_rfl)) ?_
  refine lm (v := .int .i64 3) rfl rfl ?_
  refine lv (v := .tuple #[.int .i64 2336, .int .i64 0]) rfl rfl (yb_call (f := 29) (args := #[.agg #[.int .i64 100, .int .i64 1491, .int .i64 2, .int .i64 60, .int .i64 90], .int .i64 3]) (fun _ => by kernel_rfl) fun W hW => high_ex 3 2336 (by omega) (by omega) (by decide +kernel) W) ?_
  refine lm (v := .tuple #[.int .i64 2336, .int .i64 0]) rfl rfl ?_
  refine lm (v := .int .i64 2336) rfl rfl ?_
  refine lm (v := .int .i64 0) rfl rfl ?_
  refine lm (v := .int .i64 2336) rfl rfl ?_
  refine lm (v := .int .i64 0) rfl rfl ?_
  refine wpL_done (fun W27 hW27 => ?_)
  clear hW26
  refine (show Code.wp _ _ _ _ _ from ?_)
  refine wp_seq ?_
  refine wp_region_L (W0 := w) ((g4, .cells #[.int .i64 100, .int .i64 845, .int .i64 1591, .int .i64 2336] 3 (0, 0)) :: (g3, .cells #[.int .i64 40, .int .i64 190] 41 (0, 0)) :: Kz3) (hW27) ?_
  refine lm (v := .int .i64 2336) rfl rfl ?_
  refine lm (v := .int .i64 2336) rfl rfl ?_
  refine lm (v := .bool false) rfl rfl ?_
  refine lm (v := .bool false) rfl rfl ?_
  refine lm (v := .int .i64 0) rfl rfl ?_
  refine lm (v := .bool false) rfl rfl ?_
  refine lm (v := .bool false) rfl rfl ?_
  refine wpL_done (fun W28 hW28 => ?_)
  clear hW27
  refine (show Code.wp _ _ _ _ _ from ?_)
  refine wp_cond_false rfl ?_
  refine wp_skip ?_
  refine (show Code.wp _ _ _ _ _ from ?_)
  refine wp_region_L (W0 := w) ((g4, .cells #[.int .i64 100, .int .i64 845, .int .i64 1591, .int .i64 2336] 3 (0, 0)) :: (g3, .cells #[.int .i64 40, .int .i64 190] 41 (0, 0)) :: Kz3) (hW28) ?_
  refine lm (v := .int .i64 4) rfl rfl ?_
  refine lm (v := .int .i64 4) rfl rfl ?_
  refine wpL_done (fun W29 hW29 => ?_)
  clear hW28
  refine (show Code.wp _ _ _ _ _ from ?_)
  refine wp_seq ?_
  refine wp_region_L (W0 := w) ((g4, .cells #[.int .i64 100, .int .i64 845, .int .i64 1591, .int .i64 2336] 3 (0, 0)) :: (g3, .cells #[.int .i64 40, .int .i64 190] 41 (0, 0)) :: Kz3) (hW29) ?_
  refine lm (v := .bool false) rfl rfl ?_
  refine wpL_done (fun W30 hW30 => ?_)
  clear hW29
  refine (show Code.wp _ _ _ _ _ from ?_)
  refine wp_seq ?_
  refine wp_cond_false rfl ?_
  refine wp_exit ?_
  refine (show Code.wp _ _ _ _ _ from ?_)
  refine wp_seq ?_
  refine wp_region_L (W0 := w) ((g4, .cells #[.int .i64 100, .int .i64 845, .int .i64 1591, .int .i64 2336] 3 (0, 0)) :: (g3, .cells #[.int .i64 40, .int .i64 190] 41 (0, 0)) :: Kz3) (hW30) ?_
  refine lv (v := .tuple #[strV [49, 32, 77, 111, 110, 32, 48, 48, 58, 48, 48], .int .i64 0]) rfl rfl (yb_call (f := 35) (args := #[.int .i64 10080]) (fun _ => by kernel_rfl) fun W hW => text_e1 W (HE.out.keep hW.1)) ?_
  refine lm (v := .tuple #[strV [49, 32, 77, 111, 110, 32, 48, 48, 58, 48, 48], .int .i64 0]) rfl rfl ?_
  refine lm (v := strV [49, 32, 77, 111, 110, 32, 48, 48, 58, 48, 48]) rfl rfl ?_
  refine lm (v := .int .i64 0) rfl rfl ?_
  refine lm (v := strV [49, 32, 77, 111, 110, 32, 48, 48, 58, 48, 48]) rfl rfl ?_
  refine lm (v := .int .i64 0) rfl rfl ?_
  refine wpL_done (fun W31 hW31 => ?_)
  clear hW30
  refine (show Code.wp _ _ _ _ _ from ?_)
  refine wp_seq ?_
  refine wp_region_L (W0 := w) ((g4, .cells #[.int .i64 100, .int .i64 845, .int .i64 1591, .int .i64 2336] 3 (0, 0)) :: (g3, .cells #[.int .i64 40, .int .i64 190] 41 (0, 0)) :: Kz3) (hW31) ?_
  refine lv (v := .tuple #[strV [48, 32, 83, 117, 110, 32, 48, 56, 58, 48, 53], .int .i64 0]) rfl rfl (yb_call (f := 35) (args := #[.int .i64 9125]) (fun _ => by kernel_rfl) fun W hW => text_e2 W (HE.out.keep hW.1)) ?_
  refine lm (v := .tuple #[strV [48, 32, 83, 117, 110, 32, 48, 56, 58, 48, 53], .int .i64 0]) rfl rfl ?_
  refine lm (v := strV [48, 32, 83, 117, 110, 32, 48, 56, 58, 48, 53]) rfl rfl ?_
  refine lm (v := .int .i64 0) rfl rfl ?_
  refine lm (v := strV [48, 32, 83, 117, 110, 32, 48, 56, 58, 48, 53]) rfl rfl ?_
  refine lm (v := .int .i64 0) rfl rfl ?_
  refine wpL_done (fun W32 hW32 => ?_)
  clear hW31
  refine (show Code.wp _ _ _ _ _ from ?_)
  refine wp_seq ?_
  refine wp_region_L (W0 := w) ((g4, .cells #[.int .i64 100, .int .i64 845, .int .i64 1591, .int .i64 2336] 3 (0, 0)) :: (g3, .cells #[.int .i64 40, .int .i64 190] 41 (0, 0)) :: Kz3) (hW32) ?_
  refine lv (v := .tuple #[.int .i64 9125, .int .i64 0]) rfl rfl (yb_call (f := 36) (args := #[strV [48, 32, 83, 117, 110, 32, 48, 56, 58, 48, 53]]) (fun _ => by kernel_rfl) fun W hW => read_e0 W (HE.out.keep hW.1)) ?_
  refine lm (v := .tuple #[.int .i64 9125, .int .i64 0]) rfl rfl ?_
  refine lm (v := .int .i64 9125) rfl rfl ?_
  refine lm (v := .int .i64 0) rfl rfl ?_
  refine lm (v := .int .i64 9125) rfl rfl ?_
  refine lm (v := .int .i64 0) rfl rfl ?_
  refine wpL_done (fun W33 hW33 => ?_)
  clear hW32
  refine (show Code.wp _ _ _ _ _ from ?_)
  refine wp_seq ?_
  refine wp_region_L (W0 := w) ((g4, .cells #[.int .i64 100, .int .i64 845, .int .i64 1591, .int .i64 2336] 3 (0, 0)) :: (g3, .cells #[.int .i64 40, .int .i64 190] 41 (0, 0)) :: Kz3) (hW33) ?_
  refine lv (v := .tuple #[.int .i64 0, .int .i64 20]) rfl rfl (yb_call (f := 36) (args := #[strV [49, 32, 77, 111, 110, 32, 48, 58, 48, 48]]) (fun _ => by kernel_rfl) fun W hW => Read_err [49, 32, 77, 111, 110, 32, 48, 58, 48, 48] (by decide) no_text1 W (HE.out.keep hW.1)) ?_
  refine lm (v := .tuple #[.int .i64 0, .int .i64 20]) rfl rfl ?_
  refine lm (v := .int .i64 0) rfl rfl ?_
  refine lm (v := .int .i64 20) rfl rfl ?_
  refine lm (v := .int .i64 0) rfl rfl ?_
  refine lm (v := .int .i64 20) rfl rfl ?_
  refine wpL_done (fun W34 hW34 => ?_)
  clear hW33
  refine (show Code.wp _ _ _ _ _ from ?_)
  refine wp_seq ?_
  refine wp_region_L (W0 := w) ((g4, .cells #[.int .i64 100, .int .i64 845, .int .i64 1591, .int .i64 2336] 3 (0, 0)) :: (g3, .cells #[.int .i64 40, .int .i64 190] 41 (0, 0)) :: Kz3) (hW34) ?_
  refine lv (v := .tuple #[.int .i64 0, .int .i64 20]) rfl rfl (yb_call (f := 36) (args := #[strV [48, 49, 32, 77, 111, 110, 32, 48, 48, 58, 48, 48]]) (fun _ => by kernel_rfl) fun W hW => Read_err [48, 49, 32, 77, 111, 110, 32, 48, 48, 58, 48, 48] (by decide) (fun t _ => no_text2 t) W (HE.out.keep hW.1)) ?_
  refine lm (v := .tuple #[.int .i64 0, .int .i64 20]) rfl rfl ?_
  refine lm (v := .int .i64 0) rfl rfl ?_
  refine lm (v := .int .i64 20) rfl rfl ?_
  refine lm (v := .int .i64 0) rfl rfl ?_
  refine lm (v := .int .i64 20) rfl rfl ?_
  refine wpL_done (fun W35 hW35 => ?_)
  clear hW34
  refine (show Code.wp _ _ _ _ _ from ?_)
  refine wp_seq ?_
  refine wp_region_L (W0 := w) ((g4, .cells #[.int .i64 100, .int .i64 845, .int .i64 1591, .int .i64 2336] 3 (0, 0)) :: (g3, .cells #[.int .i64 40, .int .i64 190] 41 (0, 0)) :: Kz3) (hW35) ?_
  refine lv (v := .tuple #[.int .i64 0, .int .i64 20]) rfl rfl (yb_call (f := 36) (args := #[strV [49, 32, 77, 111, 110, 32, 50, 52, 58, 48, 48]]) (fun _ => by kernel_rfl) fun W hW => Read_err [49, 32, 77, 111, 110, 32, 50, 52, 58, 48, 48] (by decide) (fun t _ => no_text3 t) W (HE.out.keep hW.1)) ?_
  refine lm (v := .tuple #[.int .i64 0, .int .i64 20]) rfl rfl ?_
  refine lm (v := .int .i64 0) rfl rfl ?_
  refine lm (v := .int .i64 20) rfl rfl ?_
  refine lm (v := .int .i64 0) rfl rfl ?_
  refine lm (v := .int .i64 20) rfl rfl ?_
  refine wpL_done (fun W36 hW36 => ?_)
  clear hW35
  refine (show Code.wp _ _ _ _ _ from ?_)
  refine wp_seq ?_
  refine wp_region_L (W0 := w) ((g4, .cells #[.int .i64 100, .int .i64 845, .int .i64 1591, .int .i64 2336] 3 (0, 0)) :: (g3, .cells #[.int .i64 40, .int .i64 190] 41 (0, 0)) :: Kz3) (hW36) ?_
  refine lm (v := .int .i64 0) rfl rfl ?_
  refine lm (v := .int .i64 0) rfl rfl ?_
  refine lm (v := .int .i64 0) rfl rfl ?_
  refine lm (v := .int .i64 0) rfl rfl ?_
  refine lm (v := .int .i64 0) rfl rfl ?_
  refine lm (v := .bool true) rfl rfl ?_
  refine lm (v := .bool true) rfl rfl ?_
  refine lm (v := strV [49, 32, 77, 111, 110, 32, 48, 48, 58, 48, 48]) rfl rfl ?_
  refine lp (v := .bool true) rfl rfl (run_bin rfl (vx := strV [49, 32, 77, 111, 110, 32, 48, 48, 58, 48, 48]) (vy := strV [49, 32, 77, 111, 110, 32, 48, 48, 58, 48, 48]) (by kernel_rfl) (by kernel_rfl) fun w => run_eqS (beq_self_eq_true _) w) ?_
  refine lm (v := .bool true) rfl rfl ?_
  refine lm (v := .bool true) rfl rfl ?_
  refine lm (v := strV [48, 32, 83, 117, 110, 32, 48, 56, 58, 48, 53]) rfl rfl ?_
  refine lp (v := .bool true) rfl rfl (run_bin rfl (vx := strV [48, 32, 83, 117, 110, 32, 48, 56, 58, 48, 53]) (vy := strV [48, 32, 83, 117, 110, 32, 48, 56, 58, 48, 53]) (by kernel_rfl) (by kernel_rfl) fun w => run_eqS (beq_self_eq_true _) w) ?_
  refine lm (v := .bool true) rfl rfl ?_
  refine lm (v := .bool true) rfl rfl ?_
  refine lm (v := .int .i64 9125) rfl rfl ?_
  refine lm (v := .bool true) rfl rfl ?_
  refine lm (v := .bool true) rfl rfl ?_
  refine lm (v := .bool true) rfl rfl ?_
  refine lm (v := .int .i64 20) rfl rfl ?_
  refine lm (v := .bool true) rfl rfl ?_
  refine lm (v := .bool true) rfl rfl ?_
  refine lm (v := .bool true) rfl rfl ?_
  refine lm (v := .int .i64 20) rfl rfl ?_
  refine lm (v := .bool true) rfl rfl ?_
  refine lm (v := .bool true) rfl rfl ?_
  refine lm (v := .bool true) rfl rfl ?_
  refine lm (v := .int .i64 20) rfl rfl ?_
  refine lm (v := .bool true) rfl rfl ?_
  refine lm (v := .bool true) rfl rfl ?_
  refine lm (v := .bool true) rfl rfl ?_
  refine wpL_done (fun W37 hW37 => ?_)
  clear hW36
  refine (show Code.wp _ _ _ _ _ from ?_)
  refine wp_ret ?_
  try simp only [inBlock_ret, then_ret]
  go_ret
  exact ⟨rfl, hW37.1⟩
end Go.Proofs.YtjmcelgdjpdacaaDoor
/- From the row's condition (the tables laid, the world's shape) to what the proofs ask of the package-level variables; bytes that came in. -/
namespace Go.Proofs.YtjmcelgdjpdacaaDoor
open Go.ChangeShapes Go.WideShapes Go.ChangeAt Go.RowKit Tw
theorem of_wf {k : IntKind} {n : Int} (h : (Lit.int k n).wf = true) : k.min ≤ n ∧ n ≤ k.max := by simpa [Lit.wf] using h
theorem own : ownKnob Tryd.prog.godebug = none := by kernel_rfl
theorem laidOut : laidOutB Tryd.prog = true := by kernel_rfl
def laid6 : List (String × DataW Unit) := [("math/bits.deBruijn32tab", Rows.laid_math_bits_deBruijn32tab), ("math/bits.deBruijn64tab", Rows.laid_math_bits_deBruijn64tab), ("internal/strconv.uint64pow10", Rows.laid_internal_strconv_uint64pow10), ("strconv.ErrRange", Rows.laid_strconv_ErrRange), ("strconv.ErrSyntax", Rows.laid_strconv_ErrSyntax), ("twistlock/clock.weekdays", Rows.laid_twistlock_clock_weekdays)]
set_option maxRecDepth 100000 in
theorem door_met (os : Os) (args : Array Value) : laidMetH Tryd.prog laid6 ((World.doorLaid Tryd.prog 1000 os).forCall (fun _ _ => 0) ⟨#[], args, []⟩).memory :=
  laidMetH_of_parts3 (fuel := 8) (laidMet_of_run' 8 (by kernel_rfl) (by kernel_rfl)) (by kernel_rfl) (by kernel_rfl)
theorem gPow : Tryd.prog.globalNamed "internal/strconv.uint64pow10" = some 2 := by kernel_rfl
theorem cells_of_strs {H : Type} {enc : TypeId × Value → H} {P : Program} {w : World} {base : Nat} {sp : Nat → Bool} {held : Bool} {fuel : Nat} {t e : TypeId} {n : Nat} {cs : List Value} {zs : List (List UInt8)} {p : List MemPlace}
    (ht : P.underlying t = some (.array n e)) (he : P.underlying e = some .string) (hce : P.cellsOf e = 1) (hct : P.cellsOf t = n)
    (h : DataW.trod enc P w base sp held fuel t cs = some (.agg (zs.map fun z => .lit (.string z)), p)) : cs = zs.map fun z => Value.string ⟨z.toArray⟩ := by
  cases fuel with
  | zero => simp [DataW.trod] at h
  | succ fuel =>
    simp only [DataW.trod, ht, hce, hct, Nat.mul_one] at h
    split at h
    · rename_i hl
      obtain ⟨xs, hm, hx⟩ := Option.map_eq_some_iff.1 h
      have hxs : xs.map (·.1) = zs.map fun z => (DataW.lit (.string z) : DataW H) := by
        have := congrArg Prod.fst hx
        simpa using this
      have hxl : xs.length = n := by simpa using Lib.mapM_length hm
      have hzl : zs.length = n := by
        have := congrArg List.length hxs
        simp at this
        omega
      apply List.ext_getElem?
      intro i
      by_cases hi : i < n
      · obtain ⟨b, hb, hf⟩ := Lib.mapM_at hm i i (by simp [hi])
        obtain ⟨z, hc, rfl, _⟩ := DataW.trod_string he hf
        have h1 : cs[i]? = some (.string z) := by
          have := congrArg (·[0]?) hc
          simpa [List.getElem?_take, List.getElem?_drop] using this
        have h2 : (xs.map (·.1))[i]? = some (DataW.lit (.string z.data.toList) : DataW H) := by simp [hb]
        rw [hxs] at h2
        simp only [List.getElem?_map, Option.map_eq_some_iff, DataW.lit.injEq, Lit.string.injEq] at h2
        obtain ⟨z', hz', rfl⟩ := h2
        simp [h1, hz']
      · rw [List.getElem?_eq_none (by omega), List.getElem?_eq_none (by simp; omega)]
    · cases h
theorem star : "*" ++ "errors.errorString" = "*errors.errorString" := by decide +kernel
theorem rowErr (u : TypeId) (h : Tryd.prog.typeName? 3 u = some "*errors.errorString") : u = 153 :=
  typeName_ptr_named (nm := "errors.errorString") (by rw [star]; kernel_rfl) (by kernel_rfl) (by decide) u (by rw [star]; exact h)
theorem env_of {W : World} (h0 : laidMetH Tryd.prog laid6 W) (hs : W.ShapedOpen Tryd.prog) : Env W := by
  have h : laidMet Tryd.prog laid6 W := by rw [MakeChecks.laidMetH_plain _ _ _ (by kernel_rfl)] at h0; exact h0
  have h2 := h.tail.tail
  have h3 := h2.tail
  have h4 := h3.tail
  have h5 := h4.tail
  refine ⟨Lib.tabIs_of_head (rest := laid6.drop 3) gPow (by kernel_rfl) Tryd.underlying137 Tryd.underlying123 (by kernel_rfl) (by kernel_rfl) h2, cell_of_shapedOpen_int (t := 3) (zero := #[.int .i64 0]) hs (of_decide_eq_true (by kernel_rfl)) (by kernel_rfl) rfl (by kernel_rfl) (by kernel_rfl) Tryd.underlying3, ?_, ?_, ?_⟩
  · obtain ⟨ps, ⟨g, t, cs, f, p, q, hg, ht, hv, hd, _, _⟩, _⟩ := h5
    obtain rfl := Option.some.inj (gDays.symm.trans hg)
    obtain rfl := Option.some.inj ((show (Tryd.prog.globals[0]?).map (·.type) = some 104 by kernel_rfl).symm.trans ht)
    have hc := cells_of_strs (zs := [dayL 0, dayL 1, dayL 2, dayL 3, dayL 4, dayL 5, dayL 6]) Tryd.underlying104 Tryd.underlying9 (by kernel_rfl) (by kernel_rfl) hd
    rw [hv]
    congr 1
    obtain ⟨l⟩ := cs
    exact congrArg Array.mk hc
  · obtain ⟨a, s, hv, _⟩ := laid_sentinel h4 gSyn (by kernel_rfl) Tryd.underlying116 rowErr Tryd.underlying153 Tryd.underlying155 rfl rfl Tryd.underlying9 (by kernel_rfl) (by kernel_rfl)
    exact ⟨_, _, hv⟩
  · obtain ⟨a, s, hv, _⟩ := laid_sentinel h3 gRng (by kernel_rfl) Tryd.underlying116 rowErr Tryd.underlying153 Tryd.underlying155 rfl rfl Tryd.underlying9 (by kernel_rfl) (by kernel_rfl)
    exact ⟨_, _, hv⟩
theorem handed_and_shaped {H : Type} {enc : TypeId × Value → H} {a : Assume} {C : Checked} {os : Os} {f : FuncId} {fn : Func} {s : ChangeSpec} {conds : List PathCond} {apart fresh handsOn again : Bool} {X : World → Prop}
    (hX : ∀ (w w' : World), w.heap = w'.heap → X w → X w')
    (own : ownKnob C.prog.godebug = none) (started : os.Started) (noInit : C.prog.inits.idxOf? f = none) (hfn : C.prog.funcs[f]? = some fn)
    (witness : ∃ (w : World) (tape : Tape) (i : Input), w.os = os ∧ (w.forCall tape i).Shaped C.prog ∧ i.vars = [] ∧ Input.okWide C.prog (w.forCall tape i) .any w.heap.size f i ∧
      ((s.pre enc C.prog fn conds apart (w.forCall tape i).memory i.args ∧ X (w.forCall tape i).memory) ∧ sizedMet enc C.prog fn (OpenSpec.ofChange s) apart (w.forCall tape i).memory i.args) ∧ a.holds C.prog (lone (Frame.enter C.prog f i.args .normal) [] (w.forCall tape i)))
    (contract : ∀ (W : World) (base : Nat) (args : Array Value) (ds gs : List (DataW H)) (before : List MemPlace),
      (∀ (j : Nat) t v, fn.params[j]? = some t → args[j]? = some v → Value.okWide C.prog W .any base t v) →
      DataW.Whole enc C.prog fn.params.toList s.vars apart W args.toList ds gs before → X W → W.ShapedOpen C.prog →
      Calls C.prog f args W fun e W' => ∃ v, e = .returned v ∧ s.post enc C.prog fn apart fresh handsOn again W args v W') :
    ReturnsInHanded a C os f .any (fun w args => (s.pre enc C.prog fn conds apart w args ∧ X w) ∧ sizedMet enc C.prog fn (OpenSpec.ofChange s) apart w args) (s.post enc C.prog fn apart fresh handsOn again) := by
  refine returnsInHanded_of_calls own started noInit witness fun w tape i _ hsh _ hok hpre _ => ?_
  obtain ⟨_, _, _, fn', hfn', _, _, _, _, hval⟩ := hok
  obtain rfl : fn' = fn := Option.some.inj (hfn'.symm.trans hfn)
  obtain ⟨⟨⟨ds, gs, before, hw, _⟩, hx⟩, _⟩ := hpre
  refine (contract (w.forCall tape i) w.heap.size i.args ds gs before hval (DataW.Whole.of_heap (w' := w.forCall tape i) (by rfl) hw) (hX _ _ (by rfl) hx) hsh).mono fun e W' ⟨v, he, hp⟩ => ?_
  subst he
  exact ChangeSpec.post_blind hp
set_option maxRecDepth 100000 in
theorem open_bytes {H : Type} {enc : TypeId × Value → H} {W : World} {v0 : Value} {d0 : DataW H} {p0 : List MemPlace} {base : Nat} (hv : Value.okWide Tryd.prog W .any base 32 v0)
    (h0 : DataW.Trod enc Tryd.prog W 0 (fun _ => true) true 32 v0 d0 p0) : ∃ (p : Option Addr) (cap : Nat) (l : List Int), v0 = .slice p l.length cap ∧ BL W p l := by
  obtain ⟨a0, len0, cap0, rfl⟩ := okWide_slice Tryd.underlying32 hv
  obtain ⟨fuel, hf⟩ := h0
  rcases open_ints Tryd.underlying32 Tryd.underlying5 (by kernel_rfl) hf with ⟨hcs, _⟩ | ⟨x, len, cap, zs, hcs, _, hl, hm, hz, _, hcell, hwz⟩
  · simp [Value.cells] at hcs
    obtain ⟨rfl, rfl, rfl⟩ := hcs
    exact ⟨none, 0, [], rfl, ⟨(fun _ h => by cases h), .inl rfl⟩⟩
  · simp [Value.cells] at hcs
    obtain ⟨rfl, rfl, rfl⟩ := hcs
    have hzl : zs.length = cap0 := by simpa using hz
    have htl : (zs.take len0).length = len0 := by rw [List.length_take]; omega
    refine ⟨some x, cap0, zs.take len0, by rw [htl], ⟨fun y hy => ?_, ?_⟩⟩
    · have := of_wf (hwz y (List.mem_of_mem_take hy))
      exact this
    · by_cases h0 : len0 = 0
      · exact .inl (by rw [h0]; simp)
      · obtain ⟨b, off, spot⟩ := x
        have hc := hcell 0 (by omega)
        have hspot : spot = none := by simpa [Addr.add] using World.cell?_spot hc
        subst hspot
        refine .inr ⟨b, off, rfl, fun i y hy => ?_⟩
        obtain ⟨hi, rfl⟩ := List.getElem?_eq_some_iff.1 hy
        rw [htl] at hi
        have h1 := hcell i (by omega)
        have hadd : (⟨b, off, none⟩ : Addr).add i = ⟨b, off + i, none⟩ := by unfold Addr.add; split <;> simp_all
        rw [hadd] at h1
        rw [h1, List.getElem_take]
        simp [List.getD, show i < zs.length by omega]
end Go.Proofs.YtjmcelgdjpdacaaDoor
