import Derived.Test.YtbceajgipmjmlaaDoorG02
import Derived.Test.YtbceajgipmjmlaaDoorG01
import Derived.Laws.Rows
import Derived.Lib.LaidTab
import Derived.LaidByText
import Derived.Test.YtbceajgipmjmlaaDoorCards
import Derived.Test.YtbceajgipmjmlaaDoorTie
import Derived.WalkKit
import Derived.ProofKit
import Derived.OpenShut
import Derived.LaidMore
import Derived.SizedLaws
import Derived.ChangeOld
import Derived.ChangeMaps5
import Derived.Shelf.Vars
import Derived.Stop.Joined
import Derived.Stop.LaidErr
import Derived.SevenTiedAt
/- Part of the proof: Q9, QA, Sq, QR, Sj. -/
set_option linter.unusedVariables false
set_option linter.unusedSimpArgs false
set_option linter.unusedSectionVars false
namespace Go.Proofs.YtbceajgipmjmlaaDoor
open Go Go.RowKit Tw
def pickN (x : Int) (m : Nat) : Nat := (x % (m : Int)).toNat
theorem pick_is {x t : Int} {m : Nat} (hm : 1 ≤ m) (ht : Int.tmod x (m : Int) = t) : (0 ≤ t → t = ((pickN x m : Nat) : Int)) ∧ (t < 0 → t + (m : Int) = ((pickN x m : Nat) : Int)) ∧ t < m ∧ -(m : Int) < t := by
  have h1 := Int.tmod_eq_emod (a := x) (b := (m : Int))
  have h2 := Int.emod_nonneg x (show (m : Int) ≠ 0 by omega)
  have h3 := Int.emod_lt_of_pos x (show (0 : Int) < (m : Int) by omega)
  have h5 := Int.lt_tmod_of_pos x (show (0 : Int) < (m : Int) by omega)
  have h6 := Int.tmod_lt_of_pos x (show (0 : Int) < (m : Int) by omega)
  unfold pickN
  rw [ht] at h1 h5 h6
  have hn : ((m : Int).natAbs : Int) = m := by simp
  rw [Int.toNat_of_nonneg h2]
  split at h1
  · refine ⟨fun _ => by omega, fun _ => by omega, by omega, by omega⟩
  · refine ⟨fun _ => by omega, fun _ => by omega, by omega, by omega⟩
theorem pickN_lt {x : Int} {m : Nat} (hm : 1 ≤ m) : pickN x m < m := by
  have h3 := Int.emod_lt_of_pos x (show (0 : Int) < (m : Int) by omega)
  have h2 := Int.emod_nonneg x (show (m : Int) ≠ 0 by omega)
  unfold pickN
  omega
theorem Check_ok {l : List UInt8} (h : fitB l 10 = true) (W : World) : Calls Tryd.prog 24 #[strV l] W fun e w' => e = .returned (.tuple #[.int .u8 ((chkN l : Nat) : Int), .int .i64 0]) ∧ Below W.heap.size W w' := by
  have h1 := Check_any l W
  rw [if_pos h] at h1
  exact h1
theorem Check_no {l : List UInt8} (h : fitB l 10 = false) (W : World) : Calls Tryd.prog 24 #[strV l] W fun e w' => e = .returned (.tuple #[.int .u8 0, .int .i64 30]) ∧ Below W.heap.size W w' := by
  have h1 := Check_any l W
  rw [if_neg (by rw [h]; decide)] at h1
  exact h1
theorem fitF_app (l m : List UInt8) : ∀ i, fitF i (l ++ m) = (fitF i l && fitF (i + l.length) m) := by
  induction l with
  | nil => intro i; simp [fitF]
  | cons b l ih => intro i; simp only [List.cons_append, fitF, ih, List.length_cons, Bool.and_assoc]; rw [show i + 1 + l.length = i + (l.length + 1) from by omega]
theorem fitF_snoc {s : List UInt8} {b : UInt8} (h : fitF 0 s = true) (hb : mayB s.length b = true) : fitF 0 (s ++ [b]) = true := by rw [fitF_app, h]; simp [fitF, hb]
theorem cap_ok {n : Nat} {i : Nat} (hi : i < 3) : mayB i (UInt8.ofNat (65 + n % 26)) = true ∧ 65 + n % 26 = (UInt8.ofNat (65 + n % 26)).toNat := by
  have e : 65 + n % 26 = (UInt8.ofNat (65 + n % 26)).toNat := by rw [UInt8.toNat_ofNat']; omega
  refine ⟨?_, e⟩
  unfold mayB isCap
  rw [if_pos hi, ← e]
  simp
  omega
theorem dig_ok {n : Nat} {i : Nat} (hi : ¬ i < 3) (hi2 : ¬ i = 3) : mayB i (UInt8.ofNat (48 + n % 10)) = true ∧ 48 + n % 10 = (UInt8.ofNat (48 + n % 10)).toNat := by
  have e : 48 + n % 10 = (UInt8.ofNat (48 + n % 10)).toNat := by rw [UInt8.toNat_ofNat']; omega
  refine ⟨?_, e⟩
  unfold mayB isDig
  rw [if_neg hi, if_neg hi2, ← e]
  simp
  omega
theorem cat_ok {n : Nat} {b : UInt8} (h : ([85, 74, 90] : List UInt8)[n % 3]? = some b) : mayB 3 b = true := by
  have hn : n % 3 < 3 := Nat.mod_lt _ (by omega)
  generalize n % 3 = k at *
  rcases k with _ | _ | _ | k
  · simp at h; subst h; rfl
  · simp at h; subst h; rfl
  · simp at h; subst h; rfl
  · omega
set_option maxRecDepth 100000 in
set_option maxHeartbeats 4000000 in
theorem Pick_any (x : Int) (hx : -9223372036854775808 ≤ x ∧ x ≤ 9223372036854775807) (m : Nat) (hm : 1 ≤ m) (hm2 : m ≤ 1000000) (w : World) : Calls Tryd.prog 19 #[.int .i64 x, .int .i64 ((m : Nat) : Int)] w fun e w' => e = .returned (.int .i64 (((pickN x m) : Nat) : Int)) ∧ Below w.heap.size w w' := by
  obtain ⟨t, ht⟩ : ∃ t, Int.tmod x (m : Int) = t := ⟨_, rfl⟩
  obtain ⟨k1, k2, k3, k4⟩ := pick_is hm ht
  go_enter Tryd.func19, Tryd.ntmps19
  refine wp_seq ?_
  refine wp_region_L (W0 := w) [] (KS.start w) ?_
  refine lm (v := .int .i64 0) rfl rfl ?_
  refine wpL_done (fun W1 hW1 => ?_)
  refine (show Code.wp _ _ _ _ _ from ?_)
  refine wp_seq ?_
  refine wp_seq ?_
  refine wp_region_L (W0 := w) [] (hW1) ?_
  refine lm (v := .int .i64 ((m : Nat) : Int)) rfl rfl ?_
  refine lp (v := .bool false) rfl rfl (run_bin rfl (vx := (.int .i64 ((m : Nat) : Int))) (vy := (.int .i64 ((1 : Nat) : Int))) (by kernel_rfl) (by kernel_rfl) fun w => bn_lss (decide_eq_false (by omega)) w) ?_
  refine wpL_done (fun W2 hW2 => ?_)
  refine (show Code.wp _ _ _ _ _ from ?_)
  refine wp_cond_false rfl ?_
  refine wp_skip ?_
  refine (show Code.wp _ _ _ _ _ from ?_)
  refine wp_seq ?_
  refine wp_region_L (W0 := w) [] (hW2) ?_
  refine lm (v := .int .i64 x) rfl rfl ?_
  refine lm (v := .int .i64 ((m : Nat) : Int)) rfl rfl ?_
  refine lp (v := .int .i64 t) rfl rfl (run_bin rfl (vx := (.int .i64 x)) (vy := (.int .i64 ((m : Nat) : Int))) (by kernel_rfl) (by kernel_rfl) fun w => bi_rem (z := t) ht (by omega) w) ?_
  refine lm (v := .int .i64 t) rfl rfl ?_
  refine wpL_done (fun W3 hW3 => ?_)
  refine (show Code.wp _ _ _ _ _ from ?_)
  refine wp_seq ?_
  refine wp_seq ?_
  refine wp_region_L (W0 := w) [] (hW3) ?_
  refine lm (v := .int .i64 t) rfl rfl ?_
  refine lp (v := .bool (decide (t < 0))) rfl rfl (run_bin rfl (vx := (.int .i64 t)) (vy := (.int .i64 0)) (by kernel_rfl) (by kernel_rfl) fun w => bi_lss rfl w) ?_
  refine wpL_done (fun W4 hW4 => ?_)
  refine (show Code.wp _ _ _ _ _ from ?_)
  cases hd1 : (decide (t < 0)) with
  | false =>
    have h1 : ¬ (t < 0) := of_decide_eq_false hd1
    clear hd1
    refine wp_cond_false rfl ?_
    refine wp_skip ?_
    refine (show Code.wp _ _ _ _ _ from ?_)
    refine wp_seq ?_
    refine wp_region_L (W0 := w) [] (hW4) ?_
    refine lm (v := .int .i64 t) rfl rfl ?_
    refine lm (v := .int .i64 t) rfl rfl ?_
    refine wpL_done (fun W5 hW5 => ?_)
    refine (show Code.wp _ _ _ _ _ from ?_)
    refine wp_ret ?_
    try simp only [inBlock_ret, then_ret]
    refine bodyPost_ret (v := .int .i64 t) ?_ rfl ?_
    · kernel_rfl
    · exact ⟨(congrArg (fun z => Ending.returned (.int .i64 z)) (k1 (by omega))), hW5.1⟩
  | true =>
    have h1 : t < 0 := of_decide_eq_true hd1
    clear hd1
    refine wp_cond_true rfl ?_
    refine wp_region_L (W0 := w) [] (hW4) ?_
    refine lm (v := .int .i64 t) rfl rfl ?_
    refine lm (v := .int .i64 ((m : Nat) : Int)) rfl rfl ?_
    refine lp (v := .int .i64 (t + ((m : Nat) : Int))) rfl rfl (run_bin rfl (vx := (.int .i64 t)) (vy := (.int .i64 ((m : Nat) : Int))) (by kernel_rfl) (by kernel_rfl) fun w => bi_add (z := (t + ((m : Nat) : Int))) rfl (wi_i64 (by omega)) w) ?_
    refine lm (v := .int .i64 (t + ((m : Nat) : Int))) rfl rfl ?_
    refine wpL_done (fun W6 hW6 => ?_)
    refine (show Code.wp _ _ _ _ _ from ?_)
    refine wp_seq ?_
    refine wp_region_L (W0 := w) [] (hW6) ?_
    refine lm (v := .int .i64 (t + ((m : Nat) : Int))) rfl rfl ?_
    refine lm (v := .int .i64 (t + ((m : Nat) : Int))) rfl rfl ?_
    refine wpL_done (fun W7 hW7 => ?_)
    refine (show Code.wp _ _ _ _ _ from ?_)
    refine wp_ret ?_
    try simp only [inBlock_ret, then_ret]
    refine bodyPost_ret (v := .int .i64 (t + ((m : Nat) : Int))) ?_ rfl ?_
    · kernel_rfl
    · exact ⟨(congrArg (fun z => Ending.returned (.int .i64 z)) (k2 (by omega))), hW7.1⟩
set_option maxRecDepth 100000 in
set_option maxHeartbeats 4000000 in
theorem Made_any (n0 : Nat) (hn0 : n0 ≤ 18446744073709551615) (w : World) : Calls Tryd.prog 17 #[.int .u64 ((n0 : Nat) : Int)] w fun e w' => ∃ l : List UInt8, e = .returned (.tuple #[strV l, .int .u8 ((chkN l : Nat) : Int), .bool true]) ∧ fitB l 10 = true ∧ Below w.heap.size w w' := by
  go_enter Tryd.func17, Tryd.ntmps17
  refine wp_seq ?_
  refine wp_region_L (W0 := w) [] (KS.start w) ?_
  refine lm (v := strV []) rfl rfl ?_
  refine lm (v := .int .u8 0) rfl rfl ?_
  refine lm (v := .bool false) rfl rfl ?_
  refine wpL_done (fun W1 hW1 => ?_)
  refine (show Code.wp _ _ _ _ _ from ?_)
  refine wp_seq ?_
  refine wp_region_L (W0 := w) [] (hW1) ?_
  refine lm (v := .slice none 0 0) rfl rfl ?_
  refine wpL_done (fun W2 hW2 => ?_)
  refine (show Code.wp _ _ _ _ _ from ?_)
  refine wp_seq ?_
  refine wp_seq ?_
  refine wp_region_L (W0 := w) [] (hW2) ?_
  refine lm (v := .int .i64 0) rfl rfl ?_
  refine wpL_done (fun W3 hW3 => ?_)
  refine (show Code.wp _ _ _ _ _ from ?_)
  refine wp_block ?_
  go_loopw [0, 5, 6] (fun u0 u5 u6 wr => ∃ (i : Nat) (n : Nat) (s : List UInt8) (va : Value) (Kl : List (Nat × Obj)), (i ≤ 10) ∧ (n ≤ 18446744073709551615) ∧ (s.length = i) ∧ (fitF 0 s = true) ∧ (OwnL w 5 1 va s.length (u8s s) Kl) ∧ u0 = .int .u64 ((n : Nat) : Int) ∧ va = u5 ∧ u6 = .int .i64 ((i : Nat) : Int) ∧ KS w Kl wr) (fun _ _ u6 _ => 10 - (intOf u6).toNat)
  case atStart => exact ⟨0, n0, [], (.slice none 0 0), [], (Nat.zero_le _), hn0, rfl, rfl, (OwnL.nil _ _ _), rfl, rfl, rfl, (hW3.sub (fun p hp => hp))⟩
  case round =>
    obtain ⟨i, n, s, va, Kl, hi, hn, hl, hf, hO, rfl, rfl, rfl, hL4⟩ := hrel
    refine wp_seq ?_
    refine wp_seq ?_
    refine wp_region_L (W0 := w) Kl (hL4) ?_
    refine lm (v := .int .i64 ((i : Nat) : Int)) rfl rfl ?_
    refine lp (v := .bool (decide (i < 10))) rfl rfl (run_bin rfl (vx := (.int .i64 ((i : Nat) : Int))) (vy := (.int .i64 ((10 : Nat) : Int))) (by kernel_rfl) (by kernel_rfl) fun w => bn_lss rfl w) ?_
    refine wpL_done (fun W5 hW5 => ?_)
    refine (show Code.wp _ _ _ _ _ from ?_)
    cases hd1 : (decide (i < 10)) with
    | false =>
      have h1 : ¬ (i < 10) := of_decide_eq_false hd1
      clear hd1
      obtain rfl : i = 10 := by omega
      have hft : fitB s 10 = true := by unfold fitB; rw [hf, hl]; rfl
      refine wp_cond_false rfl ?_
      refine wp_exit ?_
      refine (show Code.wp _ _ _ _ _ from ?_)
      refine wp_seq ?_
      refine wp_region_L (W0 := w) Kl (hW5) ?_
      refine lm (v := va) rfl rfl ?_
      refine lv (v := strV s) rfl rfl (yb_strO (W0 := w) (l := s) rfl Tryd.underlying31 Tryd.underlying5 Tryd.underlying9 (by kernel_rfl) hO (fun p hp => hp)) ?_
      refine lv (v := .tuple #[.int .u8 (((chkN s) : Nat) : Int), .int .i64 0]) rfl rfl (yb_call (f := 24) (args := #[strV s]) (fun _ => by kernel_rfl) fun W hW => Check_ok hft W) ?_
      refine lm (v := .tuple #[.int .u8 (((chkN s) : Nat) : Int), .int .i64 0]) rfl rfl ?_
      refine lm (v := .int .u8 (((chkN s) : Nat) : Int)) rfl rfl ?_
      refine lm (v := .int .i64 0) rfl rfl ?_
      refine lm (v := .int .u8 (((chkN s) : Nat) : Int)) rfl rfl ?_
      refine lm (v := .int .i64 0) rfl rfl ?_
      refine wpL_done (fun W6 hW6 => ?_)
      refine (show Code.wp _ _ _ _ _ from ?_)
      refine wp_seq ?_
      refine wp_region_L (W0 := w) Kl (hW6) ?_
      refine lm (v := va) rfl rfl ?_
      refine lv (v := strV s) rfl rfl (yb_strO (W0 := w) (l := s) rfl Tryd.underlying31 Tryd.underlying5 Tryd.underlying9 (by kernel_rfl) hO (fun p hp => hp)) ?_
      refine lm (v := .int .u8 (((chkN s) : Nat) : Int)) rfl rfl ?_
      refine lm (v := .int .i64 0) rfl rfl ?_
      refine lm (v := .bool true) rfl rfl ?_
      refine lm (v := strV s) rfl rfl ?_
      refine lm (v := .int .u8 (((chkN s) : Nat) : Int)) rfl rfl ?_
      refine lm (v := .bool true) rfl rfl ?_
      refine wpL_done (fun W7 hW7 => ?_)
      refine (show Code.wp _ _ _ _ _ from ?_)
      refine wp_ret ?_
      try simp only [inBlock_ret, then_ret]
      refine bodyPost_ret (v := .tuple #[strV s, .int .u8 (((chkN s) : Nat) : Int), .bool true]) ?_ rfl ?_
      · kernel_rfl
      · exact ⟨s, rfl, hft, hW7.1⟩
    | true =>
      have h1 : i < 10 := of_decide_eq_true hd1
      clear hd1
      refine wp_cond_true rfl ?_
      refine wp_skip ?_
      refine (show Code.wp _ _ _ _ _ from ?_)
      refine wp_seq ?_
      refine wp_block ?_
      refine wp_block ?_
      refine wp_seq ?_
      refine wp_region_L (W0 := w) Kl (hW5) ?_
      refine lm (v := .int .i64 ((i : Nat) : Int)) rfl rfl ?_
      refine lp (v := .bool (decide (i < 3))) rfl rfl (run_bin rfl (vx := (.int .i64 ((i : Nat) : Int))) (vy := (.int .i64 ((3 : Nat) : Int))) (by kernel_rfl) (by kernel_rfl) fun w => bn_lss rfl w) ?_
      refine lm (v := .bool (decide (i < 3))) rfl rfl ?_
      refine wpL_done (fun W8 hW8 => ?_)
      refine (show Code.wp _ _ _ _ _ from ?_)
      cases hd2 : (decide (i < 3)) with
      | false =>
        have h2 : ¬ (i < 3) := of_decide_eq_false hd2
        clear hd2
        refine wp_cond_false rfl ?_
        refine wp_seq ?_
        refine wp_region_L (W0 := w) Kl (hW8) ?_
        refine lm (v := .int .i64 ((i : Nat) : Int)) rfl rfl ?_
        refine lp (v := .bool (decide (i = 3))) rfl rfl (run_bin rfl (vx := (.int .i64 ((i : Nat) : Int))) (vy := (.int .i64 ((3 : Nat) : Int))) (by kernel_rfl) (by kernel_rfl) fun w => bn_eql rfl w) ?_
        refine lm (v := .bool (decide (i = 3))) rfl rfl ?_
        refine wpL_done (fun W9 hW9 => ?_)
        refine (show Code.wp _ _ _ _ _ from ?_)
        cases hd3 : (decide (i = 3)) with
        | false =>
          have h3 : ¬ (i = 3) := of_decide_eq_false hd3
          clear hd3
          refine wp_cond_false rfl ?_
          refine wp_seq ?_
          refine wp_region_L (W0 := w) Kl (hW9) ?_
          refine lm (v := va) rfl rfl ?_
          refine lm (v := .int .u64 ((n : Nat) : Int)) rfl rfl ?_
          refine lp (v := .int .u64 (((n % 10) : Nat) : Int)) rfl rfl (run_bin rfl (vx := (.int .u64 ((n : Nat) : Int))) (vy := (.int .u64 ((10 : Nat) : Int))) (by kernel_rfl) (by kernel_rfl) fun w => bn_rem (z := (n % 10)) rfl (by omega) w) ?_
          refine lp (v := .int .u64 (((48 + (n % 10)) : Nat) : Int)) rfl rfl (run_bin rfl (vx := (.int .u64 ((48 : Nat) : Int))) (vy := (.int .u64 (((n % 10) : Nat) : Int))) (by kernel_rfl) (by kernel_rfl) fun w => bn_add (z := (48 + (n % 10))) rfl (wr_u64 (by omega)) w) ?_
          refine lp (v := .int .u8 (((48 + (n % 10)) : Nat) : Int)) rfl rfl (run_conv rfl (vx := (.int .u64 (((48 + (n % 10)) : Nat) : Int))) (by kernel_rfl) fun w => cv_int Tryd.underlying33 Tryd.underlying5 (wr_u8 (by omega)) w) ?_
          refine wpL_new (fun g => .slice (some ⟨g, 0, none⟩) 1 1) (obi := .cells #[.int .u8 (((48 + (n % 10)) : Nat) : Int)] 5 (0, 0)) rfl rfl (fun _ => by kernel_rfl) (fun _ => by simp only [List.setIfInBounds_toArray, List.set_cons_succ, List.set_cons_zero] <;> rfl) fun g1 Bg1 Fg1 => ?_
          refine wpL_g (AppO w 5 1 [] (s.length + 1) ((u8s s) ++ [.int .u8 (((48 + (n % 10)) : Nat) : Int)])) rfl rfl (app_own el_u8 (m := 1) (c := 1) (news := [.int .u8 (((48 + (n % 10)) : Nat) : Int)]) rfl (by kernel_rfl) (by kernel_rfl) (.head _) hO (fun p hp => (.tail _ hp)) (List.forall_mem_nil _) rfl (by simp [Value.oneCell']) (by omega) (by omega) (by omega)) (fun _ => by simp only [List.setIfInBounds_toArray, List.set_cons_succ, List.set_cons_zero] <;> rfl) ?_
          rintro v2 Kl2 ⟨_, O2, N2, rfl⟩
          refine lm (v := v2) rfl rfl ?_
          refine wpL_done (fun W10 hW10 => ?_)
          refine (show Code.wp _ _ _ _ _ from ?_)
          refine wp_region_L (W0 := w) Kl2 (hW10) ?_
          refine lm (v := .int .u64 ((n : Nat) : Int)) rfl rfl ?_
          refine lp (v := .int .u64 (((n / 10) : Nat) : Int)) rfl rfl (run_bin rfl (vx := (.int .u64 ((n : Nat) : Int))) (vy := (.int .u64 ((10 : Nat) : Int))) (by kernel_rfl) (by kernel_rfl) fun w => bn_quo (z := (n / 10)) rfl (by omega) (wr_u64 (by omega)) w) ?_
          refine lm (v := .int .u64 (((n / 10) : Nat) : Int)) rfl rfl ?_
          refine wpL_done (fun W11 hW11 => ?_)
          refine (show Code.wp _ _ _ _ _ from ?_)
          refine wp_region_L (W0 := w) Kl2 (hW11) ?_
          refine lm (v := .int .i64 ((i : Nat) : Int)) rfl rfl ?_
          refine lp (v := .int .i64 (((i + 1) : Nat) : Int)) rfl rfl (run_bin rfl (vx := (.int .i64 ((i : Nat) : Int))) (vy := (.int .i64 ((1 : Nat) : Int))) (by kernel_rfl) (by kernel_rfl) fun w => bn_add (z := (i + 1)) rfl (wr_i64 (by omega)) w) ?_
          refine lm (v := .int .i64 (((i + 1) : Nat) : Int)) rfl rfl ?_
          refine wpL_done (fun W12 hW12 => ?_)
          go_roundw
          case rel =>
            repeat apply Exists.intro
            exact ⟨⟨i + 1, (n / 10), (s ++ [(UInt8.ofNat (48 + n % 10))]), v2, Kl2, (by omega), (by omega), (by simp; omega), (fitF_snoc hf (by rw [hl]; exact ((dig_ok h2 h3).1))), (own_snoc O2 (dig_ok h2 h3).2 rfl), rfl, rfl, rfl, hW12⟩, rfl⟩
          case measure => (show 10 - (intOf (.int .i64 (((i + 1) : Nat) : Int))).toNat < 10 - (intOf (.int .i64 ((i : Nat) : Int))).toNat); simp only [intOf]; omega
        | true =>
          have h3 : i = 3 := of_decide_eq_true hd3
          clear hd3
          refine wp_cond_true rfl ?_
          refine wp_seq ?_
          refine wp_region_L (W0 := w) Kl (hW9) ?_
          refine lm (v := va) rfl rfl ?_
          refine lm (v := .int .u64 ((n : Nat) : Int)) rfl rfl ?_
          refine lp (v := .int .u64 (((n % 3) : Nat) : Int)) rfl rfl (run_bin rfl (vx := (.int .u64 ((n : Nat) : Int))) (vy := (.int .u64 ((3 : Nat) : Int))) (by kernel_rfl) (by kernel_rfl) fun w => bn_rem (z := (n % 3)) rfl (by omega) w) ?_
          obtain ⟨b3, hb3⟩ : ∃ b, ([85, 74, 90] : List UInt8)[(n % 3)]? = some b := ⟨_, List.getElem?_eq_getElem (by simp; omega)⟩
          have lb3 := b3.toNat_lt
          refine lp (v := .int .u8 ((b3.toNat : Nat) : Int)) rfl rfl (run_idxS (j := .u64) (l := [85, 74, 90]) (k := (n % 3)) (b := b3) rfl Tryd.underlying9 (by kernel_rfl) (by kernel_rfl) hb3) ?_
          refine wpL_new (fun g => .slice (some ⟨g, 0, none⟩) 1 1) (obi := .cells #[.int .u8 ((b3.toNat : Nat) : Int)] 5 (0, 0)) rfl rfl (fun _ => by kernel_rfl) (fun _ => by simp only [List.setIfInBounds_toArray, List.set_cons_succ, List.set_cons_zero] <;> rfl) fun g4 Bg4 Fg4 => ?_
          refine wpL_g (AppO w 5 1 [] (s.length + 1) ((u8s s) ++ [.int .u8 ((b3.toNat : Nat) : Int)])) rfl rfl (app_own el_u8 (m := 1) (c := 1) (news := [.int .u8 ((b3.toNat : Nat) : Int)]) rfl (by kernel_rfl) (by kernel_rfl) (.head _) hO (fun p hp => (.tail _ hp)) (List.forall_mem_nil _) rfl (by simp [Value.oneCell']) (by omega) (by omega) (by omega)) (fun _ => by simp only [List.setIfInBounds_toArray, List.set_cons_succ, List.set_cons_zero] <;> rfl) ?_
          rintro v5 Kl5 ⟨_, O5, N5, rfl⟩
          refine lm (v := v5) rfl rfl ?_
          refine wpL_done (fun W13 hW13 => ?_)
          refine (show Code.wp _ _ _ _ _ from ?_)
          refine wp_region_L (W0 := w) Kl5 (hW13) ?_
          refine lm (v := .int .u64 ((n : Nat) : Int)) rfl rfl ?_
          refine lp (v := .int .u64 (((n / 3) : Nat) : Int)) rfl rfl (run_bin rfl (vx := (.int .u64 ((n : Nat) : Int))) (vy := (.int .u64 ((3 : Nat) : Int))) (by kernel_rfl) (by kernel_rfl) fun w => bn_quo (z := (n / 3)) rfl (by omega) (wr_u64 (by omega)) w) ?_
          refine lm (v := .int .u64 (((n / 3) : Nat) : Int)) rfl rfl ?_
          refine wpL_done (fun W14 hW14 => ?_)
          refine (show Code.wp _ _ _ _ _ from ?_)
          refine wp_region_L (W0 := w) Kl5 (hW14) ?_
          refine lm (v := .int .i64 ((i : Nat) : Int)) rfl rfl ?_
          refine lp (v := .int .i64 (((i + 1) : Nat) : Int)) rfl rfl (run_bin rfl (vx := (.int .i64 ((i : Nat) : Int))) (vy := (.int .i64 ((1 : Nat) : Int))) (by kernel_rfl) (by kernel_rfl) fun w => bn_add (z := (i + 1)) rfl (wr_i64 (by omega)) w) ?_
          refine lm (v := .int .i64 (((i + 1) : Nat) : Int)) rfl rfl ?_
          refine wpL_done (fun W15 hW15 => ?_)
          go_roundw
          case rel =>
            repeat apply Exists.intro
            exact ⟨⟨i + 1, (n / 3), (s ++ [b3]), v5, Kl5, (by omega), (by omega), (by simp; omega), (fitF_snoc hf (by rw [hl]; exact (by rw [h3]; exact cat_ok hb3))), (own_snoc O5 rfl rfl), rfl, rfl, rfl, hW15⟩, rfl⟩
          case measure => (show 10 - (intOf (.int .i64 (((i + 1) : Nat) : Int))).toNat < 10 - (intOf (.int .i64 ((i : Nat) : Int))).toNat); simp only [intOf]; omega
      | true =>
        have h2 : i < 3 := of_decide_eq_true hd2
        clear hd2
        refine wp_cond_true rfl ?_
        refine wp_seq ?_
        refine wp_region_L (W0 := w) Kl (hW8) ?_
        refine lm (v := va) rfl rfl ?_
        refine lm (v := .int .u64 ((n : Nat) : Int)) rfl rfl ?_
        refine lp (v := .int .u64 (((n % 26) : Nat) : Int)) rfl rfl (run_bin rfl (vx := (.int .u64 ((n : Nat) : Int))) (vy := (.int .u64 ((26 : Nat) : Int))) (by kernel_rfl) (by kernel_rfl) fun w => bn_rem (z := (n % 26)) rfl (by omega) w) ?_
        refine lp (v := .int .u64 (((65 + (n % 26)) : Nat) : Int)) rfl rfl (run_bin rfl (vx := (.int .u64 ((65 : Nat) : Int))) (vy := (.int .u64 (((n % 26) : Nat) : Int))) (by kernel_rfl) (by kernel_rfl) fun w => bn_add (z := (65 + (n % 26))) rfl (wr_u64 (by omega)) w) ?_
        refine lp (v := .int .u8 (((65 + (n % 26)) : Nat) : Int)) rfl rfl (run_conv rfl (vx := (.int .u64 (((65 + (n % 26)) : Nat) : Int))) (by kernel_rfl) fun w => cv_int Tryd.underlying33 Tryd.underlying5 (wr_u8 (by omega)) w) ?_
        refine wpL_new (fun g => .slice (some ⟨g, 0, none⟩) 1 1) (obi := .cells #[.int .u8 (((65 + (n % 26)) : Nat) : Int)] 5 (0, 0)) rfl rfl (fun _ => by kernel_rfl) (fun _ => by simp only [List.setIfInBounds_toArray, List.set_cons_succ, List.set_cons_zero] <;> rfl) fun g6 Bg6 Fg6 => ?_
        refine wpL_g (AppO w 5 1 [] (s.length + 1) ((u8s s) ++ [.int .u8 (((65 + (n % 26)) : Nat) : Int)])) rfl rfl (app_own el_u8 (m := 1) (c := 1) (news := [.int .u8 (((65 + (n % 26)) : Nat) : Int)]) rfl (by kernel_rfl) (by kernel_rfl) (.head _) hO (fun p hp => (.tail _ hp)) (List.forall_mem_nil _) rfl (by simp [Value.oneCell']) (by omega) (by omega) (by omega)) (fun _ => by simp only [List.setIfInBounds_toArray, List.set_cons_succ, List.set_cons_zero] <;> rfl) ?_
        rintro v7 Kl7 ⟨_, O7, N7, rfl⟩
        refine lm (v := v7) rfl rfl ?_
        refine wpL_done (fun W16 hW16 => ?_)
        refine (show Code.wp _ _ _ _ _ from ?_)
        refine wp_region_L (W0 := w) Kl7 (hW16) ?_
        refine lm (v := .int .u64 ((n : Nat) : Int)) rfl rfl ?_
        refine lp (v := .int .u64 (((n / 26) : Nat) : Int)) rfl rfl (run_bin rfl (vx := (.int .u64 ((n : Nat) : Int))) (vy := (.int .u64 ((26 : Nat) : Int))) (by kernel_rfl) (by kernel_rfl) fun w => bn_quo (z := (n / 26)) rfl (by omega) (wr_u64 (by omega)) w) ?_
        refine lm (v := .int .u64 (((n / 26) : Nat) : Int)) rfl rfl ?_
        refine wpL_done (fun W17 hW17 => ?_)
        refine (show Code.wp _ _ _ _ _ from ?_)
        refine wp_region_L (W0 := w) Kl7 (hW17) ?_
        refine lm (v := .int .i64 ((i : Nat) : Int)) rfl rfl ?_
        refine lp (v := .int .i64 (((i + 1) : Nat) : Int)) rfl rfl (run_bin rfl (vx := (.int .i64 ((i : Nat) : Int))) (vy := (.int .i64 ((1 : Nat) : Int))) (by kernel_rfl) (by kernel_rfl) fun w => bn_add (z := (i + 1)) rfl (wr_i64 (by omega)) w) ?_
        refine lm (v := .int .i64 (((i + 1) : Nat) : Int)) rfl rfl ?_
        refine wpL_done (fun W18 hW18 => ?_)
        go_roundw
        case rel =>
          repeat apply Exists.intro
          exact ⟨⟨i + 1, (n / 26), (s ++ [(UInt8.ofNat (65 + n % 26))]), v7, Kl7, (by omega), (by omega), (by simp; omega), (fitF_snoc hf (by rw [hl]; exact ((cap_ok h2).1))), (own_snoc O7 (cap_ok h2).2 rfl), rfl, rfl, rfl, hW18⟩, rfl⟩
        case measure => (show 10 - (intOf (.int .i64 (((i + 1) : Nat) : Int))).toNat < 10 - (intOf (.int .i64 ((i : Nat) : Int))).toNat); simp only [intOf]; omega
set_option maxRecDepth 100000 in
set_option maxHeartbeats 4000000 in
theorem remainder_any (l : List UInt8) (hl : l.length ≤ 20) (w : World) : Calls Tryd.prog 21 #[strV l] w fun e w' => e = .returned (.int .i64 (((remL l) : Nat) : Int)) ∧ Below w.heap.size w w' := by
  go_enter Tryd.func21, Tryd.ntmps21
  refine wp_seq ?_
  refine wp_region_L (W0 := w) [] (KS.start w) ?_
  refine lm (v := .int .i64 0) rfl rfl ?_
  refine wpL_done (fun W1 hW1 => ?_)
  refine (show Code.wp _ _ _ _ _ from ?_)
  refine wp_seq ?_
  refine wp_region_L (W0 := w) [] (hW1) ?_
  refine lm (v := .int .i64 0) rfl rfl ?_
  refine lm (v := .int .i64 1) rfl rfl ?_
  refine wpL_done (fun W2 hW2 => ?_)
  refine (show Code.wp _ _ _ _ _ from ?_)
  refine wp_seq ?_
  refine wp_seq ?_
  refine wp_region_L (W0 := w) [] (hW2) ?_
  refine lm (v := .int .i64 0) rfl rfl ?_
  refine wpL_done (fun W3 hW3 => ?_)
  refine (show Code.wp _ _ _ _ _ from ?_)
  refine wp_block ?_
  have hsl := sumF_le l
  go_loopw [3, 4, 5] (fun u3 u4 u5 wr => ∃ (k : Nat), (k ≤ l.length) ∧ u3 = .int .i64 (((sumF 0 (l.take k)) : Nat) : Int) ∧ u4 = .int .i64 (((2 ^ k) : Nat) : Int) ∧ u5 = .int .i64 ((k : Nat) : Int) ∧ KS w [] wr) (fun _ _ u5 _ => l.length - (intOf u5).toNat)
  case atStart => exact ⟨0, (Nat.zero_le _), rfl, rfl, rfl, hW3⟩
  case round =>
    obtain ⟨k, hk, rfl, rfl, rfl, hL4⟩ := hrel
    have hs1 := hsl k hk (by omega)
    have hp1 := pow_le (show k ≤ 20 by omega)
    have hp2 : 2 ^ k ≤ 1048576 := hp1
    refine wp_seq ?_
    refine wp_seq ?_
    refine wp_region_L (W0 := w) [] (hL4) ?_
    refine lm (v := .int .i64 ((k : Nat) : Int)) rfl rfl ?_
    refine lm (v := strV l) rfl rfl ?_
    refine lp (v := .int .i64 ((l.length : Nat) : Int)) rfl rfl (run_lenS (l := l) rfl Tryd.underlying9 (by kernel_rfl)) ?_
    refine lp (v := .bool (decide (k < l.length))) rfl rfl (run_bin rfl (vx := (.int .i64 ((k : Nat) : Int))) (vy := (.int .i64 ((l.length : Nat) : Int))) (by kernel_rfl) (by kernel_rfl) fun w => bn_lss rfl w) ?_
    refine wpL_done (fun W5 hW5 => ?_)
    refine (show Code.wp _ _ _ _ _ from ?_)
    cases hd1 : (decide (k < l.length)) with
    | false =>
      have h1 : ¬ (k < l.length) := of_decide_eq_false hd1
      clear hd1
      have hlk : l.take k = l := List.take_of_length_le (by omega)
      refine wp_cond_false rfl ?_
      refine wp_exit ?_
      refine (show Code.wp _ _ _ _ _ from ?_)
      refine wp_seq ?_
      refine wp_region_L (W0 := w) [] (hW5) ?_
      refine lm (v := .int .i64 (((sumF 0 (l.take k)) : Nat) : Int)) rfl rfl ?_
      refine lp (v := .int .i64 ((((sumF 0 (l.take k)) % 11) : Nat) : Int)) rfl rfl (run_bin rfl (vx := (.int .i64 (((sumF 0 (l.take k)) : Nat) : Int))) (vy := (.int .i64 ((11 : Nat) : Int))) (by kernel_rfl) (by kernel_rfl) fun w => bn_rem (z := ((sumF 0 (l.take k)) % 11)) rfl (by omega) w) ?_
      refine lm (v := .int .i64 ((((sumF 0 (l.take k)) % 11) : Nat) : Int)) rfl rfl ?_
      refine wpL_done (fun W6 hW6 => ?_)
      refine (show Code.wp _ _ _ _ _ from ?_)
      refine wp_ret ?_
      try simp only [inBlock_ret, then_ret]
      refine bodyPost_ret (v := .int .i64 ((((sumF 0 (l.take k)) % 11) : Nat) : Int)) ?_ rfl ?_
      · kernel_rfl
      · exact ⟨(int_is (by unfold remL; rw [hlk])), hW6.1⟩
    | true =>
      have h1 : k < l.length := of_decide_eq_true hd1
      clear hd1
      refine wp_cond_true rfl ?_
      refine wp_skip ?_
      refine (show Code.wp _ _ _ _ _ from ?_)
      refine wp_seq ?_
      refine wp_block ?_
      refine wp_seq ?_
      refine wp_region_L (W0 := w) [] (hW5) ?_
      refine lm (v := strV l) rfl rfl ?_
      refine lm (v := .int .i64 ((k : Nat) : Int)) rfl rfl ?_
      obtain ⟨b1, hb1⟩ : ∃ b, (l : List UInt8)[k]? = some b := ⟨_, List.getElem?_eq_getElem (by omega)⟩
      have lb1 := b1.toNat_lt
      refine lp (v := .int .u8 ((b1.toNat : Nat) : Int)) rfl rfl (run_idxS (j := .i64) (l := l) (k := k) (b := b1) rfl Tryd.underlying9 (by kernel_rfl) (by kernel_rfl) hb1) ?_
      refine lv (v := .tuple #[.int .i64 (((vN b1) : Nat) : Int), .bool (isDig b1 || isCap b1)]) rfl rfl (yb_call (f := 14) (args := #[.int .u8 ((b1.toNat : Nat) : Int)]) (fun _ => by kernel_rfl) fun W hW => Value_any b1 W) ?_
      refine lm (v := .tuple #[.int .i64 (((vN b1) : Nat) : Int), .bool (isDig b1 || isCap b1)]) rfl rfl ?_
      refine lm (v := .int .i64 (((vN b1) : Nat) : Int)) rfl rfl ?_
      refine lm (v := .bool (isDig b1 || isCap b1)) rfl rfl ?_
      refine lm (v := .int .i64 (((vN b1) : Nat) : Int)) rfl rfl ?_
      refine lm (v := .bool (isDig b1 || isCap b1)) rfl rfl ?_
      refine wpL_done (fun W7 hW7 => ?_)
      refine (show Code.wp _ _ _ _ _ from ?_)
      refine wp_seq ?_
      refine wp_region_L (W0 := w) [] (hW7) ?_
      refine lm (v := .int .i64 (((sumF 0 (l.take k)) : Nat) : Int)) rfl rfl ?_
      refine lm (v := .int .i64 (((vN b1) : Nat) : Int)) rfl rfl ?_
      refine lm (v := .int .i64 (((2 ^ k) : Nat) : Int)) rfl rfl ?_
      have hvs := vshl_le b1 (k := k) (by omega)
      refine lp (v := .int .i64 ((((vN b1) * (2 ^ k)) : Nat) : Int)) rfl rfl (run_bin rfl (vx := (.int .i64 (((vN b1) : Nat) : Int))) (vy := (.int .i64 (((2 ^ k) : Nat) : Int))) (by kernel_rfl) (by kernel_rfl) fun w => bn_mul (z := ((vN b1) * (2 ^ k))) rfl (wr_i64 (by omega)) w) ?_
      have hs2 := hsl (k + 1) (by omega) (by omega)
      refine lp (v := .int .i64 (((sumF 0 (l.take (k + 1))) : Nat) : Int)) rfl rfl (run_bin rfl (vx := (.int .i64 (((sumF 0 (l.take k)) : Nat) : Int))) (vy := (.int .i64 ((((vN b1) * (2 ^ k)) : Nat) : Int))) (by kernel_rfl) (by kernel_rfl) fun w => bn_add (z := sumF 0 (l.take (k + 1))) (sumF_snoc hb1).symm (wr_i64 (by omega)) w) ?_
      refine lm (v := .int .i64 (((sumF 0 (l.take (k + 1))) : Nat) : Int)) rfl rfl ?_
      refine wpL_done (fun W8 hW8 => ?_)
      refine (show Code.wp _ _ _ _ _ from ?_)
      refine wp_region_L (W0 := w) [] (hW8) ?_
      refine lm (v := .int .i64 (((2 ^ k) : Nat) : Int)) rfl rfl ?_
      refine lp (v := .int .i64 (((2 ^ (k + 1)) : Nat) : Int)) rfl rfl (run_bin rfl (vx := (.int .i64 (((2 ^ k) : Nat) : Int))) (vy := (.int .i64 ((2 : Nat) : Int))) (by kernel_rfl) (by kernel_rfl) fun w => bn_mul (z := (2 ^ (k + 1))) (Nat.pow_succ ..).symm (wr_i64 (by rw [Nat.pow_succ]; omega)) w) ?_
      refine lm (v := .int .i64 (((2 ^ (k + 1)) : Nat) : Int)) rfl rfl ?_
      refine wpL_done (fun W9 hW9 => ?_)
      refine (show Code.wp _ _ _ _ _ from ?_)
      refine wp_region_L (W0 := w) [] (hW9) ?_
      refine lm (v := .int .i64 ((k : Nat) : Int)) rfl rfl ?_
      refine lp (v := .int .i64 (((k + 1) : Nat) : Int)) rfl rfl (run_bin rfl (vx := (.int .i64 ((k : Nat) : Int))) (vy := (.int .i64 ((1 : Nat) : Int))) (by kernel_rfl) (by kernel_rfl) fun w => bn_add (z := (k + 1)) rfl (wr_i64 (by omega)) w) ?_
      refine lm (v := .int .i64 (((k + 1) : Nat) : Int)) rfl rfl ?_
      refine wpL_done (fun W10 hW10 => ?_)
      go_roundw
      case rel =>
        repeat apply Exists.intro
        exact ⟨⟨k + 1, (by omega), rfl, rfl, rfl, hW10⟩, rfl⟩
      case measure => (show l.length - (intOf (.int .i64 (((k + 1) : Nat) : Int))).toNat < l.length - (intOf (.int .i64 ((k : Nat) : Int))).toNat); simp only [intOf]; omega
end Go.Proofs.YtbceajgipmjmlaaDoor
namespace Go.Proofs.YtbceajgipmjmlaaDoor
open Go Go.RowKit Tw
theorem ex_check (W : World) : Calls Tryd.prog 24 #[strV [67, 83, 81, 85, 51, 48, 53, 52, 51, 56]] W fun e w' => e = .returned (.tuple #[.int .u8 51, .int .i64 0]) ∧ Below W.heap.size W w' := (Check_any [67, 83, 81, 85, 51, 48, 53, 52, 51, 56] W).mono fun e w' ⟨he, hb⟩ => ⟨he.trans (congrArg Ending.returned (by kernel_rfl)), hb⟩
theorem ex_read1 (W : World) : Calls Tryd.prog 23 #[strV [99, 115, 113, 117, 32, 51, 48, 53, 52, 51, 56, 45, 51]] W fun e w' => e = .returned (.tuple #[strV [67, 83, 81, 85, 51, 48, 53, 52, 51, 56, 51], .int .i64 0]) ∧ Below W.heap.size W w' := (Read_any [99, 115, 113, 117, 32, 51, 48, 53, 52, 51, 56, 45, 51] W).mono fun e w' ⟨he, hb⟩ => ⟨he.trans (congrArg Ending.returned (by kernel_rfl)), hb⟩
theorem ex_read2 (W : World) : Calls Tryd.prog 23 #[strV [67, 83, 81, 85, 51, 48, 53, 52, 51, 56, 52]] W fun e w' => e = .returned (.tuple #[strV [], .int .i64 31]) ∧ Below W.heap.size W w' := (Read_any [67, 83, 81, 85, 51, 48, 53, 52, 51, 56, 52] W).mono fun e w' ⟨he, hb⟩ => ⟨he.trans (congrArg Ending.returned (by kernel_rfl)), hb⟩
theorem ex_read3 (W : World) : Calls Tryd.prog 23 #[strV [67, 83, 81, 88, 51, 48, 53, 52, 51, 56, 51]] W fun e w' => e = .returned (.tuple #[strV [], .int .i64 30]) ∧ Below W.heap.size W w' := (Read_any [67, 83, 81, 88, 51, 48, 53, 52, 51, 56, 51] W).mono fun e w' ⟨he, hb⟩ => ⟨he.trans (congrArg Ending.returned (by kernel_rfl)), hb⟩
theorem ex_write (W : World) : Calls Tryd.prog 22 #[strV [67, 83, 81, 85, 51, 48, 53, 52, 51, 56, 51]] W fun e w' => e = .returned (.tuple #[strV [67, 83, 81, 85, 32, 51, 48, 53, 52, 51, 56, 32, 51], .int .i64 0]) ∧ Below W.heap.size W w' := (Write_any [67, 83, 81, 85, 51, 48, 53, 52, 51, 56, 51] W).mono fun e w' ⟨he, hb⟩ => ⟨he.trans (congrArg Ending.returned (by kernel_rfl)), hb⟩
theorem ex_miss : missOf [67, 83, 81, 85, 51, 48, 53, 52, 51, 56, 51] = [(0, 77), (0, 87), (1, 73), (2, 71)] := by decide +kernel
theorem ex_judge : judgeN [67, 83, 81, 85, 51, 48, 53, 52, 51, 56, 51] = 0 := by decide +kernel
def GM (W0 : Base) (K : List (Nat × Obj)) (m : List (Nat × UInt8)) (e : Nat) (v : Value) (K' : List (Nat × Obj)) : Prop := ∃ p c Kl, v = .tuple #[.slice p m.length c, .int .i64 ((e : Nat) : Int)] ∧ (∀ W, KS W0 (K ++ Kl) W → SLV W p (mcells m)) ∧ (∀ p ∈ K, ∀ q ∈ Kl, q.1 ≠ p.1) ∧ K' = K ++ Kl
theorem own_slice {W0 : Base} {E : TypeId} {sz n : Nat} {v : Value} {xs : List Value} {Kl : List (Nat × Obj)} (h : OwnL W0 E sz v n xs Kl) : ∃ p cap, v = .slice p n cap ∧ ∀ W K, KS W0 K W → (∀ q ∈ Kl, q ∈ K) → SLV W p xs := by
  rcases h with ⟨rfl, rfl, rfl, rfl⟩ | ⟨g, cap, cur, rfl, hB, hR, rfl⟩
  · exact ⟨none, 0, rfl, fun _ _ _ _ => .inl rfl⟩
  · exact ⟨_, cap, rfl, fun W K hK hs => .inr ⟨g, 0, rfl, lt_of_block (hK.2 _ (hs _ (.head _))), hR.cel (hK.2 _ (hs _ (.head _)))⟩⟩
theorem calls_gm {W0 : Base} {W : World} {K : List (Nat × Obj)} (l : List UInt8) (hW : KS W0 K W) : Calls Tryd.prog 20 #[strV l] W fun e w' => ∃ v K', e = .returned v ∧ KS W0 K' w' ∧ GM W0 K (missOf l) (judgeN l) v K' :=
  (Misses_any l W).mono fun e w' ⟨v, he, hO, hb⟩ => by
    obtain ⟨Kl, h1, h2, h3⟩ := hO.own hW hb
    obtain ⟨p, c, rfl, h4⟩ := own_slice h1
    exact ⟨_, _, he, h3, p, c, Kl, rfl, fun W' hW' => h4 W' _ hW' (fun q hq => List.mem_append_right _ hq), h2, rfl⟩
theorem slv_lit {W : World} {g : Nat} {cs : Array Value} {xs : List Value} {t : TypeId} {fr : Nat × Nat} (h : W.heap[g]? = some (.cells cs t fr)) (hx : cs = xs.toArray) : SLV W (some ⟨g, 0, none⟩) xs := .inr ⟨g, 0, rfl, lt_of_block h, fun i u hu => by rw [Nat.zero_add, cell_of_row W g i cs t fr h, hx]; simpa using hu⟩
theorem ex_size1 (W : World) (hE : Env W) : Calls Tryd.prog 26 #[strV [52, 53, 82, 49]] W fun e w' => e = .returned (.tuple #[.agg #[.int .u8 40, .bool true, .bool true], .int .i64 0]) ∧ Below W.heap.size W w' := (Size_any [52, 53, 82, 49] W hE).mono fun e w' ⟨he, hb⟩ => ⟨he.trans (congrArg Ending.returned (by kernel_rfl)), hb⟩
theorem ex_size2 (W : World) (hE : Env W) : Calls Tryd.prog 26 #[strV [50, 53, 71, 49]] W fun e w' => e = .returned (.tuple #[.agg #[.int .u8 0, .bool false, .bool false], .int .i64 32]) ∧ Below W.heap.size W w' := (Size_any [50, 53, 71, 49] W hE).mono fun e w' ⟨he, hb⟩ => ⟨he.trans (congrArg Ending.returned (by kernel_rfl)), hb⟩
set_option maxRecDepth 100000 in
set_option maxHeartbeats 4000000 in
theorem awake_any  (w : World) (hE : Env w) : Calls Tryd.prog 12 #[] w fun e w' => e = .returned (.bool true) ∧ Below w.heap.size w w' := by
  have HE := Lib.hid hE
  clear hE
  go_enter Tryd.func12, Tryd.ntmps12
  refine wp_seq ?_
  refine wp_region_L (W0 := w) [] (KS.start w) ?_
  refine lm (v := .bool false) rfl rfl ?_
  refine wpL_done (fun W1 hW1 => ?_)
  refine (show Code.wp _ _ _ _ _ from ?_)
  refine wp_seq ?_
  refine wp_region_L (W0 := w) [] (hW1) ?_
  refine lv (v := .tuple #[.int .u8 51, .int .i64 0]) rfl rfl (yb_call (f := 24) (args := #[strV [67, 83, 81, 85, 51, 48, 53, 52, 51, 56]]) (fun _ => by kernel_rfl) fun W hW => ex_check W) ?_
  refine lm (v := .tuple #[.int .u8 51, .int .i64 0]) rfl rfl ?_
  refine lm (v := .int .u8 51) rfl rfl ?_
  refine lm (v := .int .i64 0) rfl rfl ?_
  refine lm (v := .int .u8 51) rfl rfl ?_
  refine lm (v := .int .i64 0) rfl rfl ?_
  refine wpL_done (fun W2 hW2 => ?_)
  refine (show Code.wp _ _ _ _ _ from ?_)
  refine wp_seq ?_
  refine wp_region_L (W0 := w) [] (hW2) ?_
  refine lv (v := .tuple #[strV [67, 83, 81, 85, 51, 48, 53, 52, 51, 56, 51], .int .i64 0]) rfl rfl (yb_call (f := 23) (args := #[strV [99, 115, 113, 117, 32, 51, 48, 53, 52, 51, 56, 45, 51]]) (fun _ => by kernel_rfl) fun W hW => ex_read1 W) ?_
  refine lm (v := .tuple #[strV [67, 83, 81, 85, 51, 48, 53, 52, 51, 56, 51], .int .i64 0]) rfl rfl ?_
  refine lm (v := strV [67, 83, 81, 85, 51, 48, 53, 52, 51, 56, 51]) rfl rfl ?_
  refine lm (v := .int .i64 0) rfl rfl ?_
  refine lm (v := strV [67, 83, 81, 85, 51, 48, 53, 52, 51, 56, 51]) rfl rfl ?_
  refine lm (v := .int .i64 0) rfl rfl ?_
  refine wpL_done (fun W3 hW3 => ?_)
  refine (show Code.wp _ _ _ _ _ from ?_)
  refine wp_seq ?_
  refine wp_region_L (W0 := w) [] (hW3) ?_
  refine lv (v := .tuple #[strV [], .int .i64 31]) rfl rfl (yb_call (f := 23) (args := #[strV [67, 83, 81, 85, 51, 48, 53, 52, 51, 56, 52]]) (fun _ => by kernel_rfl) fun W hW => ex_read2 W) ?_
  refine lm (v := .tuple #[strV [], .int .i64 31]) rfl rfl ?_
  refine lm (v := strV []) rfl rfl ?_
  refine lm (v := .int .i64 31) rfl rfl ?_
  refine lm (v := strV []) rfl rfl ?_
  refine lm (v := .int .i64 31) rfl rfl ?_
  refine wpL_done (fun W4 hW4 => ?_)
  refine (show Code.wp _ _ _ _ _ from ?_)
  refine wp_seq ?_
  refine wp_region_L (W0 := w) [] (hW4) ?_
  refine lv (v := .tuple #[strV [], .int .i64 30]) rfl rfl (yb_call (f := 23) (args := #[strV [67, 83, 81, 88, 51, 48, 53, 52, 51, 56, 51]]) (fun _ => by kernel_rfl) fun W hW => ex_read3 W) ?_
  refine lm (v := .tuple #[strV [], .int .i64 30]) rfl rfl ?_
  refine lm (v := strV []) rfl rfl ?_
  refine lm (v := .int .i64 30) rfl rfl ?_
  refine lm (v := strV []) rfl rfl ?_
  refine lm (v := .int .i64 30) rfl rfl ?_
  refine wpL_done (fun W5 hW5 => ?_)
  refine (show Code.wp _ _ _ _ _ from ?_)
  refine wp_seq ?_
  refine wp_region_L (W0 := w) [] (hW5) ?_
  refine lv (v := .tuple #[strV [67, 83, 81, 85, 32, 51, 48, 53, 52, 51, 56, 32, 51], .int .i64 0]) rfl rfl (yb_call (f := 22) (args := #[strV [67, 83, 81, 85, 51, 48, 53, 52, 51, 56, 51]]) (fun _ => by kernel_rfl) fun W hW => ex_write W) ?_
  refine lm (v := .tuple #[strV [67, 83, 81, 85, 32, 51, 48, 53, 52, 51, 56, 32, 51], .int .i64 0]) rfl rfl ?_
  refine lm (v := strV [67, 83, 81, 85, 32, 51, 48, 53, 52, 51, 56, 32, 51]) rfl rfl ?_
  refine lm (v := .int .i64 0) rfl rfl ?_
  refine lm (v := strV [67, 83, 81, 85, 32, 51, 48, 53, 52, 51, 56, 32, 51]) rfl rfl ?_
  refine lm (v := .int .i64 0) rfl rfl ?_
  refine wpL_done (fun W6 hW6 => ?_)
  refine (show Code.wp _ _ _ _ _ from ?_)
  refine wp_seq ?_
  refine wp_seq ?_
  refine wp_region_L (W0 := w) [] (hW6) ?_
  refine lm (v := .int .u8 51) rfl rfl ?_
  refine lm (v := .bool false) rfl rfl ?_
  refine lm (v := .bool false) rfl rfl ?_
  refine lm (v := .int .i64 0) rfl rfl ?_
  refine lm (v := .bool false) rfl rfl ?_
  refine lm (v := .bool false) rfl rfl ?_
  refine lm (v := .bool false) rfl rfl ?_
  refine lm (v := strV [67, 83, 81, 85, 51, 48, 53, 52, 51, 56, 51]) rfl rfl ?_
  refine lp (v := .bool false) rfl rfl (run_bin rfl (vx := strV [67, 83, 81, 85, 51, 48, 53, 52, 51, 56, 51]) (vy := strV [67, 83, 81, 85, 51, 48, 53, 52, 51, 56, 51]) (by kernel_rfl) (by kernel_rfl) fun w => bs_neq (decide_eq_true rfl) w) ?_
  refine lm (v := .bool false) rfl rfl ?_
  refine lm (v := .bool false) rfl rfl ?_
  refine lm (v := .int .i64 0) rfl rfl ?_
  refine lm (v := .bool false) rfl rfl ?_
  refine lm (v := .bool false) rfl rfl ?_
  refine lm (v := .bool false) rfl rfl ?_
  refine lm (v := .int .i64 31) rfl rfl ?_
  refine lm (v := .bool false) rfl rfl ?_
  refine lm (v := .bool false) rfl rfl ?_
  refine lm (v := .bool false) rfl rfl ?_
  refine lm (v := .int .i64 30) rfl rfl ?_
  refine lm (v := .bool false) rfl rfl ?_
  refine lm (v := .bool false) rfl rfl ?_
  refine lm (v := .bool false) rfl rfl ?_
  refine lm (v := strV [67, 83, 81, 85, 32, 51, 48, 53, 52, 51, 56, 32, 51]) rfl rfl ?_
  refine lp (v := .bool false) rfl rfl (run_bin rfl (vx := strV [67, 83, 81, 85, 32, 51, 48, 53, 52, 51, 56, 32, 51]) (vy := strV [67, 83, 81, 85, 32, 51, 48, 53, 52, 51, 56, 32, 51]) (by kernel_rfl) (by kernel_rfl) fun w => bs_neq (decide_eq_true rfl) w) ?_
  refine lm (v := .bool false) rfl rfl ?_
  refine lm (v := .bool false) rfl rfl ?_
  refine lm (v := .int .i64 0) rfl rfl ?_
  refine lm (v := .bool false) rfl rfl ?_
  refine lm (v := .bool false) rfl rfl ?_
  refine wpL_done (fun W7 hW7 => ?_)
  refine (show Code.wp _ _ _ _ _ from ?_)
  refine wp_cond_false rfl ?_
  refine wp_skip ?_
  refine (show Code.wp _ _ _ _ _ from ?_)
  refine wp_seq ?_
  refine wp_region_L (W0 := w) [] (hW7) ?_
  refine wpL_c (f := 20) (args := #[strV [67, 83, 81, 85, 51, 48, 53, 52, 51, 56, 51]]) (GM w [] [(0, 77), (0, 87), (1, 73), (2, 71)] 0) rfl (by kernel_rfl) (fun _ => (by kernel_rfl)) (fun W hW => (by have h := calls_gm [67, 83, 81, 85, 51, 48, 53, 52, 51, 56, 51] hW; rw [ex_miss, ex_judge] at h; exact h)) (fun _ => by simp only [List.setIfInBounds_toArray, List.set_cons_succ, List.set_cons_zero] <;> rfl) ?_
  rintro v Kl1 ⟨p1, c1, _, rfl, HM1, N1, rfl⟩
  have HM1 := Lib.hid HM1
  refine lm (v := .tuple #[.slice p1 [(0, 77), (0, 87), (1, 73), (2, 71)].length c1, .int .i64 0]) rfl rfl ?_
  refine lm (v := .slice p1 [(0, 77), (0, 87), (1, 73), (2, 71)].length c1) rfl rfl ?_
  refine lm (v := .int .i64 0) rfl rfl ?_
  refine lm (v := .slice p1 [(0, 77), (0, 87), (1, 73), (2, 71)].length c1) rfl rfl ?_
  refine lm (v := .int .i64 0) rfl rfl ?_
  refine wpL_done (fun W8 hW8 => ?_)
  refine (show Code.wp _ _ _ _ _ from ?_)
  refine wp_seq ?_
  refine wp_region_L (W0 := w) Kl1 (hW8) ?_
  refine lv (v := .tuple #[.agg #[.int .u8 40, .bool true, .bool true], .int .i64 0]) rfl rfl (yb_call (f := 26) (args := #[strV [52, 53, 82, 49]]) (fun _ => by kernel_rfl) fun W hW => ex_size1 W (HE.out.keep hW.1)) ?_
  refine lm (v := .tuple #[.agg #[.int .u8 40, .bool true, .bool true], .int .i64 0]) rfl rfl ?_
  refine lm (v := .agg #[.int .u8 40, .bool true, .bool true]) rfl rfl ?_
  refine lm (v := .int .i64 0) rfl rfl ?_
  refine wpL_new (fun g => .pointer (some ⟨g, 0, none⟩)) (obi := .cells #[.int .u8 0, .bool false, .bool false] 26 (0, 0)) rfl rfl (fun _ => by kernel_rfl) (fun _ => by simp only [List.setIfInBounds_toArray, List.set_cons_succ, List.set_cons_zero] <;> rfl) fun g2 Bg2 Fg2 => ?_
  refine wpL_s ((g2, .cells #[.int .u8 40, .bool true, .bool true] 26 (0, 0)) :: Kl1) rfl rfl (st_row (off := 0) (v := .agg #[.int .u8 40, .bool true, .bool true]) rfl (by kernel_rfl) (by kernel_rfl) (.head _) Bg2 (by kernel_rfl) (by simp [Value.cells]) (by intro v hv; simp [Value.cells] at hv; first | (subst hv; rfl) | (rcases hv with rfl | rfl | rfl <;> rfl)) (by kernel_rfl) (List.forall_mem_cons.2 ⟨.inl rfl, (fun p hp => .inr ⟨(.tail _ hp), (Fg2 _ hp)⟩)⟩)) ?_
  refine lm (v := .int .i64 0) rfl rfl ?_
  refine wpL_done (fun W9 hW9 => ?_)
  refine (show Code.wp _ _ _ _ _ from ?_)
  refine wp_seq ?_
  refine wp_region_L (W0 := w) ((g2, .cells #[.int .u8 40, .bool true, .bool true] 26 (0, 0)) :: Kl1) (hW9) ?_
  refine lv (v := .tuple #[.agg #[.int .u8 0, .bool false, .bool false], .int .i64 32]) rfl rfl (yb_call (f := 26) (args := #[strV [50, 53, 71, 49]]) (fun _ => by kernel_rfl) fun W hW => ex_size2 W (HE.out.keep hW.1)) ?_
  refine lm (v := .tuple #[.agg #[.int .u8 0, .bool false, .bool false], .int .i64 32]) rfl rfl ?_
  refine lm (v := .agg #[.int .u8 0, .bool false, .bool false]) rfl rfl ?_
  refine lm (v := .int .i64 32) rfl rfl ?_
  refine lm (v := .int .i64 32) rfl rfl ?_
  refine wpL_done (fun W10 hW10 => ?_)
  refine (show Code.wp _ _ _ _ _ from ?_)
  refine wp_seq ?_
  refine wp_region_L (W0 := w) ((g2, .cells #[.int .u8 40, .bool true, .bool true] 26 (0, 0)) :: Kl1) (hW10) ?_
  refine lm (v := .int .i64 0) rfl rfl ?_
  refine lm (v := .bool true) rfl rfl ?_
  refine lm (v := .bool true) rfl rfl ?_
  refine lm (v := .slice p1 [(0, 77), (0, 87), (1, 73), (2, 71)].length c1) rfl rfl ?_
  refine lm (v := .agg #[.int .i64 0, .int .u8 77]) rfl rfl ?_
  refine lm (v := .agg #[.int .i64 0, .int .u8 87]) rfl rfl ?_
  refine lm (v := .agg #[.int .i64 1, .int .u8 73]) rfl rfl ?_
  refine lm (v := .agg #[.int .i64 2, .int .u8 71]) rfl rfl ?_
  refine wpL_newg (fun g => .slice (some ⟨g, 0, none⟩) 4 4) (obi := .cells #[.int .i64 0, .int .u8 77, .int .i64 0, .int .u8 87, .int .i64 1, .int .u8 73, .int .i64 2, .int .u8 71] 42 (0, 0)) rfl (by kernel_rfl) (fun _ => by kernel_rfl) (fun _ => by simp only [List.setIfInBounds_toArray, List.set_cons_succ, List.set_cons_zero] <;> rfl) fun g3 Bg3 Fg3 => ?_
  refine lv (v := .bool true) rfl rfl (yb_call (f := 33) (args := #[.slice p1 [(0, 77), (0, 87), (1, 73), (2, 71)].length c1, .slice (some ⟨g3, 0, none⟩) 4 4]) (fun _ => by kernel_rfl) fun W hW => same_any [(0, 77), (0, 87), (1, 73), (2, 71)] [(0, 77), (0, 87), (1, 73), (2, 71)] p1 (some ⟨g3, 0, none⟩) c1 4 (by simp) W (HM1.out W (hW.sub (fun p hp => (.tail _ (.tail _ hp))))) (slv_lit (hW.2 _ (.head _)) (by kernel_rfl))) ?_
  refine lm (v := .bool true) rfl rfl ?_
  refine lm (v := .bool true) rfl rfl ?_
  refine lv (v := .agg #[.int .u8 40, .bool true, .bool true]) rfl rfl (yb_load (n := 3) (off := 0) rfl (by kernel_rfl) (.tail _ (.head _)) Tryd.underlying26 rfl (by kernel_rfl) (by simp) (by kernel_rfl)) ?_
  refine lm (v := .agg #[.int .u8 40, .bool true, .bool true]) rfl rfl ?_
  refine lp (v := .bool true) rfl rfl (run_bin rfl (vx := .agg #[.int .u8 ((40 : Nat) : Int), .bool true, .bool true]) (vy := .agg #[.int .u8 ((40 : Nat) : Int), .bool true, .bool true]) (by kernel_rfl) (by kernel_rfl) fun w => eq_kind (decide_eq_true (by simp)) w) ?_
  refine lm (v := .bool true) rfl rfl ?_
  refine lm (v := .bool true) rfl rfl ?_
  refine lm (v := .int .i64 0) rfl rfl ?_
  refine lm (v := .bool true) rfl rfl ?_
  refine lm (v := .bool true) rfl rfl ?_
  refine lm (v := .bool true) rfl rfl ?_
  refine lm (v := .int .i64 32) rfl rfl ?_
  refine lm (v := .bool true) rfl rfl ?_
  refine lm (v := .bool true) rfl rfl ?_
  refine lm (v := .bool true) rfl rfl ?_
  refine wpL_done (fun W11 hW11 => ?_)
  refine (show Code.wp _ _ _ _ _ from ?_)
  refine wp_ret ?_
  try simp only [inBlock_ret, then_ret]
  refine bodyPost_ret (v := .bool true) ?_ rfl ?_
  · kernel_rfl
  · exact ⟨rfl, hW11.1⟩
end Go.Proofs.YtbceajgipmjmlaaDoor
/- A package-level variable of plain data reads as its cells: structs, arrays, numbers, bools, strings. Over any program. -/
namespace Tw
open Go Go.RowKit Go.Proofs.YtbceajgipmjmlaaDoor
section
variable {H : Type} {P : Program}
def contig : Nat → List (Nat × Nat) → Option Nat
  | off, [] => some off
  | off, (o, n) :: r => if o = off then contig (off + n) r else none
theorem chunks {cs : List Value} : ∀ (l : List (Nat × Nat)) (ch : List (List Value)) (off tot : Nat), contig off l = some tot → cs.length = tot → l.length = ch.length →
    (∀ (i : Nat) (x : Nat × Nat) (c : List Value), l[i]? = some x → ch[i]? = some c → (cs.drop x.1).take x.2 = c) → cs.drop off = ch.flatten
  | [], [], off, tot, h, hl, _, _ => by
    simp only [contig, Option.some.injEq] at h
    rw [List.drop_eq_nil_of_le (by omega)]
    rfl
  | [], _ :: _, _, _, _, _, hn, _ => by simp at hn
  | _ :: _, [], _, _, _, _, hn, _ => by simp at hn
  | (o, n) :: l, c :: ch, off, tot, h, hl, hn, hc => by
    simp only [contig] at h
    split at h
    · rename_i ho
      subst ho
      have h0 := hc 0 (o, n) c rfl rfl
      have ih := chunks l ch (o + n) tot h hl (by simpa using hn) (fun i x d hx hd => hc (i + 1) x d (by simpa using hx) (by simpa using hd))
      rw [List.flatten_cons, ← ih, ← h0, ← List.drop_drop]
      exact (List.take_append_drop n (cs.drop o)).symm
    · cases h
def plainOf (P : Program) : Nat → TypeId → DataW H → Option (List Value)
  | 0, _, _ => none
  | f + 1, t, d => match P.underlying t, d with
    | some .bool, .lit (.bool b) => some [.bool b]
    | some (.int _), .lit (.int k n) => some [.int k n]
    | some .string, .lit (.string s) => some [.string ⟨s.toArray⟩]
    | some (.struct fs), .agg ds =>
      if fs.size = ds.length ∧ contig 0 (fs.toList.map fun f => (f.offset, P.cellsOf f.type)) = some (P.cellsOf t) then ((fs.toList.zip ds).mapM fun x => plainOf P f x.1.type x.2).map List.flatten else none
    | some (.array n e), .agg ds =>
      if n = ds.length ∧ contig 0 ((List.range n).map fun i => (i * P.cellsOf e, P.cellsOf e)) = some (P.cellsOf t) then (ds.mapM fun x => plainOf P f e x).map List.flatten else none
    | _, _ => none
theorem mapM_get {α β : Type} {f : α → Option β} : ∀ {l : List α} {r : List β}, l.mapM f = some r → r.length = l.length ∧ ∀ (i : Nat) (a : α), l[i]? = some a → ∃ b, r[i]? = some b ∧ f a = some b := fun h => ⟨Lib.mapM_length h, Lib.mapM_at h⟩
theorem plain_inv {enc : TypeId × Value → H} {w : World} {base : Nat} {sp : Nat → Bool} {held : Bool} : ∀ (f fuel : Nat) (t : TypeId) (d : DataW H) (cs cs0 : List Value) (p : List MemPlace),
    plainOf P f t d = some cs0 → DataW.trod enc P w base sp held fuel t cs = some (d, p) → cs = cs0
  | 0, _, _, _, _, _, _, h, _ => by cases h
  | _ + 1, 0, _, _, _, _, _, _, h => by simp [DataW.trod] at h
  | f + 1, fuel + 1, t, d, cs, cs0, p, hp, ht => by
    unfold plainOf at hp
    unfold DataW.trod at ht
    split at hp
    · rename_i hu
      rw [hu] at ht
      simp only at ht
      split at ht <;> simp_all
    · rename_i hu
      rw [hu] at ht
      simp only at ht
      split at ht <;> simp_all
    · rename_i hu
      rw [hu] at ht
      simp only at ht
      split at ht <;> simp_all
      obtain ⟨_, h2, _⟩ := ht
      rw [← hp, ← h2]
    · rename_i fs ds hu
      rw [hu] at ht
      simp only at ht
      split at hp
      · rename_i hg
        obtain ⟨h1, h2⟩ := hg
        split at ht
        · rename_i hl
          obtain ⟨xs, hm, hx⟩ := Option.map_eq_some_iff.1 ht
          obtain ⟨ys, hn, hy⟩ := Option.map_eq_some_iff.1 hp
          simp only [Prod.mk.injEq, DataW.agg.injEq] at hx
          obtain ⟨hx, _⟩ := hx
          obtain ⟨m1, m2⟩ := mapM_get hm
          obtain ⟨n1, n2⟩ := mapM_get hn
          have hzl : (fs.toList.zip ds).length = fs.size := by simp [List.length_zip]; omega
          subst hy
          have := chunks (cs := cs) _ ys 0 _ h2 hl (by simp only [List.length_map, Array.length_toList]; omega) (fun i x c hx1 hc => by
            rw [List.getElem?_map] at hx1
            obtain ⟨fd, hfd, rfl⟩ := Option.map_eq_some_iff.1 hx1
            obtain ⟨b, hb, hfb⟩ := m2 i fd hfd
            have hdi : ds[i]? = some b.1 := by rw [← hx, List.getElem?_map, hb]; rfl
            have hz : (fs.toList.zip ds)[i]? = some (fd, b.1) := by rw [List.getElem?_zip_eq_some]; exact ⟨hfd, hdi⟩
            obtain ⟨c', hc', hpl⟩ := n2 i _ hz
            rw [hc] at hc'
            cases hc'
            exact plain_inv f fuel _ _ _ _ b.2 hpl hfb)
          simpa using this
        · cases ht
      · cases hp
    · rename_i n e ds hu
      rw [hu] at ht
      simp only at ht
      split at hp
      · rename_i hg
        obtain ⟨h1, h2⟩ := hg
        split at ht
        · rename_i hl
          obtain ⟨xs, hm, hx⟩ := Option.map_eq_some_iff.1 ht
          obtain ⟨ys, hn, hy⟩ := Option.map_eq_some_iff.1 hp
          simp only [Prod.mk.injEq, DataW.agg.injEq] at hx
          obtain ⟨hx, _⟩ := hx
          obtain ⟨m1, m2⟩ := mapM_get hm
          obtain ⟨n1, n2⟩ := mapM_get hn
          subst hy
          have := chunks (cs := cs) _ ys 0 _ h2 hl (by simp only [List.length_map, List.length_range]; omega) (fun i x c hx1 hc => by
            rw [List.getElem?_map] at hx1
            obtain ⟨j, hj, rfl⟩ := Option.map_eq_some_iff.1 hx1
            obtain ⟨b, hb, hfb⟩ := m2 i j hj
            have hij : j = i := by
              obtain ⟨hi, hi2⟩ := List.getElem?_eq_some_iff.1 hj
              rw [List.getElem_range] at hi2
              exact hi2.symm
            subst hij
            have hdi : ds[j]? = some b.1 := by rw [← hx, List.getElem?_map, hb]; rfl
            obtain ⟨c', hc', hpl⟩ := n2 j _ hdi
            rw [hc] at hc'
            cases hc'
            exact plain_inv f fuel _ _ _ _ b.2 hpl hfb)
          simpa using this
        · cases ht
      · cases hp
    · cases hp
theorem laid_plain {w : World} {name : String} {d : DataW Unit} {rest : List (String × DataW Unit)} {g : Nat} {t : TypeId} {cs0 : List Value} (f : Nat) (h : laidMet P ((name, d) :: rest) w)
    (hg : P.globalNamed name = some g) (ht : (P.globals[g]?).map (·.type) = some t) (hp : plainOf P f t d = some cs0) : w.var? P name = some cs0.toArray := by
  obtain ⟨ps, ⟨g', t', cs, fuel, p, q, hg', ht', hv, hd, _, _⟩, _⟩ := h
  obtain rfl := Option.some.inj (hg.symm.trans hg')
  obtain rfl := Option.some.inj (ht.symm.trans ht')
  have := plain_inv f fuel _ _ _ _ _ hp hd
  rw [hv]
  congr 1
  obtain ⟨l⟩ := cs
  exact congrArg Array.mk this
end
end Tw
/- From the row's condition to what the proofs ask of the package's table; what came in. -/
namespace Go.Proofs.YtbceajgipmjmlaaDoor
open Go.ChangeShapes Go.WideShapes Go.ChangeAt Go.RowKit Tw
open Go
theorem of_wf {k : IntKind} {n : Int} (h : (Lit.int k n).wf = true) : k.min ≤ n ∧ n ≤ k.max := by simpa [Lit.wf] using h
theorem own : ownKnob Tryd.prog.godebug = none := by kernel_rfl
theorem laidOut : laidOutB Tryd.prog = true := by kernel_rfl
def laidN : List (String × DataW Unit) := [("twistlock/iso.kinds", Rows.laid_twistlock_iso_kinds)]
set_option maxRecDepth 100000 in
theorem door_met (os : Os) (args : Array Value) : laidMetH Tryd.prog laidN ((World.doorLaid Tryd.prog 1000 os).forCall (fun _ _ => 0) ⟨#[], args, []⟩).memory :=
  laidMetH_of_parts3 (fuel := 8) (laidMet_of_run' 8 (by kernel_rfl) (by kernel_rfl)) (by kernel_rfl) (by kernel_rfl)
theorem env_of {W : World} (h0 : laidMetH Tryd.prog laidN W) : Env W := by
  have h : laidMet Tryd.prog laidN W := by rw [MakeChecks.laidMetH_plain _ _ _ (by kernel_rfl)] at h0; exact h0
  exact ⟨laid_plain 8 h gKinds (t := 92) (by kernel_rfl) (by kernel_rfl)⟩
theorem handed_and_sized {H : Type} {enc : TypeId × Value → H} {a : Assume} {C : Checked} {os : Os} {f : FuncId} {fn : Func} {s : ChangeSpec} {conds : List PathCond} {apart fresh handsOn again : Bool} {X : World → Prop}
    (hX : ∀ (w w' : World), w.heap = w'.heap → X w → X w')
    (own : ownKnob C.prog.godebug = none) (started : os.Started) (noInit : C.prog.inits.idxOf? f = none) (hfn : C.prog.funcs[f]? = some fn)
    (witness : ∃ (w : World) (tape : Tape) (i : Input), w.os = os ∧ (w.forCall tape i).Shaped C.prog ∧ i.vars = [] ∧ Input.okWide C.prog (w.forCall tape i) .any w.heap.size f i ∧
      ((s.pre enc C.prog fn conds apart (w.forCall tape i).memory i.args ∧ X (w.forCall tape i).memory) ∧ sizedMet enc C.prog fn (OpenSpec.ofChange s) apart (w.forCall tape i).memory i.args) ∧ a.holds C.prog (lone (Frame.enter C.prog f i.args .normal) [] (w.forCall tape i)))
    (contract : ∀ (W : World) (base : Nat) (args : Array Value) (ds gs : List (DataW H)) (before : List MemPlace),
      (∀ (j : Nat) t v, fn.params[j]? = some t → args[j]? = some v → Value.okWide C.prog W .any base t v) →
      DataW.Whole enc C.prog fn.params.toList s.vars apart W args.toList ds gs before → X W → W.ShapedOpen C.prog →
      (DataW.weightsEach C.prog (fn.params.toList ++ s.plain.varTypes C.prog) (ds ++ gs)).all (· ≤ reachBytes) = true →
      Calls C.prog f args W fun e W' => ∃ v, e = .returned v ∧ s.post enc C.prog fn apart fresh handsOn again W args v W') :
    ReturnsInHanded a C os f .any (fun w args => (s.pre enc C.prog fn conds apart w args ∧ X w) ∧ sizedMet enc C.prog fn (OpenSpec.ofChange s) apart w args) (s.post enc C.prog fn apart fresh handsOn again) := by
  refine returnsInHanded_of_calls own started noInit witness fun w tape i _ hsh _ hok hpre _ => ?_
  obtain ⟨_, _, _, fn', hfn', _, _, _, _, hval⟩ := hok
  obtain rfl : fn' = fn := Option.some.inj (hfn'.symm.trans hfn)
  obtain ⟨⟨_, hx⟩, _, ds, gs, before, hw, hz⟩ := hpre
  refine (contract (w.forCall tape i) w.heap.size i.args ds gs before hval (DataW.Whole.of_heap (w' := w.forCall tape i) (by rfl) hw) (hX _ _ (by rfl) hx) hsh hz).mono fun e W' ⟨v, he, hp⟩ => ?_
  subst he
  exact ChangeSpec.post_blind hp
def IL (w : World) (p : Option Addr) (l : List Int) : Prop := (∀ x ∈ l, -9223372036854775808 ≤ x ∧ x ≤ 9223372036854775807) ∧ (l = [] ∨ ∃ b off, p = some ⟨b, off, none⟩ ∧ ∀ (i : Nat) (x : Int), l[i]? = some x → w.cell? ⟨b, off + i, none⟩ = some (.int .i64 x))
set_option maxRecDepth 100000 in
theorem open_nums {H : Type} {enc : TypeId × Value → H} {W : World} {v0 : Value} {d0 : DataW H} {p0 : List MemPlace} {base : Nat} (hv : Value.okWide Tryd.prog W .any base 45 v0)
    (h0 : DataW.Trod enc Tryd.prog W 0 (fun _ => true) true 45 v0 d0 p0) : ∃ (p : Option Addr) (cap : Nat) (l : List Int), v0 = .slice p l.length cap ∧ IL W p l := by
  obtain ⟨a0, len0, cap0, rfl⟩ := okWide_slice Tryd.underlying45 hv
  obtain ⟨fuel, hf⟩ := h0
  rcases open_ints Tryd.underlying45 Tryd.underlying3 (by kernel_rfl) hf with ⟨hcs, _⟩ | ⟨x, len, cap, zs, hcs, _, hl, hm, hz, _, hcell, hwz⟩
  · simp [Value.cells] at hcs
    obtain ⟨rfl, rfl, rfl⟩ := hcs
    exact ⟨none, 0, [], rfl, ⟨(fun _ h => by cases h), .inl rfl⟩⟩
  · simp [Value.cells] at hcs
    obtain ⟨rfl, rfl, rfl⟩ := hcs
    have hzl : zs.length = cap0 := by simpa using hz
    have htl : (zs.take len0).length = len0 := by rw [List.length_take]; omega
    refine ⟨some x, cap0, zs.take len0, by rw [htl], ⟨fun y hy => ?_, ?_⟩⟩
    · have := of_wf (hwz y (List.mem_of_mem_take hy))
      exact this
    · by_cases h0 : len0 = 0
      · exact .inl (by rw [h0]; simp)
      · obtain ⟨b, off, spot⟩ := x
        have hc := hcell 0 (by omega)
        have hspot : spot = none := by simpa [Addr.add] using World.cell?_spot hc
        subst hspot
        refine .inr ⟨b, off, rfl, fun i y hy => ?_⟩
        obtain ⟨hi, rfl⟩ := List.getElem?_eq_some_iff.1 hy
        rw [htl] at hi
        have h1 := hcell i (by omega)
        have hadd : (⟨b, off, none⟩ : Addr).add i = ⟨b, off + i, none⟩ := by unfold Addr.add; split <;> simp_all
        rw [hadd] at h1
        rw [h1, List.getElem_take]
        simp [List.getD, show i < zs.length by omega]
end Go.Proofs.YtbceajgipmjmlaaDoor
/- Paths of a walk that come together again. -/
namespace Tw
open Go Go.RowKit Go.Proofs.YtbceajgipmjmlaaDoor
def normQ (R : Act → World → Prop) : Exit → Act → World → Prop
  | .normal, a, w => R a w
  | _, _, _ => False
def preW (P : Program) (R : Act → World → Prop) : Nat → Code → Act → World → Prop
  | 0, _, a, w => R a w
  | n + 1, .seq x y, a, w => x.wp P (normQ (preW P R n y)) a w
  | _ + 1, _, _, _ => False
def cutT : Nat → Code → Code
  | n + 1, .seq _ b => cutT n b
  | _, c => c
theorem wp_joins {P : Program} {Q : Exit → Act → World → Prop} (R : Act → World → Prop) : ∀ (n : Nat) {c : Code} {a : Act} {w : World}, preW P R n c a w → (∀ a' w', R a' w' → (cutT n c).wp P Q a' w') → c.wp P Q a w
  | 0, c, a, w, h1, h2 => by
    have := h2 a w h1
    cases c <;> exact this
  | n + 1, c, a, w, h1, h2 => by
    cases c with
    | seq x y =>
      refine wp_seq (wp_mono h1 ?_)
      rintro e a' w' hq
      cases e with
      | normal => exact wp_joins R n hq h2
      | _ => exact hq.elim
    | _ => exact h1.elim
def JoinR (F : (Nat → Value) → Array Value) (W0 : Base) (K : List (Nat × Obj)) (a : Act) (w : World) : Prop := (∃ z, a = { tmps := F z, defers := [] }) ∧ KS W0 K w
theorem join_mk {F : (Nat → Value) → Array Value} {W0 : Base} {K : List (Nat × Obj)} {T : Array Value} {w : World} (h : F (fun i => T.getD i undef) = T) (hK : KS W0 K w) : JoinR F W0 K { tmps := T, defers := [] } w := ⟨⟨_, by rw [h]⟩, hK⟩
end Tw
