import Derived.Test.YthpooalhibedpaaTQ00
/- Part of the proof: T4, T5, T6, T7, T8. -/
set_option linter.unusedVariables false
set_option linter.unusedSimpArgs false
set_option linter.unusedSectionVars false
namespace Go.Proofs.Ythpooalhibedpaa
open Go Go.RowKit Tw
set_option maxRecDepth 100000 in
set_option maxHeartbeats 4000000 in
theorem Find1_any (c : Col) (bay row : Int) (deck : Bool) (g1 g2 g3 : Nat) (w : World) (h1 : CapR w g1 [.int .i64 bay]) (h2 : CapR w g2 [.int .i64 row]) (h3 : CapR w g3 [.bool deck]) : Calls Try.prog 34 #[.agg (colC c).toArray, .pointer (some ⟨g1, 0, none⟩), .pointer (some ⟨g2, 0, none⟩), .pointer (some ⟨g3, 0, none⟩)] w fun e w' => e = .returned (.bool (isAt bay row deck c)) ∧ Below w.heap.size w w' := by
  have H1 := Lib.hid h1
  clear h1
  have H2 := Lib.hid h2
  clear h2
  have H3 := Lib.hid h3
  clear h3
  go_enter Try.func34, Try.ntmps34
  refine wp_seq ?_
  refine wp_region_L (W0 := w) [] (KS.start w) ?_
  refine wpL_new (fun g => .pointer (some ⟨g, 0, none⟩)) (obi := .cells (colC c).toArray 49 (0, 0)) rfl rfl (fun _ => by kernel_rfl) (fun _ => by simp only [List.setIfInBounds_toArray, List.set_cons_succ, List.set_cons_zero] <;> rfl) fun g21 Bg21 Fg21 => ?_
  refine lm (v := .bool false) rfl rfl ?_
  refine wpL_done (fun W1 hW1 => ?_)
  refine (show Code.wp _ _ _ _ _ from ?_)
  refine wp_seq ?_
  refine wp_region_L (W0 := w) [(g21, .cells (colC c).toArray 49 (0, 0))] (hW1) ?_
  refine lm (v := .pointer (some ⟨g21, 0, none⟩)) rfl rfl ?_
  refine lv (v := .int .i64 c.bay) rfl rfl (yb_cell (off := 0) rfl (by kernel_rfl) (.head _) Try.underlying3 rfl (by kernel_rfl)) ?_
  refine lv (v := .int .i64 bay) rfl rfl (yb_rf (v := .int .i64 bay) rfl (by kernel_rfl) (fun W hW => ((H1.out).keep hW.1).2 0 _ rfl) Try.underlying3 rfl) ?_
  refine lp (v := .bool (decide (c.bay = bay))) rfl rfl (run_bin rfl (vx := (.int .i64 c.bay)) (vy := (.int .i64 bay)) (by kernel_rfl) (by kernel_rfl) fun w => bi_eql rfl w) ?_
  refine lm (v := .bool (decide (c.bay = bay))) rfl rfl ?_
  cases hd1 : (decide (c.bay = bay)) with
  | false =>
    have h1 : ¬ (c.bay = bay) := of_decide_eq_false hd1
    clear hd1
    refine ln rfl ?_
    refine ln rfl ?_
    refine ln rfl ?_
    refine ln rfl ?_
    refine lm (v := .bool false) rfl rfl ?_
    refine lm (v := .bool false) rfl rfl ?_
    refine ln rfl ?_
    refine ln rfl ?_
    refine ln rfl ?_
    refine ln rfl ?_
    refine lm (v := .bool false) rfl rfl ?_
    refine lm (v := .bool false) rfl rfl ?_
    refine wpL_done (fun W2 hW2 => ?_)
    refine (show Code.wp _ _ _ _ _ from ?_)
    refine wp_ret ?_
    try simp only [inBlock_ret, then_ret]
    refine bodyPost_ret (v := .bool false) ?_ rfl ?_
    · kernel_rfl
    · exact ⟨(bool_is (by unfold isAt; simp [*])), hW2.1⟩
  | true =>
    have h1 : c.bay = bay := of_decide_eq_true hd1
    clear hd1
    refine lm (v := .pointer (some ⟨g21, 1, none⟩)) rfl rfl ?_
    refine lv (v := .int .i64 c.row) rfl rfl (yb_cell (off := 1) rfl (by kernel_rfl) (.head _) Try.underlying3 rfl (by kernel_rfl)) ?_
    refine lv (v := .int .i64 row) rfl rfl (yb_rf (v := .int .i64 row) rfl (by kernel_rfl) (fun W hW => ((H2.out).keep hW.1).2 0 _ rfl) Try.underlying3 rfl) ?_
    refine lp (v := .bool (decide (c.row = row))) rfl rfl (run_bin rfl (vx := (.int .i64 c.row)) (vy := (.int .i64 row)) (by kernel_rfl) (by kernel_rfl) fun w => bi_eql rfl w) ?_
    refine lm (v := .bool (decide (c.row = row))) rfl rfl ?_
    refine lm (v := .bool (decide (c.row = row))) rfl rfl ?_
    cases hd2 : (decide (c.row = row)) with
    | false =>
      have h2 : ¬ (c.row = row) := of_decide_eq_false hd2
      clear hd2
      refine ln rfl ?_
      refine ln rfl ?_
      refine ln rfl ?_
      refine ln rfl ?_
      refine lm (v := .bool false) rfl rfl ?_
      refine lm (v := .bool false) rfl rfl ?_
      refine wpL_done (fun W3 hW3 => ?_)
      refine (show Code.wp _ _ _ _ _ from ?_)
      refine wp_ret ?_
      try simp only [inBlock_ret, then_ret]
      refine bodyPost_ret (v := .bool false) ?_ rfl ?_
      · kernel_rfl
      · exact ⟨(bool_is (by unfold isAt; simp [*])), hW3.1⟩
    | true =>
      have h2 : c.row = row := of_decide_eq_true hd2
      clear hd2
      refine lm (v := .pointer (some ⟨g21, 2, none⟩)) rfl rfl ?_
      refine lv (v := .bool c.deck) rfl rfl (yb_cell (off := 2) rfl (by kernel_rfl) (.head _) Try.underlying4 rfl (by kernel_rfl)) ?_
      refine lv (v := .bool deck) rfl rfl (yb_rf (v := .bool deck) rfl (by kernel_rfl) (fun W hW => ((H3.out).keep hW.1).2 0 _ rfl) Try.underlying4 rfl) ?_
      refine lp (v := .bool (c.deck == deck)) rfl rfl (run_bin rfl (vx := .bool c.deck) (vy := .bool deck) (by kernel_rfl) (by kernel_rfl) fun w => bn_bool_eql rfl Try.underlying4 w) ?_
      refine lm (v := .bool (c.deck == deck)) rfl rfl ?_
      refine lm (v := .bool (c.deck == deck)) rfl rfl ?_
      refine wpL_done (fun W4 hW4 => ?_)
      refine (show Code.wp _ _ _ _ _ from ?_)
      refine wp_ret ?_
      try simp only [inBlock_ret, then_ret]
      refine bodyPost_ret (v := .bool (c.deck == deck)) ?_ rfl ?_
      · kernel_rfl
      · exact ⟨(bool_is (by unfold isAt; simp [*])), hW4.1⟩
set_option maxRecDepth 100000 in
set_option maxHeartbeats 4000000 in
theorem IndexFunc_col (l : List Col) (p : Option Addr) (c : Nat) (hl : l.length ≤ 4000000000) (fv : FuncId) (caps : Array Value) (P : Col → Bool) (A : Col → Array Value) (hA : ∀ y, A y = #[.agg (colC y).toArray] ++ caps) (hcf : ∀ args w, (callFunc fv args).run Try.prog w = .ok (.enter fv args) w) (w : World) (hp : SLV w p (l.flatMap colC)) (hf : ∀ W, Below w.heap.size w W → ∀ y ∈ l, Calls Try.prog fv (A y) W fun e w' => e = .returned (.bool (P y)) ∧ Below W.heap.size W w') : Calls Try.prog 33 #[.slice p l.length c, .func (.func fv) #[] caps] w fun e w' => e = .returned (.int .i64 (fiN (fst P l))) ∧ Below w.heap.size w w' := by
  have HP := Lib.hid hp
  clear hp
  go_enter Try.func33, Try.ntmps33
  refine wp_seq ?_
  refine wp_region_L (W0 := w) [] (KS.start w) ?_
  refine lm (v := .int .i64 0) rfl rfl ?_
  refine wpL_done (fun W1 hW1 => ?_)
  refine (show Code.wp _ _ _ _ _ from ?_)
  refine wp_seq ?_
  refine wp_seq ?_
  refine wp_region_L (W0 := w) [] (hW1) ?_
  refine lm (v := .slice p l.length c) rfl rfl ?_
  refine lp (v := .int .i64 ((l.length : Nat) : Int)) rfl rfl (run_lenL (p := p) (cap := c) (n := l.length) rfl Try.underlying22 (by kernel_rfl)) ?_
  refine lm (v := .int .i64 0) rfl rfl ?_
  refine wpL_done (fun W2 hW2 => ?_)
  refine (show Code.wp _ _ _ _ _ from ?_)
  refine wp_block ?_
  go_loopw [8] (fun u8 wr => ∃ (k : Nat), (k ≤ l.length) ∧ (fstF P 0 (l.take k) = none) ∧ u8 = .int .i64 ((k : Nat) : Int) ∧ KS w [] wr) (fun u8 _ => l.length - (intOf u8).toNat)
  case atStart => exact ⟨0, (Nat.zero_le _), fst_zero, rfl, (hW2.sub (fun p hp => by first | exact hp | (simp only [List.mem_cons, List.mem_append, List.nil_append, List.not_mem_nil, or_assoc, or_false, false_or] at hp ⊢ <;> grind)))⟩
  case round =>
    obtain ⟨k, hk, hF, rfl, hL3⟩ := hrel
    refine wp_seq ?_
    refine wp_region_L (W0 := w) [] (hL3) ?_
    refine lp (v := .bool (decide (k < l.length))) rfl rfl (run_bin rfl (vx := (.int .i64 ((k : Nat) : Int))) (vy := (.int .i64 ((l.length : Nat) : Int))) (by kernel_rfl) (by kernel_rfl) fun w => bn_lss rfl w) ?_
    refine wpL_done (fun W4 hW4 => ?_)
    refine (show Code.wp _ _ _ _ _ from ?_)
    refine wp_seq ?_
    cases hd1 : (decide (k < l.length)) with
    | false =>
      have h1 : ¬ (k < l.length) := of_decide_eq_false hd1
      clear hd1
      refine wp_cond_false rfl ?_
      refine wp_exit ?_
      refine (show Code.wp _ _ _ _ _ from ?_)
      refine wp_seq ?_
      refine wp_region_L (W0 := w) [] (hW4) ?_
      refine lm (v := .int .i64 (-1)) rfl rfl ?_
      refine wpL_done (fun W5 hW5 => ?_)
      refine (show Code.wp _ _ _ _ _ from ?_)
      refine wp_ret ?_
      try simp only [inBlock_ret, then_ret]
      refine bodyPost_ret (v := .int .i64 (-1)) ?_ rfl ?_
      · kernel_rfl
      · exact ⟨(int_is (by rw [fst_end hF h1]; rfl)), hW5.1⟩
    | true =>
      have h1 : k < l.length := of_decide_eq_true hd1
      clear hd1
      refine wp_cond_true rfl ?_
      refine wp_skip ?_
      refine (show Code.wp _ _ _ _ _ from ?_)
      refine wp_seq ?_
      refine wp_block ?_
      refine wp_seq ?_
      refine wp_region_L (W0 := w) [] (hW4) ?_
      refine lm (v := .int .i64 ((k : Nat) : Int)) rfl rfl ?_
      refine lm (v := .int .i64 ((k : Nat) : Int)) rfl rfl ?_
      refine wpL_done (fun W6 hW6 => ?_)
      refine (show Code.wp _ _ _ _ _ from ?_)
      refine wp_seq ?_
      refine wp_region_L (W0 := w) [] (hW6) ?_
      refine lm (v := .func (.func fv) #[] caps) rfl rfl ?_
      refine lm (v := .slice p l.length c) rfl rfl ?_
      refine lm (v := .int .i64 ((k : Nat) : Int)) rfl rfl ?_
      obtain ⟨y1, g1_, f1_, hy1, hp1, hc1⟩ := RL.at (RL.base HP.out) colC_len (by decide) (hW6.sub (fun _ h => by cases h)) (k := k) (by omega)
      refine lp (v := .pointer (some ⟨g1_, f1_ + k * 12, none⟩)) rfl rfl (run_idxQ (p := p) (cap := c) (n := l.length) (j := .i64) (k := k) (sz := 12) rfl Try.underlying22 (by kernel_rfl) (by kernel_rfl) hp1 (by kernel_rfl) (by omega)) ?_
      refine lv (v := .agg (colC y1).toArray) rfl rfl (yb_rs (off := f1_ + k * 12) (cs := colC y1) rfl (by kernel_rfl) (fun W hW => hc1 W (hW.sub (fun _ h => by cases h))) Try.underlying49 rfl (by kernel_rfl)) ?_
      refine lv (v := .bool (P y1)) rfl rfl (yb_call (f := fv) (args := A y1) (fun w => (run_callv rfl (by kernel_rfl) (by kernel_rfl) hcf w).trans (by rw [← hA])) fun W hW => hf W hW.1 y1 (List.mem_of_getElem? hy1)) ?_
      refine wpL_done (fun W7 hW7 => ?_)
      refine (show Code.wp _ _ _ _ _ from ?_)
      cases h2 : (P y1) with
      | false =>
        refine wp_cond_false rfl ?_
        refine wp_skip ?_
        refine (show Code.wp _ _ _ _ _ from ?_)
        refine wp_region_L (W0 := w) [] (hW7) ?_
        refine lp (v := .int .i64 (((k + 1) : Nat) : Int)) rfl rfl (run_bin rfl (vx := (.int .i64 ((k : Nat) : Int))) (vy := (.int .i64 ((1 : Nat) : Int))) (by kernel_rfl) (by kernel_rfl) fun w => bn_add (z := (k + 1)) rfl (wr_i64 (by omega)) w) ?_
        refine lm (v := .int .i64 (((k + 1) : Nat) : Int)) rfl rfl ?_
        refine wpL_done (fun W8 hW8 => ?_)
        go_roundw
        case rel =>
          repeat apply Exists.intro
          exact ⟨⟨k + 1, (by omega), (fst_next hF hy1 h2), rfl, (hW8.sub (fun p hp => by first | exact hp | (simp only [List.mem_cons, List.mem_append, List.nil_append, List.not_mem_nil, or_assoc, or_false, false_or] at hp ⊢ <;> grind)))⟩, rfl⟩
        case measure => (show l.length - (intOf (.int .i64 (((k + 1) : Nat) : Int))).toNat < l.length - (intOf (.int .i64 ((k : Nat) : Int))).toNat); simp only [intOf]; omega
      | true =>
        refine wp_cond_true rfl ?_
        refine wp_seq ?_
        refine wp_region_L (W0 := w) [] (hW7) ?_
        refine lm (v := .int .i64 ((k : Nat) : Int)) rfl rfl ?_
        refine lm (v := .int .i64 ((k : Nat) : Int)) rfl rfl ?_
        refine wpL_done (fun W9 hW9 => ?_)
        refine (show Code.wp _ _ _ _ _ from ?_)
        refine wp_ret ?_
        try simp only [inBlock_ret, then_ret]
        refine bodyPost_ret (v := .int .i64 ((k : Nat) : Int)) ?_ rfl ?_
        · kernel_rfl
        · exact ⟨(int_is (by rw [fst_here hF hy1 h2]; rfl)), hW9.1⟩
set_option maxRecDepth 100000 in
set_option maxHeartbeats 4000000 in
theorem IndexFunc_cov (l : List Cov) (p : Option Addr) (c : Nat) (hl : l.length ≤ 4000000000) (fv : FuncId) (caps : Array Value) (P : Cov → Bool) (A : Cov → Array Value) (hA : ∀ y, A y = #[.agg (covC y).toArray] ++ caps) (hcf : ∀ args w, (callFunc fv args).run Try.prog w = .ok (.enter fv args) w) (w : World) (hp : SLV w p (l.flatMap covC)) (hf : ∀ W, Below w.heap.size w W → ∀ y ∈ l, Calls Try.prog fv (A y) W fun e w' => e = .returned (.bool (P y)) ∧ Below W.heap.size W w') : Calls Try.prog 41 #[.slice p l.length c, .func (.func fv) #[] caps] w fun e w' => e = .returned (.int .i64 (fiN (fst P l))) ∧ Below w.heap.size w w' := by
  have HP := Lib.hid hp
  clear hp
  go_enter Try.func41, Try.ntmps41
  refine wp_seq ?_
  refine wp_region_L (W0 := w) [] (KS.start w) ?_
  refine lm (v := .int .i64 0) rfl rfl ?_
  refine wpL_done (fun W1 hW1 => ?_)
  refine (show Code.wp _ _ _ _ _ from ?_)
  refine wp_seq ?_
  refine wp_seq ?_
  refine wp_region_L (W0 := w) [] (hW1) ?_
  refine lm (v := .slice p l.length c) rfl rfl ?_
  refine lp (v := .int .i64 ((l.length : Nat) : Int)) rfl rfl (run_lenL (p := p) (cap := c) (n := l.length) rfl Try.underlying23 (by kernel_rfl)) ?_
  refine lm (v := .int .i64 0) rfl rfl ?_
  refine wpL_done (fun W2 hW2 => ?_)
  refine (show Code.wp _ _ _ _ _ from ?_)
  refine wp_block ?_
  go_loopw [8] (fun u8 wr => ∃ (k : Nat), (k ≤ l.length) ∧ (fstF P 0 (l.take k) = none) ∧ u8 = .int .i64 ((k : Nat) : Int) ∧ KS w [] wr) (fun u8 _ => l.length - (intOf u8).toNat)
  case atStart => exact ⟨0, (Nat.zero_le _), fst_zero, rfl, (hW2.sub (fun p hp => by first | exact hp | (simp only [List.mem_cons, List.mem_append, List.nil_append, List.not_mem_nil, or_assoc, or_false, false_or] at hp ⊢ <;> grind)))⟩
  case round =>
    obtain ⟨k, hk, hF, rfl, hL3⟩ := hrel
    refine wp_seq ?_
    refine wp_region_L (W0 := w) [] (hL3) ?_
    refine lp (v := .bool (decide (k < l.length))) rfl rfl (run_bin rfl (vx := (.int .i64 ((k : Nat) : Int))) (vy := (.int .i64 ((l.length : Nat) : Int))) (by kernel_rfl) (by kernel_rfl) fun w => bn_lss rfl w) ?_
    refine wpL_done (fun W4 hW4 => ?_)
    refine (show Code.wp _ _ _ _ _ from ?_)
    refine wp_seq ?_
    cases hd1 : (decide (k < l.length)) with
    | false =>
      have h1 : ¬ (k < l.length) := of_decide_eq_false hd1
      clear hd1
      refine wp_cond_false rfl ?_
      refine wp_exit ?_
      refine (show Code.wp _ _ _ _ _ from ?_)
      refine wp_seq ?_
      refine wp_region_L (W0 := w) [] (hW4) ?_
      refine lm (v := .int .i64 (-1)) rfl rfl ?_
      refine wpL_done (fun W5 hW5 => ?_)
      refine (show Code.wp _ _ _ _ _ from ?_)
      refine wp_ret ?_
      try simp only [inBlock_ret, then_ret]
      refine bodyPost_ret (v := .int .i64 (-1)) ?_ rfl ?_
      · kernel_rfl
      · exact ⟨(int_is (by rw [fst_end hF h1]; rfl)), hW5.1⟩
    | true =>
      have h1 : k < l.length := of_decide_eq_true hd1
      clear hd1
      refine wp_cond_true rfl ?_
      refine wp_skip ?_
      refine (show Code.wp _ _ _ _ _ from ?_)
      refine wp_seq ?_
      refine wp_block ?_
      refine wp_seq ?_
      refine wp_region_L (W0 := w) [] (hW4) ?_
      refine lm (v := .int .i64 ((k : Nat) : Int)) rfl rfl ?_
      refine lm (v := .int .i64 ((k : Nat) : Int)) rfl rfl ?_
      refine wpL_done (fun W6 hW6 => ?_)
      refine (show Code.wp _ _ _ _ _ from ?_)
      refine wp_seq ?_
      refine wp_region_L (W0 := w) [] (hW6) ?_
      refine lm (v := .func (.func fv) #[] caps) rfl rfl ?_
      refine lm (v := .slice p l.length c) rfl rfl ?_
      refine lm (v := .int .i64 ((k : Nat) : Int)) rfl rfl ?_
      obtain ⟨y1, g1_, f1_, hy1, hp1, hc1⟩ := RL.at (RL.base HP.out) covC_len (by decide) (hW6.sub (fun _ h => by cases h)) (k := k) (by omega)
      refine lp (v := .pointer (some ⟨g1_, f1_ + k * 2, none⟩)) rfl rfl (run_idxQ (p := p) (cap := c) (n := l.length) (j := .i64) (k := k) (sz := 2) rfl Try.underlying23 (by kernel_rfl) (by kernel_rfl) hp1 (by kernel_rfl) (by omega)) ?_
      refine lv (v := .agg (covC y1).toArray) rfl rfl (yb_rs (off := f1_ + k * 2) (cs := covC y1) rfl (by kernel_rfl) (fun W hW => hc1 W (hW.sub (fun _ h => by cases h))) Try.underlying51 rfl (by kernel_rfl)) ?_
      refine lv (v := .bool (P y1)) rfl rfl (yb_call (f := fv) (args := A y1) (fun w => (run_callv rfl (by kernel_rfl) (by kernel_rfl) hcf w).trans (by rw [← hA])) fun W hW => hf W hW.1 y1 (List.mem_of_getElem? hy1)) ?_
      refine wpL_done (fun W7 hW7 => ?_)
      refine (show Code.wp _ _ _ _ _ from ?_)
      cases h2 : (P y1) with
      | false =>
        refine wp_cond_false rfl ?_
        refine wp_skip ?_
        refine (show Code.wp _ _ _ _ _ from ?_)
        refine wp_region_L (W0 := w) [] (hW7) ?_
        refine lp (v := .int .i64 (((k + 1) : Nat) : Int)) rfl rfl (run_bin rfl (vx := (.int .i64 ((k : Nat) : Int))) (vy := (.int .i64 ((1 : Nat) : Int))) (by kernel_rfl) (by kernel_rfl) fun w => bn_add (z := (k + 1)) rfl (wr_i64 (by omega)) w) ?_
        refine lm (v := .int .i64 (((k + 1) : Nat) : Int)) rfl rfl ?_
        refine wpL_done (fun W8 hW8 => ?_)
        go_roundw
        case rel =>
          repeat apply Exists.intro
          exact ⟨⟨k + 1, (by omega), (fst_next hF hy1 h2), rfl, (hW8.sub (fun p hp => by first | exact hp | (simp only [List.mem_cons, List.mem_append, List.nil_append, List.not_mem_nil, or_assoc, or_false, false_or] at hp ⊢ <;> grind)))⟩, rfl⟩
        case measure => (show l.length - (intOf (.int .i64 (((k + 1) : Nat) : Int))).toNat < l.length - (intOf (.int .i64 ((k : Nat) : Int))).toNat); simp only [intOf]; omega
      | true =>
        refine wp_cond_true rfl ?_
        refine wp_seq ?_
        refine wp_region_L (W0 := w) [] (hW7) ?_
        refine lm (v := .int .i64 ((k : Nat) : Int)) rfl rfl ?_
        refine lm (v := .int .i64 ((k : Nat) : Int)) rfl rfl ?_
        refine wpL_done (fun W9 hW9 => ?_)
        refine (show Code.wp _ _ _ _ _ from ?_)
        refine wp_ret ?_
        try simp only [inBlock_ret, then_ret]
        refine bodyPost_ret (v := .int .i64 ((k : Nat) : Int)) ?_ rfl ?_
        · kernel_rfl
        · exact ⟨(int_is (by rw [fst_here hF hy1 h2]; rfl)), hW9.1⟩
theorem fi_none {o : Option Nat} (h : fiN o < 0) : o = none ∧ True := by
  cases o with
  | none => exact ⟨rfl, trivial⟩
  | some k => simp [fiN] at h; omega
theorem fi_some {o : Option Nat} (h : ¬ (fiN o < 0)) : findN o = fiN o ∧ o.isSome = true := by
  cases o with
  | none => simp [fiN] at h
  | some k => exact ⟨rfl, rfl⟩
set_option maxRecDepth 100000 in
set_option maxHeartbeats 4000000 in
theorem Find_any (cs : List Col) (pc : Option Addr) (cc : Nat) (lc : cs.length ≤ 4000000000) (os : List Cov) (po : Option Addr) (co : Nat) (lo : os.length ≤ 4000000000) (t : Tl) (bay row : Int) (deck : Bool) (w : World) (hc : SLV w pc (cs.flatMap colC)) (ho : SLV w po (os.flatMap covC)) : Calls Try.prog 8 #[.agg (shC (.slice pc cs.length cc) (.slice po os.length co) t).toArray, .int .i64 bay, .int .i64 row, .bool deck] w fun e w' => e = .returned (.tuple #[.int .i64 (findN (fst (isAt bay row deck) cs)), .bool (fst (isAt bay row deck) cs).isSome]) ∧ Below w.heap.size w w' := by
  have HC := Lib.hid hc
  clear hc
  have HO := Lib.hid ho
  clear ho
  go_enter Try.func8, Try.ntmps8
  refine wp_seq ?_
  refine wp_region_L (W0 := w) [] (KS.start w) ?_
  refine wpL_new (fun g => .pointer (some ⟨g, 0, none⟩)) (obi := .cells (shC (.slice pc cs.length cc) (.slice po os.length co) t).toArray 32 (0, 0)) rfl rfl (fun _ => by kernel_rfl) (fun _ => by simp only [List.setIfInBounds_toArray, List.set_cons_succ, List.set_cons_zero] <;> rfl) fun g1 Bg1 Fg1 => ?_
  refine wpL_new (fun g => .pointer (some ⟨g, 0, none⟩)) (obi := .cells #[.int .i64 bay] 3 (0, 0)) rfl rfl (fun _ => by kernel_rfl) (fun _ => by simp only [List.setIfInBounds_toArray, List.set_cons_succ, List.set_cons_zero] <;> rfl) fun g2 Bg2 Fg2 => ?_
  obtain dj3_0 : g1 ≠ g2 := by simpa only [dj_app_l, dj_app_r, dj_cons_l, dj_cons_r, dj_nil_l, dj_nil_r, dk_app, dk_cons, dk_nil, and_true, true_and, and_assoc] using (show Dk g2 [(g1, .cells (shC (.slice pc cs.length cc) (.slice po os.length co) t).toArray 32 (0, 0))] from Fg2)
  refine wpL_new (fun g => .pointer (some ⟨g, 0, none⟩)) (obi := .cells #[.int .i64 row] 3 (0, 0)) rfl rfl (fun _ => by kernel_rfl) (fun _ => by simp only [List.setIfInBounds_toArray, List.set_cons_succ, List.set_cons_zero] <;> rfl) fun g4 Bg4 Fg4 => ?_
  obtain ⟨dj5_0, dj5_1⟩ : g2 ≠ g4 ∧ g1 ≠ g4 := by simpa only [dj_app_l, dj_app_r, dj_cons_l, dj_cons_r, dj_nil_l, dj_nil_r, dk_app, dk_cons, dk_nil, and_true, true_and, and_assoc] using (show Dk g4 [(g2, .cells #[.int .i64 bay] 3 (0, 0)), (g1, .cells (shC (.slice pc cs.length cc) (.slice po os.length co) t).toArray 32 (0, 0))] from Fg4)
  refine wpL_new (fun g => .pointer (some ⟨g, 0, none⟩)) (obi := .cells #[.bool deck] 4 (0, 0)) rfl rfl (fun _ => by kernel_rfl) (fun _ => by simp only [List.setIfInBounds_toArray, List.set_cons_succ, List.set_cons_zero] <;> rfl) fun g6 Bg6 Fg6 => ?_
  obtain ⟨dj7_0, dj7_1, dj7_2⟩ : g4 ≠ g6 ∧ g2 ≠ g6 ∧ g1 ≠ g6 := by simpa only [dj_app_l, dj_app_r, dj_cons_l, dj_cons_r, dj_nil_l, dj_nil_r, dk_app, dk_cons, dk_nil, and_true, true_and, and_assoc] using (show Dk g6 [(g4, .cells #[.int .i64 row] 3 (0, 0)), (g2, .cells #[.int .i64 bay] 3 (0, 0)), (g1, .cells (shC (.slice pc cs.length cc) (.slice po os.length co) t).toArray 32 (0, 0))] from Fg6)
  refine lm (v := .int .i64 0) rfl rfl ?_
  refine lm (v := .bool false) rfl rfl ?_
  refine wpL_done (fun W1 hW1 => ?_)
  refine (show Code.wp _ _ _ _ _ from ?_)
  refine wp_seq ?_
  refine wp_region_L (W0 := w) [(g6, .cells #[.bool deck] 4 (0, 0)), (g4, .cells #[.int .i64 row] 3 (0, 0)), (g2, .cells #[.int .i64 bay] 3 (0, 0)), (g1, .cells (shC (.slice pc cs.length cc) (.slice po os.length co) t).toArray 32 (0, 0))] (hW1) ?_
  refine lm (v := .pointer (some ⟨g1, 0, none⟩)) rfl rfl ?_
  refine lv (v := .slice pc cs.length cc) rfl rfl (yb_cell (off := 0) rfl (by kernel_rfl) (.tail _ (.tail _ (.tail _ (.head _)))) Try.underlying22 rfl (by kernel_rfl)) ?_
  refine lm (v := .func (.func 34) #[] #[.pointer (some ⟨g2, 0, none⟩), .pointer (some ⟨g4, 0, none⟩), .pointer (some ⟨g6, 0, none⟩)]) rfl rfl ?_
  refine lv (v := .int .i64 (fiN (fst (isAt bay row deck) cs))) rfl rfl (yb_call (f := 33) (args := #[.slice pc cs.length cc, .func (.func 34) #[] #[.pointer (some ⟨g2, 0, none⟩), .pointer (some ⟨g4, 0, none⟩), .pointer (some ⟨g6, 0, none⟩)]]) (fun _ => by kernel_rfl) fun W hW => IndexFunc_col cs pc cc (by omega) 34 #[.pointer (some ⟨g2, 0, none⟩), .pointer (some ⟨g4, 0, none⟩), .pointer (some ⟨g6, 0, none⟩)] (isAt bay row deck) (fun y => #[.agg (colC y).toArray, .pointer (some ⟨g2, 0, none⟩), .pointer (some ⟨g4, 0, none⟩), .pointer (some ⟨g6, 0, none⟩)]) (fun _ => by kernel_rfl) (fun _ _ => by kernel_rfl) W ((RL.base HC.out) _ (hW.sub (fun _ h => by cases h))) (fun W2 hb y hm => Find1_any y bay row deck g2 g4 g6 W2 ((CapR.of hW (.tail _ (.tail _ (.head _)))).keep hb) ((CapR.of hW (.tail _ (.head _))).keep hb) ((CapR.of hW (.head _)).keep hb))) ?_
  refine lm (v := .int .i64 (fiN (fst (isAt bay row deck) cs))) rfl rfl ?_
  refine wpL_done (fun W2 hW2 => ?_)
  refine (show Code.wp _ _ _ _ _ from ?_)
  refine wp_seq ?_
  refine wp_seq ?_
  refine wp_region_L (W0 := w) [(g6, .cells #[.bool deck] 4 (0, 0)), (g4, .cells #[.int .i64 row] 3 (0, 0)), (g2, .cells #[.int .i64 bay] 3 (0, 0)), (g1, .cells (shC (.slice pc cs.length cc) (.slice po os.length co) t).toArray 32 (0, 0))] (hW2) ?_
  refine lm (v := .int .i64 (fiN (fst (isAt bay row deck) cs))) rfl rfl ?_
  refine lp (v := .bool (decide ((fiN (fst (isAt bay row deck) cs)) < 0))) rfl rfl (run_bin rfl (vx := (.int .i64 (fiN (fst (isAt bay row deck) cs)))) (vy := (.int .i64 0)) (by kernel_rfl) (by kernel_rfl) fun w => bi_lss rfl w) ?_
  refine wpL_done (fun W3 hW3 => ?_)
  refine (show Code.wp _ _ _ _ _ from ?_)
  cases hd1 : (decide ((fiN (fst (isAt bay row deck) cs)) < 0)) with
  | false =>
    have h1 : ¬ ((fiN (fst (isAt bay row deck) cs)) < 0) := of_decide_eq_false hd1
    clear hd1
    obtain ⟨h8, h9⟩ := fi_some h1
    refine wp_cond_false rfl ?_
    refine wp_skip ?_
    refine (show Code.wp _ _ _ _ _ from ?_)
    refine wp_seq ?_
    refine wp_region_L (W0 := w) [(g6, .cells #[.bool deck] 4 (0, 0)), (g4, .cells #[.int .i64 row] 3 (0, 0)), (g2, .cells #[.int .i64 bay] 3 (0, 0)), (g1, .cells (shC (.slice pc cs.length cc) (.slice po os.length co) t).toArray 32 (0, 0))] (hW3) ?_
    refine lm (v := .int .i64 (fiN (fst (isAt bay row deck) cs))) rfl rfl ?_
    refine lm (v := .int .i64 (fiN (fst (isAt bay row deck) cs))) rfl rfl ?_
    refine lm (v := .bool true) rfl rfl ?_
    refine wpL_done (fun W4 hW4 => ?_)
    refine (show Code.wp _ _ _ _ _ from ?_)
    refine wp_ret ?_
    try simp only [inBlock_ret, then_ret]
    refine bodyPost_ret (v := .tuple #[.int .i64 (fiN (fst (isAt bay row deck) cs)), .bool true]) ?_ rfl ?_
    · kernel_rfl
    · exact ⟨(by rw [h8]; first | rfl | (rw [h9])), hW4.1⟩
  | true =>
    have h1 : (fiN (fst (isAt bay row deck) cs)) < 0 := of_decide_eq_true hd1
    clear hd1
    obtain ⟨h8, h9⟩ := fi_none h1
    refine wp_cond_true rfl ?_
    refine wp_seq ?_
    refine wp_region_L (W0 := w) [(g6, .cells #[.bool deck] 4 (0, 0)), (g4, .cells #[.int .i64 row] 3 (0, 0)), (g2, .cells #[.int .i64 bay] 3 (0, 0)), (g1, .cells (shC (.slice pc cs.length cc) (.slice po os.length co) t).toArray 32 (0, 0))] (hW3) ?_
    refine lm (v := .int .i64 0) rfl rfl ?_
    refine lm (v := .bool false) rfl rfl ?_
    refine wpL_done (fun W5 hW5 => ?_)
    refine (show Code.wp _ _ _ _ _ from ?_)
    refine wp_ret ?_
    try simp only [inBlock_ret, then_ret]
    refine bodyPost_ret (v := .tuple #[.int .i64 0, .bool false]) ?_ rfl ?_
    · kernel_rfl
    · exact ⟨(by rw [h8]; first | rfl | (rw [h9])), hW5.1⟩
end Go.Proofs.Ythpooalhibedpaa
namespace Go.Proofs.Ythpooalhibedpaa
open Go Go.RowKit Tw
set_option maxRecDepth 100000 in
set_option maxHeartbeats 4000000 in
theorem CoverOf1_any (o : Cov) (c : Col) (g1 : Nat) (hl : o.rows.length ≤ 4000000000) (w : World) (h1 : CapR w g1 (colC c)) (hp : SLV w o.rp (o.rows.flatMap inC)) : Calls Try.prog 42 #[.agg (covC o).toArray, .pointer (some ⟨g1, 0, none⟩)] w fun e w' => e = .returned (.bool (belX c o)) ∧ Below w.heap.size w w' := by
  have H1 := Lib.hid h1
  clear h1
  have HP := Lib.hid hp
  clear hp
  go_enter Try.func42, Try.ntmps42
  refine wp_seq ?_
  refine wp_region_L (W0 := w) [] (KS.start w) ?_
  refine wpL_new (fun g => .pointer (some ⟨g, 0, none⟩)) (obi := .cells (covC o).toArray 51 (0, 0)) rfl rfl (fun _ => by kernel_rfl) (fun _ => by simp only [List.setIfInBounds_toArray, List.set_cons_succ, List.set_cons_zero] <;> rfl) fun g21 Bg21 Fg21 => ?_
  refine lm (v := .bool false) rfl rfl ?_
  refine wpL_done (fun W1 hW1 => ?_)
  refine (show Code.wp _ _ _ _ _ from ?_)
  refine wp_seq ?_
  refine wp_region_L (W0 := w) [(g21, .cells (covC o).toArray 51 (0, 0))] (hW1) ?_
  refine lv (v := .agg (colC c).toArray) rfl rfl (yb_rs (off := 0) (cs := _) rfl (by kernel_rfl) (fun W hW => ((H1.out).keep hW.1).2) Try.underlying49 rfl (by kernel_rfl)) ?_
  refine lv (v := .agg (covC o).toArray) rfl rfl (yb_load (n := 2) (off := 0) rfl (by kernel_rfl) (.head _) Try.underlying51 rfl (by kernel_rfl) (by first | (simp [Value.cells]; done) | exact Nat.le_of_ble_eq_true rfl) (by kernel_rfl)) ?_
  refine lv (v := .bool (belX c o)) rfl rfl (yb_call (f := 43) (args := #[.agg (colC c).toArray, .agg (covC o).toArray]) (fun _ => by kernel_rfl) fun W hW => belongs_any c o (by omega) W ((RL.base HP.out) _ (hW.sub (fun _ h => by cases h)))) ?_
  refine lm (v := .bool (belX c o)) rfl rfl ?_
  refine wpL_done (fun W2 hW2 => ?_)
  refine (show Code.wp _ _ _ _ _ from ?_)
  refine wp_ret ?_
  try simp only [inBlock_ret, then_ret]
  refine bodyPost_ret (v := .bool (belX c o)) ?_ rfl ?_
  · kernel_rfl
  · exact ⟨rfl, hW2.1⟩
set_option maxRecDepth 100000 in
set_option maxHeartbeats 4000000 in
theorem CoverOf_any (cs : List Col) (pc : Option Addr) (cc : Nat) (lc : cs.length ≤ 4000000000) (os : List Cov) (po : Option Addr) (co : Nat) (lo : os.length ≤ 4000000000) (t : Tl) (n : Int) (w : World) (hc : SLV w pc (cs.flatMap colC)) (ho : SLV w po (os.flatMap covC)) (hr : RwR w os) (lr : ∀ o ∈ os, o.rows.length ≤ 4000000000) : Calls Try.prog 12 #[.agg (shC (.slice pc cs.length cc) (.slice po os.length co) t).toArray, .int .i64 n] w fun e w' => e = .returned (.int .i64 (fiN (covOf cs os n))) ∧ Below w.heap.size w w' := by
  have HC := Lib.hid hc
  clear hc
  have HO := Lib.hid ho
  clear ho
  have HR := Lib.hid hr
  clear hr
  go_enter Try.func12, Try.ntmps12
  refine wp_seq ?_
  refine wp_region_L (W0 := w) [] (KS.start w) ?_
  refine wpL_new (fun g => .pointer (some ⟨g, 0, none⟩)) (obi := .cells (shC (.slice pc cs.length cc) (.slice po os.length co) t).toArray 32 (0, 0)) rfl rfl (fun _ => by kernel_rfl) (fun _ => by simp only [List.setIfInBounds_toArray, List.set_cons_succ, List.set_cons_zero] <;> rfl) fun g1 Bg1 Fg1 => ?_
  refine lm (v := .int .i64 0) rfl rfl ?_
  refine wpL_done (fun W1 hW1 => ?_)
  refine (show Code.wp _ _ _ _ _ from ?_)
  refine wp_seq ?_
  refine wp_region_L (W0 := w) [(g1, .cells (shC (.slice pc cs.length cc) (.slice po os.length co) t).toArray 32 (0, 0))] (hW1) ?_
  refine lm (v := .pointer (some ⟨g1, 0, none⟩)) rfl rfl ?_
  refine lv (v := .slice pc cs.length cc) rfl rfl (yb_cell (off := 0) rfl (by kernel_rfl) (.head _) Try.underlying22 rfl (by kernel_rfl)) ?_
  refine lm (v := .int .i64 n) rfl rfl ?_
  refine lv (v := .tuple #[.agg (colC (elC col0 cs n)).toArray, .bool (elB cs n)]) rfl rfl (yb_call (f := 40) (args := #[.slice pc cs.length cc, .int .i64 n]) (fun _ => by kernel_rfl) fun W hW => element_col cs pc cc n W ((RL.base HC.out) _ (hW.sub (fun _ h => by cases h)))) ?_
  refine lm (v := .tuple #[.agg (colC (elC col0 cs n)).toArray, .bool (elB cs n)]) rfl rfl ?_
  refine lm (v := .agg (colC (elC col0 cs n)).toArray) rfl rfl ?_
  refine lm (v := .bool (elB cs n)) rfl rfl ?_
  refine wpL_new (fun g => .pointer (some ⟨g, 0, none⟩)) (obi := .cells #[.int .i64 0, .int .i64 0, .bool false, .int .i64 0, .int .i64 0, .int .i64 0, .int .i64 0, .int .i64 0, .slice none 0 0, .int .i64 0, .int .i64 0, .int .i64 0] 49 (0, 0)) rfl rfl (fun _ => by kernel_rfl) (fun _ => by simp only [List.setIfInBounds_toArray, List.set_cons_succ, List.set_cons_zero] <;> rfl) fun g2 Bg2 Fg2 => ?_
  obtain dj3_0 : g1 ≠ g2 := by simpa only [dj_app_l, dj_app_r, dj_cons_l, dj_cons_r, dj_nil_l, dj_nil_r, dk_app, dk_cons, dk_nil, and_true, true_and, and_assoc] using (show Dk g2 [(g1, .cells (shC (.slice pc cs.length cc) (.slice po os.length co) t).toArray 32 (0, 0))] from Fg2)
  refine wpL_s [(g2, .cells (colC (elC col0 cs n)).toArray 49 (0, 0)), (g1, .cells (shC (.slice pc cs.length cc) (.slice po os.length co) t).toArray 32 (0, 0))] rfl rfl (st_row (off := 0) (v := .agg (colC (elC col0 cs n)).toArray) rfl (by kernel_rfl) (by kernel_rfl) (.head _) Bg2 (by kernel_rfl) (by first | (simp [Value.cells]; done) | exact Nat.le_of_ble_eq_true rfl) (fun v hv => colC_one (elC col0 cs n) v hv) (by kernel_rfl) (List.forall_mem_cons.2 ⟨.inl rfl, (List.forall_mem_cons.2 ⟨.inr ⟨(.tail _ (.head _)), (by first | assumption | exact Ne.symm (by assumption))⟩, (List.forall_mem_nil _)⟩)⟩)) ?_
  refine lm (v := .bool (elB cs n)) rfl rfl ?_
  refine wpL_done (fun W2 hW2 => ?_)
  refine (show Code.wp _ _ _ _ _ from ?_)
  refine wp_seq ?_
  refine wp_seq ?_
  refine wp_region_L (W0 := w) [(g2, .cells (colC (elC col0 cs n)).toArray 49 (0, 0)), (g1, .cells (shC (.slice pc cs.length cc) (.slice po os.length co) t).toArray 32 (0, 0))] (hW2) ?_
  refine lm (v := .bool (elB cs n)) rfl rfl ?_
  refine lp (v := .bool (!(elB cs n))) rfl rfl (run_un rfl (by kernel_rfl) fun w => un_not w) ?_
  refine wpL_done (fun W3 hW3 => ?_)
  refine (show Code.wp _ _ _ _ _ from ?_)
  cases h1 : (elB cs n) with
  | false =>
    refine wp_cond_true rfl ?_
    refine wp_seq ?_
    refine wp_region_L (W0 := w) [(g2, .cells (colC (elC col0 cs n)).toArray 49 (0, 0)), (g1, .cells (shC (.slice pc cs.length cc) (.slice po os.length co) t).toArray 32 (0, 0))] (hW3) ?_
    refine lm (v := .int .i64 (-1)) rfl rfl ?_
    refine wpL_done (fun W4 hW4 => ?_)
    refine (show Code.wp _ _ _ _ _ from ?_)
    refine wp_ret ?_
    try simp only [inBlock_ret, then_ret]
    refine bodyPost_ret (v := .int .i64 (-1)) ?_ rfl ?_
    · kernel_rfl
    · exact ⟨(int_is (by unfold covOf; rw [h1]; rfl)), hW4.1⟩
  | true =>
    refine wp_cond_false rfl ?_
    refine wp_skip ?_
    refine (show Code.wp _ _ _ _ _ from ?_)
    refine wp_seq ?_
    refine wp_region_L (W0 := w) [(g2, .cells (colC (elC col0 cs n)).toArray 49 (0, 0)), (g1, .cells (shC (.slice pc cs.length cc) (.slice po os.length co) t).toArray 32 (0, 0))] (hW3) ?_
    refine lm (v := .pointer (some ⟨g1, 1, none⟩)) rfl rfl ?_
    refine lv (v := .slice po os.length co) rfl rfl (yb_cell (off := 1) rfl (by kernel_rfl) (.tail _ (.head _)) Try.underlying23 rfl (by kernel_rfl)) ?_
    refine lm (v := .func (.func 42) #[] #[.pointer (some ⟨g2, 0, none⟩)]) rfl rfl ?_
    refine lv (v := .int .i64 (fiN (fst (belX (elC col0 cs n)) os))) rfl rfl (yb_call (f := 41) (args := #[.slice po os.length co, .func (.func 42) #[] #[.pointer (some ⟨g2, 0, none⟩)]]) (fun _ => by kernel_rfl) fun W hW => IndexFunc_cov os po co (by omega) 42 #[.pointer (some ⟨g2, 0, none⟩)] (belX (elC col0 cs n)) (fun y => #[.agg (covC y).toArray, .pointer (some ⟨g2, 0, none⟩)]) (fun _ => by kernel_rfl) (fun _ _ => by kernel_rfl) W ((RL.base HO.out) _ (hW.sub (fun _ h => by cases h))) (fun W2 hb y hm => CoverOf1_any y (elC col0 cs n) g2 (lr y hm) W2 ((CapR.of hW (.head _)).keep hb) ((HR.out y hm).keep (hW.below hb).1))) ?_
    refine lm (v := .int .i64 (fiN (fst (belX (elC col0 cs n)) os))) rfl rfl ?_
    refine wpL_done (fun W5 hW5 => ?_)
    refine (show Code.wp _ _ _ _ _ from ?_)
    refine wp_ret ?_
    try simp only [inBlock_ret, then_ret]
    refine bodyPost_ret (v := .int .i64 (fiN (fst (belX (elC col0 cs n)) os))) ?_ rfl ?_
    · kernel_rfl
    · exact ⟨(int_is (by unfold covOf; rw [h1]; rfl)), hW5.1⟩
theorem lr_el {os : List Cov} (h : ∀ o ∈ os, o.rows.length ≤ 4000000000) (n : Int) : (elC cov0 os n).rows.length ≤ 4000000000 := by
  unfold elC
  split
  · exact Nat.zero_le _
  · cases hy : os[n.toNat]? with
    | none => exact Nat.zero_le _
    | some y => exact h y (List.mem_of_getElem? hy)
set_option maxRecDepth 100000 in
set_option maxHeartbeats 4000000 in
theorem columnsOf1_any (c : Col) (deck : Bool) (o : Cov) (g1 g2 : Nat) (hl : o.rows.length ≤ 4000000000) (w : World) (h1 : CapR w g1 [.bool deck]) (h2 : CapR w g2 (covC o)) (hp : SLV w o.rp (o.rows.flatMap inC)) : Calls Try.prog 68 #[.agg (colC c).toArray, .pointer (some ⟨g1, 0, none⟩), .pointer (some ⟨g2, 0, none⟩)] w fun e w' => e = .returned (.bool (partOf deck o c)) ∧ Below w.heap.size w w' := by
  have H1 := Lib.hid h1
  clear h1
  have H2 := Lib.hid h2
  clear h2
  have HP := Lib.hid hp
  clear hp
  go_enter Try.func68, Try.ntmps68
  refine wp_seq ?_
  refine wp_region_L (W0 := w) [] (KS.start w) ?_
  refine wpL_new (fun g => .pointer (some ⟨g, 0, none⟩)) (obi := .cells (colC c).toArray 49 (0, 0)) rfl rfl (fun _ => by kernel_rfl) (fun _ => by simp only [List.setIfInBounds_toArray, List.set_cons_succ, List.set_cons_zero] <;> rfl) fun g21 Bg21 Fg21 => ?_
  refine lm (v := .bool false) rfl rfl ?_
  refine wpL_done (fun W1 hW1 => ?_)
  refine (show Code.wp _ _ _ _ _ from ?_)
  refine wp_seq ?_
  refine wp_region_L (W0 := w) [(g21, .cells (colC c).toArray 49 (0, 0))] (hW1) ?_
  refine lm (v := .pointer (some ⟨g21, 2, none⟩)) rfl rfl ?_
  refine lv (v := .bool c.deck) rfl rfl (yb_cell (off := 2) rfl (by kernel_rfl) (.head _) Try.underlying4 rfl (by kernel_rfl)) ?_
  refine lv (v := .bool deck) rfl rfl (yb_rf (v := .bool deck) rfl (by kernel_rfl) (fun W hW => ((H1.out).keep hW.1).2 0 _ rfl) Try.underlying4 rfl) ?_
  refine lp (v := .bool (c.deck == deck)) rfl rfl (run_bin rfl (vx := .bool c.deck) (vy := .bool deck) (by kernel_rfl) (by kernel_rfl) fun w => bn_bool_eql rfl Try.underlying4 w) ?_
  refine lm (v := .bool (c.deck == deck)) rfl rfl ?_
  cases h1 : (c.deck == deck) with
  | false =>
    refine ln rfl ?_
    refine ln rfl ?_
    refine ln rfl ?_
    refine lm (v := .bool false) rfl rfl ?_
    refine lm (v := .bool false) rfl rfl ?_
    refine wpL_done (fun W2 hW2 => ?_)
    refine (show Code.wp _ _ _ _ _ from ?_)
    refine wp_ret ?_
    try simp only [inBlock_ret, then_ret]
    refine bodyPost_ret (v := .bool false) ?_ rfl ?_
    · kernel_rfl
    · exact ⟨(bool_is (by unfold partOf; simp [*])), hW2.1⟩
  | true =>
    refine lv (v := .agg (colC c).toArray) rfl rfl (yb_load (n := 12) (off := 0) rfl (by kernel_rfl) (.head _) Try.underlying49 rfl (by kernel_rfl) (by first | (simp [Value.cells]; done) | exact Nat.le_of_ble_eq_true rfl) (by kernel_rfl)) ?_
    refine lv (v := .agg (covC o).toArray) rfl rfl (yb_rs (off := 0) (cs := _) rfl (by kernel_rfl) (fun W hW => ((H2.out).keep hW.1).2) Try.underlying51 rfl (by kernel_rfl)) ?_
    refine lv (v := .bool (belX c o)) rfl rfl (yb_call (f := 43) (args := #[.agg (colC c).toArray, .agg (covC o).toArray]) (fun _ => by kernel_rfl) fun W hW => belongs_any c o (by omega) W ((RL.base HP.out) _ (hW.sub (fun _ h => by cases h)))) ?_
    refine lm (v := .bool (belX c o)) rfl rfl ?_
    refine lm (v := .bool (belX c o)) rfl rfl ?_
    refine wpL_done (fun W3 hW3 => ?_)
    refine (show Code.wp _ _ _ _ _ from ?_)
    refine wp_ret ?_
    try simp only [inBlock_ret, then_ret]
    refine bodyPost_ret (v := .bool (belX c o)) ?_ rfl ?_
    · kernel_rfl
    · exact ⟨(bool_is (by unfold partOf; simp [*])), hW3.1⟩
set_option maxRecDepth 100000 in
set_option maxHeartbeats 4000000 in
theorem indices_any (l : List Col) (p : Option Addr) (c : Nat) (hl : l.length ≤ 4000000000) (fv : FuncId) (caps : Array Value) (P : Col → Bool) (A : Col → Array Value) (hA : ∀ y, A y = #[.agg (colC y).toArray] ++ caps) (hcf : ∀ args w, (callFunc fv args).run Try.prog w = .ok (.enter fv args) w) (w : World) (hp : SLV w p (l.flatMap colC)) (hf : ∀ W, Below w.heap.size w W → ∀ y ∈ l, Calls Try.prog fv (A y) W fun e w' => e = .returned (.bool (P y)) ∧ Below W.heap.size W w') : Calls Try.prog 53 #[.slice p l.length c, .func (.func fv) #[] caps] w fun e w' => ∃ v, e = .returned v ∧ OutV w w' 3 1 v (idx P l).length ((idx P l).flatMap inC) ∧ Below w.heap.size w w' := by
  have HP := Lib.hid hp
  clear hp
  go_enter Try.func53, Try.ntmps53
  refine wp_seq ?_
  refine wp_region_L (W0 := w) [] (KS.start w) ?_
  refine lm (v := .slice none 0 0) rfl rfl ?_
  refine wpL_done (fun W1 hW1 => ?_)
  refine (show Code.wp _ _ _ _ _ from ?_)
  refine wp_seq ?_
  refine wp_region_L (W0 := w) [] (hW1) ?_
  refine lm (v := .slice none 0 0) rfl rfl ?_
  refine wpL_done (fun W2 hW2 => ?_)
  refine (show Code.wp _ _ _ _ _ from ?_)
  refine wp_seq ?_
  refine wp_seq ?_
  refine wp_region_L (W0 := w) [] (hW2) ?_
  refine lm (v := .slice p l.length c) rfl rfl ?_
  refine lp (v := .int .i64 ((l.length : Nat) : Int)) rfl rfl (run_lenL (p := p) (cap := c) (n := l.length) rfl Try.underlying22 (by kernel_rfl)) ?_
  refine lm (v := .int .i64 0) rfl rfl ?_
  refine wpL_done (fun W3 hW3 => ?_)
  refine (show Code.wp _ _ _ _ _ from ?_)
  refine wp_block ?_
  go_loopw [10, 5] (fun u10 u5 wr => ∃ (k m : Nat) (vo : Value) (Ko : List (Nat × Obj)), (k ≤ l.length) ∧ ((idx P (l.take k)).length = m) ∧ (m ≤ k) ∧ (OwnL w 3 1 vo m ((idx P (l.take k)).flatMap inC) Ko) ∧ u10 = .int .i64 ((k : Nat) : Int) ∧ vo = u5 ∧ KS w Ko wr) (fun u10 _ _ => l.length - (intOf u10).toNat)
  case atStart => exact ⟨0, 0, (.slice none 0 0), [], (Nat.zero_le _), rfl, (Nat.le_refl _), (OwnL.nil _ _ _), rfl, rfl, (hW3.sub (fun p hp => by first | exact hp | (simp only [List.mem_cons, List.mem_append, List.nil_append, List.not_mem_nil, or_assoc, or_false, false_or] at hp ⊢ <;> grind)))⟩
  case round =>
    obtain ⟨k, m, vo, Ko, hk, hml, hmk, hO, rfl, rfl, hL4⟩ := hrel
    refine wp_seq ?_
    refine wp_region_L (W0 := w) Ko (hL4) ?_
    refine lp (v := .bool (decide (k < l.length))) rfl rfl (run_bin rfl (vx := (.int .i64 ((k : Nat) : Int))) (vy := (.int .i64 ((l.length : Nat) : Int))) (by kernel_rfl) (by kernel_rfl) fun w => bn_lss rfl w) ?_
    refine wpL_done (fun W5 hW5 => ?_)
    refine (show Code.wp _ _ _ _ _ from ?_)
    refine wp_seq ?_
    cases hd1 : (decide (k < l.length)) with
    | false =>
      have h1 : ¬ (k < l.length) := of_decide_eq_false hd1
      clear hd1
      refine wp_cond_false rfl ?_
      refine wp_exit ?_
      refine (show Code.wp _ _ _ _ _ from ?_)
      refine wp_seq ?_
      refine wp_region_L (W0 := w) Ko (hW5) ?_
      refine lm (v := vo) rfl rfl ?_
      refine lm (v := vo) rfl rfl ?_
      refine wpL_done (fun W6 hW6 => ?_)
      refine (show Code.wp _ _ _ _ _ from ?_)
      refine wp_ret ?_
      try simp only [inBlock_ret, then_ret]
      refine bodyPost_ret (v := vo) ?_ rfl ?_
      · kernel_rfl
      · exact ⟨_, rfl, (by have e := idx_all (P := P) h1; rw [e] at hml hO; rw [hml]; exact hO.out (fun p hp => by simp only [List.mem_cons, List.mem_append, List.nil_append, List.not_mem_nil, or_assoc, or_false, false_or, hp, true_or, or_true]) hW6), hW6.1⟩
    | true =>
      have h1 : k < l.length := of_decide_eq_true hd1
      clear hd1
      refine wp_cond_true rfl ?_
      refine wp_skip ?_
      refine (show Code.wp _ _ _ _ _ from ?_)
      refine wp_seq ?_
      refine wp_block ?_
      refine wp_seq ?_
      refine wp_region_L (W0 := w) Ko (hW5) ?_
      refine lm (v := .int .i64 ((k : Nat) : Int)) rfl rfl ?_
      obtain ⟨y2, g2_, f2_, hy2, hp2, hc2⟩ := RL.at (RL.base HP.out) colC_len (by decide) (hW5.sub (fun _ h => by cases h)) (k := k) (by omega)
      refine lp (v := .pointer (some ⟨g2_, f2_ + k * 12, none⟩)) rfl rfl (run_idxQ (p := p) (cap := c) (n := l.length) (j := .i64) (k := k) (sz := 12) rfl Try.underlying22 (by kernel_rfl) (by kernel_rfl) hp2 (by kernel_rfl) (by omega)) ?_
      refine lv (v := .agg (colC y2).toArray) rfl rfl (yb_rs (off := f2_ + k * 12) (cs := colC y2) rfl (by kernel_rfl) (fun W hW => hc2 W (hW.sub (fun _ h => by cases h))) Try.underlying49 rfl (by kernel_rfl)) ?_
      refine wpL_new (fun g => .pointer (some ⟨g, 0, none⟩)) (obi := .cells #[.int .i64 0, .int .i64 0, .bool false, .int .i64 0, .int .i64 0, .int .i64 0, .int .i64 0, .int .i64 0, .slice none 0 0, .int .i64 0, .int .i64 0, .int .i64 0] 49 (0, 0)) rfl rfl (fun _ => by kernel_rfl) (fun _ => by simp only [List.setIfInBounds_toArray, List.set_cons_succ, List.set_cons_zero] <;> rfl) fun g3 Bg3 Fg3 => ?_
      obtain dj4_0 : Dk g3 Ko := by simpa only [dj_app_l, dj_app_r, dj_cons_l, dj_cons_r, dj_nil_l, dj_nil_r, dk_app, dk_cons, dk_nil, and_true, true_and, and_assoc] using (show Dk g3 Ko from Fg3)
      refine lm (v := .int .i64 ((k : Nat) : Int)) rfl rfl ?_
      refine wpL_s ((g3, .cells (colC y2).toArray 49 (0, 0)) :: Ko) rfl rfl (st_row (off := 0) (v := .agg (colC y2).toArray) rfl (by kernel_rfl) (by kernel_rfl) (.head _) Bg3 (by kernel_rfl) (by first | (simp [Value.cells]; done) | exact Nat.le_of_ble_eq_true rfl) (fun v hv => colC_one y2 v hv) (by kernel_rfl) (List.forall_mem_cons.2 ⟨.inl rfl, (fun p hp => .inr ⟨(.tail _ hp), ((show Dk g3 Ko from (by (try simp only [dj_app_l, dj_app_r, dj_cons_l, dj_cons_r, dj_nil_l, dj_nil_r, dk_app, dk_cons, dk_nil, and_true, true_and, and_assoc]); repeat' (first | trivial | assumption | exact Dj.symm (by assumption) | exact Ne.symm (by assumption) | apply And.intro))) _ hp)⟩)⟩)) ?_
      refine wpL_done (fun W7 hW7 => ?_)
      refine (show Code.wp _ _ _ _ _ from ?_)
      refine wp_seq ?_
      refine wp_region_L (W0 := w) ((g3, .cells (colC y2).toArray 49 (0, 0)) :: Ko) (hW7) ?_
      refine lm (v := .func (.func fv) #[] caps) rfl rfl ?_
      refine lv (v := .agg (colC y2).toArray) rfl rfl (yb_load (n := 12) (off := 0) rfl (by kernel_rfl) (.head _) Try.underlying49 rfl (by kernel_rfl) (by first | (simp [Value.cells]; done) | exact Nat.le_of_ble_eq_true rfl) (by kernel_rfl)) ?_
      refine lv (v := .bool (P y2)) rfl rfl (yb_call (f := fv) (args := A y2) (fun w => (run_callv rfl (by kernel_rfl) (by kernel_rfl) hcf w).trans (by rw [← hA])) fun W hW => hf W hW.1 y2 (List.mem_of_getElem? hy2)) ?_
      refine wpL_done (fun W8 hW8 => ?_)
      refine (show Code.wp _ _ _ _ _ from ?_)
      cases h2 : (P y2) with
      | false =>
        refine wp_cond_false rfl ?_
        refine wp_skip ?_
        refine (show Code.wp _ _ _ _ _ from ?_)
        refine wp_region_L (W0 := w) ((g3, .cells (colC y2).toArray 49 (0, 0)) :: Ko) (hW8) ?_
        refine lp (v := .int .i64 (((k + 1) : Nat) : Int)) rfl rfl (run_bin rfl (vx := (.int .i64 ((k : Nat) : Int))) (vy := (.int .i64 ((1 : Nat) : Int))) (by kernel_rfl) (by kernel_rfl) fun w => bn_add (z := (k + 1)) rfl (wr_i64 (by omega)) w) ?_
        refine lm (v := .int .i64 (((k + 1) : Nat) : Int)) rfl rfl ?_
        refine wpL_done (fun W9 hW9 => ?_)
        go_roundw
        case rel =>
          repeat apply Exists.intro
          exact ⟨⟨k + 1, m, vo, Ko, (by omega), (by rw [idx_no hy2 h2]; exact hml), (by omega), (by rw [idx_no hy2 h2]; exact hO), rfl, rfl, (hW9.sub (fun p hp => by first | exact hp | (simp only [List.mem_cons, List.mem_append, List.nil_append, List.not_mem_nil, or_assoc, or_false, false_or] at hp ⊢ <;> grind)))⟩, rfl⟩
        case measure => (show l.length - (intOf (.int .i64 (((k + 1) : Nat) : Int))).toNat < l.length - (intOf (.int .i64 ((k : Nat) : Int))).toNat); simp only [intOf]; omega
      | true =>
        refine wp_cond_true rfl ?_
        refine wp_region_L (W0 := w) ((g3, .cells (colC y2).toArray 49 (0, 0)) :: Ko) (hW8) ?_
        refine lm (v := vo) rfl rfl ?_
        refine lm (v := .int .i64 ((k : Nat) : Int)) rfl rfl ?_
        refine wpL_new (fun g => .slice (some ⟨g, 0, none⟩) 1 1) (obi := .cells #[.int .i64 ((k : Nat) : Int)] 3 (0, 0)) rfl rfl (fun _ => by kernel_rfl) (fun _ => by simp only [List.setIfInBounds_toArray, List.set_cons_succ, List.set_cons_zero] <;> rfl) fun g5 Bg5 Fg5 => ?_
        obtain ⟨dj6_0, dj6_1⟩ : g3 ≠ g5 ∧ Dk g5 Ko := by simpa only [dj_app_l, dj_app_r, dj_cons_l, dj_cons_r, dj_nil_l, dj_nil_r, dk_app, dk_cons, dk_nil, and_true, true_and, and_assoc] using (show Dk g5 ((g3, .cells (colC y2).toArray 49 (0, 0)) :: Ko) from Fg5)
        refine wpL_g (AppO w 3 1 [(g3, .cells (colC y2).toArray 49 (0, 0))] (m + 1) (((idx P (l.take k)).flatMap inC) ++ [.int .i64 ((k : Nat) : Int)])) rfl rfl (app_own el_int (m := 1) (c := 1) (news := [.int .i64 ((k : Nat) : Int)]) rfl (by kernel_rfl) (by kernel_rfl) (.head _) hO (fun p hp => by simp only [List.mem_cons, List.mem_append, List.nil_append, List.not_mem_nil, or_assoc, or_false, false_or, hp, or_true, true_or]) (fun p hp => ⟨by simp only [List.mem_cons, List.mem_append, List.nil_append, List.not_mem_nil, or_assoc, or_false, false_or] at hp ⊢ <;> grind, (show Dj [(g3, .cells (colC y2).toArray 49 (0, 0))] Ko from (by (try simp only [dj_app_l, dj_app_r, dj_cons_l, dj_cons_r, dj_nil_l, dj_nil_r, dk_app, dk_cons, dk_nil, and_true, true_and, and_assoc]); repeat' (first | trivial | assumption | exact Dj.symm (by assumption) | exact Ne.symm (by assumption) | apply And.intro))) p hp⟩) rfl (by simp [strV, Value.oneCell']) (by omega) (by omega) (by omega)) (fun _ => by simp only [List.setIfInBounds_toArray, List.set_cons_succ, List.set_cons_zero] <;> rfl) ?_
        rintro v7 K9 ⟨Kl7, O7, N7, rfl⟩
        obtain dj8_0 : Dk g3 Kl7 := by simpa only [dj_app_l, dj_app_r, dj_cons_l, dj_cons_r, dj_nil_l, dj_nil_r, dk_app, dk_cons, dk_nil, and_true, true_and, and_assoc] using (show Dj [(g3, .cells (colC y2).toArray 49 (0, 0))] Kl7 from N7)
        refine lm (v := v7) rfl rfl ?_
        refine wpL_done (fun W10 hW10 => ?_)
        refine (show Code.wp _ _ _ _ _ from ?_)
        refine wp_region_L (W0 := w) ((g3, .cells (colC y2).toArray 49 (0, 0)) :: Kl7) (hW10) ?_
        refine lp (v := .int .i64 (((k + 1) : Nat) : Int)) rfl rfl (run_bin rfl (vx := (.int .i64 ((k : Nat) : Int))) (vy := (.int .i64 ((1 : Nat) : Int))) (by kernel_rfl) (by kernel_rfl) fun w => bn_add (z := (k + 1)) rfl (wr_i64 (by omega)) w) ?_
        refine lm (v := .int .i64 (((k + 1) : Nat) : Int)) rfl rfl ?_
        refine wpL_done (fun W11 hW11 => ?_)
        go_roundw
        case rel =>
          repeat apply Exists.intro
          exact ⟨⟨k + 1, m + 1, v7, Kl7, (by omega), (by rw [idx_yes hy2 h2, List.length_append, hml]; rfl), (by omega), (own_snoc O7 (idx_yes hy2 h2)), rfl, rfl, (hW11.sub (fun p hp => by first | exact hp | (simp only [List.mem_cons, List.mem_append, List.nil_append, List.not_mem_nil, or_assoc, or_false, false_or] at hp ⊢ <;> grind)))⟩, rfl⟩
        case measure => (show l.length - (intOf (.int .i64 (((k + 1) : Nat) : Int))).toNat < l.length - (intOf (.int .i64 ((k : Nat) : Int))).toNat); simp only [intOf]; omega
set_option maxRecDepth 100000 in
set_option maxHeartbeats 4000000 in
theorem columnsOf_any (cs : List Col) (pc : Option Addr) (cc : Nat) (lc : cs.length ≤ 4000000000) (os : List Cov) (po : Option Addr) (co : Nat) (lo : os.length ≤ 4000000000) (t : Tl) (n : Int) (deck : Bool) (w : World) (hc : SLV w pc (cs.flatMap colC)) (ho : SLV w po (os.flatMap covC)) (hr : RwR w os) (lr : ∀ o ∈ os, o.rows.length ≤ 4000000000) : Calls Try.prog 44 #[.agg (shC (.slice pc cs.length cc) (.slice po os.length co) t).toArray, .int .i64 n, .bool deck] w fun e w' => ∃ v, e = .returned v ∧ OutV w w' 3 1 v (alongX cs os n deck).length ((alongX cs os n deck).flatMap inC) ∧ Below w.heap.size w w' := by
  have HC := Lib.hid hc
  clear hc
  have HO := Lib.hid ho
  clear ho
  have HR := Lib.hid hr
  clear hr
  go_enter Try.func44, Try.ntmps44
  refine wp_seq ?_
  refine wp_region_L (W0 := w) [] (KS.start w) ?_
  refine wpL_new (fun g => .pointer (some ⟨g, 0, none⟩)) (obi := .cells (shC (.slice pc cs.length cc) (.slice po os.length co) t).toArray 32 (0, 0)) rfl rfl (fun _ => by kernel_rfl) (fun _ => by simp only [List.setIfInBounds_toArray, List.set_cons_succ, List.set_cons_zero] <;> rfl) fun g1 Bg1 Fg1 => ?_
  refine wpL_new (fun g => .pointer (some ⟨g, 0, none⟩)) (obi := .cells #[.bool deck] 4 (0, 0)) rfl rfl (fun _ => by kernel_rfl) (fun _ => by simp only [List.setIfInBounds_toArray, List.set_cons_succ, List.set_cons_zero] <;> rfl) fun g2 Bg2 Fg2 => ?_
  obtain dj3_0 : g1 ≠ g2 := by simpa only [dj_app_l, dj_app_r, dj_cons_l, dj_cons_r, dj_nil_l, dj_nil_r, dk_app, dk_cons, dk_nil, and_true, true_and, and_assoc] using (show Dk g2 [(g1, .cells (shC (.slice pc cs.length cc) (.slice po os.length co) t).toArray 32 (0, 0))] from Fg2)
  refine lm (v := .slice none 0 0) rfl rfl ?_
  refine wpL_done (fun W1 hW1 => ?_)
  refine (show Code.wp _ _ _ _ _ from ?_)
  refine wp_seq ?_
  refine wp_region_L (W0 := w) [(g2, .cells #[.bool deck] 4 (0, 0)), (g1, .cells (shC (.slice pc cs.length cc) (.slice po os.length co) t).toArray 32 (0, 0))] (hW1) ?_
  refine lm (v := .pointer (some ⟨g1, 1, none⟩)) rfl rfl ?_
  refine lv (v := .slice po os.length co) rfl rfl (yb_cell (off := 1) rfl (by kernel_rfl) (.tail _ (.head _)) Try.underlying23 rfl (by kernel_rfl)) ?_
  refine lm (v := .int .i64 n) rfl rfl ?_
  refine lv (v := .tuple #[.agg (covC (elC cov0 os n)).toArray, .bool (elB os n)]) rfl rfl (yb_call (f := 67) (args := #[.slice po os.length co, .int .i64 n]) (fun _ => by kernel_rfl) fun W hW => element_cov os po co n W ((RL.base HO.out) _ (hW.sub (fun _ h => by cases h)))) ?_
  refine lm (v := .tuple #[.agg (covC (elC cov0 os n)).toArray, .bool (elB os n)]) rfl rfl ?_
  refine lm (v := .agg (covC (elC cov0 os n)).toArray) rfl rfl ?_
  refine lm (v := .bool (elB os n)) rfl rfl ?_
  refine wpL_new (fun g => .pointer (some ⟨g, 0, none⟩)) (obi := .cells #[.int .i64 0, .slice none 0 0] 51 (0, 0)) rfl rfl (fun _ => by kernel_rfl) (fun _ => by simp only [List.setIfInBounds_toArray, List.set_cons_succ, List.set_cons_zero] <;> rfl) fun g4 Bg4 Fg4 => ?_
  obtain ⟨dj5_0, dj5_1⟩ : g2 ≠ g4 ∧ g1 ≠ g4 := by simpa only [dj_app_l, dj_app_r, dj_cons_l, dj_cons_r, dj_nil_l, dj_nil_r, dk_app, dk_cons, dk_nil, and_true, true_and, and_assoc] using (show Dk g4 [(g2, .cells #[.bool deck] 4 (0, 0)), (g1, .cells (shC (.slice pc cs.length cc) (.slice po os.length co) t).toArray 32 (0, 0))] from Fg4)
  refine wpL_s [(g4, .cells (covC (elC cov0 os n)).toArray 51 (0, 0)), (g2, .cells #[.bool deck] 4 (0, 0)), (g1, .cells (shC (.slice pc cs.length cc) (.slice po os.length co) t).toArray 32 (0, 0))] rfl rfl (st_row (off := 0) (v := .agg (covC (elC cov0 os n)).toArray) rfl (by kernel_rfl) (by kernel_rfl) (.head _) Bg4 (by kernel_rfl) (by first | (simp [Value.cells]; done) | exact Nat.le_of_ble_eq_true rfl) (fun v hv => covC_one (elC cov0 os n) v hv) (by kernel_rfl) (List.forall_mem_cons.2 ⟨.inl rfl, (List.forall_mem_cons.2 ⟨.inr ⟨(.tail _ (.head _)), (by first | assumption | exact Ne.symm (by assumption))⟩, (List.forall_mem_cons.2 ⟨.inr ⟨(.tail _ (.tail _ (.head _))), (by first | assumption | exact Ne.symm (by assumption))⟩, (List.forall_mem_nil _)⟩)⟩)⟩)) ?_
  refine lm (v := .bool (elB os n)) rfl rfl ?_
  refine wpL_done (fun W2 hW2 => ?_)
  refine (show Code.wp _ _ _ _ _ from ?_)
  refine wp_seq ?_
  refine wp_seq ?_
  refine wp_region_L (W0 := w) [(g4, .cells (covC (elC cov0 os n)).toArray 51 (0, 0)), (g2, .cells #[.bool deck] 4 (0, 0)), (g1, .cells (shC (.slice pc cs.length cc) (.slice po os.length co) t).toArray 32 (0, 0))] (hW2) ?_
  refine lm (v := .bool (elB os n)) rfl rfl ?_
  refine lp (v := .bool (!(elB os n))) rfl rfl (run_un rfl (by kernel_rfl) fun w => un_not w) ?_
  refine wpL_done (fun W3 hW3 => ?_)
  refine (show Code.wp _ _ _ _ _ from ?_)
  cases h1 : (elB os n) with
  | false =>
    refine wp_cond_true rfl ?_
    refine wp_seq ?_
    refine wp_region_L (W0 := w) [(g4, .cells (covC (elC cov0 os n)).toArray 51 (0, 0)), (g2, .cells #[.bool deck] 4 (0, 0)), (g1, .cells (shC (.slice pc cs.length cc) (.slice po os.length co) t).toArray 32 (0, 0))] (hW3) ?_
    refine lm (v := .slice none 0 0) rfl rfl ?_
    refine wpL_done (fun W4 hW4 => ?_)
    refine (show Code.wp _ _ _ _ _ from ?_)
    refine wp_ret ?_
    try simp only [inBlock_ret, then_ret]
    refine bodyPost_ret (v := .slice none 0 0) ?_ rfl ?_
    · kernel_rfl
    · exact ⟨_, rfl, out_nil (by unfold alongX; rw [h1]; rfl), hW4.1⟩
  | true =>
    refine wp_cond_false rfl ?_
    refine wp_skip ?_
    refine (show Code.wp _ _ _ _ _ from ?_)
    refine wp_seq ?_
    refine wp_region_L (W0 := w) [(g4, .cells (covC (elC cov0 os n)).toArray 51 (0, 0)), (g2, .cells #[.bool deck] 4 (0, 0)), (g1, .cells (shC (.slice pc cs.length cc) (.slice po os.length co) t).toArray 32 (0, 0))] (hW3) ?_
    refine lm (v := .pointer (some ⟨g1, 0, none⟩)) rfl rfl ?_
    refine lv (v := .slice pc cs.length cc) rfl rfl (yb_cell (off := 0) rfl (by kernel_rfl) (.tail _ (.tail _ (.head _))) Try.underlying22 rfl (by kernel_rfl)) ?_
    refine lm (v := .func (.func 68) #[] #[.pointer (some ⟨g2, 0, none⟩), .pointer (some ⟨g4, 0, none⟩)]) rfl rfl ?_
    refine wpL_c (f := 53) (args := #[.slice pc cs.length cc, .func (.func 68) #[] #[.pointer (some ⟨g2, 0, none⟩), .pointer (some ⟨g4, 0, none⟩)]]) (OutOL w [(g4, .cells (covC (elC cov0 os n)).toArray 51 (0, 0)), (g2, .cells #[.bool deck] 4 (0, 0)), (g1, .cells (shC (.slice pc cs.length cc) (.slice po os.length co) t).toArray 32 (0, 0))] 3 1 (idx (partOf deck (elC cov0 os n)) cs).length ((idx (partOf deck (elC cov0 os n)) cs).flatMap inC)) rfl (by kernel_rfl) (fun _ => (by kernel_rfl)) (fun W hW => calls_o hW (indices_any cs pc cc (by omega) 68 #[.pointer (some ⟨g2, 0, none⟩), .pointer (some ⟨g4, 0, none⟩)] (partOf deck (elC cov0 os n)) (fun y => #[.agg (colC y).toArray, .pointer (some ⟨g2, 0, none⟩), .pointer (some ⟨g4, 0, none⟩)]) (fun _ => by kernel_rfl) (fun _ _ => by kernel_rfl) W ((RL.base HC.out) _ (hW.sub (fun _ h => by cases h))) (fun W2 hb y hm => columnsOf1_any y deck (elC cov0 os n) g2 g4 (lr_el lr n) W2 ((CapR.of hW (.tail _ (.head _))).keep hb) ((CapR.of hW (.head _)).keep hb) ((HR.out.el n).keep (hW.below hb).1)))) (fun _ => by simp only [List.setIfInBounds_toArray, List.set_cons_succ, List.set_cons_zero] <;> rfl) ?_
    rintro v6 _ ⟨Kl6, O6, N6, rfl⟩
    obtain ⟨dj7_0, dj7_1, dj7_2⟩ : Dk g4 Kl6 ∧ Dk g2 Kl6 ∧ Dk g1 Kl6 := by simpa only [dj_app_l, dj_app_r, dj_cons_l, dj_cons_r, dj_nil_l, dj_nil_r, dk_app, dk_cons, dk_nil, and_true, true_and, and_assoc] using (show Dj [(g4, .cells (covC (elC cov0 os n)).toArray 51 (0, 0)), (g2, .cells #[.bool deck] 4 (0, 0)), (g1, .cells (shC (.slice pc cs.length cc) (.slice po os.length co) t).toArray 32 (0, 0))] Kl6 from N6)
    refine lm (v := v6) rfl rfl ?_
    refine wpL_done (fun W5 hW5 => ?_)
    refine (show Code.wp _ _ _ _ _ from ?_)
    refine wp_ret ?_
    try simp only [inBlock_ret, then_ret]
    refine bodyPost_ret (v := v6) ?_ rfl ?_
    · kernel_rfl
    · exact ⟨_, rfl, ((show (idx (partOf deck (elC cov0 os n)) cs) = alongX cs os n deck from (by unfold alongX; rw [h1]; rfl)) ▸ O6.out (fun p hp => by simp only [List.mem_cons, List.mem_append, List.nil_append, List.not_mem_nil, or_assoc, or_false, false_or, hp, true_or, or_true]) hW5), hW5.1⟩
set_option maxRecDepth 100000 in
set_option maxHeartbeats 4000000 in
theorem Under_any (cs : List Col) (pc : Option Addr) (cc : Nat) (lc : cs.length ≤ 4000000000) (os : List Cov) (po : Option Addr) (co : Nat) (lo : os.length ≤ 4000000000) (t : Tl) (n : Int) (w : World) (hc : SLV w pc (cs.flatMap colC)) (ho : SLV w po (os.flatMap covC)) (hr : RwR w os) (lr : ∀ o ∈ os, o.rows.length ≤ 4000000000) : Calls Try.prog 14 #[.agg (shC (.slice pc cs.length cc) (.slice po os.length co) t).toArray, .int .i64 n] w fun e w' => ∃ v, e = .returned v ∧ OutV w w' 3 1 v (alongX cs os n false).length ((alongX cs os n false).flatMap inC) ∧ Below w.heap.size w w' := by
  have HC := Lib.hid hc
  clear hc
  have HO := Lib.hid ho
  clear ho
  have HR := Lib.hid hr
  clear hr
  go_enter Try.func14, Try.ntmps14
  refine wp_seq ?_
  refine wp_region_L (W0 := w) [] (KS.start w) ?_
  refine wpL_new (fun g => .pointer (some ⟨g, 0, none⟩)) (obi := .cells (shC (.slice pc cs.length cc) (.slice po os.length co) t).toArray 32 (0, 0)) rfl rfl (fun _ => by kernel_rfl) (fun _ => by simp only [List.setIfInBounds_toArray, List.set_cons_succ, List.set_cons_zero] <;> rfl) fun g1 Bg1 Fg1 => ?_
  refine lm (v := .slice none 0 0) rfl rfl ?_
  refine wpL_done (fun W1 hW1 => ?_)
  refine (show Code.wp _ _ _ _ _ from ?_)
  refine wp_seq ?_
  refine wp_region_L (W0 := w) [(g1, .cells (shC (.slice pc cs.length cc) (.slice po os.length co) t).toArray 32 (0, 0))] (hW1) ?_
  refine lv (v := .agg (shC (.slice pc cs.length cc) (.slice po os.length co) t).toArray) rfl rfl (yb_load (n := 13) (off := 0) rfl (by kernel_rfl) (.head _) Try.underlying32 rfl (by kernel_rfl) (by first | (simp [Value.cells]; done) | exact Nat.le_of_ble_eq_true rfl) (by kernel_rfl)) ?_
  refine lm (v := .int .i64 n) rfl rfl ?_
  refine wpL_c (f := 44) (args := #[.agg (shC (.slice pc cs.length cc) (.slice po os.length co) t).toArray, .int .i64 n, .bool false]) (OutOL w [(g1, .cells (shC (.slice pc cs.length cc) (.slice po os.length co) t).toArray 32 (0, 0))] 3 1 (alongX cs os n false).length ((alongX cs os n false).flatMap inC)) rfl (by kernel_rfl) (fun _ => (by kernel_rfl)) (fun W hW => calls_o hW (columnsOf_any cs pc cc (by omega) os po co (by omega) t n false W ((RL.base HC.out) _ (hW.sub (fun _ h => by cases h))) ((RL.base HO.out) _ (hW.sub (fun _ h => by cases h))) (HR.out.keep hW.1) lr)) (fun _ => by simp only [List.setIfInBounds_toArray, List.set_cons_succ, List.set_cons_zero] <;> rfl) ?_
  rintro v2 _ ⟨Kl2, O2, N2, rfl⟩
  obtain dj3_0 : Dk g1 Kl2 := by simpa only [dj_app_l, dj_app_r, dj_cons_l, dj_cons_r, dj_nil_l, dj_nil_r, dk_app, dk_cons, dk_nil, and_true, true_and, and_assoc] using (show Dj [(g1, .cells (shC (.slice pc cs.length cc) (.slice po os.length co) t).toArray 32 (0, 0))] Kl2 from N2)
  refine lm (v := v2) rfl rfl ?_
  refine wpL_done (fun W2 hW2 => ?_)
  refine (show Code.wp _ _ _ _ _ from ?_)
  refine wp_ret ?_
  try simp only [inBlock_ret, then_ret]
  refine bodyPost_ret (v := v2) ?_ rfl ?_
  · kernel_rfl
  · exact ⟨_, rfl, O2.out (fun p hp => by simp only [List.mem_cons, List.mem_append, List.nil_append, List.not_mem_nil, or_assoc, or_false, false_or, hp, true_or, or_true]) hW2, hW2.1⟩
set_option maxRecDepth 100000 in
set_option maxHeartbeats 4000000 in
theorem Upon_any (cs : List Col) (pc : Option Addr) (cc : Nat) (lc : cs.length ≤ 4000000000) (os : List Cov) (po : Option Addr) (co : Nat) (lo : os.length ≤ 4000000000) (t : Tl) (n : Int) (w : World) (hc : SLV w pc (cs.flatMap colC)) (ho : SLV w po (os.flatMap covC)) (hr : RwR w os) (lr : ∀ o ∈ os, o.rows.length ≤ 4000000000) : Calls Try.prog 15 #[.agg (shC (.slice pc cs.length cc) (.slice po os.length co) t).toArray, .int .i64 n] w fun e w' => ∃ v, e = .returned v ∧ OutV w w' 3 1 v (alongX cs os n true).length ((alongX cs os n true).flatMap inC) ∧ Below w.heap.size w w' := by
  have HC := Lib.hid hc
  clear hc
  have HO := Lib.hid ho
  clear ho
  have HR := Lib.hid hr
  clear hr
  go_enter Try.func15, Try.ntmps15
  refine wp_seq ?_
  refine wp_region_L (W0 := w) [] (KS.start w) ?_
  refine wpL_new (fun g => .pointer (some ⟨g, 0, none⟩)) (obi := .cells (shC (.slice pc cs.length cc) (.slice po os.length co) t).toArray 32 (0, 0)) rfl rfl (fun _ => by kernel_rfl) (fun _ => by simp only [List.setIfInBounds_toArray, List.set_cons_succ, List.set_cons_zero] <;> rfl) fun g1 Bg1 Fg1 => ?_
  refine lm (v := .slice none 0 0) rfl rfl ?_
  refine wpL_done (fun W1 hW1 => ?_)
  refine (show Code.wp _ _ _ _ _ from ?_)
  refine wp_seq ?_
  refine wp_region_L (W0 := w) [(g1, .cells (shC (.slice pc cs.length cc) (.slice po os.length co) t).toArray 32 (0, 0))] (hW1) ?_
  refine lv (v := .agg (shC (.slice pc cs.length cc) (.slice po os.length co) t).toArray) rfl rfl (yb_load (n := 13) (off := 0) rfl (by kernel_rfl) (.head _) Try.underlying32 rfl (by kernel_rfl) (by first | (simp [Value.cells]; done) | exact Nat.le_of_ble_eq_true rfl) (by kernel_rfl)) ?_
  refine lm (v := .int .i64 n) rfl rfl ?_
  refine wpL_c (f := 44) (args := #[.agg (shC (.slice pc cs.length cc) (.slice po os.length co) t).toArray, .int .i64 n, .bool true]) (OutOL w [(g1, .cells (shC (.slice pc cs.length cc) (.slice po os.length co) t).toArray 32 (0, 0))] 3 1 (alongX cs os n true).length ((alongX cs os n true).flatMap inC)) rfl (by kernel_rfl) (fun _ => (by kernel_rfl)) (fun W hW => calls_o hW (columnsOf_any cs pc cc (by omega) os po co (by omega) t n true W ((RL.base HC.out) _ (hW.sub (fun _ h => by cases h))) ((RL.base HO.out) _ (hW.sub (fun _ h => by cases h))) (HR.out.keep hW.1) lr)) (fun _ => by simp only [List.setIfInBounds_toArray, List.set_cons_succ, List.set_cons_zero] <;> rfl) ?_
  rintro v2 _ ⟨Kl2, O2, N2, rfl⟩
  obtain dj3_0 : Dk g1 Kl2 := by simpa only [dj_app_l, dj_app_r, dj_cons_l, dj_cons_r, dj_nil_l, dj_nil_r, dk_app, dk_cons, dk_nil, and_true, true_and, and_assoc] using (show Dj [(g1, .cells (shC (.slice pc cs.length cc) (.slice po os.length co) t).toArray 32 (0, 0))] Kl2 from N2)
  refine lm (v := v2) rfl rfl ?_
  refine wpL_done (fun W2 hW2 => ?_)
  refine (show Code.wp _ _ _ _ _ from ?_)
  refine wp_ret ?_
  try simp only [inBlock_ret, then_ret]
  refine bodyPost_ret (v := v2) ?_ rfl ?_
  · kernel_rfl
  · exact ⟨_, rfl, O2.out (fun p hp => by simp only [List.mem_cons, List.mem_append, List.nil_append, List.not_mem_nil, or_assoc, or_false, false_or, hp, true_or, or_true]) hW2, hW2.1⟩
end Go.Proofs.Ythpooalhibedpaa
namespace Go.Proofs.Ythpooalhibedpaa
open Go Go.RowKit Tw
set_option maxRecDepth 100000 in
set_option maxHeartbeats 4000000 in
theorem Beside1_any (o c : Col) (g1 : Nat) (w : World) (h1 : CapR w g1 (colC c)) : Calls Try.prog 54 #[.agg (colC o).toArray, .pointer (some ⟨g1, 0, none⟩)] w fun e w' => e = .returned (.bool (besideB c o)) ∧ Below w.heap.size w w' := by
  have H1 := Lib.hid h1
  clear h1
  go_enter Try.func54, Try.ntmps54
  refine wp_seq ?_
  refine wp_region_L (W0 := w) [] (KS.start w) ?_
  refine wpL_new (fun g => .pointer (some ⟨g, 0, none⟩)) (obi := .cells (colC o).toArray 49 (0, 0)) rfl rfl (fun _ => by kernel_rfl) (fun _ => by simp only [List.setIfInBounds_toArray, List.set_cons_succ, List.set_cons_zero] <;> rfl) fun g21 Bg21 Fg21 => ?_
  refine lm (v := .bool false) rfl rfl ?_
  refine wpL_done (fun W1 hW1 => ?_)
  refine (show Code.wp _ _ _ _ _ from ?_)
  refine wp_seq ?_
  refine wp_region_L (W0 := w) [(g21, .cells (colC o).toArray 49 (0, 0))] (hW1) ?_
  refine lm (v := .pointer (some ⟨g21, 0, none⟩)) rfl rfl ?_
  refine lv (v := .int .i64 o.bay) rfl rfl (yb_cell (off := 0) rfl (by kernel_rfl) (.head _) Try.underlying3 rfl (by kernel_rfl)) ?_
  refine lm (v := .pointer (some ⟨g1, 0, none⟩)) rfl rfl ?_
  refine lv (v := .int .i64 c.bay) rfl rfl (yb_rf (v := .int .i64 c.bay) rfl (by kernel_rfl) (fun W hW => ((H1.out).keep hW.1).2 0 _ rfl) Try.underlying3 rfl) ?_
  refine lp (v := .bool (decide (o.bay = c.bay))) rfl rfl (run_bin rfl (vx := (.int .i64 o.bay)) (vy := (.int .i64 c.bay)) (by kernel_rfl) (by kernel_rfl) fun w => bi_eql rfl w) ?_
  refine lm (v := .bool (decide (o.bay = c.bay))) rfl rfl ?_
  cases hd1 : (decide (o.bay = c.bay)) with
  | false =>
    have h1 : ¬ (o.bay = c.bay) := of_decide_eq_false hd1
    clear hd1
    refine ln rfl ?_
    refine ln rfl ?_
    refine ln rfl ?_
    refine ln rfl ?_
    refine ln rfl ?_
    refine lm (v := .bool false) rfl rfl ?_
    refine lm (v := .bool false) rfl rfl ?_
    refine ln rfl ?_
    refine ln rfl ?_
    refine ln rfl ?_
    refine ln rfl ?_
    refine ln rfl ?_
    refine ln rfl ?_
    refine lm (v := .bool false) rfl rfl ?_
    refine lm (v := .bool false) rfl rfl ?_
    refine wpL_done (fun W2 hW2 => ?_)
    refine (show Code.wp _ _ _ _ _ from ?_)
    refine wp_ret ?_
    try simp only [inBlock_ret, then_ret]
    refine bodyPost_ret (v := .bool false) ?_ rfl ?_
    · kernel_rfl
    · exact ⟨(bool_is (by unfold besideB; simp [*])), hW2.1⟩
  | true =>
    have h1 : o.bay = c.bay := of_decide_eq_true hd1
    clear hd1
    refine lm (v := .pointer (some ⟨g21, 2, none⟩)) rfl rfl ?_
    refine lv (v := .bool o.deck) rfl rfl (yb_cell (off := 2) rfl (by kernel_rfl) (.head _) Try.underlying4 rfl (by kernel_rfl)) ?_
    refine lm (v := .pointer (some ⟨g1, 2, none⟩)) rfl rfl ?_
    refine lv (v := .bool c.deck) rfl rfl (yb_rf (v := .bool c.deck) rfl (by kernel_rfl) (fun W hW => ((H1.out).keep hW.1).2 2 _ rfl) Try.underlying4 rfl) ?_
    refine lp (v := .bool (o.deck == c.deck)) rfl rfl (run_bin rfl (vx := .bool o.deck) (vy := .bool c.deck) (by kernel_rfl) (by kernel_rfl) fun w => bn_bool_eql rfl Try.underlying4 w) ?_
    refine lm (v := .bool (o.deck == c.deck)) rfl rfl ?_
    refine lm (v := .bool (o.deck == c.deck)) rfl rfl ?_
    cases h2 : (o.deck == c.deck) with
    | false =>
      refine ln rfl ?_
      refine ln rfl ?_
      refine ln rfl ?_
      refine ln rfl ?_
      refine ln rfl ?_
      refine ln rfl ?_
      refine lm (v := .bool false) rfl rfl ?_
      refine lm (v := .bool false) rfl rfl ?_
      refine wpL_done (fun W3 hW3 => ?_)
      refine (show Code.wp _ _ _ _ _ from ?_)
      refine wp_ret ?_
      try simp only [inBlock_ret, then_ret]
      refine bodyPost_ret (v := .bool false) ?_ rfl ?_
      · kernel_rfl
      · exact ⟨(bool_is (by unfold besideB; simp [*])), hW3.1⟩
    | true =>
      refine lm (v := .pointer (some ⟨g21, 1, none⟩)) rfl rfl ?_
      refine lv (v := .int .i64 o.row) rfl rfl (yb_cell (off := 1) rfl (by kernel_rfl) (.head _) Try.underlying3 rfl (by kernel_rfl)) ?_
      refine lm (v := .pointer (some ⟨g1, 1, none⟩)) rfl rfl ?_
      refine lv (v := .int .i64 c.row) rfl rfl (yb_rf (v := .int .i64 c.row) rfl (by kernel_rfl) (fun W hW => ((H1.out).keep hW.1).2 1 _ rfl) Try.underlying3 rfl) ?_
      refine lv (v := .int .i64 (diffX o.row c.row)) rfl rfl (yb_call (f := 52) (args := #[.int .i64 o.row, .int .i64 c.row]) (fun _ => by kernel_rfl) fun W hW => diff_any o.row c.row W) ?_
      refine lp (v := .bool (decide ((diffX o.row c.row) = 1))) rfl rfl (run_bin rfl (vx := (.int .i64 (diffX o.row c.row))) (vy := (.int .i64 1)) (by kernel_rfl) (by kernel_rfl) fun w => bi_eql rfl w) ?_
      refine lm (v := .bool (decide ((diffX o.row c.row) = 1))) rfl rfl ?_
      refine lm (v := .bool (decide ((diffX o.row c.row) = 1))) rfl rfl ?_
      refine wpL_done (fun W4 hW4 => ?_)
      refine (show Code.wp _ _ _ _ _ from ?_)
      refine wp_ret ?_
      try simp only [inBlock_ret, then_ret]
      refine bodyPost_ret (v := .bool (decide ((diffX o.row c.row) = 1))) ?_ rfl ?_
      · kernel_rfl
      · exact ⟨(bool_is (by unfold besideB; simp [*])), hW4.1⟩
set_option maxRecDepth 100000 in
set_option maxHeartbeats 4000000 in
theorem Beside_any (cs : List Col) (pc : Option Addr) (cc : Nat) (lc : cs.length ≤ 4000000000) (os : List Cov) (po : Option Addr) (co : Nat) (lo : os.length ≤ 4000000000) (t : Tl) (n : Int) (w : World) (hc : SLV w pc (cs.flatMap colC)) (ho : SLV w po (os.flatMap covC)) : Calls Try.prog 25 #[.agg (shC (.slice pc cs.length cc) (.slice po os.length co) t).toArray, .int .i64 n] w fun e w' => ∃ v, e = .returned v ∧ OutV w w' 3 1 v (besideX cs n).length ((besideX cs n).flatMap inC) ∧ Below w.heap.size w w' := by
  have HC := Lib.hid hc
  clear hc
  have HO := Lib.hid ho
  clear ho
  go_enter Try.func25, Try.ntmps25
  refine wp_seq ?_
  refine wp_region_L (W0 := w) [] (KS.start w) ?_
  refine wpL_new (fun g => .pointer (some ⟨g, 0, none⟩)) (obi := .cells (shC (.slice pc cs.length cc) (.slice po os.length co) t).toArray 32 (0, 0)) rfl rfl (fun _ => by kernel_rfl) (fun _ => by simp only [List.setIfInBounds_toArray, List.set_cons_succ, List.set_cons_zero] <;> rfl) fun g1 Bg1 Fg1 => ?_
  refine lm (v := .slice none 0 0) rfl rfl ?_
  refine wpL_done (fun W1 hW1 => ?_)
  refine (show Code.wp _ _ _ _ _ from ?_)
  refine wp_seq ?_
  refine wp_region_L (W0 := w) [(g1, .cells (shC (.slice pc cs.length cc) (.slice po os.length co) t).toArray 32 (0, 0))] (hW1) ?_
  refine lm (v := .pointer (some ⟨g1, 0, none⟩)) rfl rfl ?_
  refine lv (v := .slice pc cs.length cc) rfl rfl (yb_cell (off := 0) rfl (by kernel_rfl) (.head _) Try.underlying22 rfl (by kernel_rfl)) ?_
  refine lm (v := .int .i64 n) rfl rfl ?_
  refine lv (v := .tuple #[.agg (colC (elC col0 cs n)).toArray, .bool (elB cs n)]) rfl rfl (yb_call (f := 40) (args := #[.slice pc cs.length cc, .int .i64 n]) (fun _ => by kernel_rfl) fun W hW => element_col cs pc cc n W ((RL.base HC.out) _ (hW.sub (fun _ h => by cases h)))) ?_
  refine lm (v := .tuple #[.agg (colC (elC col0 cs n)).toArray, .bool (elB cs n)]) rfl rfl ?_
  refine lm (v := .agg (colC (elC col0 cs n)).toArray) rfl rfl ?_
  refine lm (v := .bool (elB cs n)) rfl rfl ?_
  refine wpL_new (fun g => .pointer (some ⟨g, 0, none⟩)) (obi := .cells #[.int .i64 0, .int .i64 0, .bool false, .int .i64 0, .int .i64 0, .int .i64 0, .int .i64 0, .int .i64 0, .slice none 0 0, .int .i64 0, .int .i64 0, .int .i64 0] 49 (0, 0)) rfl rfl (fun _ => by kernel_rfl) (fun _ => by simp only [List.setIfInBounds_toArray, List.set_cons_succ, List.set_cons_zero] <;> rfl) fun g2 Bg2 Fg2 => ?_
  obtain dj3_0 : g1 ≠ g2 := by simpa only [dj_app_l, dj_app_r, dj_cons_l, dj_cons_r, dj_nil_l, dj_nil_r, dk_app, dk_cons, dk_nil, and_true, true_and, and_assoc] using (show Dk g2 [(g1, .cells (shC (.slice pc cs.length cc) (.slice po os.length co) t).toArray 32 (0, 0))] from Fg2)
  refine wpL_s [(g2, .cells (colC (elC col0 cs n)).toArray 49 (0, 0)), (g1, .cells (shC (.slice pc cs.length cc) (.slice po os.length co) t).toArray 32 (0, 0))] rfl rfl (st_row (off := 0) (v := .agg (colC (elC col0 cs n)).toArray) rfl (by kernel_rfl) (by kernel_rfl) (.head _) Bg2 (by kernel_rfl) (by first | (simp [Value.cells]; done) | exact Nat.le_of_ble_eq_true rfl) (fun v hv => colC_one (elC col0 cs n) v hv) (by kernel_rfl) (List.forall_mem_cons.2 ⟨.inl rfl, (List.forall_mem_cons.2 ⟨.inr ⟨(.tail _ (.head _)), (by first | assumption | exact Ne.symm (by assumption))⟩, (List.forall_mem_nil _)⟩)⟩)) ?_
  refine lm (v := .bool (elB cs n)) rfl rfl ?_
  refine wpL_done (fun W2 hW2 => ?_)
  refine (show Code.wp _ _ _ _ _ from ?_)
  refine wp_seq ?_
  refine wp_seq ?_
  refine wp_region_L (W0 := w) [(g2, .cells (colC (elC col0 cs n)).toArray 49 (0, 0)), (g1, .cells (shC (.slice pc cs.length cc) (.slice po os.length co) t).toArray 32 (0, 0))] (hW2) ?_
  refine lm (v := .bool (elB cs n)) rfl rfl ?_
  refine lp (v := .bool (!(elB cs n))) rfl rfl (run_un rfl (by kernel_rfl) fun w => un_not w) ?_
  refine wpL_done (fun W3 hW3 => ?_)
  refine (show Code.wp _ _ _ _ _ from ?_)
  cases h1 : (elB cs n) with
  | false =>
    refine wp_cond_true rfl ?_
    refine wp_seq ?_
    refine wp_region_L (W0 := w) [(g2, .cells (colC (elC col0 cs n)).toArray 49 (0, 0)), (g1, .cells (shC (.slice pc cs.length cc) (.slice po os.length co) t).toArray 32 (0, 0))] (hW3) ?_
    refine lm (v := .slice none 0 0) rfl rfl ?_
    refine wpL_done (fun W4 hW4 => ?_)
    refine (show Code.wp _ _ _ _ _ from ?_)
    refine wp_ret ?_
    try simp only [inBlock_ret, then_ret]
    refine bodyPost_ret (v := .slice none 0 0) ?_ rfl ?_
    · kernel_rfl
    · exact ⟨_, rfl, out_nil (by unfold besideX; rw [h1]; rfl), hW4.1⟩
  | true =>
    refine wp_cond_false rfl ?_
    refine wp_skip ?_
    refine (show Code.wp _ _ _ _ _ from ?_)
    refine wp_seq ?_
    refine wp_region_L (W0 := w) [(g2, .cells (colC (elC col0 cs n)).toArray 49 (0, 0)), (g1, .cells (shC (.slice pc cs.length cc) (.slice po os.length co) t).toArray 32 (0, 0))] (hW3) ?_
    refine lm (v := .pointer (some ⟨g1, 0, none⟩)) rfl rfl ?_
    refine lv (v := .slice pc cs.length cc) rfl rfl (yb_cell (off := 0) rfl (by kernel_rfl) (.tail _ (.head _)) Try.underlying22 rfl (by kernel_rfl)) ?_
    refine lm (v := .func (.func 54) #[] #[.pointer (some ⟨g2, 0, none⟩)]) rfl rfl ?_
    refine wpL_c (f := 53) (args := #[.slice pc cs.length cc, .func (.func 54) #[] #[.pointer (some ⟨g2, 0, none⟩)]]) (OutOL w [(g2, .cells (colC (elC col0 cs n)).toArray 49 (0, 0)), (g1, .cells (shC (.slice pc cs.length cc) (.slice po os.length co) t).toArray 32 (0, 0))] 3 1 (idx (besideB (elC col0 cs n)) cs).length ((idx (besideB (elC col0 cs n)) cs).flatMap inC)) rfl (by kernel_rfl) (fun _ => (by kernel_rfl)) (fun W hW => calls_o hW (indices_any cs pc cc (by omega) 54 #[.pointer (some ⟨g2, 0, none⟩)] (besideB (elC col0 cs n)) (fun y => #[.agg (colC y).toArray, .pointer (some ⟨g2, 0, none⟩)]) (fun _ => by kernel_rfl) (fun _ _ => by kernel_rfl) W ((RL.base HC.out) _ (hW.sub (fun _ h => by cases h))) (fun W2 hb y hm => Beside1_any y (elC col0 cs n) g2 W2 ((CapR.of hW (.head _)).keep hb)))) (fun _ => by simp only [List.setIfInBounds_toArray, List.set_cons_succ, List.set_cons_zero] <;> rfl) ?_
    rintro v4 _ ⟨Kl4, O4, N4, rfl⟩
    obtain ⟨dj5_0, dj5_1⟩ : Dk g2 Kl4 ∧ Dk g1 Kl4 := by simpa only [dj_app_l, dj_app_r, dj_cons_l, dj_cons_r, dj_nil_l, dj_nil_r, dk_app, dk_cons, dk_nil, and_true, true_and, and_assoc] using (show Dj [(g2, .cells (colC (elC col0 cs n)).toArray 49 (0, 0)), (g1, .cells (shC (.slice pc cs.length cc) (.slice po os.length co) t).toArray 32 (0, 0))] Kl4 from N4)
    refine lm (v := v4) rfl rfl ?_
    refine wpL_done (fun W5 hW5 => ?_)
    refine (show Code.wp _ _ _ _ _ from ?_)
    refine wp_ret ?_
    try simp only [inBlock_ret, then_ret]
    refine bodyPost_ret (v := v4) ?_ rfl ?_
    · kernel_rfl
    · exact ⟨_, rfl, ((show (idx (besideB (elC col0 cs n)) cs) = besideX cs n from (by unfold besideX; rw [h1]; rfl)) ▸ O4.out (fun p hp => by simp only [List.mem_cons, List.mem_append, List.nil_append, List.not_mem_nil, or_assoc, or_false, false_or, hp, true_or, or_true]) hW5), hW5.1⟩
set_option maxRecDepth 100000 in
set_option maxHeartbeats 4000000 in
theorem bayOf_any (cs : List Col) (pc : Option Addr) (cc : Nat) (lc : cs.length ≤ 4000000000) (os : List Cov) (po : Option Addr) (co : Nat) (lo : os.length ≤ 4000000000) (t : Tl) (n : Int) (w : World) (hc : SLV w pc (cs.flatMap colC)) (ho : SLV w po (os.flatMap covC)) : Calls Try.prog 51 #[.agg (shC (.slice pc cs.length cc) (.slice po os.length co) t).toArray, .int .i64 n] w fun e w' => e = .returned (.tuple #[.int .i64 (bayN cs n), .bool (bayB cs n)]) ∧ Below w.heap.size w w' := by
  have HC := Lib.hid hc
  clear hc
  have HO := Lib.hid ho
  clear ho
  go_enter Try.func51, Try.ntmps51
  refine wp_seq ?_
  refine wp_region_L (W0 := w) [] (KS.start w) ?_
  refine wpL_new (fun g => .pointer (some ⟨g, 0, none⟩)) (obi := .cells (shC (.slice pc cs.length cc) (.slice po os.length co) t).toArray 32 (0, 0)) rfl rfl (fun _ => by kernel_rfl) (fun _ => by simp only [List.setIfInBounds_toArray, List.set_cons_succ, List.set_cons_zero] <;> rfl) fun g1 Bg1 Fg1 => ?_
  refine lm (v := .int .i64 0) rfl rfl ?_
  refine lm (v := .bool false) rfl rfl ?_
  refine wpL_done (fun W1 hW1 => ?_)
  refine (show Code.wp _ _ _ _ _ from ?_)
  refine wp_seq ?_
  refine wp_region_L (W0 := w) [(g1, .cells (shC (.slice pc cs.length cc) (.slice po os.length co) t).toArray 32 (0, 0))] (hW1) ?_
  refine lm (v := .pointer (some ⟨g1, 0, none⟩)) rfl rfl ?_
  refine lv (v := .slice pc cs.length cc) rfl rfl (yb_cell (off := 0) rfl (by kernel_rfl) (.head _) Try.underlying22 rfl (by kernel_rfl)) ?_
  refine lm (v := .int .i64 n) rfl rfl ?_
  refine lv (v := .tuple #[.agg (colC (elC col0 cs n)).toArray, .bool (elB cs n)]) rfl rfl (yb_call (f := 40) (args := #[.slice pc cs.length cc, .int .i64 n]) (fun _ => by kernel_rfl) fun W hW => element_col cs pc cc n W ((RL.base HC.out) _ (hW.sub (fun _ h => by cases h)))) ?_
  refine lm (v := .tuple #[.agg (colC (elC col0 cs n)).toArray, .bool (elB cs n)]) rfl rfl ?_
  refine lm (v := .agg (colC (elC col0 cs n)).toArray) rfl rfl ?_
  refine lm (v := .bool (elB cs n)) rfl rfl ?_
  refine wpL_new (fun g => .pointer (some ⟨g, 0, none⟩)) (obi := .cells #[.int .i64 0, .int .i64 0, .bool false, .int .i64 0, .int .i64 0, .int .i64 0, .int .i64 0, .int .i64 0, .slice none 0 0, .int .i64 0, .int .i64 0, .int .i64 0] 49 (0, 0)) rfl rfl (fun _ => by kernel_rfl) (fun _ => by simp only [List.setIfInBounds_toArray, List.set_cons_succ, List.set_cons_zero] <;> rfl) fun g2 Bg2 Fg2 => ?_
  obtain dj3_0 : g1 ≠ g2 := by simpa only [dj_app_l, dj_app_r, dj_cons_l, dj_cons_r, dj_nil_l, dj_nil_r, dk_app, dk_cons, dk_nil, and_true, true_and, and_assoc] using (show Dk g2 [(g1, .cells (shC (.slice pc cs.length cc) (.slice po os.length co) t).toArray 32 (0, 0))] from Fg2)
  refine wpL_s [(g2, .cells (colC (elC col0 cs n)).toArray 49 (0, 0)), (g1, .cells (shC (.slice pc cs.length cc) (.slice po os.length co) t).toArray 32 (0, 0))] rfl rfl (st_row (off := 0) (v := .agg (colC (elC col0 cs n)).toArray) rfl (by kernel_rfl) (by kernel_rfl) (.head _) Bg2 (by kernel_rfl) (by first | (simp [Value.cells]; done) | exact Nat.le_of_ble_eq_true rfl) (fun v hv => colC_one (elC col0 cs n) v hv) (by kernel_rfl) (List.forall_mem_cons.2 ⟨.inl rfl, (List.forall_mem_cons.2 ⟨.inr ⟨(.tail _ (.head _)), (by first | assumption | exact Ne.symm (by assumption))⟩, (List.forall_mem_nil _)⟩)⟩)) ?_
  refine lm (v := .bool (elB cs n)) rfl rfl ?_
  refine wpL_done (fun W2 hW2 => ?_)
  refine (show Code.wp _ _ _ _ _ from ?_)
  refine wp_seq ?_
  refine wp_region_V (W0 := w) [(g2, .cells (colC (elC col0 cs n)).toArray 49 (0, 0)), (g1, .cells (shC (.slice pc cs.length cc) (.slice po os.length co) t).toArray 32 (0, 0))] (by kernel_rfl) (hW2) ?_
  refine vm (i := 0) (v := .pointer (some ⟨g2, 0, none⟩)) rfl rfl rfl ?_
  refine vv (i := 1) (v := .int .i64 ((elC col0 cs n).bay)) rfl rfl rfl (yb_cell (off := 0) rfl (by kernel_rfl) (.head _) Try.underlying3 rfl (by kernel_rfl)) ?_
  refine vm (i := 2) (v := .bool (elB cs n)) rfl rfl rfl ?_
  refine vm (i := 3) (v := .bool (elB cs n)) rfl rfl rfl ?_
  cases h1 : (elB cs n) with
  | false =>
    refine vn (i := 4) rfl rfl ?_
    refine vn (i := 5) rfl rfl ?_
    refine vn (i := 6) rfl rfl ?_
    refine vm (i := 7) (v := .bool false) rfl rfl rfl ?_
    refine vm (i := 8) (v := .bool false) rfl rfl rfl ?_
    refine vn (i := 9) rfl rfl ?_
    refine vn (i := 10) rfl rfl ?_
    refine vn (i := 11) rfl rfl ?_
    refine vm (i := 12) (v := .bool false) rfl rfl rfl ?_
    refine vm (i := 13) (v := .int .i64 ((elC col0 cs n).bay)) rfl rfl rfl ?_
    refine vm (i := 14) (v := .bool false) rfl rfl rfl ?_
    refine wpV_done (by kernel_rfl) (fun W3 hW3 => ?_) _
    refine (show Code.wp _ _ _ _ _ from ?_)
    refine wp_ret ?_
    try simp only [inBlock_ret, then_ret]
    refine bodyPost_ret (v := .tuple #[.int .i64 ((elC col0 cs n).bay), .bool false]) ?_ rfl ?_
    · kernel_rfl
    · exact ⟨(ib_is rfl (by unfold bayB; simp [*])), hW3.1⟩
  | true =>
    refine vm (i := 4) (v := .pointer (some ⟨g2, 0, none⟩)) rfl rfl rfl ?_
    refine vv (i := 5) (v := .int .i64 ((elC col0 cs n).bay)) rfl rfl rfl (yb_cell (off := 0) rfl (by kernel_rfl) (.head _) Try.underlying3 rfl (by kernel_rfl)) ?_
    refine vp (i := 6) (v := .bool (!(decide (((elC col0 cs n).bay) < 0)))) rfl rfl rfl (run_bin rfl (vx := (.int .i64 ((elC col0 cs n).bay))) (vy := (.int .i64 0)) (by kernel_rfl) (by kernel_rfl) fun w => bi_geq rfl w) ?_
    refine vm (i := 7) (v := .bool (!(decide (((elC col0 cs n).bay) < 0)))) rfl rfl rfl ?_
    refine vm (i := 8) (v := .bool (!(decide (((elC col0 cs n).bay) < 0)))) rfl rfl rfl ?_
    cases hd2 : (decide (((elC col0 cs n).bay) < 0)) with
    | false =>
      have h2 : ¬ (((elC col0 cs n).bay) < 0) := of_decide_eq_false hd2
      clear hd2
      refine vm (i := 9) (v := .pointer (some ⟨g2, 0, none⟩)) rfl rfl rfl ?_
      refine vv (i := 10) (v := .int .i64 ((elC col0 cs n).bay)) rfl rfl rfl (yb_cell (off := 0) rfl (by kernel_rfl) (.head _) Try.underlying3 rfl (by kernel_rfl)) ?_
      refine vp (i := 11) (v := .bool (!(decide (39 < ((elC col0 cs n).bay))))) rfl rfl rfl (run_bin rfl (vx := (.int .i64 ((elC col0 cs n).bay))) (vy := (.int .i64 39)) (by kernel_rfl) (by kernel_rfl) fun w => bi_leq rfl w) ?_
      refine vm (i := 12) (v := .bool (!(decide (39 < ((elC col0 cs n).bay))))) rfl rfl rfl ?_
      refine vm (i := 13) (v := .int .i64 ((elC col0 cs n).bay)) rfl rfl rfl ?_
      refine vm (i := 14) (v := .bool (!(decide (39 < ((elC col0 cs n).bay))))) rfl rfl rfl ?_
      refine wpV_done (by kernel_rfl) (fun W4 hW4 => ?_) _
      refine (show Code.wp _ _ _ _ _ from ?_)
      refine wp_ret ?_
      try simp only [inBlock_ret, then_ret]
      refine bodyPost_ret (v := .tuple #[.int .i64 ((elC col0 cs n).bay), .bool (!(decide (39 < ((elC col0 cs n).bay))))]) ?_ rfl ?_
      · kernel_rfl
      · exact ⟨(ib_is rfl (by unfold bayB; simp [*])), hW4.1⟩
    | true =>
      have h2 : ((elC col0 cs n).bay) < 0 := of_decide_eq_true hd2
      clear hd2
      refine vn (i := 9) rfl rfl ?_
      refine vn (i := 10) rfl rfl ?_
      refine vn (i := 11) rfl rfl ?_
      refine vm (i := 12) (v := .bool false) rfl rfl rfl ?_
      refine vm (i := 13) (v := .int .i64 ((elC col0 cs n).bay)) rfl rfl rfl ?_
      refine vm (i := 14) (v := .bool false) rfl rfl rfl ?_
      refine wpV_done (by kernel_rfl) (fun W5 hW5 => ?_) _
      refine (show Code.wp _ _ _ _ _ from ?_)
      refine wp_ret ?_
      try simp only [inBlock_ret, then_ret]
      refine bodyPost_ret (v := .tuple #[.int .i64 ((elC col0 cs n).bay), .bool false]) ?_ rfl ?_
      · kernel_rfl
      · exact ⟨(ib_is rfl (by unfold bayB; simp [*])), hW5.1⟩
set_option maxRecDepth 100000 in
set_option maxHeartbeats 4000000 in
theorem Apart_any (cs : List Col) (pc : Option Addr) (cc : Nat) (lc : cs.length ≤ 4000000000) (os : List Cov) (po : Option Addr) (co : Nat) (lo : os.length ≤ 4000000000) (t : Tl) (a b : Int) (w : World) (hc : SLV w pc (cs.flatMap colC)) (ho : SLV w po (os.flatMap covC)) : Calls Try.prog 23 #[.agg (shC (.slice pc cs.length cc) (.slice po os.length co) t).toArray, .int .i64 a, .int .i64 b] w fun e w' => e = .returned (.tuple #[.int .i64 (apN cs a b), .bool (apB cs a b)]) ∧ Below w.heap.size w w' := by
  have HC := Lib.hid hc
  clear hc
  have HO := Lib.hid ho
  clear ho
  go_enter Try.func23, Try.ntmps23
  refine wp_seq ?_
  refine wp_region_L (W0 := w) [] (KS.start w) ?_
  refine wpL_new (fun g => .pointer (some ⟨g, 0, none⟩)) (obi := .cells (shC (.slice pc cs.length cc) (.slice po os.length co) t).toArray 32 (0, 0)) rfl rfl (fun _ => by kernel_rfl) (fun _ => by simp only [List.setIfInBounds_toArray, List.set_cons_succ, List.set_cons_zero] <;> rfl) fun g1 Bg1 Fg1 => ?_
  refine lm (v := .int .i64 0) rfl rfl ?_
  refine lm (v := .bool false) rfl rfl ?_
  refine wpL_done (fun W1 hW1 => ?_)
  refine (show Code.wp _ _ _ _ _ from ?_)
  refine wp_seq ?_
  refine wp_region_L (W0 := w) [(g1, .cells (shC (.slice pc cs.length cc) (.slice po os.length co) t).toArray 32 (0, 0))] (hW1) ?_
  refine lv (v := .agg (shC (.slice pc cs.length cc) (.slice po os.length co) t).toArray) rfl rfl (yb_load (n := 13) (off := 0) rfl (by kernel_rfl) (.head _) Try.underlying32 rfl (by kernel_rfl) (by first | (simp [Value.cells]; done) | exact Nat.le_of_ble_eq_true rfl) (by kernel_rfl)) ?_
  refine lm (v := .int .i64 a) rfl rfl ?_
  refine lv (v := .tuple #[.int .i64 (bayN cs a), .bool (bayB cs a)]) rfl rfl (yb_call (f := 51) (args := #[.agg (shC (.slice pc cs.length cc) (.slice po os.length co) t).toArray, .int .i64 a]) (fun _ => by kernel_rfl) fun W hW => bayOf_any cs pc cc (by omega) os po co (by omega) t a W ((RL.base HC.out) _ (hW.sub (fun _ h => by cases h))) ((RL.base HO.out) _ (hW.sub (fun _ h => by cases h)))) ?_
  refine lm (v := .tuple #[.int .i64 (bayN cs a), .bool (bayB cs a)]) rfl rfl ?_
  refine lm (v := .int .i64 (bayN cs a)) rfl rfl ?_
  refine lm (v := .bool (bayB cs a)) rfl rfl ?_
  refine lm (v := .int .i64 (bayN cs a)) rfl rfl ?_
  refine lm (v := .bool (bayB cs a)) rfl rfl ?_
  refine wpL_done (fun W2 hW2 => ?_)
  refine (show Code.wp _ _ _ _ _ from ?_)
  refine wp_seq ?_
  refine wp_region_L (W0 := w) [(g1, .cells (shC (.slice pc cs.length cc) (.slice po os.length co) t).toArray 32 (0, 0))] (hW2) ?_
  refine lv (v := .agg (shC (.slice pc cs.length cc) (.slice po os.length co) t).toArray) rfl rfl (yb_load (n := 13) (off := 0) rfl (by kernel_rfl) (.head _) Try.underlying32 rfl (by kernel_rfl) (by first | (simp [Value.cells]; done) | exact Nat.le_of_ble_eq_true rfl) (by kernel_rfl)) ?_
  refine lm (v := .int .i64 b) rfl rfl ?_
  refine lv (v := .tuple #[.int .i64 (bayN cs b), .bool (bayB cs b)]) rfl rfl (yb_call (f := 51) (args := #[.agg (shC (.slice pc cs.length cc) (.slice po os.length co) t).toArray, .int .i64 b]) (fun _ => by kernel_rfl) fun W hW => bayOf_any cs pc cc (by omega) os po co (by omega) t b W ((RL.base HC.out) _ (hW.sub (fun _ h => by cases h))) ((RL.base HO.out) _ (hW.sub (fun _ h => by cases h)))) ?_
  refine lm (v := .tuple #[.int .i64 (bayN cs b), .bool (bayB cs b)]) rfl rfl ?_
  refine lm (v := .int .i64 (bayN cs b)) rfl rfl ?_
  refine lm (v := .bool (bayB cs b)) rfl rfl ?_
  refine lm (v := .int .i64 (bayN cs b)) rfl rfl ?_
  refine lm (v := .bool (bayB cs b)) rfl rfl ?_
  refine wpL_done (fun W3 hW3 => ?_)
  refine (show Code.wp _ _ _ _ _ from ?_)
  refine wp_seq ?_
  refine wp_seq ?_
  refine wp_region_L (W0 := w) [(g1, .cells (shC (.slice pc cs.length cc) (.slice po os.length co) t).toArray 32 (0, 0))] (hW3) ?_
  refine lm (v := .bool (bayB cs a)) rfl rfl ?_
  refine lp (v := .bool (!(bayB cs a))) rfl rfl (run_un rfl (by kernel_rfl) fun w => un_not w) ?_
  refine lm (v := .bool (!(bayB cs a))) rfl rfl ?_
  cases h1 : (bayB cs a) with
  | false =>
    refine ln rfl ?_
    refine ln rfl ?_
    refine lm (v := .bool true) rfl rfl ?_
    refine wpL_done (fun W4 hW4 => ?_)
    refine (show Code.wp _ _ _ _ _ from ?_)
    refine wp_cond_true rfl ?_
    refine wp_seq ?_
    refine wp_region_L (W0 := w) [(g1, .cells (shC (.slice pc cs.length cc) (.slice po os.length co) t).toArray 32 (0, 0))] (hW4) ?_
    refine lm (v := .int .i64 0) rfl rfl ?_
    refine lm (v := .bool false) rfl rfl ?_
    refine wpL_done (fun W5 hW5 => ?_)
    refine (show Code.wp _ _ _ _ _ from ?_)
    refine wp_ret ?_
    try simp only [inBlock_ret, then_ret]
    refine bodyPost_ret (v := .tuple #[.int .i64 0, .bool false]) ?_ rfl ?_
    · kernel_rfl
    · exact ⟨(ib_is (by unfold apN apB; simp [*]) (by unfold apB; simp [*])), hW5.1⟩
  | true =>
    refine lm (v := .bool (bayB cs b)) rfl rfl ?_
    refine lp (v := .bool (!(bayB cs b))) rfl rfl (run_un rfl (by kernel_rfl) fun w => un_not w) ?_
    refine lm (v := .bool (!(bayB cs b))) rfl rfl ?_
    refine wpL_done (fun W6 hW6 => ?_)
    refine (show Code.wp _ _ _ _ _ from ?_)
    cases h2 : (bayB cs b) with
    | false =>
      refine wp_cond_true rfl ?_
      refine wp_seq ?_
      refine wp_region_L (W0 := w) [(g1, .cells (shC (.slice pc cs.length cc) (.slice po os.length co) t).toArray 32 (0, 0))] (hW6) ?_
      refine lm (v := .int .i64 0) rfl rfl ?_
      refine lm (v := .bool false) rfl rfl ?_
      refine wpL_done (fun W7 hW7 => ?_)
      refine (show Code.wp _ _ _ _ _ from ?_)
      refine wp_ret ?_
      try simp only [inBlock_ret, then_ret]
      refine bodyPost_ret (v := .tuple #[.int .i64 0, .bool false]) ?_ rfl ?_
      · kernel_rfl
      · exact ⟨(ib_is (by unfold apN apB; simp [*]) (by unfold apB; simp [*])), hW7.1⟩
    | true =>
      refine wp_cond_false rfl ?_
      refine wp_skip ?_
      refine (show Code.wp _ _ _ _ _ from ?_)
      refine wp_seq ?_
      refine wp_region_L (W0 := w) [(g1, .cells (shC (.slice pc cs.length cc) (.slice po os.length co) t).toArray 32 (0, 0))] (hW6) ?_
      refine lm (v := .int .i64 (bayN cs a)) rfl rfl ?_
      refine lm (v := .int .i64 (bayN cs b)) rfl rfl ?_
      refine lv (v := .int .i64 (diffX (bayN cs a) (bayN cs b))) rfl rfl (yb_call (f := 52) (args := #[.int .i64 (bayN cs a), .int .i64 (bayN cs b)]) (fun _ => by kernel_rfl) fun W hW => diff_any (bayN cs a) (bayN cs b) W) ?_
      refine lm (v := .int .i64 (diffX (bayN cs a) (bayN cs b))) rfl rfl ?_
      refine lm (v := .bool true) rfl rfl ?_
      refine wpL_done (fun W8 hW8 => ?_)
      refine (show Code.wp _ _ _ _ _ from ?_)
      refine wp_ret ?_
      try simp only [inBlock_ret, then_ret]
      refine bodyPost_ret (v := .tuple #[.int .i64 (diffX (bayN cs a) (bayN cs b)), .bool true]) ?_ rfl ?_
      · kernel_rfl
      · exact ⟨(ib_is (by unfold apN apB; simp [*]) (by unfold apB; simp [*])), hW8.1⟩
set_option maxRecDepth 100000 in
set_option maxHeartbeats 4000000 in
theorem Tallest_any (cs : List Col) (pc : Option Addr) (cc : Nat) (lc : cs.length ≤ 4000000000) (os : List Cov) (po : Option Addr) (co : Nat) (lo : os.length ≤ 4000000000) (t : Tl) (w : World) (hc : SLV w pc (cs.flatMap colC)) (ho : SLV w po (os.flatMap covC)) : Calls Try.prog 18 #[.agg (shC (.slice pc cs.length cc) (.slice po os.length co) t).toArray] w fun e w' => e = .returned (.int .i64 (tallX cs)) ∧ Below w.heap.size w w' := by
  have HC := Lib.hid hc
  clear hc
  have HO := Lib.hid ho
  clear ho
  go_enter Try.func18, Try.ntmps18
  refine wp_seq ?_
  refine wp_region_L (W0 := w) [] (KS.start w) ?_
  refine wpL_new (fun g => .pointer (some ⟨g, 0, none⟩)) (obi := .cells (shC (.slice pc cs.length cc) (.slice po os.length co) t).toArray 32 (0, 0)) rfl rfl (fun _ => by kernel_rfl) (fun _ => by simp only [List.setIfInBounds_toArray, List.set_cons_succ, List.set_cons_zero] <;> rfl) fun g1 Bg1 Fg1 => ?_
  refine lm (v := .int .i64 0) rfl rfl ?_
  refine wpL_done (fun W1 hW1 => ?_)
  refine (show Code.wp _ _ _ _ _ from ?_)
  refine wp_seq ?_
  refine wp_seq ?_
  refine wp_region_L (W0 := w) [(g1, .cells (shC (.slice pc cs.length cc) (.slice po os.length co) t).toArray 32 (0, 0))] (hW1) ?_
  refine lm (v := .pointer (some ⟨g1, 0, none⟩)) rfl rfl ?_
  refine lv (v := .slice pc cs.length cc) rfl rfl (yb_cell (off := 0) rfl (by kernel_rfl) (.head _) Try.underlying22 rfl (by kernel_rfl)) ?_
  refine lp (v := .int .i64 ((cs.length : Nat) : Int)) rfl rfl (run_lenL (p := pc) (cap := cc) (n := cs.length) rfl Try.underlying22 (by kernel_rfl)) ?_
  refine lp (v := .bool (decide (cs.length = 0))) rfl rfl (run_bin rfl (vx := (.int .i64 ((cs.length : Nat) : Int))) (vy := (.int .i64 ((0 : Nat) : Int))) (by kernel_rfl) (by kernel_rfl) fun w => bn_eql rfl w) ?_
  refine wpL_done (fun W2 hW2 => ?_)
  refine (show Code.wp _ _ _ _ _ from ?_)
  cases hd1 : (decide (cs.length = 0)) with
  | false =>
    have h1 : ¬ (cs.length = 0) := of_decide_eq_false hd1
    clear hd1
    refine wp_cond_false rfl ?_
    refine wp_skip ?_
    refine (show Code.wp _ _ _ _ _ from ?_)
    refine wp_seq ?_
    refine wp_region_L (W0 := w) [(g1, .cells (shC (.slice pc cs.length cc) (.slice po os.length co) t).toArray 32 (0, 0))] (hW2) ?_
    refine lm (v := .pointer (some ⟨g1, 0, none⟩)) rfl rfl ?_
    refine lv (v := .slice pc cs.length cc) rfl rfl (yb_cell (off := 0) rfl (by kernel_rfl) (.head _) Try.underlying22 rfl (by kernel_rfl)) ?_
    obtain ⟨y2, g2_, f2_, hy2, hp2, hc2⟩ := RL.at (RL.base HC.out) colC_len (by decide) (hW2.sub (fun _ h => by cases h)) (k := 0) (by omega)
    refine lp (v := .pointer (some ⟨g2_, f2_ + 0 * 12, none⟩)) rfl rfl (run_idxQ (p := pc) (cap := cc) (n := cs.length) (j := .i64) (k := 0) (sz := 12) rfl Try.underlying22 (by kernel_rfl) (by kernel_rfl) hp2 (by kernel_rfl) (by omega)) ?_
    refine lm (v := .pointer (some ⟨g2_, f2_ + 0 * 12 + 3, none⟩)) rfl rfl ?_
    refine lv (v := .int .i64 y2.tiers) rfl rfl (yb_rf (v := .int .i64 y2.tiers) rfl (by kernel_rfl) (fun W hW => hc2 W (hW.sub (fun _ h => by cases h)) 3 _ rfl) Try.underlying3 rfl) ?_
    refine lm (v := .int .i64 y2.tiers) rfl rfl ?_
    refine wpL_done (fun W3 hW3 => ?_)
    refine (show Code.wp _ _ _ _ _ from ?_)
    refine wp_seq ?_
    refine wp_seq ?_
    refine wp_region_L (W0 := w) [(g1, .cells (shC (.slice pc cs.length cc) (.slice po os.length co) t).toArray 32 (0, 0))] (hW3) ?_
    refine lm (v := .pointer (some ⟨g1, 0, none⟩)) rfl rfl ?_
    refine lv (v := .slice pc cs.length cc) rfl rfl (yb_cell (off := 0) rfl (by kernel_rfl) (.head _) Try.underlying22 rfl (by kernel_rfl)) ?_
    refine lp (v := .int .i64 ((cs.length : Nat) : Int)) rfl rfl (run_lenL (p := pc) (cap := cc) (n := cs.length) rfl Try.underlying22 (by kernel_rfl)) ?_
    refine lm (v := .int .i64 0) rfl rfl ?_
    refine wpL_done (fun W4 hW4 => ?_)
    refine (show Code.wp _ _ _ _ _ from ?_)
    refine wp_block ?_
    go_loopw [18, 3] (fun u18 u3 wr => ∃ (k : Nat) (m : Int), (k ≤ cs.length) ∧ (tallX cs = tallF m (cs.drop k)) ∧ u18 = .int .i64 ((k : Nat) : Int) ∧ u3 = .int .i64 m ∧ KS w [(g1, .cells (shC (.slice pc cs.length cc) (.slice po os.length co) t).toArray 32 (0, 0))] wr) (fun u18 _ _ => cs.length - (intOf u18).toNat)
    case atStart => exact ⟨0, y2.tiers, (Nat.zero_le _), (tall_start hy2), rfl, rfl, (hW4.sub (fun p hp => by first | exact hp | (simp only [List.mem_cons, List.mem_append, List.nil_append, List.not_mem_nil, or_assoc, or_false, false_or] at hp ⊢ <;> grind)))⟩
    case round =>
      obtain ⟨k, m, hk, hm, rfl, rfl, hL5⟩ := hrel
      refine wp_seq ?_
      refine wp_region_L (W0 := w) [(g1, .cells (shC (.slice pc cs.length cc) (.slice po os.length co) t).toArray 32 (0, 0))] (hL5) ?_
      refine lp (v := .bool (decide (k < cs.length))) rfl rfl (run_bin rfl (vx := (.int .i64 ((k : Nat) : Int))) (vy := (.int .i64 ((cs.length : Nat) : Int))) (by kernel_rfl) (by kernel_rfl) fun w => bn_lss rfl w) ?_
      refine wpL_done (fun W6 hW6 => ?_)
      refine (show Code.wp _ _ _ _ _ from ?_)
      refine wp_seq ?_
      cases hd2 : (decide (k < cs.length)) with
      | false =>
        have h2 : ¬ (k < cs.length) := of_decide_eq_false hd2
        clear hd2
        refine wp_cond_false rfl ?_
        refine wp_exit ?_
        refine (show Code.wp _ _ _ _ _ from ?_)
        refine wp_seq ?_
        refine wp_region_L (W0 := w) [(g1, .cells (shC (.slice pc cs.length cc) (.slice po os.length co) t).toArray 32 (0, 0))] (hW6) ?_
        refine lm (v := .int .i64 m) rfl rfl ?_
        refine lm (v := .int .i64 m) rfl rfl ?_
        refine wpL_done (fun W7 hW7 => ?_)
        refine (show Code.wp _ _ _ _ _ from ?_)
        refine wp_ret ?_
        try simp only [inBlock_ret, then_ret]
        refine bodyPost_ret (v := .int .i64 m) ?_ rfl ?_
        · kernel_rfl
        · exact ⟨(int_is (by rw [hm, tall_end h2])), hW7.1⟩
      | true =>
        have h2 : k < cs.length := of_decide_eq_true hd2
        clear hd2
        refine wp_cond_true rfl ?_
        refine wp_skip ?_
        refine (show Code.wp _ _ _ _ _ from ?_)
        refine wp_seq ?_
        refine wp_block ?_
        refine wp_seq ?_
        refine wp_region_L (W0 := w) [(g1, .cells (shC (.slice pc cs.length cc) (.slice po os.length co) t).toArray 32 (0, 0))] (hW6) ?_
        obtain ⟨y3, g3_, f3_, hy3, hp3, hc3⟩ := RL.at (RL.base HC.out) colC_len (by decide) (hW6.sub (fun _ h => by cases h)) (k := k) (by omega)
        refine lp (v := .pointer (some ⟨g3_, f3_ + k * 12, none⟩)) rfl rfl (run_idxQ (p := pc) (cap := cc) (n := cs.length) (j := .i64) (k := k) (sz := 12) rfl Try.underlying22 (by kernel_rfl) (by kernel_rfl) hp3 (by kernel_rfl) (by omega)) ?_
        refine lv (v := .agg (colC y3).toArray) rfl rfl (yb_rs (off := f3_ + k * 12) (cs := colC y3) rfl (by kernel_rfl) (fun W hW => hc3 W (hW.sub (fun _ h => by cases h))) Try.underlying49 rfl (by kernel_rfl)) ?_
        refine wpL_new (fun g => .pointer (some ⟨g, 0, none⟩)) (obi := .cells #[.int .i64 0, .int .i64 0, .bool false, .int .i64 0, .int .i64 0, .int .i64 0, .int .i64 0, .int .i64 0, .slice none 0 0, .int .i64 0, .int .i64 0, .int .i64 0] 49 (0, 0)) rfl rfl (fun _ => by kernel_rfl) (fun _ => by simp only [List.setIfInBounds_toArray, List.set_cons_succ, List.set_cons_zero] <;> rfl) fun g4 Bg4 Fg4 => ?_
        obtain dj5_0 : g1 ≠ g4 := by simpa only [dj_app_l, dj_app_r, dj_cons_l, dj_cons_r, dj_nil_l, dj_nil_r, dk_app, dk_cons, dk_nil, and_true, true_and, and_assoc] using (show Dk g4 [(g1, .cells (shC (.slice pc cs.length cc) (.slice po os.length co) t).toArray 32 (0, 0))] from Fg4)
        refine wpL_s [(g4, .cells (colC y3).toArray 49 (0, 0)), (g1, .cells (shC (.slice pc cs.length cc) (.slice po os.length co) t).toArray 32 (0, 0))] rfl rfl (st_row (off := 0) (v := .agg (colC y3).toArray) rfl (by kernel_rfl) (by kernel_rfl) (.head _) Bg4 (by kernel_rfl) (by first | (simp [Value.cells]; done) | exact Nat.le_of_ble_eq_true rfl) (fun v hv => colC_one y3 v hv) (by kernel_rfl) (List.forall_mem_cons.2 ⟨.inl rfl, (List.forall_mem_cons.2 ⟨.inr ⟨(.tail _ (.head _)), (by first | assumption | exact Ne.symm (by assumption))⟩, (List.forall_mem_nil _)⟩)⟩)) ?_
        refine wpL_done (fun W8 hW8 => ?_)
        refine (show Code.wp _ _ _ _ _ from ?_)
        refine wp_region_L (W0 := w) [(g4, .cells (colC y3).toArray 49 (0, 0)), (g1, .cells (shC (.slice pc cs.length cc) (.slice po os.length co) t).toArray 32 (0, 0))] (hW8) ?_
        refine lm (v := .int .i64 m) rfl rfl ?_
        refine lm (v := .pointer (some ⟨g4, 3, none⟩)) rfl rfl ?_
        refine lv (v := .int .i64 y3.tiers) rfl rfl (yb_cell (off := 3) rfl (by kernel_rfl) (.head _) Try.underlying3 rfl (by kernel_rfl)) ?_
        refine lp (v := .int .i64 (max m y3.tiers)) rfl rfl (run_max2 (x := m) (y := y3.tiers) (z := (max m y3.tiers)) rfl (by kernel_rfl) (by kernel_rfl) rfl) ?_
        refine lm (v := .int .i64 (max m y3.tiers)) rfl rfl ?_
        refine wpL_done (fun W9 hW9 => ?_)
        refine (show Code.wp _ _ _ _ _ from ?_)
        refine wp_region_L (W0 := w) [(g4, .cells (colC y3).toArray 49 (0, 0)), (g1, .cells (shC (.slice pc cs.length cc) (.slice po os.length co) t).toArray 32 (0, 0))] (hW9) ?_
        refine lp (v := .int .i64 (((k + 1) : Nat) : Int)) rfl rfl (run_bin rfl (vx := (.int .i64 ((k : Nat) : Int))) (vy := (.int .i64 ((1 : Nat) : Int))) (by kernel_rfl) (by kernel_rfl) fun w => bn_add (z := (k + 1)) rfl (wr_i64 (by omega)) w) ?_
        refine lm (v := .int .i64 (((k + 1) : Nat) : Int)) rfl rfl ?_
        refine wpL_done (fun W10 hW10 => ?_)
        go_roundw
        case rel =>
          repeat apply Exists.intro
          exact ⟨⟨k + 1, (max m y3.tiers), (by omega), (by rw [hm, tall_step hy3]), rfl, rfl, (hW10.sub (fun p hp => by first | exact hp | (simp only [List.mem_cons, List.mem_append, List.nil_append, List.not_mem_nil, or_assoc, or_false, false_or] at hp ⊢ <;> grind)))⟩, rfl⟩
        case measure => (show cs.length - (intOf (.int .i64 (((k + 1) : Nat) : Int))).toNat < cs.length - (intOf (.int .i64 ((k : Nat) : Int))).toNat); simp only [intOf]; omega
  | true =>
    have h1 : cs.length = 0 := of_decide_eq_true hd1
    clear hd1
    refine wp_cond_true rfl ?_
    refine wp_seq ?_
    refine wp_region_L (W0 := w) [(g1, .cells (shC (.slice pc cs.length cc) (.slice po os.length co) t).toArray 32 (0, 0))] (hW2) ?_
    refine lm (v := .int .i64 0) rfl rfl ?_
    refine wpL_done (fun W11 hW11 => ?_)
    refine (show Code.wp _ _ _ _ _ from ?_)
    refine wp_ret ?_
    try simp only [inBlock_ret, then_ret]
    refine bodyPost_ret (v := .int .i64 0) ?_ rfl ?_
    · kernel_rfl
    · exact ⟨(int_is (by rw [List.eq_nil_of_length_eq_zero h1]; rfl)), hW11.1⟩
set_option maxRecDepth 100000 in
set_option maxHeartbeats 4000000 in
theorem Places_any (cs : List Col) (pc : Option Addr) (cc : Nat) (lc : cs.length ≤ 4000000000) (os : List Cov) (po : Option Addr) (co : Nat) (lo : os.length ≤ 4000000000) (t : Tl) (w : World) (hc : SLV w pc (cs.flatMap colC)) (ho : SLV w po (os.flatMap covC)) : Calls Try.prog 20 #[.agg (shC (.slice pc cs.length cc) (.slice po os.length co) t).toArray] w fun e w' => e = .returned (.int .i64 (placesX cs)) ∧ Below w.heap.size w w' := by
  have HC := Lib.hid hc
  clear hc
  have HO := Lib.hid ho
  clear ho
  go_enter Try.func20, Try.ntmps20
  refine wp_seq ?_
  refine wp_region_L (W0 := w) [] (KS.start w) ?_
  refine wpL_new (fun g => .pointer (some ⟨g, 0, none⟩)) (obi := .cells (shC (.slice pc cs.length cc) (.slice po os.length co) t).toArray 32 (0, 0)) rfl rfl (fun _ => by kernel_rfl) (fun _ => by simp only [List.setIfInBounds_toArray, List.set_cons_succ, List.set_cons_zero] <;> rfl) fun g1 Bg1 Fg1 => ?_
  refine lm (v := .int .i64 0) rfl rfl ?_
  refine wpL_done (fun W1 hW1 => ?_)
  refine (show Code.wp _ _ _ _ _ from ?_)
  refine wp_seq ?_
  refine wp_region_L (W0 := w) [(g1, .cells (shC (.slice pc cs.length cc) (.slice po os.length co) t).toArray 32 (0, 0))] (hW1) ?_
  refine lm (v := .int .i64 0) rfl rfl ?_
  refine wpL_done (fun W2 hW2 => ?_)
  refine (show Code.wp _ _ _ _ _ from ?_)
  refine wp_seq ?_
  refine wp_seq ?_
  refine wp_region_L (W0 := w) [(g1, .cells (shC (.slice pc cs.length cc) (.slice po os.length co) t).toArray 32 (0, 0))] (hW2) ?_
  refine lm (v := .pointer (some ⟨g1, 0, none⟩)) rfl rfl ?_
  refine lv (v := .slice pc cs.length cc) rfl rfl (yb_cell (off := 0) rfl (by kernel_rfl) (.head _) Try.underlying22 rfl (by kernel_rfl)) ?_
  refine lp (v := .int .i64 ((cs.length : Nat) : Int)) rfl rfl (run_lenL (p := pc) (cap := cc) (n := cs.length) rfl Try.underlying22 (by kernel_rfl)) ?_
  refine lm (v := .int .i64 0) rfl rfl ?_
  refine wpL_done (fun W3 hW3 => ?_)
  refine (show Code.wp _ _ _ _ _ from ?_)
  refine wp_block ?_
  go_loopw [9, 3] (fun u9 u3 wr => ∃ (k : Nat) (m : Int), (k ≤ cs.length) ∧ (tiersF 0 cs = tiersF m (cs.drop k)) ∧ u9 = .int .i64 ((k : Nat) : Int) ∧ u3 = .int .i64 m ∧ KS w [(g1, .cells (shC (.slice pc cs.length cc) (.slice po os.length co) t).toArray 32 (0, 0))] wr) (fun u9 _ _ => cs.length - (intOf u9).toNat)
  case atStart => exact ⟨0, 0, (Nat.zero_le _), rfl, rfl, rfl, (hW3.sub (fun p hp => by first | exact hp | (simp only [List.mem_cons, List.mem_append, List.nil_append, List.not_mem_nil, or_assoc, or_false, false_or] at hp ⊢ <;> grind)))⟩
  case round =>
    obtain ⟨k, m, hk, hm, rfl, rfl, hL4⟩ := hrel
    refine wp_seq ?_
    refine wp_region_L (W0 := w) [(g1, .cells (shC (.slice pc cs.length cc) (.slice po os.length co) t).toArray 32 (0, 0))] (hL4) ?_
    refine lp (v := .bool (decide (k < cs.length))) rfl rfl (run_bin rfl (vx := (.int .i64 ((k : Nat) : Int))) (vy := (.int .i64 ((cs.length : Nat) : Int))) (by kernel_rfl) (by kernel_rfl) fun w => bn_lss rfl w) ?_
    refine wpL_done (fun W5 hW5 => ?_)
    refine (show Code.wp _ _ _ _ _ from ?_)
    refine wp_seq ?_
    cases hd1 : (decide (k < cs.length)) with
    | false =>
      have h1 : ¬ (k < cs.length) := of_decide_eq_false hd1
      clear hd1
      refine wp_cond_false rfl ?_
      refine wp_exit ?_
      refine (show Code.wp _ _ _ _ _ from ?_)
      refine wp_seq ?_
      refine wp_region_L (W0 := w) [(g1, .cells (shC (.slice pc cs.length cc) (.slice po os.length co) t).toArray 32 (0, 0))] (hW5) ?_
      refine lm (v := .int .i64 m) rfl rfl ?_
      refine lp (v := .int .i64 (IntKind.i64.wrap (2 * m))) rfl rfl (run_bin rfl (vx := .int .i64 2) (vy := .int .i64 m) (by kernel_rfl) (by kernel_rfl) fun w => bw_mul (z := (IntKind.i64.wrap (2 * m))) rfl w) ?_
      refine lm (v := .int .i64 (IntKind.i64.wrap (2 * m))) rfl rfl ?_
      refine wpL_done (fun W6 hW6 => ?_)
      refine (show Code.wp _ _ _ _ _ from ?_)
      refine wp_ret ?_
      try simp only [inBlock_ret, then_ret]
      refine bodyPost_ret (v := .int .i64 (IntKind.i64.wrap (2 * m))) ?_ rfl ?_
      · kernel_rfl
      · exact ⟨(int_is (by unfold placesX; rw [hm, tiers_end h1])), hW6.1⟩
    | true =>
      have h1 : k < cs.length := of_decide_eq_true hd1
      clear hd1
      refine wp_cond_true rfl ?_
      refine wp_skip ?_
      refine (show Code.wp _ _ _ _ _ from ?_)
      refine wp_seq ?_
      refine wp_block ?_
      refine wp_seq ?_
      refine wp_region_L (W0 := w) [(g1, .cells (shC (.slice pc cs.length cc) (.slice po os.length co) t).toArray 32 (0, 0))] (hW5) ?_
      obtain ⟨y2, g2_, f2_, hy2, hp2, hc2⟩ := RL.at (RL.base HC.out) colC_len (by decide) (hW5.sub (fun _ h => by cases h)) (k := k) (by omega)
      refine lp (v := .pointer (some ⟨g2_, f2_ + k * 12, none⟩)) rfl rfl (run_idxQ (p := pc) (cap := cc) (n := cs.length) (j := .i64) (k := k) (sz := 12) rfl Try.underlying22 (by kernel_rfl) (by kernel_rfl) hp2 (by kernel_rfl) (by omega)) ?_
      refine lv (v := .agg (colC y2).toArray) rfl rfl (yb_rs (off := f2_ + k * 12) (cs := colC y2) rfl (by kernel_rfl) (fun W hW => hc2 W (hW.sub (fun _ h => by cases h))) Try.underlying49 rfl (by kernel_rfl)) ?_
      refine wpL_new (fun g => .pointer (some ⟨g, 0, none⟩)) (obi := .cells #[.int .i64 0, .int .i64 0, .bool false, .int .i64 0, .int .i64 0, .int .i64 0, .int .i64 0, .int .i64 0, .slice none 0 0, .int .i64 0, .int .i64 0, .int .i64 0] 49 (0, 0)) rfl rfl (fun _ => by kernel_rfl) (fun _ => by simp only [List.setIfInBounds_toArray, List.set_cons_succ, List.set_cons_zero] <;> rfl) fun g3 Bg3 Fg3 => ?_
      obtain dj4_0 : g1 ≠ g3 := by simpa only [dj_app_l, dj_app_r, dj_cons_l, dj_cons_r, dj_nil_l, dj_nil_r, dk_app, dk_cons, dk_nil, and_true, true_and, and_assoc] using (show Dk g3 [(g1, .cells (shC (.slice pc cs.length cc) (.slice po os.length co) t).toArray 32 (0, 0))] from Fg3)
      refine wpL_s [(g3, .cells (colC y2).toArray 49 (0, 0)), (g1, .cells (shC (.slice pc cs.length cc) (.slice po os.length co) t).toArray 32 (0, 0))] rfl rfl (st_row (off := 0) (v := .agg (colC y2).toArray) rfl (by kernel_rfl) (by kernel_rfl) (.head _) Bg3 (by kernel_rfl) (by first | (simp [Value.cells]; done) | exact Nat.le_of_ble_eq_true rfl) (fun v hv => colC_one y2 v hv) (by kernel_rfl) (List.forall_mem_cons.2 ⟨.inl rfl, (List.forall_mem_cons.2 ⟨.inr ⟨(.tail _ (.head _)), (by first | assumption | exact Ne.symm (by assumption))⟩, (List.forall_mem_nil _)⟩)⟩)) ?_
      refine wpL_done (fun W7 hW7 => ?_)
      refine (show Code.wp _ _ _ _ _ from ?_)
      refine wp_region_L (W0 := w) [(g3, .cells (colC y2).toArray 49 (0, 0)), (g1, .cells (shC (.slice pc cs.length cc) (.slice po os.length co) t).toArray 32 (0, 0))] (hW7) ?_
      refine lm (v := .int .i64 m) rfl rfl ?_
      refine lm (v := .pointer (some ⟨g3, 3, none⟩)) rfl rfl ?_
      refine lv (v := .int .i64 y2.tiers) rfl rfl (yb_cell (off := 3) rfl (by kernel_rfl) (.head _) Try.underlying3 rfl (by kernel_rfl)) ?_
      refine lp (v := .int .i64 (IntKind.i64.wrap (m + y2.tiers))) rfl rfl (run_bin rfl (vx := .int .i64 m) (vy := .int .i64 y2.tiers) (by kernel_rfl) (by kernel_rfl) fun w => bw_add (z := (IntKind.i64.wrap (m + y2.tiers))) rfl w) ?_
      refine lm (v := .int .i64 (IntKind.i64.wrap (m + y2.tiers))) rfl rfl ?_
      refine wpL_done (fun W8 hW8 => ?_)
      refine (show Code.wp _ _ _ _ _ from ?_)
      refine wp_region_L (W0 := w) [(g3, .cells (colC y2).toArray 49 (0, 0)), (g1, .cells (shC (.slice pc cs.length cc) (.slice po os.length co) t).toArray 32 (0, 0))] (hW8) ?_
      refine lp (v := .int .i64 (((k + 1) : Nat) : Int)) rfl rfl (run_bin rfl (vx := (.int .i64 ((k : Nat) : Int))) (vy := (.int .i64 ((1 : Nat) : Int))) (by kernel_rfl) (by kernel_rfl) fun w => bn_add (z := (k + 1)) rfl (wr_i64 (by omega)) w) ?_
      refine lm (v := .int .i64 (((k + 1) : Nat) : Int)) rfl rfl ?_
      refine wpL_done (fun W9 hW9 => ?_)
      go_roundw
      case rel =>
        repeat apply Exists.intro
        exact ⟨⟨k + 1, (IntKind.i64.wrap (m + y2.tiers)), (by omega), (by rw [hm, tiers_step hy2]), rfl, rfl, (hW9.sub (fun p hp => by first | exact hp | (simp only [List.mem_cons, List.mem_append, List.nil_append, List.not_mem_nil, or_assoc, or_false, false_or] at hp ⊢ <;> grind)))⟩, rfl⟩
      case measure => (show cs.length - (intOf (.int .i64 (((k + 1) : Nat) : Int))).toNat < cs.length - (intOf (.int .i64 ((k : Nat) : Int))).toNat); simp only [intOf]; omega
end Go.Proofs.Ythpooalhibedpaa
namespace Go.Proofs.Ythpooalhibedpaa
open Go Go.RowKit Tw
set_option maxRecDepth 100000 in
set_option maxHeartbeats 4000000 in
theorem Within_any (l : List Rg) (p : Option Addr) (c : Nat) (hl : l.length ≤ 4000000000) (w : World) (hp : SLV w p (l.flatMap rgC)) : Calls Try.prog 82 #[.slice p l.length c] w fun e w' => e = .returned (.bool (rgsX l)) ∧ Below w.heap.size w w' := by
  have HP := Lib.hid hp
  clear hp
  go_enter Try.func82, Try.ntmps82
  refine wp_seq ?_
  refine wp_region_L (W0 := w) [] (KS.start w) ?_
  refine lm (v := .bool false) rfl rfl ?_
  refine wpL_done (fun W1 hW1 => ?_)
  refine (show Code.wp _ _ _ _ _ from ?_)
  refine wp_seq ?_
  refine wp_seq ?_
  refine wp_region_L (W0 := w) [] (hW1) ?_
  refine lm (v := .slice p l.length c) rfl rfl ?_
  refine lp (v := .int .i64 ((l.length : Nat) : Int)) rfl rfl (run_lenL (p := p) (cap := c) (n := l.length) rfl Try.underlying102 (by kernel_rfl)) ?_
  refine lm (v := .int .i64 0) rfl rfl ?_
  refine wpL_done (fun W2 hW2 => ?_)
  refine (show Code.wp _ _ _ _ _ from ?_)
  refine wp_block ?_
  go_loopw [7] (fun u7 wr => ∃ (k : Nat), (k ≤ l.length) ∧ (rgsX l = rgsX (l.drop k)) ∧ u7 = .int .i64 ((k : Nat) : Int) ∧ KS w [] wr) (fun u7 _ => l.length - (intOf u7).toNat)
  case atStart => exact ⟨0, (Nat.zero_le _), rfl, rfl, (hW2.sub (fun p hp => by first | exact hp | (simp only [List.mem_cons, List.mem_append, List.nil_append, List.not_mem_nil, or_assoc, or_false, false_or] at hp ⊢ <;> grind)))⟩
  case round =>
    obtain ⟨k, hk, hR, rfl, hL3⟩ := hrel
    refine wp_seq ?_
    refine wp_region_L (W0 := w) [] (hL3) ?_
    refine lp (v := .bool (decide (k < l.length))) rfl rfl (run_bin rfl (vx := (.int .i64 ((k : Nat) : Int))) (vy := (.int .i64 ((l.length : Nat) : Int))) (by kernel_rfl) (by kernel_rfl) fun w => bn_lss rfl w) ?_
    refine wpL_done (fun W4 hW4 => ?_)
    refine (show Code.wp _ _ _ _ _ from ?_)
    refine wp_seq ?_
    cases hd1 : (decide (k < l.length)) with
    | false =>
      have h1 : ¬ (k < l.length) := of_decide_eq_false hd1
      clear hd1
      refine wp_cond_false rfl ?_
      refine wp_exit ?_
      refine (show Code.wp _ _ _ _ _ from ?_)
      refine wp_seq ?_
      refine wp_region_L (W0 := w) [] (hW4) ?_
      refine lm (v := .bool true) rfl rfl ?_
      refine wpL_done (fun W5 hW5 => ?_)
      refine (show Code.wp _ _ _ _ _ from ?_)
      refine wp_ret ?_
      try simp only [inBlock_ret, then_ret]
      refine bodyPost_ret (v := .bool true) ?_ rfl ?_
      · kernel_rfl
      · exact ⟨(bool_is (by rw [hR, rgs_end h1])), hW5.1⟩
    | true =>
      have h1 : k < l.length := of_decide_eq_true hd1
      clear hd1
      refine wp_cond_true rfl ?_
      refine wp_skip ?_
      refine (show Code.wp _ _ _ _ _ from ?_)
      refine wp_seq ?_
      refine wp_block ?_
      refine wp_seq ?_
      refine wp_region_L (W0 := w) [] (hW4) ?_
      obtain ⟨y1, g1_, f1_, hy1, hp1, hc1⟩ := RL.at (RL.base HP.out) rgC_len (by decide) (hW4.sub (fun _ h => by cases h)) (k := k) (by omega)
      refine lp (v := .pointer (some ⟨g1_, f1_ + k * 3, none⟩)) rfl rfl (run_idxQ (p := p) (cap := c) (n := l.length) (j := .i64) (k := k) (sz := 3) rfl Try.underlying102 (by kernel_rfl) (by kernel_rfl) hp1 (by kernel_rfl) (by omega)) ?_
      refine lv (v := .agg (rgC y1).toArray) rfl rfl (yb_rs (off := f1_ + k * 3) (cs := rgC y1) rfl (by kernel_rfl) (fun W hW => hc1 W (hW.sub (fun _ h => by cases h))) Try.underlying104 rfl (by kernel_rfl)) ?_
      refine wpL_new (fun g => .pointer (some ⟨g, 0, none⟩)) (obi := .cells #[.int .i64 0, .int .i64 0, .int .i64 0] 104 (0, 0)) rfl rfl (fun _ => by kernel_rfl) (fun _ => by simp only [List.setIfInBounds_toArray, List.set_cons_succ, List.set_cons_zero] <;> rfl) fun g2 Bg2 Fg2 => ?_
      refine wpL_s [(g2, .cells (rgC y1).toArray 104 (0, 0))] rfl rfl (st_row (off := 0) (v := .agg (rgC y1).toArray) rfl (by kernel_rfl) (by kernel_rfl) (.head _) Bg2 (by kernel_rfl) (by first | (simp [Value.cells]; done) | exact Nat.le_of_ble_eq_true rfl) (fun v hv => rgC_one y1 v hv) (by kernel_rfl) (List.forall_mem_cons.2 ⟨.inl rfl, (List.forall_mem_nil _)⟩)) ?_
      refine wpL_done (fun W6 hW6 => ?_)
      refine (show Code.wp _ _ _ _ _ from ?_)
      refine wp_seq ?_
      refine wp_region_L (W0 := w) [(g2, .cells (rgC y1).toArray 104 (0, 0))] (hW6) ?_
      refine lm (v := .pointer (some ⟨g2, 0, none⟩)) rfl rfl ?_
      refine lv (v := .int .i64 y1.1) rfl rfl (yb_cell (off := 0) rfl (by kernel_rfl) (.head _) Try.underlying3 rfl (by kernel_rfl)) ?_
      refine lm (v := .pointer (some ⟨g2, 1, none⟩)) rfl rfl ?_
      refine lv (v := .int .i64 y1.2.1) rfl rfl (yb_cell (off := 1) rfl (by kernel_rfl) (.head _) Try.underlying3 rfl (by kernel_rfl)) ?_
      refine lp (v := .bool (decide (y1.1 < y1.2.1))) rfl rfl (run_bin rfl (vx := (.int .i64 y1.1)) (vy := (.int .i64 y1.2.1)) (by kernel_rfl) (by kernel_rfl) fun w => bi_lss rfl w) ?_
      refine lm (v := .bool (decide (y1.1 < y1.2.1))) rfl rfl ?_
      cases hd2 : (decide (y1.1 < y1.2.1)) with
      | false =>
        have h2 : ¬ (y1.1 < y1.2.1) := of_decide_eq_false hd2
        clear hd2
        refine lm (v := .pointer (some ⟨g2, 0, none⟩)) rfl rfl ?_
        refine lv (v := .int .i64 y1.1) rfl rfl (yb_cell (off := 0) rfl (by kernel_rfl) (.head _) Try.underlying3 rfl (by kernel_rfl)) ?_
        refine lm (v := .pointer (some ⟨g2, 2, none⟩)) rfl rfl ?_
        refine lv (v := .int .i64 y1.2.2) rfl rfl (yb_cell (off := 2) rfl (by kernel_rfl) (.head _) Try.underlying3 rfl (by kernel_rfl)) ?_
        refine lp (v := .bool (decide (y1.2.2 < y1.1))) rfl rfl (run_bin rfl (vx := (.int .i64 y1.1)) (vy := (.int .i64 y1.2.2)) (by kernel_rfl) (by kernel_rfl) fun w => bi_gtr rfl w) ?_
        refine lm (v := .bool (decide (y1.2.2 < y1.1))) rfl rfl ?_
        refine wpL_done (fun W7 hW7 => ?_)
        refine (show Code.wp _ _ _ _ _ from ?_)
        cases hd3 : (decide (y1.2.2 < y1.1)) with
        | false =>
          have h3 : ¬ (y1.2.2 < y1.1) := of_decide_eq_false hd3
          clear hd3
          refine wp_cond_false rfl ?_
          refine wp_skip ?_
          refine (show Code.wp _ _ _ _ _ from ?_)
          refine wp_region_L (W0 := w) [(g2, .cells (rgC y1).toArray 104 (0, 0))] (hW7) ?_
          refine lp (v := .int .i64 (((k + 1) : Nat) : Int)) rfl rfl (run_bin rfl (vx := (.int .i64 ((k : Nat) : Int))) (vy := (.int .i64 ((1 : Nat) : Int))) (by kernel_rfl) (by kernel_rfl) fun w => bn_add (z := (k + 1)) rfl (wr_i64 (by omega)) w) ?_
          refine lm (v := .int .i64 (((k + 1) : Nat) : Int)) rfl rfl ?_
          refine wpL_done (fun W8 hW8 => ?_)
          go_roundw
          case rel =>
            repeat apply Exists.intro
            exact ⟨⟨k + 1, (by omega), (by rw [hR, rgs_step hy1]; simp [h2, h3]), rfl, (hW8.sub (fun p hp => by first | exact hp | (simp only [List.mem_cons, List.mem_append, List.nil_append, List.not_mem_nil, or_assoc, or_false, false_or] at hp ⊢ <;> grind)))⟩, rfl⟩
          case measure => (show l.length - (intOf (.int .i64 (((k + 1) : Nat) : Int))).toNat < l.length - (intOf (.int .i64 ((k : Nat) : Int))).toNat); simp only [intOf]; omega
        | true =>
          have h3 : y1.2.2 < y1.1 := of_decide_eq_true hd3
          clear hd3
          refine wp_cond_true rfl ?_
          refine wp_seq ?_
          refine wp_region_L (W0 := w) [(g2, .cells (rgC y1).toArray 104 (0, 0))] (hW7) ?_
          refine lm (v := .bool false) rfl rfl ?_
          refine wpL_done (fun W9 hW9 => ?_)
          refine (show Code.wp _ _ _ _ _ from ?_)
          refine wp_ret ?_
          try simp only [inBlock_ret, then_ret]
          refine bodyPost_ret (v := .bool false) ?_ rfl ?_
          · kernel_rfl
          · exact ⟨(bool_is (by rw [hR, rgs_step hy1]; simp [h3])), hW9.1⟩
      | true =>
        have h2 : y1.1 < y1.2.1 := of_decide_eq_true hd2
        clear hd2
        refine ln rfl ?_
        refine ln rfl ?_
        refine ln rfl ?_
        refine ln rfl ?_
        refine ln rfl ?_
        refine lm (v := .bool true) rfl rfl ?_
        refine wpL_done (fun W10 hW10 => ?_)
        refine (show Code.wp _ _ _ _ _ from ?_)
        refine wp_cond_true rfl ?_
        refine wp_seq ?_
        refine wp_region_L (W0 := w) [(g2, .cells (rgC y1).toArray 104 (0, 0))] (hW10) ?_
        refine lm (v := .bool false) rfl rfl ?_
        refine wpL_done (fun W11 hW11 => ?_)
        refine (show Code.wp _ _ _ _ _ from ?_)
        refine wp_ret ?_
        try simp only [inBlock_ret, then_ret]
        refine bodyPost_ret (v := .bool false) ?_ rfl ?_
        · kernel_rfl
        · exact ⟨(bool_is (by rw [hR, rgs_step hy1]; simp [h2])), hW11.1⟩
set_option maxRecDepth 100000 in
set_option maxHeartbeats 4000000 in
theorem increasing_any (l : List Int) (p : Option Addr) (c : Nat) (most : Int) (hl : l.length ≤ 4000000000) (w : World) (hp : SLV w p (l.flatMap inC)) : Calls Try.prog 83 #[.slice p l.length c, .int .i64 most] w fun e w' => e = .returned (.bool (incX l most)) ∧ Below w.heap.size w w' := by
  have HP := Lib.hid hp
  clear hp
  go_enter Try.func83, Try.ntmps83
  refine wp_seq ?_
  refine wp_region_L (W0 := w) [] (KS.start w) ?_
  refine lm (v := .bool false) rfl rfl ?_
  refine wpL_done (fun W1 hW1 => ?_)
  refine (show Code.wp _ _ _ _ _ from ?_)
  refine wp_seq ?_
  refine wp_region_L (W0 := w) [] (hW1) ?_
  refine lm (v := .int .i64 (-1)) rfl rfl ?_
  refine wpL_done (fun W2 hW2 => ?_)
  refine (show Code.wp _ _ _ _ _ from ?_)
  refine wp_seq ?_
  refine wp_seq ?_
  refine wp_region_L (W0 := w) [] (hW2) ?_
  refine lm (v := .slice p l.length c) rfl rfl ?_
  refine lp (v := .int .i64 ((l.length : Nat) : Int)) rfl rfl (run_lenL (p := p) (cap := c) (n := l.length) rfl Try.underlying39 (by kernel_rfl)) ?_
  refine lm (v := .int .i64 0) rfl rfl ?_
  refine wpL_done (fun W3 hW3 => ?_)
  refine (show Code.wp _ _ _ _ _ from ?_)
  refine wp_block ?_
  go_loopw [10, 5] (fun u10 u5 wr => ∃ (k : Nat) (last : Int), (k ≤ l.length) ∧ (incX l most = incF most last (l.drop k)) ∧ u10 = .int .i64 ((k : Nat) : Int) ∧ u5 = .int .i64 last ∧ KS w [] wr) (fun u10 _ _ => l.length - (intOf u10).toNat)
  case atStart => exact ⟨0, (-1), (Nat.zero_le _), rfl, rfl, rfl, (hW3.sub (fun p hp => by first | exact hp | (simp only [List.mem_cons, List.mem_append, List.nil_append, List.not_mem_nil, or_assoc, or_false, false_or] at hp ⊢ <;> grind)))⟩
  case round =>
    obtain ⟨k, last, hk, hR, rfl, rfl, hL4⟩ := hrel
    refine wp_seq ?_
    refine wp_region_L (W0 := w) [] (hL4) ?_
    refine lp (v := .bool (decide (k < l.length))) rfl rfl (run_bin rfl (vx := (.int .i64 ((k : Nat) : Int))) (vy := (.int .i64 ((l.length : Nat) : Int))) (by kernel_rfl) (by kernel_rfl) fun w => bn_lss rfl w) ?_
    refine wpL_done (fun W5 hW5 => ?_)
    refine (show Code.wp _ _ _ _ _ from ?_)
    refine wp_seq ?_
    cases hd1 : (decide (k < l.length)) with
    | false =>
      have h1 : ¬ (k < l.length) := of_decide_eq_false hd1
      clear hd1
      refine wp_cond_false rfl ?_
      refine wp_exit ?_
      refine (show Code.wp _ _ _ _ _ from ?_)
      refine wp_seq ?_
      refine wp_region_L (W0 := w) [] (hW5) ?_
      refine lm (v := .bool true) rfl rfl ?_
      refine wpL_done (fun W6 hW6 => ?_)
      refine (show Code.wp _ _ _ _ _ from ?_)
      refine wp_ret ?_
      try simp only [inBlock_ret, then_ret]
      refine bodyPost_ret (v := .bool true) ?_ rfl ?_
      · kernel_rfl
      · exact ⟨(bool_is (by rw [hR, inc_end h1])), hW6.1⟩
    | true =>
      have h1 : k < l.length := of_decide_eq_true hd1
      clear hd1
      refine wp_cond_true rfl ?_
      refine wp_skip ?_
      refine (show Code.wp _ _ _ _ _ from ?_)
      refine wp_seq ?_
      refine wp_block ?_
      refine wp_seq ?_
      refine wp_region_L (W0 := w) [] (hW5) ?_
      obtain ⟨y1, g1_, f1_, hy1, hp1, hc1⟩ := RL.at (RL.base HP.out) inC_len (by decide) (hW5.sub (fun _ h => by cases h)) (k := k) (by omega)
      refine lp (v := .pointer (some ⟨g1_, f1_ + k * 1, none⟩)) rfl rfl (run_idxQ (p := p) (cap := c) (n := l.length) (j := .i64) (k := k) (sz := 1) rfl Try.underlying39 (by kernel_rfl) (by kernel_rfl) hp1 (by kernel_rfl) (by omega)) ?_
      refine lv (v := .int .i64 y1) rfl rfl (yb_rf (v := .int .i64 y1) rfl (by kernel_rfl) (fun W hW => hc1 W (hW.sub (fun _ h => by cases h)) 0 _ rfl) Try.underlying3 rfl) ?_
      refine lm (v := .int .i64 y1) rfl rfl ?_
      refine wpL_done (fun W7 hW7 => ?_)
      refine (show Code.wp _ _ _ _ _ from ?_)
      refine wp_seq ?_
      refine wp_seq ?_
      refine wp_region_L (W0 := w) [] (hW7) ?_
      refine lm (v := .int .i64 y1) rfl rfl ?_
      refine lm (v := .int .i64 last) rfl rfl ?_
      refine lp (v := .bool (!(decide (last < y1)))) rfl rfl (run_bin rfl (vx := (.int .i64 y1)) (vy := (.int .i64 last)) (by kernel_rfl) (by kernel_rfl) fun w => bi_leq rfl w) ?_
      refine lm (v := .bool (!(decide (last < y1)))) rfl rfl ?_
      cases hd2 : (decide (last < y1)) with
      | false =>
        have h2 : ¬ (last < y1) := of_decide_eq_false hd2
        clear hd2
        refine ln rfl ?_
        refine ln rfl ?_
        refine ln rfl ?_
        refine lm (v := .bool true) rfl rfl ?_
        refine wpL_done (fun W8 hW8 => ?_)
        refine (show Code.wp _ _ _ _ _ from ?_)
        refine wp_cond_true rfl ?_
        refine wp_seq ?_
        refine wp_region_L (W0 := w) [] (hW8) ?_
        refine lm (v := .bool false) rfl rfl ?_
        refine wpL_done (fun W9 hW9 => ?_)
        refine (show Code.wp _ _ _ _ _ from ?_)
        refine wp_ret ?_
        try simp only [inBlock_ret, then_ret]
        refine bodyPost_ret (v := .bool false) ?_ rfl ?_
        · kernel_rfl
        · exact ⟨(bool_is (by rw [hR, inc_step hy1, decide_eq_false (p := last < y1) (by omega)]; rfl)), hW9.1⟩
      | true =>
        have h2 : last < y1 := of_decide_eq_true hd2
        clear hd2
        refine lm (v := .int .i64 y1) rfl rfl ?_
        refine lm (v := .int .i64 most) rfl rfl ?_
        refine lp (v := .bool (decide (most < y1))) rfl rfl (run_bin rfl (vx := (.int .i64 y1)) (vy := (.int .i64 most)) (by kernel_rfl) (by kernel_rfl) fun w => bi_gtr rfl w) ?_
        refine lm (v := .bool (decide (most < y1))) rfl rfl ?_
        refine wpL_done (fun W10 hW10 => ?_)
        refine (show Code.wp _ _ _ _ _ from ?_)
        cases hd3 : (decide (most < y1)) with
        | false =>
          have h3 : ¬ (most < y1) := of_decide_eq_false hd3
          clear hd3
          refine wp_cond_false rfl ?_
          refine wp_skip ?_
          refine (show Code.wp _ _ _ _ _ from ?_)
          refine wp_region_L (W0 := w) [] (hW10) ?_
          refine lm (v := .int .i64 y1) rfl rfl ?_
          refine lm (v := .int .i64 y1) rfl rfl ?_
          refine wpL_done (fun W11 hW11 => ?_)
          refine (show Code.wp _ _ _ _ _ from ?_)
          refine wp_region_L (W0 := w) [] (hW11) ?_
          refine lp (v := .int .i64 (((k + 1) : Nat) : Int)) rfl rfl (run_bin rfl (vx := (.int .i64 ((k : Nat) : Int))) (vy := (.int .i64 ((1 : Nat) : Int))) (by kernel_rfl) (by kernel_rfl) fun w => bn_add (z := (k + 1)) rfl (wr_i64 (by omega)) w) ?_
          refine lm (v := .int .i64 (((k + 1) : Nat) : Int)) rfl rfl ?_
          refine wpL_done (fun W12 hW12 => ?_)
          go_roundw
          case rel =>
            repeat apply Exists.intro
            exact ⟨⟨k + 1, y1, (by omega), (by rw [hR, inc_step hy1, decide_eq_true (by omega), decide_eq_true (by omega)]; rfl), rfl, rfl, (hW12.sub (fun p hp => by first | exact hp | (simp only [List.mem_cons, List.mem_append, List.nil_append, List.not_mem_nil, or_assoc, or_false, false_or] at hp ⊢ <;> grind)))⟩, rfl⟩
          case measure => (show l.length - (intOf (.int .i64 (((k + 1) : Nat) : Int))).toNat < l.length - (intOf (.int .i64 ((k : Nat) : Int))).toNat); simp only [intOf]; omega
        | true =>
          have h3 : most < y1 := of_decide_eq_true hd3
          clear hd3
          refine wp_cond_true rfl ?_
          refine wp_seq ?_
          refine wp_region_L (W0 := w) [] (hW10) ?_
          refine lm (v := .bool false) rfl rfl ?_
          refine wpL_done (fun W13 hW13 => ?_)
          refine (show Code.wp _ _ _ _ _ from ?_)
          refine wp_ret ?_
          try simp only [inBlock_ret, then_ret]
          refine bodyPost_ret (v := .bool false) ?_ rfl ?_
          · kernel_rfl
          · exact ⟨(bool_is (by rw [hR, inc_step hy1, decide_eq_false (p := y1 ≤ most) (by omega)]; simp)), hW13.1⟩
set_option maxRecDepth 100000 in
set_option maxHeartbeats 4000000 in
theorem columnRight_any (c : Col) (hl : c.plugs.length ≤ 4000000000) (w : World) (hp : SLV w c.pp (c.plugs.flatMap inC)) : Calls Try.prog 64 #[.agg (colC c).toArray] w fun e w' => e = .returned (.bool (colX c)) ∧ Below w.heap.size w w' := by
  have HP := Lib.hid hp
  clear hp
  go_enter Try.func64, Try.ntmps64
  refine wp_seq ?_
  refine wp_region_L (W0 := w) [] (KS.start w) ?_
  refine wpL_new (fun g => .pointer (some ⟨g, 0, none⟩)) (obi := .cells (colC c).toArray 49 (0, 0)) rfl rfl (fun _ => by kernel_rfl) (fun _ => by simp only [List.setIfInBounds_toArray, List.set_cons_succ, List.set_cons_zero] <;> rfl) fun g1 Bg1 Fg1 => ?_
  refine lm (v := .bool false) rfl rfl ?_
  refine wpL_done (fun W1 hW1 => ?_)
  refine (show Code.wp _ _ _ _ _ from ?_)
  refine wp_seq ?_
  refine wp_region_L (W0 := w) [(g1, .cells (colC c).toArray 49 (0, 0))] (hW1) ?_
  refine lm (v := .func (.func 82) #[] #[]) rfl rfl ?_
  refine wpL_done (fun W2 hW2 => ?_)
  refine (show Code.wp _ _ _ _ _ from ?_)
  refine wp_seq ?_
  refine wp_region_L (W0 := w) [(g1, .cells (colC c).toArray 49 (0, 0))] (hW2) ?_
  refine lm (v := .func (.func 82) #[] #[]) rfl rfl ?_
  refine lm (v := .pointer (some ⟨g1, 0, none⟩)) rfl rfl ?_
  refine lv (v := .int .i64 c.bay) rfl rfl (yb_cell (off := 0) rfl (by kernel_rfl) (.head _) Try.underlying3 rfl (by kernel_rfl)) ?_
  refine lm (v := .agg #[.int .i64 c.bay, .int .i64 0, .int .i64 39]) rfl rfl ?_
  refine lm (v := .pointer (some ⟨g1, 1, none⟩)) rfl rfl ?_
  refine lv (v := .int .i64 c.row) rfl rfl (yb_cell (off := 1) rfl (by kernel_rfl) (.head _) Try.underlying3 rfl (by kernel_rfl)) ?_
  refine lm (v := .agg #[.int .i64 c.row, .int .i64 0, .int .i64 30]) rfl rfl ?_
  refine lm (v := .pointer (some ⟨g1, 3, none⟩)) rfl rfl ?_
  refine lv (v := .int .i64 c.tiers) rfl rfl (yb_cell (off := 3) rfl (by kernel_rfl) (.head _) Try.underlying3 rfl (by kernel_rfl)) ?_
  refine lm (v := .agg #[.int .i64 c.tiers, .int .i64 1, .int .i64 10]) rfl rfl ?_
  refine lm (v := .pointer (some ⟨g1, 4, none⟩)) rfl rfl ?_
  refine lv (v := .int .i64 c.height) rfl rfl (yb_cell (off := 4) rfl (by kernel_rfl) (.head _) Try.underlying3 rfl (by kernel_rfl)) ?_
  refine lm (v := .agg #[.int .i64 c.height, .int .i64 0, .int .i64 40000]) rfl rfl ?_
  refine lm (v := .pointer (some ⟨g1, 5, none⟩)) rfl rfl ?_
  refine lv (v := .int .i64 c.k20) rfl rfl (yb_cell (off := 5) rfl (by kernel_rfl) (.head _) Try.underlying3 rfl (by kernel_rfl)) ?_
  refine lm (v := .agg #[.int .i64 c.k20, .int .i64 0, .int .i64 500000000]) rfl rfl ?_
  refine lm (v := .pointer (some ⟨g1, 6, none⟩)) rfl rfl ?_
  refine lv (v := .int .i64 c.k40) rfl rfl (yb_cell (off := 6) rfl (by kernel_rfl) (.head _) Try.underlying3 rfl (by kernel_rfl)) ?_
  refine lm (v := .agg #[.int .i64 c.k40, .int .i64 0, .int .i64 500000000]) rfl rfl ?_
  refine lm (v := .pointer (some ⟨g1, 7, none⟩)) rfl rfl ?_
  refine lv (v := .int .i64 c.lash) rfl rfl (yb_cell (off := 7) rfl (by kernel_rfl) (.head _) Try.underlying3 rfl (by kernel_rfl)) ?_
  refine lm (v := .agg #[.int .i64 c.lash, .int .i64 0, .int .i64 1000000000000]) rfl rfl ?_
  refine lm (v := .pointer (some ⟨g1, 9, none⟩)) rfl rfl ?_
  refine lv (v := .int .i64 c.x) rfl rfl (yb_cell (off := 9) rfl (by kernel_rfl) (.head _) Try.underlying3 rfl (by kernel_rfl)) ?_
  refine lm (v := .agg #[.int .i64 c.x, .int .i64 (-500000), .int .i64 500000]) rfl rfl ?_
  refine lm (v := .pointer (some ⟨g1, 10, none⟩)) rfl rfl ?_
  refine lv (v := .int .i64 c.y) rfl rfl (yb_cell (off := 10) rfl (by kernel_rfl) (.head _) Try.underlying3 rfl (by kernel_rfl)) ?_
  refine lm (v := .agg #[.int .i64 c.y, .int .i64 (-500000), .int .i64 500000]) rfl rfl ?_
  refine lm (v := .pointer (some ⟨g1, 11, none⟩)) rfl rfl ?_
  refine lv (v := .int .i64 c.z) rfl rfl (yb_cell (off := 11) rfl (by kernel_rfl) (.head _) Try.underlying3 rfl (by kernel_rfl)) ?_
  refine lm (v := .agg #[.int .i64 c.z, .int .i64 (-500000), .int .i64 500000]) rfl rfl ?_
  refine wpL_new (fun g => .slice (some ⟨g, 0, none⟩) 10 10) (obi := .cells #[.int .i64 c.bay, .int .i64 0, .int .i64 39, .int .i64 c.row, .int .i64 0, .int .i64 30, .int .i64 c.tiers, .int .i64 1, .int .i64 10, .int .i64 c.height, .int .i64 0, .int .i64 40000, .int .i64 c.k20, .int .i64 0, .int .i64 500000000, .int .i64 c.k40, .int .i64 0, .int .i64 500000000, .int .i64 c.lash, .int .i64 0, .int .i64 1000000000000, .int .i64 c.x, .int .i64 (-500000), .int .i64 500000, .int .i64 c.y, .int .i64 (-500000), .int .i64 500000, .int .i64 c.z, .int .i64 (-500000), .int .i64 500000] 104 (0, 0)) rfl rfl (fun _ => by kernel_rfl) (fun _ => by simp only [List.setIfInBounds_toArray, List.set_cons_succ, List.set_cons_zero] <;> rfl) fun g2 Bg2 Fg2 => ?_
  obtain dj3_0 : g1 ≠ g2 := by simpa only [dj_app_l, dj_app_r, dj_cons_l, dj_cons_r, dj_nil_l, dj_nil_r, dk_app, dk_cons, dk_nil, and_true, true_and, and_assoc] using (show Dk g2 [(g1, .cells (colC c).toArray 49 (0, 0))] from Fg2)
  refine lv (v := .bool (rgsX (rangesX c))) rfl rfl (yb_call (f := 82) (args := #[.slice (some ⟨g2, 0, none⟩) 10 10]) (fun _ => by kernel_rfl) fun W hW => Within_any (rangesX c) (some ⟨g2, 0, none⟩) 10 (by show (10 : Nat) ≤ _; omega) W (blk_slv hW (.head _))) ?_
  refine lm (v := .bool (rgsX (rangesX c))) rfl rfl ?_
  cases h1 : (rgsX (rangesX c)) with
  | false =>
    refine ln rfl ?_
    refine ln rfl ?_
    refine ln rfl ?_
    refine ln rfl ?_
    refine ln rfl ?_
    refine ln rfl ?_
    refine lm (v := .bool false) rfl rfl ?_
    refine lm (v := .bool false) rfl rfl ?_
    refine wpL_done (fun W3 hW3 => ?_)
    refine (show Code.wp _ _ _ _ _ from ?_)
    refine wp_ret ?_
    try simp only [inBlock_ret, then_ret]
    refine bodyPost_ret (v := .bool false) ?_ rfl ?_
    · kernel_rfl
    · exact ⟨(bool_is (by unfold colX; simp [*])), hW3.1⟩
  | true =>
    refine lm (v := .pointer (some ⟨g1, 8, none⟩)) rfl rfl ?_
    refine lv (v := .slice c.pp c.plugs.length c.pc) rfl rfl (yb_cell (off := 8) rfl (by kernel_rfl) (.tail _ (.head _)) Try.underlying39 rfl (by kernel_rfl)) ?_
    refine lm (v := .pointer (some ⟨g1, 3, none⟩)) rfl rfl ?_
    refine lv (v := .int .i64 c.tiers) rfl rfl (yb_cell (off := 3) rfl (by kernel_rfl) (.tail _ (.head _)) Try.underlying3 rfl (by kernel_rfl)) ?_
    refine lp (v := .int .i64 (IntKind.i64.wrap (c.tiers - 1))) rfl rfl (run_bin rfl (vx := .int .i64 c.tiers) (vy := .int .i64 1) (by kernel_rfl) (by kernel_rfl) fun w => bw_sub (z := (IntKind.i64.wrap (c.tiers - 1))) rfl w) ?_
    refine lv (v := .bool (incX c.plugs (IntKind.i64.wrap (c.tiers - 1)))) rfl rfl (yb_call (f := 83) (args := #[.slice c.pp c.plugs.length c.pc, .int .i64 (IntKind.i64.wrap (c.tiers - 1))]) (fun _ => by kernel_rfl) fun W hW => increasing_any c.plugs c.pp c.pc (IntKind.i64.wrap (c.tiers - 1)) (by omega) W ((RL.base HP.out) _ (hW.sub (fun _ h => by cases h)))) ?_
    refine lm (v := .bool (incX c.plugs (IntKind.i64.wrap (c.tiers - 1)))) rfl rfl ?_
    refine lm (v := .bool (incX c.plugs (IntKind.i64.wrap (c.tiers - 1)))) rfl rfl ?_
    refine wpL_done (fun W4 hW4 => ?_)
    refine (show Code.wp _ _ _ _ _ from ?_)
    refine wp_ret ?_
    try simp only [inBlock_ret, then_ret]
    refine bodyPost_ret (v := .bool (incX c.plugs (IntKind.i64.wrap (c.tiers - 1)))) ?_ rfl ?_
    · kernel_rfl
    · exact ⟨(bool_is (by unfold colX; simp [*])), hW4.1⟩
set_option maxRecDepth 100000 in
set_option maxHeartbeats 4000000 in
theorem coverRight_any (o : Cov) (hl : o.rows.length ≤ 4000000000) (w : World) (hp : SLV w o.rp (o.rows.flatMap inC)) : Calls Try.prog 65 #[.agg (covC o).toArray] w fun e w' => e = .returned (.bool (ovX o)) ∧ Below w.heap.size w w' := by
  have HP := Lib.hid hp
  clear hp
  go_enter Try.func65, Try.ntmps65
  refine wp_seq ?_
  refine wp_region_L (W0 := w) [] (KS.start w) ?_
  refine wpL_new (fun g => .pointer (some ⟨g, 0, none⟩)) (obi := .cells (covC o).toArray 51 (0, 0)) rfl rfl (fun _ => by kernel_rfl) (fun _ => by simp only [List.setIfInBounds_toArray, List.set_cons_succ, List.set_cons_zero] <;> rfl) fun g1 Bg1 Fg1 => ?_
  refine lm (v := .bool false) rfl rfl ?_
  refine wpL_done (fun W1 hW1 => ?_)
  refine (show Code.wp _ _ _ _ _ from ?_)
  refine wp_seq ?_
  refine wp_region_L (W0 := w) [(g1, .cells (covC o).toArray 51 (0, 0))] (hW1) ?_
  refine lm (v := .pointer (some ⟨g1, 0, none⟩)) rfl rfl ?_
  refine lv (v := .int .i64 o.bay) rfl rfl (yb_cell (off := 0) rfl (by kernel_rfl) (.head _) Try.underlying3 rfl (by kernel_rfl)) ?_
  refine lp (v := .bool (!(decide (o.bay < 0)))) rfl rfl (run_bin rfl (vx := (.int .i64 o.bay)) (vy := (.int .i64 0)) (by kernel_rfl) (by kernel_rfl) fun w => bi_geq rfl w) ?_
  refine lm (v := .bool (!(decide (o.bay < 0)))) rfl rfl ?_
  cases hd1 : (decide (o.bay < 0)) with
  | false =>
    have h1 : ¬ (o.bay < 0) := of_decide_eq_false hd1
    clear hd1
    refine lm (v := .pointer (some ⟨g1, 0, none⟩)) rfl rfl ?_
    refine lv (v := .int .i64 o.bay) rfl rfl (yb_cell (off := 0) rfl (by kernel_rfl) (.head _) Try.underlying3 rfl (by kernel_rfl)) ?_
    refine lp (v := .bool (!(decide (39 < o.bay)))) rfl rfl (run_bin rfl (vx := (.int .i64 o.bay)) (vy := (.int .i64 39)) (by kernel_rfl) (by kernel_rfl) fun w => bi_leq rfl w) ?_
    refine lm (v := .bool (!(decide (39 < o.bay)))) rfl rfl ?_
    refine lm (v := .bool (!(decide (39 < o.bay)))) rfl rfl ?_
    cases hd2 : (decide (39 < o.bay)) with
    | false =>
      have h2 : ¬ (39 < o.bay) := of_decide_eq_false hd2
      clear hd2
      refine lm (v := .pointer (some ⟨g1, 1, none⟩)) rfl rfl ?_
      refine lv (v := .slice o.rp o.rows.length o.rc) rfl rfl (yb_cell (off := 1) rfl (by kernel_rfl) (.head _) Try.underlying39 rfl (by kernel_rfl)) ?_
      refine lp (v := .int .i64 ((o.rows.length : Nat) : Int)) rfl rfl (run_lenL (p := o.rp) (cap := o.rc) (n := o.rows.length) rfl Try.underlying39 (by kernel_rfl)) ?_
      refine lp (v := .bool (decide (0 < o.rows.length))) rfl rfl (run_bin rfl (vx := (.int .i64 ((o.rows.length : Nat) : Int))) (vy := (.int .i64 ((0 : Nat) : Int))) (by kernel_rfl) (by kernel_rfl) fun w => bn_gtr rfl w) ?_
      refine lm (v := .bool (decide (0 < o.rows.length))) rfl rfl ?_
      refine lm (v := .bool (decide (0 < o.rows.length))) rfl rfl ?_
      cases hd3 : (decide (0 < o.rows.length)) with
      | false =>
        have h3 : ¬ (0 < o.rows.length) := of_decide_eq_false hd3
        clear hd3
        refine ln rfl ?_
        refine ln rfl ?_
        refine ln rfl ?_
        refine lm (v := .bool false) rfl rfl ?_
        refine lm (v := .bool false) rfl rfl ?_
        refine wpL_done (fun W2 hW2 => ?_)
        refine (show Code.wp _ _ _ _ _ from ?_)
        refine wp_ret ?_
        try simp only [inBlock_ret, then_ret]
        refine bodyPost_ret (v := .bool false) ?_ rfl ?_
        · kernel_rfl
        · exact ⟨(bool_is (by unfold ovX; rw [decide_eq_true (p := 0 ≤ o.bay) (by omega), decide_eq_true (p := o.bay ≤ 39) (by omega), decide_eq_false (p := 0 < o.rows.length) h3]; simp)), hW2.1⟩
      | true =>
        have h3 : 0 < o.rows.length := of_decide_eq_true hd3
        clear hd3
        refine lm (v := .pointer (some ⟨g1, 1, none⟩)) rfl rfl ?_
        refine lv (v := .slice o.rp o.rows.length o.rc) rfl rfl (yb_cell (off := 1) rfl (by kernel_rfl) (.head _) Try.underlying39 rfl (by kernel_rfl)) ?_
        refine lv (v := .bool (incX o.rows 30)) rfl rfl (yb_call (f := 83) (args := #[.slice o.rp o.rows.length o.rc, .int .i64 30]) (fun _ => by kernel_rfl) fun W hW => increasing_any o.rows o.rp o.rc 30 (by omega) W ((RL.base HP.out) _ (hW.sub (fun _ h => by cases h)))) ?_
        refine lm (v := .bool (incX o.rows 30)) rfl rfl ?_
        refine lm (v := .bool (incX o.rows 30)) rfl rfl ?_
        refine wpL_done (fun W3 hW3 => ?_)
        refine (show Code.wp _ _ _ _ _ from ?_)
        refine wp_ret ?_
        try simp only [inBlock_ret, then_ret]
        refine bodyPost_ret (v := .bool (incX o.rows 30)) ?_ rfl ?_
        · kernel_rfl
        · exact ⟨(bool_is (by unfold ovX; rw [decide_eq_true (p := 0 ≤ o.bay) (by omega), decide_eq_true (p := o.bay ≤ 39) (by omega), decide_eq_true (p := 0 < o.rows.length) h3]; simp)), hW3.1⟩
    | true =>
      have h2 : 39 < o.bay := of_decide_eq_true hd2
      clear hd2
      refine ln rfl ?_
      refine ln rfl ?_
      refine ln rfl ?_
      refine ln rfl ?_
      refine lm (v := .bool false) rfl rfl ?_
      refine lm (v := .bool false) rfl rfl ?_
      refine ln rfl ?_
      refine ln rfl ?_
      refine ln rfl ?_
      refine lm (v := .bool false) rfl rfl ?_
      refine lm (v := .bool false) rfl rfl ?_
      refine wpL_done (fun W4 hW4 => ?_)
      refine (show Code.wp _ _ _ _ _ from ?_)
      refine wp_ret ?_
      try simp only [inBlock_ret, then_ret]
      refine bodyPost_ret (v := .bool false) ?_ rfl ?_
      · kernel_rfl
      · exact ⟨(bool_is (by unfold ovX; rw [decide_eq_true (p := 0 ≤ o.bay) (by omega), decide_eq_false (p := o.bay ≤ 39) (by omega)]; simp)), hW4.1⟩
  | true =>
    have h1 : o.bay < 0 := of_decide_eq_true hd1
    clear hd1
    refine ln rfl ?_
    refine ln rfl ?_
    refine ln rfl ?_
    refine lm (v := .bool false) rfl rfl ?_
    refine lm (v := .bool false) rfl rfl ?_
    refine ln rfl ?_
    refine ln rfl ?_
    refine ln rfl ?_
    refine ln rfl ?_
    refine lm (v := .bool false) rfl rfl ?_
    refine lm (v := .bool false) rfl rfl ?_
    refine ln rfl ?_
    refine ln rfl ?_
    refine ln rfl ?_
    refine lm (v := .bool false) rfl rfl ?_
    refine lm (v := .bool false) rfl rfl ?_
    refine wpL_done (fun W5 hW5 => ?_)
    refine (show Code.wp _ _ _ _ _ from ?_)
    refine wp_ret ?_
    try simp only [inBlock_ret, then_ret]
    refine bodyPost_ret (v := .bool false) ?_ rfl ?_
    · kernel_rfl
    · exact ⟨(bool_is (by unfold ovX; rw [decide_eq_false (p := 0 ≤ o.bay) (by omega)]; simp)), hW5.1⟩
set_option maxRecDepth 100000 in
set_option maxHeartbeats 4000000 in
theorem placeOf_any (c : Col) (w : World) : Calls Try.prog 63 #[.agg (colC c).toArray] w fun e w' => e = .returned (kv3 (placeX c)) ∧ Below w.heap.size w w' := by
  go_enter Try.func63, Try.ntmps63
  refine wp_seq ?_
  refine wp_region_L (W0 := w) [] (KS.start w) ?_
  refine wpL_new (fun g => .pointer (some ⟨g, 0, none⟩)) (obi := .cells (colC c).toArray 49 (0, 0)) rfl rfl (fun _ => by kernel_rfl) (fun _ => by simp only [List.setIfInBounds_toArray, List.set_cons_succ, List.set_cons_zero] <;> rfl) fun g1 Bg1 Fg1 => ?_
  refine wpL_new (fun g => .pointer (some ⟨g, 0, none⟩)) (obi := .cells #[.int .i64 0, .int .i64 0, .int .i64 0] 92 (0, 0)) rfl rfl (fun _ => by kernel_rfl) (fun _ => by simp only [List.setIfInBounds_toArray, List.set_cons_succ, List.set_cons_zero] <;> rfl) fun g2 Bg2 Fg2 => ?_
  obtain dj3_0 : g1 ≠ g2 := by simpa only [dj_app_l, dj_app_r, dj_cons_l, dj_cons_r, dj_nil_l, dj_nil_r, dk_app, dk_cons, dk_nil, and_true, true_and, and_assoc] using (show Dk g2 [(g1, .cells (colC c).toArray 49 (0, 0))] from Fg2)
  refine wpL_done (fun W1 hW1 => ?_)
  refine (show Code.wp _ _ _ _ _ from ?_)
  refine wp_seq ?_
  refine wp_seq ?_
  refine wp_region_L (W0 := w) [(g2, .cells #[.int .i64 0, .int .i64 0, .int .i64 0] 92 (0, 0)), (g1, .cells (colC c).toArray 49 (0, 0))] (hW1) ?_
  refine lm (v := .pointer (some ⟨g1, 2, none⟩)) rfl rfl ?_
  refine lv (v := .bool c.deck) rfl rfl (yb_cell (off := 2) rfl (by kernel_rfl) (.tail _ (.head _)) Try.underlying4 rfl (by kernel_rfl)) ?_
  refine wpL_done (fun W2 hW2 => ?_)
  refine (show Code.wp _ _ _ _ _ from ?_)
  cases h1 : c.deck with
  | false =>
    refine wp_cond_false rfl ?_
    refine wp_skip ?_
    refine (show Code.wp _ _ _ _ _ from ?_)
    refine wp_seq ?_
    refine wp_region_L (W0 := w) [(g2, .cells #[.int .i64 0, .int .i64 0, .int .i64 0] 92 (0, 0)), (g1, .cells (colC c).toArray 49 (0, 0))] (hW2) ?_
    refine lm (v := .pointer (some ⟨g1, 0, none⟩)) rfl rfl ?_
    refine lv (v := .int .i64 c.bay) rfl rfl (yb_cell (off := 0) rfl (by kernel_rfl) (.tail _ (.head _)) Try.underlying3 rfl (by kernel_rfl)) ?_
    refine lm (v := .pointer (some ⟨g1, 1, none⟩)) rfl rfl ?_
    refine lv (v := .int .i64 c.row) rfl rfl (yb_cell (off := 1) rfl (by kernel_rfl) (.tail _ (.head _)) Try.underlying3 rfl (by kernel_rfl)) ?_
    refine lm (v := .agg #[.int .i64 c.bay, .int .i64 c.row, .int .i64 0]) rfl rfl ?_
    refine wpL_s [(g2, .cells #[.int .i64 c.bay, .int .i64 c.row, .int .i64 0] 92 (0, 0)), (g1, .cells (colC c).toArray 49 (0, 0))] rfl rfl (st_row (off := 0) (v := .agg #[.int .i64 c.bay, .int .i64 c.row, .int .i64 0]) rfl (by kernel_rfl) (by kernel_rfl) (.head _) Bg2 (by kernel_rfl) (by first | (simp [Value.cells]; done) | exact Nat.le_of_ble_eq_true rfl) (by intro v hv; simp [Value.cells] at hv; first | (subst hv; rfl) | (rcases hv with rfl | rfl | rfl <;> rfl)) (by kernel_rfl) (List.forall_mem_cons.2 ⟨.inl rfl, (List.forall_mem_cons.2 ⟨.inr ⟨(.tail _ (.head _)), (by first | assumption | exact Ne.symm (by assumption))⟩, (List.forall_mem_nil _)⟩)⟩)) ?_
    refine wpL_done (fun W3 hW3 => ?_)
    refine (show Code.wp _ _ _ _ _ from ?_)
    refine wp_ret ?_
    try simp only [inBlock_ret, then_ret]
    refine bodyPost_ret (v := .agg #[.int .i64 c.bay, .int .i64 c.row, .int .i64 0]) ?_ rfl ?_
    · exact (res_cell (p := 2) rfl rfl (hW3.2 _ (.head _)) Try.underlying92 rfl (by kernel_rfl))
    · exact ⟨(by unfold placeX; rw [h1]; rfl), hW3.1⟩
  | true =>
    refine wp_cond_true rfl ?_
    refine wp_seq ?_
    refine wp_region_L (W0 := w) [(g2, .cells #[.int .i64 0, .int .i64 0, .int .i64 0] 92 (0, 0)), (g1, .cells (colC c).toArray 49 (0, 0))] (hW2) ?_
    refine lm (v := .pointer (some ⟨g1, 0, none⟩)) rfl rfl ?_
    refine lv (v := .int .i64 c.bay) rfl rfl (yb_cell (off := 0) rfl (by kernel_rfl) (.tail _ (.head _)) Try.underlying3 rfl (by kernel_rfl)) ?_
    refine lm (v := .pointer (some ⟨g1, 1, none⟩)) rfl rfl ?_
    refine lv (v := .int .i64 c.row) rfl rfl (yb_cell (off := 1) rfl (by kernel_rfl) (.tail _ (.head _)) Try.underlying3 rfl (by kernel_rfl)) ?_
    refine lm (v := .agg #[.int .i64 c.bay, .int .i64 c.row, .int .i64 1]) rfl rfl ?_
    refine wpL_s [(g2, .cells #[.int .i64 c.bay, .int .i64 c.row, .int .i64 1] 92 (0, 0)), (g1, .cells (colC c).toArray 49 (0, 0))] rfl rfl (st_row (off := 0) (v := .agg #[.int .i64 c.bay, .int .i64 c.row, .int .i64 1]) rfl (by kernel_rfl) (by kernel_rfl) (.head _) Bg2 (by kernel_rfl) (by first | (simp [Value.cells]; done) | exact Nat.le_of_ble_eq_true rfl) (by intro v hv; simp [Value.cells] at hv; first | (subst hv; rfl) | (rcases hv with rfl | rfl | rfl <;> rfl)) (by kernel_rfl) (List.forall_mem_cons.2 ⟨.inl rfl, (List.forall_mem_cons.2 ⟨.inr ⟨(.tail _ (.head _)), (by first | assumption | exact Ne.symm (by assumption))⟩, (List.forall_mem_nil _)⟩)⟩)) ?_
    refine wpL_done (fun W4 hW4 => ?_)
    refine (show Code.wp _ _ _ _ _ from ?_)
    refine wp_ret ?_
    try simp only [inBlock_ret, then_ret]
    refine bodyPost_ret (v := .agg #[.int .i64 c.bay, .int .i64 c.row, .int .i64 1]) ?_ rfl ?_
    · exact (res_cell (p := 2) rfl rfl (hW4.2 _ (.head _)) Try.underlying92 rfl (by kernel_rfl))
    · exact ⟨(by unfold placeX; rw [h1]; rfl), hW4.1⟩
set_option maxRecDepth 100000 in
set_option maxHeartbeats 4000000 in
theorem columnsRight_any (cs : List Col) (pc : Option Addr) (cc : Nat) (w : World) (hc : SLV w pc (cs.flatMap colC)) (hq : PlR w cs) (lq : ∀ c ∈ cs, c.plugs.length ≤ 4000000000) : Calls Try.prog 35 #[.slice pc cs.length cc] w fun e w' => e = .returned (.bool (colsX cs)) ∧ Below w.heap.size w w' := by
  have HC := Lib.hid hc
  clear hc
  have HQ := Lib.hid hq
  clear hq
  go_enter Try.func35, Try.ntmps35
  refine wp_seq ?_
  refine wp_region_L (W0 := w) [] (KS.start w) ?_
  refine lm (v := .bool false) rfl rfl ?_
  refine wpL_done (fun W1 hW1 => ?_)
  refine (show Code.wp _ _ _ _ _ from ?_)
  refine wp_seq ?_
  refine wp_seq ?_
  refine wp_region_L (W0 := w) [] (hW1) ?_
  refine lm (v := .slice pc cs.length cc) rfl rfl ?_
  refine lp (v := .int .i64 ((cs.length : Nat) : Int)) rfl rfl (run_lenL (p := pc) (cap := cc) (n := cs.length) rfl Try.underlying22 (by kernel_rfl)) ?_
  refine lp (v := .bool (decide (cs.length = 0))) rfl rfl (run_bin rfl (vx := (.int .i64 ((cs.length : Nat) : Int))) (vy := (.int .i64 ((0 : Nat) : Int))) (by kernel_rfl) (by kernel_rfl) fun w => bn_eql rfl w) ?_
  refine lm (v := .bool (decide (cs.length = 0))) rfl rfl ?_
  cases hd1 : (decide (cs.length = 0)) with
  | false =>
    have h1 : ¬ (cs.length = 0) := of_decide_eq_false hd1
    clear hd1
    refine lm (v := .slice pc cs.length cc) rfl rfl ?_
    refine lp (v := .int .i64 ((cs.length : Nat) : Int)) rfl rfl (run_lenL (p := pc) (cap := cc) (n := cs.length) rfl Try.underlying22 (by kernel_rfl)) ?_
    refine lp (v := .bool (decide (200 < cs.length))) rfl rfl (run_bin rfl (vx := (.int .i64 ((cs.length : Nat) : Int))) (vy := (.int .i64 ((200 : Nat) : Int))) (by kernel_rfl) (by kernel_rfl) fun w => bn_gtr rfl w) ?_
    refine lm (v := .bool (decide (200 < cs.length))) rfl rfl ?_
    refine wpL_done (fun W2 hW2 => ?_)
    refine (show Code.wp _ _ _ _ _ from ?_)
    cases hd2 : (decide (200 < cs.length)) with
    | false =>
      have h2 : ¬ (200 < cs.length) := of_decide_eq_false hd2
      clear hd2
      refine wp_cond_false rfl ?_
      refine wp_skip ?_
      refine (show Code.wp _ _ _ _ _ from ?_)
      refine wp_seq ?_
      refine wp_region_L (W0 := w) [] (hW2) ?_
      refine wpL_new (fun g => .map (some g)) (obi := .map #[] 0) rfl rfl (fun _ => by kernel_rfl) (fun _ => by simp only [List.setIfInBounds_toArray, List.set_cons_succ, List.set_cons_zero] <;> rfl) fun g1 Bg1 Fg1 => ?_
      refine lm (v := .map (some g1)) rfl rfl ?_
      refine wpL_done (fun W3 hW3 => ?_)
      refine (show Code.wp _ _ _ _ _ from ?_)
      refine wp_seq ?_
      refine wp_seq ?_
      refine wp_region_L (W0 := w) [(g1, .map #[] 0)] (hW3) ?_
      refine lm (v := .slice pc cs.length cc) rfl rfl ?_
      refine lp (v := .int .i64 ((cs.length : Nat) : Int)) rfl rfl (run_lenL (p := pc) (cap := cc) (n := cs.length) rfl Try.underlying22 (by kernel_rfl)) ?_
      refine lm (v := .int .i64 0) rfl rfl ?_
      refine wpL_done (fun W4 hW4 => ?_)
      refine (show Code.wp _ _ _ _ _ from ?_)
      refine wp_block ?_
      go_loopw [18] (fun u18 wr => ∃ (k : Nat) (es : Array MapEntry) (cl : Nat), (k ≤ cs.length) ∧ (colsF [] cs = colsF ((cs.take k).map placeX) (cs.drop k)) ∧ (SetM kv3 es ((cs.take k).map placeX)) ∧ u18 = .int .i64 ((k : Nat) : Int) ∧ KS w [(g1, .map es cl)] wr) (fun u18 _ => cs.length - (intOf u18).toNat)
      case atStart => exact ⟨0, #[], 0, (Nat.zero_le _), rfl, SetM.nil, rfl, (hW4.sub (fun p hp => by first | exact hp | (simp only [List.mem_cons, List.mem_append, List.nil_append, List.not_mem_nil, or_assoc, or_false, false_or] at hp ⊢ <;> grind)))⟩
      case round =>
        obtain ⟨k, es, cl, hk, hR, hS, rfl, hL5⟩ := hrel
        refine wp_seq ?_
        refine wp_region_L (W0 := w) [(g1, .map es cl)] (hL5) ?_
        refine lp (v := .bool (decide (k < cs.length))) rfl rfl (run_bin rfl (vx := (.int .i64 ((k : Nat) : Int))) (vy := (.int .i64 ((cs.length : Nat) : Int))) (by kernel_rfl) (by kernel_rfl) fun w => bn_lss rfl w) ?_
        refine wpL_done (fun W6 hW6 => ?_)
        refine (show Code.wp _ _ _ _ _ from ?_)
        refine wp_seq ?_
        cases hd3 : (decide (k < cs.length)) with
        | false =>
          have h3 : ¬ (k < cs.length) := of_decide_eq_false hd3
          clear hd3
          refine wp_cond_false rfl ?_
          refine wp_exit ?_
          refine (show Code.wp _ _ _ _ _ from ?_)
          refine wp_seq ?_
          refine wp_region_L (W0 := w) [(g1, .map es cl)] (hW6) ?_
          refine lm (v := .bool true) rfl rfl ?_
          refine wpL_done (fun W7 hW7 => ?_)
          refine (show Code.wp _ _ _ _ _ from ?_)
          refine wp_ret ?_
          try simp only [inBlock_ret, then_ret]
          refine bodyPost_ret (v := .bool true) ?_ rfl ?_
          · kernel_rfl
          · exact ⟨(bool_is (by unfold colsX; rw [decide_eq_false h1, decide_eq_false h2, hR, cols_end h3]; rfl)), hW7.1⟩
        | true =>
          have h3 : k < cs.length := of_decide_eq_true hd3
          clear hd3
          refine wp_cond_true rfl ?_
          refine wp_skip ?_
          refine (show Code.wp _ _ _ _ _ from ?_)
          refine wp_seq ?_
          refine wp_block ?_
          refine wp_seq ?_
          refine wp_region_L (W0 := w) [(g1, .map es cl)] (hW6) ?_
          obtain ⟨y2, g2_, f2_, hy2, hp2, hc2⟩ := RL.at (RL.base HC.out) colC_len (by decide) (hW6.sub (fun _ h => by cases h)) (k := k) (by omega)
          refine lp (v := .pointer (some ⟨g2_, f2_ + k * 12, none⟩)) rfl rfl (run_idxQ (p := pc) (cap := cc) (n := cs.length) (j := .i64) (k := k) (sz := 12) rfl Try.underlying22 (by kernel_rfl) (by kernel_rfl) hp2 (by kernel_rfl) (by omega)) ?_
          refine lv (v := .agg (colC y2).toArray) rfl rfl (yb_rs (off := f2_ + k * 12) (cs := colC y2) rfl (by kernel_rfl) (fun W hW => hc2 W (hW.sub (fun _ h => by cases h))) Try.underlying49 rfl (by kernel_rfl)) ?_
          refine wpL_new (fun g => .pointer (some ⟨g, 0, none⟩)) (obi := .cells #[.int .i64 0, .int .i64 0, .bool false, .int .i64 0, .int .i64 0, .int .i64 0, .int .i64 0, .int .i64 0, .slice none 0 0, .int .i64 0, .int .i64 0, .int .i64 0] 49 (0, 0)) rfl rfl (fun _ => by kernel_rfl) (fun _ => by simp only [List.setIfInBounds_toArray, List.set_cons_succ, List.set_cons_zero] <;> rfl) fun g3 Bg3 Fg3 => ?_
          obtain dj4_0 : g1 ≠ g3 := by simpa only [dj_app_l, dj_app_r, dj_cons_l, dj_cons_r, dj_nil_l, dj_nil_r, dk_app, dk_cons, dk_nil, and_true, true_and, and_assoc] using (show Dk g3 [(g1, .map es cl)] from Fg3)
          refine wpL_s [(g3, .cells (colC y2).toArray 49 (0, 0)), (g1, .map es cl)] rfl rfl (st_row (off := 0) (v := .agg (colC y2).toArray) rfl (by kernel_rfl) (by kernel_rfl) (.head _) Bg3 (by kernel_rfl) (by first | (simp [Value.cells]; done) | exact Nat.le_of_ble_eq_true rfl) (fun v hv => colC_one y2 v hv) (by kernel_rfl) (List.forall_mem_cons.2 ⟨.inl rfl, (List.forall_mem_cons.2 ⟨.inr ⟨(.tail _ (.head _)), (by first | assumption | exact Ne.symm (by assumption))⟩, (List.forall_mem_nil _)⟩)⟩)) ?_
          refine wpL_done (fun W8 hW8 => ?_)
          refine (show Code.wp _ _ _ _ _ from ?_)
          refine wp_seq ?_
          refine wp_region_L (W0 := w) [(g3, .cells (colC y2).toArray 49 (0, 0)), (g1, .map es cl)] (hW8) ?_
          refine lv (v := .agg (colC y2).toArray) rfl rfl (yb_load (n := 12) (off := 0) rfl (by kernel_rfl) (.head _) Try.underlying49 rfl (by kernel_rfl) (by first | (simp [Value.cells]; done) | exact Nat.le_of_ble_eq_true rfl) (by kernel_rfl)) ?_
          refine lv (v := .agg #[.int .i64 ((placeX y2).1), .int .i64 ((placeX y2).2.1), .int .i64 ((placeX y2).2.2)]) rfl rfl (yb_call (f := 63) (args := #[.agg (colC y2).toArray]) (fun _ => by kernel_rfl) fun W hW => placeOf_any y2 W) ?_
          refine wpL_new (fun g => .pointer (some ⟨g, 0, none⟩)) (obi := .cells #[.int .i64 0, .int .i64 0, .int .i64 0] 92 (0, 0)) rfl rfl (fun _ => by kernel_rfl) (fun _ => by simp only [List.setIfInBounds_toArray, List.set_cons_succ, List.set_cons_zero] <;> rfl) fun g5 Bg5 Fg5 => ?_
          obtain ⟨dj6_0, dj6_1⟩ : g3 ≠ g5 ∧ g1 ≠ g5 := by simpa only [dj_app_l, dj_app_r, dj_cons_l, dj_cons_r, dj_nil_l, dj_nil_r, dk_app, dk_cons, dk_nil, and_true, true_and, and_assoc] using (show Dk g5 [(g3, .cells (colC y2).toArray 49 (0, 0)), (g1, .map es cl)] from Fg5)
          refine wpL_s [(g5, .cells #[.int .i64 ((placeX y2).1), .int .i64 ((placeX y2).2.1), .int .i64 ((placeX y2).2.2)] 92 (0, 0)), (g3, .cells (colC y2).toArray 49 (0, 0)), (g1, .map es cl)] rfl rfl (st_row (off := 0) (v := .agg #[.int .i64 ((placeX y2).1), .int .i64 ((placeX y2).2.1), .int .i64 ((placeX y2).2.2)]) rfl (by kernel_rfl) (by kernel_rfl) (.head _) Bg5 (by kernel_rfl) (by first | (simp [Value.cells]; done) | exact Nat.le_of_ble_eq_true rfl) (by intro v hv; simp [Value.cells] at hv; first | (subst hv; rfl) | (rcases hv with rfl | rfl | rfl <;> rfl)) (by kernel_rfl) (List.forall_mem_cons.2 ⟨.inl rfl, (List.forall_mem_cons.2 ⟨.inr ⟨(.tail _ (.head _)), (by first | assumption | exact Ne.symm (by assumption))⟩, (List.forall_mem_cons.2 ⟨.inr ⟨(.tail _ (.tail _ (.head _))), (by first | assumption | exact Ne.symm (by assumption))⟩, (List.forall_mem_nil _)⟩)⟩)⟩)) ?_
          refine wpL_done (fun W9 hW9 => ?_)
          refine (show Code.wp _ _ _ _ _ from ?_)
          refine wp_seq ?_
          refine wp_seq ?_
          refine wp_region_L (W0 := w) [(g5, .cells #[.int .i64 ((placeX y2).1), .int .i64 ((placeX y2).2.1), .int .i64 ((placeX y2).2.2)] 92 (0, 0)), (g3, .cells (colC y2).toArray 49 (0, 0)), (g1, .map es cl)] (hW9) ?_
          refine lv (v := .agg (colC y2).toArray) rfl rfl (yb_load (n := 12) (off := 0) rfl (by kernel_rfl) (.tail _ (.head _)) Try.underlying49 rfl (by kernel_rfl) (by first | (simp [Value.cells]; done) | exact Nat.le_of_ble_eq_true rfl) (by kernel_rfl)) ?_
          refine lv (v := .bool (colX y2)) rfl rfl (yb_call (f := 64) (args := #[.agg (colC y2).toArray]) (fun _ => by kernel_rfl) fun W hW => columnRight_any y2 (lq y2 (List.mem_of_getElem? hy2)) W ((RL.base (HQ.out y2 (List.mem_of_getElem? hy2))) _ (hW.sub (fun _ h => by cases h)))) ?_
          refine lp (v := .bool (!(colX y2))) rfl rfl (run_un rfl (by kernel_rfl) fun w => un_not w) ?_
          refine lm (v := .bool (!(colX y2))) rfl rfl ?_
          cases h4 : (colX y2) with
          | false =>
            refine ln rfl ?_
            refine ln rfl ?_
            refine ln rfl ?_
            refine lm (v := .bool true) rfl rfl ?_
            refine wpL_done (fun W10 hW10 => ?_)
            refine (show Code.wp _ _ _ _ _ from ?_)
            refine wp_cond_true rfl ?_
            refine wp_seq ?_
            refine wp_region_L (W0 := w) [(g5, .cells #[.int .i64 ((placeX y2).1), .int .i64 ((placeX y2).2.1), .int .i64 ((placeX y2).2.2)] 92 (0, 0)), (g3, .cells (colC y2).toArray 49 (0, 0)), (g1, .map es cl)] (hW10) ?_
            refine lm (v := .bool false) rfl rfl ?_
            refine wpL_done (fun W11 hW11 => ?_)
            refine (show Code.wp _ _ _ _ _ from ?_)
            refine wp_ret ?_
            try simp only [inBlock_ret, then_ret]
            refine bodyPost_ret (v := .bool false) ?_ rfl ?_
            · kernel_rfl
            · exact ⟨(bool_is (by unfold colsX; rw [decide_eq_false h1, decide_eq_false h2, hR, cols_step hy2, h4]; rfl)), hW11.1⟩
          | true =>
            refine lm (v := .map (some g1)) rfl rfl ?_
            refine lv (v := .agg #[.int .i64 ((placeX y2).1), .int .i64 ((placeX y2).2.1), .int .i64 ((placeX y2).2.2)]) rfl rfl (yb_load (n := 3) (off := 0) rfl (by kernel_rfl) (.head _) Try.underlying92 rfl (by kernel_rfl) (by first | (simp [Value.cells]; done) | exact Nat.le_of_ble_eq_true rfl) (by kernel_rfl)) ?_
            refine lv (v := .bool (decide ((placeX y2) ∈ ((cs.take k).map placeX)))) rfl rfl (yb_lookset key3 (k := (placeX y2)) (L := ((cs.take k).map placeX)) rfl (by kernel_rfl) (by kernel_rfl) (.tail _ (.tail _ (.head _))) Try.underlying91 (fun _ => by kernel_rfl) hS decide_eq_true_iff) ?_
            refine lm (v := .bool (decide ((placeX y2) ∈ ((cs.take k).map placeX)))) rfl rfl ?_
            refine wpL_done (fun W12 hW12 => ?_)
            refine (show Code.wp _ _ _ _ _ from ?_)
            cases hd5 : (decide ((placeX y2) ∈ ((cs.take k).map placeX))) with
            | false =>
              have h5 : ¬ ((placeX y2) ∈ ((cs.take k).map placeX)) := of_decide_eq_false hd5
              clear hd5
              refine wp_cond_false rfl ?_
              refine wp_skip ?_
              refine (show Code.wp _ _ _ _ _ from ?_)
              refine wp_region_L (W0 := w) [(g5, .cells #[.int .i64 ((placeX y2).1), .int .i64 ((placeX y2).2.1), .int .i64 ((placeX y2).2.2)] 92 (0, 0)), (g3, .cells (colC y2).toArray 49 (0, 0)), (g1, .map es cl)] (hW12) ?_
              refine lm (v := .map (some g1)) rfl rfl ?_
              refine lv (v := .agg #[.int .i64 ((placeX y2).1), .int .i64 ((placeX y2).2.1), .int .i64 ((placeX y2).2.2)]) rfl rfl (yb_load (n := 3) (off := 0) rfl (by kernel_rfl) (.head _) Try.underlying92 rfl (by kernel_rfl) (by first | (simp [Value.cells]; done) | exact Nat.le_of_ble_eq_true rfl) (by kernel_rfl)) ?_
              refine wpL_s [(g5, .cells #[.int .i64 ((placeX y2).1), .int .i64 ((placeX y2).2.1), .int .i64 ((placeX y2).2.2)] 92 (0, 0)), (g3, .cells (colC y2).toArray 49 (0, 0)), (g1, .map (addM kv3 es cl (placeX y2)) (cl + 1))] rfl rfl (st_addm key3 (k := (placeX y2)) (L := ((cs.take k).map placeX)) rfl (by kernel_rfl) (by kernel_rfl) (by kernel_rfl) (.tail _ (.tail _ (.head _))) Bg1 Try.underlying91 hS h5 (List.forall_mem_cons.2 ⟨.inr ⟨(.head _), (by first | assumption | exact Ne.symm (by assumption))⟩, (List.forall_mem_cons.2 ⟨.inr ⟨(.tail _ (.head _)), (by first | assumption | exact Ne.symm (by assumption))⟩, (List.forall_mem_cons.2 ⟨.inl rfl, (List.forall_mem_nil _)⟩)⟩)⟩)) ?_
              refine wpL_done (fun W13 hW13 => ?_)
              refine (show Code.wp _ _ _ _ _ from ?_)
              refine wp_region_L (W0 := w) [(g5, .cells #[.int .i64 ((placeX y2).1), .int .i64 ((placeX y2).2.1), .int .i64 ((placeX y2).2.2)] 92 (0, 0)), (g3, .cells (colC y2).toArray 49 (0, 0)), (g1, .map (addM kv3 es cl (placeX y2)) (cl + 1))] (hW13) ?_
              refine lp (v := .int .i64 (((k + 1) : Nat) : Int)) rfl rfl (run_bin rfl (vx := (.int .i64 ((k : Nat) : Int))) (vy := (.int .i64 ((1 : Nat) : Int))) (by kernel_rfl) (by kernel_rfl) fun w => bn_add (z := (k + 1)) rfl (wr_i64 (by omega)) w) ?_
              refine lm (v := .int .i64 (((k + 1) : Nat) : Int)) rfl rfl ?_
              refine wpL_done (fun W14 hW14 => ?_)
              go_roundw
              case rel =>
                repeat apply Exists.intro
                exact ⟨⟨k + 1, (addM kv3 es cl (placeX y2)), (cl + 1), (by omega), (by rw [hR, cols_step hy2, h4, decide_eq_false h5, map_snoc placeX hy2]; rfl), (by rw [map_snoc placeX hy2]; exact (SetM.add hS cl (placeX y2))), rfl, (hW14.sub (fun p hp => by first | exact hp | (simp only [List.mem_cons, List.mem_append, List.nil_append, List.not_mem_nil, or_assoc, or_false, false_or] at hp ⊢ <;> grind)))⟩, rfl⟩
              case measure => (show cs.length - (intOf (.int .i64 (((k + 1) : Nat) : Int))).toNat < cs.length - (intOf (.int .i64 ((k : Nat) : Int))).toNat); simp only [intOf]; omega
            | true =>
              have h5 : (placeX y2) ∈ ((cs.take k).map placeX) := of_decide_eq_true hd5
              clear hd5
              refine wp_cond_true rfl ?_
              refine wp_seq ?_
              refine wp_region_L (W0 := w) [(g5, .cells #[.int .i64 ((placeX y2).1), .int .i64 ((placeX y2).2.1), .int .i64 ((placeX y2).2.2)] 92 (0, 0)), (g3, .cells (colC y2).toArray 49 (0, 0)), (g1, .map es cl)] (hW12) ?_
              refine lm (v := .bool false) rfl rfl ?_
              refine wpL_done (fun W15 hW15 => ?_)
              refine (show Code.wp _ _ _ _ _ from ?_)
              refine wp_ret ?_
              try simp only [inBlock_ret, then_ret]
              refine bodyPost_ret (v := .bool false) ?_ rfl ?_
              · kernel_rfl
              · exact ⟨(bool_is (by unfold colsX; rw [decide_eq_false h1, decide_eq_false h2, hR, cols_step hy2, h4, decide_eq_true h5]; rfl)), hW15.1⟩
    | true =>
      have h2 : 200 < cs.length := of_decide_eq_true hd2
      clear hd2
      refine wp_cond_true rfl ?_
      refine wp_seq ?_
      refine wp_region_L (W0 := w) [] (hW2) ?_
      refine lm (v := .bool false) rfl rfl ?_
      refine wpL_done (fun W16 hW16 => ?_)
      refine (show Code.wp _ _ _ _ _ from ?_)
      refine wp_ret ?_
      try simp only [inBlock_ret, then_ret]
      refine bodyPost_ret (v := .bool false) ?_ rfl ?_
      · kernel_rfl
      · exact ⟨(bool_is (by unfold colsX; rw [decide_eq_false h1, decide_eq_true h2]; rfl)), hW16.1⟩
  | true =>
    have h1 : cs.length = 0 := of_decide_eq_true hd1
    clear hd1
    refine ln rfl ?_
    refine ln rfl ?_
    refine ln rfl ?_
    refine lm (v := .bool true) rfl rfl ?_
    refine wpL_done (fun W17 hW17 => ?_)
    refine (show Code.wp _ _ _ _ _ from ?_)
    refine wp_cond_true rfl ?_
    refine wp_seq ?_
    refine wp_region_L (W0 := w) [] (hW17) ?_
    refine lm (v := .bool false) rfl rfl ?_
    refine wpL_done (fun W18 hW18 => ?_)
    refine (show Code.wp _ _ _ _ _ from ?_)
    refine wp_ret ?_
    try simp only [inBlock_ret, then_ret]
    refine bodyPost_ret (v := .bool false) ?_ rfl ?_
    · kernel_rfl
    · exact ⟨(bool_is (by unfold colsX; rw [decide_eq_true h1]; rfl)), hW18.1⟩
end Go.Proofs.Ythpooalhibedpaa
namespace Go.Proofs.Ythpooalhibedpaa
open Go Go.RowKit Tw
set_option maxRecDepth 100000 in
set_option maxHeartbeats 4000000 in
theorem coversRight_any (os : List Cov) (po : Option Addr) (co : Nat) (w : World) (ho : SLV w po (os.flatMap covC)) (hr : RwR w os) (lr : ∀ o ∈ os, o.rows.length ≤ 4000000000) : Calls Try.prog 36 #[.slice po os.length co] w fun e w' => e = .returned (.bool (ovsX os)) ∧ Below w.heap.size w w' := by
  have HO := Lib.hid ho
  clear ho
  have HR := Lib.hid hr
  clear hr
  go_enter Try.func36, Try.ntmps36
  refine wp_seq ?_
  refine wp_region_L (W0 := w) [] (KS.start w) ?_
  refine lm (v := .bool false) rfl rfl ?_
  refine wpL_done (fun W1 hW1 => ?_)
  refine (show Code.wp _ _ _ _ _ from ?_)
  refine wp_seq ?_
  refine wp_seq ?_
  refine wp_region_L (W0 := w) [] (hW1) ?_
  refine lm (v := .slice po os.length co) rfl rfl ?_
  refine lp (v := .int .i64 ((os.length : Nat) : Int)) rfl rfl (run_lenL (p := po) (cap := co) (n := os.length) rfl Try.underlying23 (by kernel_rfl)) ?_
  refine lp (v := .bool (decide (40 < os.length))) rfl rfl (run_bin rfl (vx := (.int .i64 ((os.length : Nat) : Int))) (vy := (.int .i64 ((40 : Nat) : Int))) (by kernel_rfl) (by kernel_rfl) fun w => bn_gtr rfl w) ?_
  refine wpL_done (fun W2 hW2 => ?_)
  refine (show Code.wp _ _ _ _ _ from ?_)
  cases hd1 : (decide (40 < os.length)) with
  | false =>
    have h1 : ¬ (40 < os.length) := of_decide_eq_false hd1
    clear hd1
    refine wp_cond_false rfl ?_
    refine wp_skip ?_
    refine (show Code.wp _ _ _ _ _ from ?_)
    refine wp_seq ?_
    refine wp_region_L (W0 := w) [] (hW2) ?_
    refine wpL_new (fun g => .map (some g)) (obi := .map #[] 0) rfl rfl (fun _ => by kernel_rfl) (fun _ => by simp only [List.setIfInBounds_toArray, List.set_cons_succ, List.set_cons_zero] <;> rfl) fun g1 Bg1 Fg1 => ?_
    refine lm (v := .map (some g1)) rfl rfl ?_
    refine wpL_done (fun W3 hW3 => ?_)
    refine (show Code.wp _ _ _ _ _ from ?_)
    refine wp_seq ?_
    refine wp_seq ?_
    refine wp_region_L (W0 := w) [(g1, .map #[] 0)] (hW3) ?_
    refine lm (v := .slice po os.length co) rfl rfl ?_
    refine lp (v := .int .i64 ((os.length : Nat) : Int)) rfl rfl (run_lenL (p := po) (cap := co) (n := os.length) rfl Try.underlying23 (by kernel_rfl)) ?_
    refine lm (v := .int .i64 0) rfl rfl ?_
    refine wpL_done (fun W4 hW4 => ?_)
    refine (show Code.wp _ _ _ _ _ from ?_)
    refine wp_block ?_
    go_loopw [15] (fun u15 wr => ∃ (k : Nat) (es : Array MapEntry) (cl : Nat) (L : List I2), (k ≤ os.length) ∧ (ovsF [] os = ovsF L (os.drop k)) ∧ (SetM kv2 es L) ∧ u15 = .int .i64 ((k : Nat) : Int) ∧ KS w [(g1, .map es cl)] wr) (fun u15 _ => os.length - (intOf u15).toNat)
    case atStart => exact ⟨0, #[], 0, [], (Nat.zero_le _), rfl, SetM.nil, rfl, (hW4.sub (fun p hp => by first | exact hp | (simp only [List.mem_cons, List.mem_append, List.nil_append, List.not_mem_nil, or_assoc, or_false, false_or] at hp ⊢ <;> grind)))⟩
    case round =>
      obtain ⟨k, es, cl, L, hk, hR, hS, rfl, hL5⟩ := hrel
      refine wp_seq ?_
      refine wp_region_L (W0 := w) [(g1, .map es cl)] (hL5) ?_
      refine lp (v := .bool (decide (k < os.length))) rfl rfl (run_bin rfl (vx := (.int .i64 ((k : Nat) : Int))) (vy := (.int .i64 ((os.length : Nat) : Int))) (by kernel_rfl) (by kernel_rfl) fun w => bn_lss rfl w) ?_
      refine wpL_done (fun W6 hW6 => ?_)
      refine (show Code.wp _ _ _ _ _ from ?_)
      refine wp_seq ?_
      cases hd2 : (decide (k < os.length)) with
      | false =>
        have h2 : ¬ (k < os.length) := of_decide_eq_false hd2
        clear hd2
        refine wp_cond_false rfl ?_
        refine wp_exit ?_
        refine (show Code.wp _ _ _ _ _ from ?_)
        refine wp_seq ?_
        refine wp_region_L (W0 := w) [(g1, .map es cl)] (hW6) ?_
        refine lm (v := .bool true) rfl rfl ?_
        refine wpL_done (fun W7 hW7 => ?_)
        refine (show Code.wp _ _ _ _ _ from ?_)
        refine wp_ret ?_
        try simp only [inBlock_ret, then_ret]
        refine bodyPost_ret (v := .bool true) ?_ rfl ?_
        · kernel_rfl
        · exact ⟨(bool_is (by unfold ovsX; rw [decide_eq_false h1, hR, ovs_end h2]; rfl)), hW7.1⟩
      | true =>
        have h2 : k < os.length := of_decide_eq_true hd2
        clear hd2
        refine wp_cond_true rfl ?_
        refine wp_skip ?_
        refine (show Code.wp _ _ _ _ _ from ?_)
        refine wp_seq ?_
        refine wp_block ?_
        refine wp_seq ?_
        refine wp_region_L (W0 := w) [(g1, .map es cl)] (hW6) ?_
        obtain ⟨y2, g2_, f2_, hy2, hp2, hc2⟩ := RL.at (RL.base HO.out) covC_len (by decide) (hW6.sub (fun _ h => by cases h)) (k := k) (by omega)
        refine lp (v := .pointer (some ⟨g2_, f2_ + k * 2, none⟩)) rfl rfl (run_idxQ (p := po) (cap := co) (n := os.length) (j := .i64) (k := k) (sz := 2) rfl Try.underlying23 (by kernel_rfl) (by kernel_rfl) hp2 (by kernel_rfl) (by omega)) ?_
        refine lv (v := .agg (covC y2).toArray) rfl rfl (yb_rs (off := f2_ + k * 2) (cs := covC y2) rfl (by kernel_rfl) (fun W hW => hc2 W (hW.sub (fun _ h => by cases h))) Try.underlying51 rfl (by kernel_rfl)) ?_
        refine wpL_new (fun g => .pointer (some ⟨g, 0, none⟩)) (obi := .cells #[.int .i64 0, .slice none 0 0] 51 (0, 0)) rfl rfl (fun _ => by kernel_rfl) (fun _ => by simp only [List.setIfInBounds_toArray, List.set_cons_succ, List.set_cons_zero] <;> rfl) fun g3 Bg3 Fg3 => ?_
        obtain dj4_0 : g1 ≠ g3 := by simpa only [dj_app_l, dj_app_r, dj_cons_l, dj_cons_r, dj_nil_l, dj_nil_r, dk_app, dk_cons, dk_nil, and_true, true_and, and_assoc] using (show Dk g3 [(g1, .map es cl)] from Fg3)
        refine wpL_s [(g3, .cells (covC y2).toArray 51 (0, 0)), (g1, .map es cl)] rfl rfl (st_row (off := 0) (v := .agg (covC y2).toArray) rfl (by kernel_rfl) (by kernel_rfl) (.head _) Bg3 (by kernel_rfl) (by first | (simp [Value.cells]; done) | exact Nat.le_of_ble_eq_true rfl) (fun v hv => covC_one y2 v hv) (by kernel_rfl) (List.forall_mem_cons.2 ⟨.inl rfl, (List.forall_mem_cons.2 ⟨.inr ⟨(.tail _ (.head _)), (by first | assumption | exact Ne.symm (by assumption))⟩, (List.forall_mem_nil _)⟩)⟩)) ?_
        refine wpL_done (fun W8 hW8 => ?_)
        refine (show Code.wp _ _ _ _ _ from ?_)
        refine wp_seq ?_
        refine wp_seq ?_
        refine wp_region_L (W0 := w) [(g3, .cells (covC y2).toArray 51 (0, 0)), (g1, .map es cl)] (hW8) ?_
        refine lv (v := .agg (covC y2).toArray) rfl rfl (yb_load (n := 2) (off := 0) rfl (by kernel_rfl) (.head _) Try.underlying51 rfl (by kernel_rfl) (by first | (simp [Value.cells]; done) | exact Nat.le_of_ble_eq_true rfl) (by kernel_rfl)) ?_
        refine lv (v := .bool (ovX y2)) rfl rfl (yb_call (f := 65) (args := #[.agg (covC y2).toArray]) (fun _ => by kernel_rfl) fun W hW => coverRight_any y2 (lr y2 (List.mem_of_getElem? hy2)) W ((RL.base (HR.out y2 (List.mem_of_getElem? hy2))) _ (hW.sub (fun _ h => by cases h)))) ?_
        refine lp (v := .bool (!(ovX y2))) rfl rfl (run_un rfl (by kernel_rfl) fun w => un_not w) ?_
        refine wpL_done (fun W9 hW9 => ?_)
        refine (show Code.wp _ _ _ _ _ from ?_)
        cases h3 : (ovX y2) with
        | false =>
          refine wp_cond_true rfl ?_
          refine wp_seq ?_
          refine wp_region_L (W0 := w) [(g3, .cells (covC y2).toArray 51 (0, 0)), (g1, .map es cl)] (hW9) ?_
          refine lm (v := .bool false) rfl rfl ?_
          refine wpL_done (fun W10 hW10 => ?_)
          refine (show Code.wp _ _ _ _ _ from ?_)
          refine wp_ret ?_
          try simp only [inBlock_ret, then_ret]
          refine bodyPost_ret (v := .bool false) ?_ rfl ?_
          · kernel_rfl
          · exact ⟨(bool_is (by unfold ovsX; rw [decide_eq_false h1, hR, ovs_step hy2, h3]; rfl)), hW10.1⟩
        | true =>
          refine wp_cond_false rfl ?_
          refine wp_skip ?_
          refine (show Code.wp _ _ _ _ _ from ?_)
          refine wp_seq ?_
          refine wp_region_L (W0 := w) [(g3, .cells (covC y2).toArray 51 (0, 0)), (g1, .map es cl)] (hW9) ?_
          refine lm (v := .pointer (some ⟨g3, 1, none⟩)) rfl rfl ?_
          refine lv (v := .slice y2.rp y2.rows.length y2.rc) rfl rfl (yb_cell (off := 1) rfl (by kernel_rfl) (.head _) Try.underlying39 rfl (by kernel_rfl)) ?_
          refine lp (v := .int .i64 ((y2.rows.length : Nat) : Int)) rfl rfl (run_lenL (p := y2.rp) (cap := y2.rc) (n := y2.rows.length) rfl Try.underlying39 (by kernel_rfl)) ?_
          refine lm (v := .int .i64 0) rfl rfl ?_
          refine wpL_done (fun W11 hW11 => ?_)
          refine (show Code.wp _ _ _ _ _ from ?_)
          refine wp_block ?_
          have lz2 := lr y2 (List.mem_of_getElem? hy2)
          go_loopw [25] (fun u25 wr => ∃ (m : Nat) (es2 : Array MapEntry) (cl2 : Nat), (m ≤ y2.rows.length) ∧ (freshF y2.bay L y2.rows = freshF y2.bay (L ++ (y2.rows.take m).map (fun r => (y2.bay, r))) (y2.rows.drop m)) ∧ (SetM kv2 es2 (L ++ (y2.rows.take m).map (fun r => (y2.bay, r)))) ∧ u25 = .int .i64 ((m : Nat) : Int) ∧ KS w [(g3, .cells (covC y2).toArray 51 (0, 0)), (g1, .map es2 cl2)] wr) (fun u25 _ => y2.rows.length - (intOf u25).toNat)
          case atStart => exact ⟨0, es, cl, (Nat.zero_le _), (by rw [List.take_zero, List.map_nil, List.append_nil]; rfl), (by rw [List.take_zero, List.map_nil, List.append_nil]; exact hS), rfl, (hW11.sub (fun p hp => by first | exact hp | (simp only [List.mem_cons, List.mem_append, List.nil_append, List.not_mem_nil, or_assoc, or_false, false_or] at hp ⊢ <;> grind)))⟩
          case round =>
            obtain ⟨m, es2, cl2, hm, hI, hT, rfl, hL12⟩ := hrel
            refine wp_seq ?_
            refine wp_region_L (W0 := w) [(g3, .cells (covC y2).toArray 51 (0, 0)), (g1, .map es2 cl2)] (hL12) ?_
            refine lp (v := .bool (decide (m < y2.rows.length))) rfl rfl (run_bin rfl (vx := (.int .i64 ((m : Nat) : Int))) (vy := (.int .i64 ((y2.rows.length : Nat) : Int))) (by kernel_rfl) (by kernel_rfl) fun w => bn_lss rfl w) ?_
            refine wpL_done (fun W13 hW13 => ?_)
            refine (show Code.wp _ _ _ _ _ from ?_)
            refine wp_seq ?_
            cases hd4 : (decide (m < y2.rows.length)) with
            | false =>
              have h4 : ¬ (m < y2.rows.length) := of_decide_eq_false hd4
              clear hd4
              refine wp_cond_false rfl ?_
              refine wp_exit ?_
              refine (show Code.wp _ _ _ _ _ from ?_)
              refine wp_region_L (W0 := w) [(g3, .cells (covC y2).toArray 51 (0, 0)), (g1, .map es2 cl2)] (hW13) ?_
              refine lp (v := .int .i64 (((k + 1) : Nat) : Int)) rfl rfl (run_bin rfl (vx := (.int .i64 ((k : Nat) : Int))) (vy := (.int .i64 ((1 : Nat) : Int))) (by kernel_rfl) (by kernel_rfl) fun w => bn_add (z := (k + 1)) rfl (wr_i64 (by omega)) w) ?_
              refine lm (v := .int .i64 (((k + 1) : Nat) : Int)) rfl rfl ?_
              refine wpL_done (fun W14 hW14 => ?_)
              go_roundw
              case rel =>
                repeat apply Exists.intro
                exact ⟨⟨k + 1, es2, cl2, (L ++ y2.rows.map (fun r => (y2.bay, r))), (by omega), (by rw [hR, ovs_step hy2, h3, hI, fresh_end h4]; rfl), (by rw [show y2.rows.take m = y2.rows from List.take_of_length_le (by omega)] at hT; exact hT), rfl, (hW14.sub (fun p hp => by first | exact hp | (simp only [List.mem_cons, List.mem_append, List.nil_append, List.not_mem_nil, or_assoc, or_false, false_or] at hp ⊢ <;> grind)))⟩, rfl⟩
              case measure => (show os.length - (intOf (.int .i64 (((k + 1) : Nat) : Int))).toNat < os.length - (intOf (.int .i64 ((k : Nat) : Int))).toNat); simp only [intOf]; omega
            | true =>
              have h4 : m < y2.rows.length := of_decide_eq_true hd4
              clear hd4
              refine wp_cond_true rfl ?_
              refine wp_skip ?_
              refine (show Code.wp _ _ _ _ _ from ?_)
              refine wp_seq ?_
              refine wp_block ?_
              refine wp_seq ?_
              refine wp_region_L (W0 := w) [(g3, .cells (covC y2).toArray 51 (0, 0)), (g1, .map es2 cl2)] (hW13) ?_
              obtain ⟨y5, g5_, f5_, hy5, hp5, hc5⟩ := RL.at (RL.base (HR.out y2 (List.mem_of_getElem? hy2))) inC_len (by decide) (hW13.sub (fun _ h => by cases h)) (k := m) (by omega)
              refine lp (v := .pointer (some ⟨g5_, f5_ + m * 1, none⟩)) rfl rfl (run_idxQ (p := y2.rp) (cap := y2.rc) (n := y2.rows.length) (j := .i64) (k := m) (sz := 1) rfl Try.underlying39 (by kernel_rfl) (by kernel_rfl) hp5 (by kernel_rfl) (by omega)) ?_
              refine lv (v := .int .i64 y5) rfl rfl (yb_rf (v := .int .i64 y5) rfl (by kernel_rfl) (fun W hW => hc5 W (hW.sub (fun _ h => by cases h)) 0 _ rfl) Try.underlying3 rfl) ?_
              refine lm (v := .int .i64 y5) rfl rfl ?_
              refine wpL_done (fun W15 hW15 => ?_)
              refine (show Code.wp _ _ _ _ _ from ?_)
              refine wp_seq ?_
              refine wp_region_L (W0 := w) [(g3, .cells (covC y2).toArray 51 (0, 0)), (g1, .map es2 cl2)] (hW15) ?_
              refine lm (v := .pointer (some ⟨g3, 0, none⟩)) rfl rfl ?_
              refine lv (v := .int .i64 y2.bay) rfl rfl (yb_cell (off := 0) rfl (by kernel_rfl) (.head _) Try.underlying3 rfl (by kernel_rfl)) ?_
              refine lm (v := .int .i64 y5) rfl rfl ?_
              refine lm (v := .agg #[.int .i64 y2.bay, .int .i64 y5]) rfl rfl ?_
              refine wpL_new (fun g => .pointer (some ⟨g, 0, none⟩)) (obi := .cells #[.int .i64 0, .int .i64 0] 95 (0, 0)) rfl rfl (fun _ => by kernel_rfl) (fun _ => by simp only [List.setIfInBounds_toArray, List.set_cons_succ, List.set_cons_zero] <;> rfl) fun g6 Bg6 Fg6 => ?_
              obtain ⟨dj7_0, dj7_1⟩ : g3 ≠ g6 ∧ g1 ≠ g6 := by simpa only [dj_app_l, dj_app_r, dj_cons_l, dj_cons_r, dj_nil_l, dj_nil_r, dk_app, dk_cons, dk_nil, and_true, true_and, and_assoc] using (show Dk g6 [(g3, .cells (covC y2).toArray 51 (0, 0)), (g1, .map es2 cl2)] from Fg6)
              refine wpL_s [(g6, .cells #[.int .i64 y2.bay, .int .i64 y5] 95 (0, 0)), (g3, .cells (covC y2).toArray 51 (0, 0)), (g1, .map es2 cl2)] rfl rfl (st_row (off := 0) (v := .agg #[.int .i64 y2.bay, .int .i64 y5]) rfl (by kernel_rfl) (by kernel_rfl) (.head _) Bg6 (by kernel_rfl) (by first | (simp [Value.cells]; done) | exact Nat.le_of_ble_eq_true rfl) (by intro v hv; simp [Value.cells] at hv; first | (subst hv; rfl) | (rcases hv with rfl | rfl <;> rfl)) (by kernel_rfl) (List.forall_mem_cons.2 ⟨.inl rfl, (List.forall_mem_cons.2 ⟨.inr ⟨(.tail _ (.head _)), (by first | assumption | exact Ne.symm (by assumption))⟩, (List.forall_mem_cons.2 ⟨.inr ⟨(.tail _ (.tail _ (.head _))), (by first | assumption | exact Ne.symm (by assumption))⟩, (List.forall_mem_nil _)⟩)⟩)⟩)) ?_
              refine wpL_done (fun W16 hW16 => ?_)
              refine (show Code.wp _ _ _ _ _ from ?_)
              refine wp_seq ?_
              refine wp_seq ?_
              refine wp_region_L (W0 := w) [(g6, .cells #[.int .i64 y2.bay, .int .i64 y5] 95 (0, 0)), (g3, .cells (covC y2).toArray 51 (0, 0)), (g1, .map es2 cl2)] (hW16) ?_
              refine lm (v := .map (some g1)) rfl rfl ?_
              refine lv (v := .agg #[.int .i64 y2.bay, .int .i64 y5]) rfl rfl (yb_load (n := 2) (off := 0) rfl (by kernel_rfl) (.head _) Try.underlying95 rfl (by kernel_rfl) (by first | (simp [Value.cells]; done) | exact Nat.le_of_ble_eq_true rfl) (by kernel_rfl)) ?_
              refine lv (v := .bool (decide ((y2.bay, y5) ∈ (L ++ (y2.rows.take m).map (fun r => (y2.bay, r)))))) rfl rfl (yb_lookset key2 (k := (y2.bay, y5)) (L := (L ++ (y2.rows.take m).map (fun r => (y2.bay, r)))) rfl (by kernel_rfl) (by kernel_rfl) (.tail _ (.tail _ (.head _))) Try.underlying94 (fun _ => by kernel_rfl) hT decide_eq_true_iff) ?_
              refine wpL_done (fun W17 hW17 => ?_)
              refine (show Code.wp _ _ _ _ _ from ?_)
              cases hd5 : (decide ((y2.bay, y5) ∈ (L ++ (y2.rows.take m).map (fun r => (y2.bay, r))))) with
              | false =>
                have h5 : ¬ ((y2.bay, y5) ∈ (L ++ (y2.rows.take m).map (fun r => (y2.bay, r)))) := of_decide_eq_false hd5
                clear hd5
                refine wp_cond_false rfl ?_
                refine wp_skip ?_
                refine (show Code.wp _ _ _ _ _ from ?_)
                refine wp_region_L (W0 := w) [(g6, .cells #[.int .i64 y2.bay, .int .i64 y5] 95 (0, 0)), (g3, .cells (covC y2).toArray 51 (0, 0)), (g1, .map es2 cl2)] (hW17) ?_
                refine lm (v := .map (some g1)) rfl rfl ?_
                refine lv (v := .agg #[.int .i64 y2.bay, .int .i64 y5]) rfl rfl (yb_load (n := 2) (off := 0) rfl (by kernel_rfl) (.head _) Try.underlying95 rfl (by kernel_rfl) (by first | (simp [Value.cells]; done) | exact Nat.le_of_ble_eq_true rfl) (by kernel_rfl)) ?_
                refine wpL_s [(g6, .cells #[.int .i64 y2.bay, .int .i64 y5] 95 (0, 0)), (g3, .cells (covC y2).toArray 51 (0, 0)), (g1, .map (addM kv2 es2 cl2 (y2.bay, y5)) (cl2 + 1))] rfl rfl (st_addm key2 (k := (y2.bay, y5)) (L := (L ++ (y2.rows.take m).map (fun r => (y2.bay, r)))) rfl (by kernel_rfl) (by kernel_rfl) (by kernel_rfl) (.tail _ (.tail _ (.head _))) Bg1 Try.underlying94 hT h5 (List.forall_mem_cons.2 ⟨.inr ⟨(.head _), (by first | assumption | exact Ne.symm (by assumption))⟩, (List.forall_mem_cons.2 ⟨.inr ⟨(.tail _ (.head _)), (by first | assumption | exact Ne.symm (by assumption))⟩, (List.forall_mem_cons.2 ⟨.inl rfl, (List.forall_mem_nil _)⟩)⟩)⟩)) ?_
                refine wpL_done (fun W18 hW18 => ?_)
                refine (show Code.wp _ _ _ _ _ from ?_)
                refine wp_region_L (W0 := w) [(g6, .cells #[.int .i64 y2.bay, .int .i64 y5] 95 (0, 0)), (g3, .cells (covC y2).toArray 51 (0, 0)), (g1, .map (addM kv2 es2 cl2 (y2.bay, y5)) (cl2 + 1))] (hW18) ?_
                refine lp (v := .int .i64 (((m + 1) : Nat) : Int)) rfl rfl (run_bin rfl (vx := (.int .i64 ((m : Nat) : Int))) (vy := (.int .i64 ((1 : Nat) : Int))) (by kernel_rfl) (by kernel_rfl) fun w => bn_add (z := (m + 1)) rfl (wr_i64 (by omega)) w) ?_
                refine lm (v := .int .i64 (((m + 1) : Nat) : Int)) rfl rfl ?_
                refine wpL_done (fun W19 hW19 => ?_)
                go_roundw
                case rel =>
                  repeat apply Exists.intro
                  exact ⟨⟨m + 1, (addM kv2 es2 cl2 (y2.bay, y5)), (cl2 + 1), (by omega), (by rw [hI, fresh_step hy5, decide_eq_false h5, map_snoc (fun r => (y2.bay, r)) hy5, List.append_assoc]; rfl), (by rw [map_snoc (fun r => (y2.bay, r)) hy5, ← List.append_assoc]; exact (SetM.add hT cl2 (y2.bay, y5))), rfl, (hW19.sub (fun p hp => by first | exact hp | (simp only [List.mem_cons, List.mem_append, List.nil_append, List.not_mem_nil, or_assoc, or_false, false_or] at hp ⊢ <;> grind)))⟩, rfl⟩
                case measure => (show y2.rows.length - (intOf (.int .i64 (((m + 1) : Nat) : Int))).toNat < y2.rows.length - (intOf (.int .i64 ((m : Nat) : Int))).toNat); simp only [intOf]; omega
              | true =>
                have h5 : (y2.bay, y5) ∈ (L ++ (y2.rows.take m).map (fun r => (y2.bay, r))) := of_decide_eq_true hd5
                clear hd5
                refine wp_cond_true rfl ?_
                refine wp_seq ?_
                refine wp_region_L (W0 := w) [(g6, .cells #[.int .i64 y2.bay, .int .i64 y5] 95 (0, 0)), (g3, .cells (covC y2).toArray 51 (0, 0)), (g1, .map es2 cl2)] (hW17) ?_
                refine lm (v := .bool false) rfl rfl ?_
                refine wpL_done (fun W20 hW20 => ?_)
                refine (show Code.wp _ _ _ _ _ from ?_)
                refine wp_ret ?_
                try simp only [inBlock_ret, then_ret]
                refine bodyPost_ret (v := .bool false) ?_ rfl ?_
                · kernel_rfl
                · exact ⟨(bool_is (by unfold ovsX; rw [decide_eq_false h1, hR, ovs_step hy2, h3, hI, fresh_step hy5, decide_eq_true h5]; rfl)), hW20.1⟩
  | true =>
    have h1 : 40 < os.length := of_decide_eq_true hd1
    clear hd1
    refine wp_cond_true rfl ?_
    refine wp_seq ?_
    refine wp_region_L (W0 := w) [] (hW2) ?_
    refine lm (v := .bool false) rfl rfl ?_
    refine wpL_done (fun W21 hW21 => ?_)
    refine (show Code.wp _ _ _ _ _ from ?_)
    refine wp_ret ?_
    try simp only [inBlock_ret, then_ret]
    refine bodyPost_ret (v := .bool false) ?_ rfl ?_
    · kernel_rfl
    · exact ⟨(bool_is (by unfold ovsX; rw [decide_eq_true h1]; rfl)), hW21.1⟩
set_option maxRecDepth 100000 in
set_option maxHeartbeats 4000000 in
theorem Right_any (cs : List Col) (pc : Option Addr) (cc : Nat) (lc : cs.length ≤ 4000000000) (os : List Cov) (po : Option Addr) (co : Nat) (lo : os.length ≤ 4000000000) (t : Tl) (w : World) (hc : SLV w pc (cs.flatMap colC)) (ho : SLV w po (os.flatMap covC)) (hr : RwR w os) (lr : ∀ o ∈ os, o.rows.length ≤ 4000000000) (hq : PlR w cs) (lq : ∀ c ∈ cs, c.plugs.length ≤ 4000000000) : Calls Try.prog 10 #[.agg (shC (.slice pc cs.length cc) (.slice po os.length co) t).toArray] w fun e w' => e = .returned (.bool (rightX cs os)) ∧ Below w.heap.size w w' := by
  have HC := Lib.hid hc
  clear hc
  have HO := Lib.hid ho
  clear ho
  have HR := Lib.hid hr
  clear hr
  have HQ := Lib.hid hq
  clear hq
  go_enter Try.func10, Try.ntmps10
  refine wp_seq ?_
  refine wp_region_L (W0 := w) [] (KS.start w) ?_
  refine wpL_new (fun g => .pointer (some ⟨g, 0, none⟩)) (obi := .cells (shC (.slice pc cs.length cc) (.slice po os.length co) t).toArray 32 (0, 0)) rfl rfl (fun _ => by kernel_rfl) (fun _ => by simp only [List.setIfInBounds_toArray, List.set_cons_succ, List.set_cons_zero] <;> rfl) fun g1 Bg1 Fg1 => ?_
  refine lm (v := .bool false) rfl rfl ?_
  refine wpL_done (fun W1 hW1 => ?_)
  refine (show Code.wp _ _ _ _ _ from ?_)
  refine wp_seq ?_
  refine wp_region_L (W0 := w) [(g1, .cells (shC (.slice pc cs.length cc) (.slice po os.length co) t).toArray 32 (0, 0))] (hW1) ?_
  refine lm (v := .pointer (some ⟨g1, 0, none⟩)) rfl rfl ?_
  refine lv (v := .slice pc cs.length cc) rfl rfl (yb_cell (off := 0) rfl (by kernel_rfl) (.head _) Try.underlying22 rfl (by kernel_rfl)) ?_
  refine lv (v := .bool (colsX cs)) rfl rfl (yb_call (f := 35) (args := #[.slice pc cs.length cc]) (fun _ => by kernel_rfl) fun W hW => columnsRight_any cs pc cc W ((RL.base HC.out) _ (hW.sub (fun _ h => by cases h))) (HQ.out.keep hW.1) lq) ?_
  refine lm (v := .bool (colsX cs)) rfl rfl ?_
  cases h1 : (colsX cs) with
  | false =>
    refine ln rfl ?_
    refine ln rfl ?_
    refine ln rfl ?_
    refine lm (v := .bool false) rfl rfl ?_
    refine lm (v := .bool false) rfl rfl ?_
    refine wpL_done (fun W2 hW2 => ?_)
    refine (show Code.wp _ _ _ _ _ from ?_)
    refine wp_ret ?_
    try simp only [inBlock_ret, then_ret]
    refine bodyPost_ret (v := .bool false) ?_ rfl ?_
    · kernel_rfl
    · exact ⟨(bool_is (by unfold rightX; simp [*])), hW2.1⟩
  | true =>
    refine lm (v := .pointer (some ⟨g1, 1, none⟩)) rfl rfl ?_
    refine lv (v := .slice po os.length co) rfl rfl (yb_cell (off := 1) rfl (by kernel_rfl) (.head _) Try.underlying23 rfl (by kernel_rfl)) ?_
    refine lv (v := .bool (ovsX os)) rfl rfl (yb_call (f := 36) (args := #[.slice po os.length co]) (fun _ => by kernel_rfl) fun W hW => coversRight_any os po co W ((RL.base HO.out) _ (hW.sub (fun _ h => by cases h))) (HR.out.keep hW.1) lr) ?_
    refine lm (v := .bool (ovsX os)) rfl rfl ?_
    refine lm (v := .bool (ovsX os)) rfl rfl ?_
    refine wpL_done (fun W3 hW3 => ?_)
    refine (show Code.wp _ _ _ _ _ from ?_)
    refine wp_ret ?_
    try simp only [inBlock_ret, then_ret]
    refine bodyPost_ret (v := .bool (ovsX os)) ?_ rfl ?_
    · kernel_rfl
    · exact ⟨(bool_is (by unfold rightX; simp [*])), hW3.1⟩
end Go.Proofs.Ythpooalhibedpaa
