import Derived.Test.YthpooalhibedpaaTQ03
import Derived.Test.YthpooalhibedpaaTQ02
/- Part of the proof: U1, U2, U3, U4, U5, TH0, TH. -/
set_option linter.unusedVariables false
set_option linter.unusedSimpArgs false
set_option linter.unusedSectionVars false
namespace Go.Proofs.Ythpooalhibedpaa
open Go Go.RowKit Tw
theorem eq_row (r : N5) {px py : Operand} (w : World) : (do eqGuard .eql 82 px py (.agg (n5C r).toArray) (.agg (n5C r).toArray); binOp .eql 82 (.agg (n5C r).toArray) (.agg (n5C r).toArray) : Sem Value).run Try.prog w = .ok (.bool true) w := by
  unfold n5C
  go_simp
theorem eq_fra (r : N5) {px py : Operand} (w : World) : (do eqGuard .eql 85 px py (.agg (n5C r).toArray) (.agg (n5C r).toArray); binOp .eql 85 (.agg (n5C r).toArray) (.agg (n5C r).toArray) : Sem Value).run Try.prog w = .ok (.bool true) w := by
  unfold n5C
  go_simp
theorem ne_row (r : N5) {px py : Operand} (w : World) : (do eqGuard .neq 82 px py (.agg (n5C r).toArray) (.agg (n5C r).toArray); binOp .neq 82 (.agg (n5C r).toArray) (.agg (n5C r).toArray) : Sem Value).run Try.prog w = .ok (.bool false) w := by
  unfold n5C
  go_simp
theorem ne_fra (r : N5) {px py : Operand} (w : World) : (do eqGuard .neq 85 px py (.agg (n5C r).toArray) (.agg (n5C r).toArray); binOp .neq 85 (.agg (n5C r).toArray) (.agg (n5C r).toArray) : Sem Value).run Try.prog w = .ok (.bool false) w := by
  unfold n5C
  go_simp
theorem kept_at {l m : List N5} {i : Nat} {x y : N5} (hx : (l ++ m)[i]? = some x) (hy : l[i]? = some y) : x = y := by
  rw [List.getElem?_append_left (List.getElem?_eq_some_iff.1 hy).1, hy] at hx
  exact (Option.some.inj hx).symm
theorem row_mark {l : List N5} {i : Nat} {x : N5} (hx : (l ++ mkRowL 12)[i]? = some x) (h : ¬ i < l.length) : x = mkRow (i - l.length) := by
  have h2 := (List.getElem?_eq_some_iff.1 hx).1
  rw [List.length_append, mkRowL_len] at h2
  rw [List.getElem?_append_right (by omega), mkRowL_at (by omega)] at hx
  exact (Option.some.inj hx).symm
theorem fra_mark {l : List N5} {i : Nat} {x : N5} (hx : (l ++ mkFraL 12)[i]? = some x) (h : ¬ i < l.length) : x = mkFra (i - l.length) := by
  have h2 := (List.getElem?_eq_some_iff.1 hx).1
  rw [List.length_append, mkFraL_len] at h2
  rw [List.getElem?_append_right (by omega), mkFraL_at (by omega)] at hx
  exact (Option.some.inj hx).symm
set_option maxRecDepth 100000 in
set_option maxHeartbeats 4000000 in
theorem KeptRows_any (l : List N5) (p q : Option Addr) (c d : Nat) (hl : l.length ≤ 3518437208780) (hc : l.length + 12 ≤ c) (w : World) (hp : SLV w p ((l ++ mkRowL 12).flatMap n5C)) (hq : SLV w q (l.flatMap n5C)) : Calls Try.prog 48 #[.slice p l.length c, .slice q l.length d] w fun e w' => e = .returned (.bool true) ∧ Below w.heap.size w w' := by
  have HP := Lib.hid hp
  clear hp
  have HQ := Lib.hid hq
  clear hq
  have hlen : (l ++ mkRowL 12).length = l.length + 12 := by rw [List.length_append, mkRowL_len]
  go_enter Try.func48, Try.ntmps48
  refine wp_seq ?_
  refine wp_region_L (W0 := w) [] (KS.start w) ?_
  refine lm (v := .bool false) rfl rfl ?_
  refine wpL_done (fun W1 hW1 => ?_)
  refine (show Code.wp _ _ _ _ _ from ?_)
  refine wp_seq ?_
  refine wp_seq ?_
  refine wp_region_L (W0 := w) [] (hW1) ?_
  refine lm (v := .slice p l.length c) rfl rfl ?_
  refine lp (v := .int .i64 ((l.length : Nat) : Int)) rfl rfl (run_lenL (p := p) (cap := c) (n := l.length) rfl Try.underlying26 (by kernel_rfl)) ?_
  refine lm (v := .slice q l.length d) rfl rfl ?_
  refine lp (v := .int .i64 ((l.length : Nat) : Int)) rfl rfl (run_lenL (p := q) (cap := d) (n := l.length) rfl Try.underlying26 (by kernel_rfl)) ?_
  refine lp (v := .bool false) rfl rfl (run_bin rfl (vx := (.int .i64 ((l.length : Nat) : Int))) (vy := (.int .i64 ((l.length : Nat) : Int))) (by kernel_rfl) (by kernel_rfl) fun w => bn_neq (decide_eq_true rfl) w) ?_
  refine wpL_done (fun W2 hW2 => ?_)
  refine (show Code.wp _ _ _ _ _ from ?_)
  refine wp_cond_false rfl ?_
  refine wp_skip ?_
  refine (show Code.wp _ _ _ _ _ from ?_)
  refine wp_seq ?_
  refine wp_region_L (W0 := w) [] (hW2) ?_
  refine lm (v := .slice p l.length c) rfl rfl ?_
  refine lm (v := .slice q l.length d) rfl rfl ?_
  refine lp (v := .int .i64 ((l.length : Nat) : Int)) rfl rfl (run_lenL (p := q) (cap := d) (n := l.length) rfl Try.underlying26 (by kernel_rfl)) ?_
  refine lp (v := .int .i64 (((l.length + 12) : Nat) : Int)) rfl rfl (run_bin rfl (vx := (.int .i64 ((l.length : Nat) : Int))) (vy := (.int .i64 ((12 : Nat) : Int))) (by kernel_rfl) (by kernel_rfl) fun w => bn_add (z := (l.length + 12)) rfl (wr_i64 (by omega)) w) ?_
  refine lp (v := .slice p (l.length + 12) c) rfl rfl (run_slt (kd := .i64) (j := (l.length + 12)) (n := l.length) (c := c) (sz := 5) rfl Try.underlying26 (by kernel_rfl) (by kernel_rfl) (by kernel_rfl) (by omega)) ?_
  refine lm (v := .slice p (l.length + 12) c) rfl rfl ?_
  refine wpL_done (fun W3 hW3 => ?_)
  refine (show Code.wp _ _ _ _ _ from ?_)
  refine wp_seq ?_
  refine wp_seq ?_
  refine wp_region_L (W0 := w) [] (hW3) ?_
  refine lm (v := .int .i64 0) rfl rfl ?_
  refine wpL_done (fun W4 hW4 => ?_)
  refine (show Code.wp _ _ _ _ _ from ?_)
  refine wp_block ?_
  go_loopw [6] (fun u6 wr => ∃ (i : Nat), (i ≤ l.length + 12) ∧ u6 = .int .i64 ((i : Nat) : Int) ∧ KS w [] wr) (fun u6 _ => l.length + 12 - (intOf u6).toNat)
  case atStart => exact ⟨0, (Nat.zero_le _), rfl, (hW4.sub (fun p hp => by first | exact hp | (simp only [List.mem_cons, List.mem_append, List.nil_append, List.not_mem_nil, or_assoc, or_false, false_or] at hp ⊢ <;> grind)))⟩
  case round =>
    obtain ⟨i, hi, rfl, hL5⟩ := hrel
    refine wp_seq ?_
    refine wp_seq ?_
    refine wp_region_L (W0 := w) [] (hL5) ?_
    refine lm (v := .int .i64 ((i : Nat) : Int)) rfl rfl ?_
    refine lm (v := .slice p (l.length + 12) c) rfl rfl ?_
    refine lp (v := .int .i64 (((l.length + 12) : Nat) : Int)) rfl rfl (run_lenL (p := p) (cap := c) (n := (l.length + 12)) rfl Try.underlying26 (by kernel_rfl)) ?_
    refine lp (v := .bool (decide (i < (l.length + 12)))) rfl rfl (run_bin rfl (vx := (.int .i64 ((i : Nat) : Int))) (vy := (.int .i64 (((l.length + 12) : Nat) : Int))) (by kernel_rfl) (by kernel_rfl) fun w => bn_lss rfl w) ?_
    refine wpL_done (fun W6 hW6 => ?_)
    refine (show Code.wp _ _ _ _ _ from ?_)
    cases hd1 : (decide (i < (l.length + 12))) with
    | false =>
      have h1 : ¬ (i < (l.length + 12)) := of_decide_eq_false hd1
      clear hd1
      refine wp_cond_false rfl ?_
      refine wp_exit ?_
      refine (show Code.wp _ _ _ _ _ from ?_)
      refine wp_seq ?_
      refine wp_region_L (W0 := w) [] (hW6) ?_
      refine lm (v := .bool true) rfl rfl ?_
      refine wpL_done (fun W7 hW7 => ?_)
      refine (show Code.wp _ _ _ _ _ from ?_)
      refine wp_ret ?_
      try simp only [inBlock_ret, then_ret]
      refine bodyPost_ret (v := .bool true) ?_ rfl ?_
      · kernel_rfl
      · exact ⟨rfl, hW7.1⟩
    | true =>
      have h1 : i < (l.length + 12) := of_decide_eq_true hd1
      clear hd1
      refine wp_cond_true rfl ?_
      refine wp_skip ?_
      refine (show Code.wp _ _ _ _ _ from ?_)
      refine wp_seq ?_
      refine wp_block ?_
      refine wp_seq ?_
      refine wp_region_V (W0 := w) [] (by kernel_rfl) (hW6) ?_
      refine vm (i := 0) (v := .int .i64 ((i : Nat) : Int)) rfl rfl rfl ?_
      refine vm (i := 1) (v := .slice q l.length d) rfl rfl rfl ?_
      refine vp (i := 2) (v := .int .i64 ((l.length : Nat) : Int)) rfl rfl rfl (run_lenL (p := q) (cap := d) (n := l.length) rfl Try.underlying26 (by kernel_rfl)) ?_
      refine vp (i := 3) (v := .bool (decide (i < l.length))) rfl rfl rfl (run_bin rfl (vx := (.int .i64 ((i : Nat) : Int))) (vy := (.int .i64 ((l.length : Nat) : Int))) (by kernel_rfl) (by kernel_rfl) fun w => bn_lss rfl w) ?_
      refine vm (i := 4) (v := .bool (decide (i < l.length))) rfl rfl rfl ?_
      cases hd2 : (decide (i < l.length)) with
      | false =>
        have h2 : ¬ (i < l.length) := of_decide_eq_false hd2
        clear hd2
        refine vn (i := 5) rfl rfl ?_
        refine vn (i := 6) rfl rfl ?_
        refine vn (i := 7) rfl rfl ?_
        refine vn (i := 8) rfl rfl ?_
        refine vn (i := 9) rfl rfl ?_
        refine vn (i := 10) rfl rfl ?_
        refine vn (i := 11) rfl rfl ?_
        refine vn (i := 12) rfl rfl ?_
        refine vn (i := 13) rfl rfl ?_
        refine vn (i := 14) rfl rfl ?_
        refine vm (i := 15) (v := .bool false) rfl rfl rfl ?_
        refine vm (i := 16) (v := .bool false) rfl rfl rfl ?_
        refine vm (i := 17) (v := .int .i64 ((i : Nat) : Int)) rfl rfl rfl ?_
        refine vm (i := 18) (v := .slice q l.length d) rfl rfl rfl ?_
        refine vp (i := 19) (v := .int .i64 ((l.length : Nat) : Int)) rfl rfl rfl (run_lenL (p := q) (cap := d) (n := l.length) rfl Try.underlying26 (by kernel_rfl)) ?_
        refine vp (i := 20) (v := .bool true) rfl rfl rfl (run_bin rfl (vx := (.int .i64 ((i : Nat) : Int))) (vy := (.int .i64 ((l.length : Nat) : Int))) (by kernel_rfl) (by kernel_rfl) fun w => bn_geq (decide_eq_false (by assumption)) w) ?_
        refine vm (i := 21) (v := .bool true) rfl rfl rfl ?_
        refine vm (i := 22) (v := .slice p (l.length + 12) c) rfl rfl rfl ?_
        refine vm (i := 23) (v := .int .i64 ((i : Nat) : Int)) rfl rfl rfl ?_
        obtain ⟨y1, g1_, f1_, hy1, hp1, hc1⟩ := RL.at (RL.base HP.out) n5C_len (by decide) (hW6.sub (fun _ h => by cases h)) (k := i) (by omega)
        refine vp (i := 24) (v := .pointer (some ⟨g1_, f1_ + i * 5, none⟩)) rfl rfl rfl (run_idxQ (p := p) (cap := c) (n := (l.length + 12)) (j := .i64) (k := i) (sz := 5) rfl Try.underlying26 (by kernel_rfl) (by kernel_rfl) hp1 (by kernel_rfl) (by omega)) ?_
        refine vb (i := 25) (v := .agg (n5C y1).toArray) rfl rfl rfl (yb_rs (off := f1_ + i * 5) (cs := n5C y1) rfl (by kernel_rfl) (fun W hW => hc1 W (hW.sub (fun _ h => by cases h))) Try.underlying82 rfl (by kernel_rfl)) ?_
        refine vm (i := 26) (v := .int .i64 ((i : Nat) : Int)) rfl rfl rfl ?_
        refine vm (i := 27) (v := .slice q l.length d) rfl rfl rfl ?_
        refine vp (i := 28) (v := .int .i64 ((l.length : Nat) : Int)) rfl rfl rfl (run_lenL (p := q) (cap := d) (n := l.length) rfl Try.underlying26 (by kernel_rfl)) ?_
        refine vp (i := 29) (v := .int .i64 (((i - l.length) : Nat) : Int)) rfl rfl rfl (run_bin rfl (vx := (.int .i64 ((i : Nat) : Int))) (vy := (.int .i64 ((l.length : Nat) : Int))) (by kernel_rfl) (by kernel_rfl) fun w => bn_sub (z := (i - l.length)) rfl (by omega) (wr_i64 (by omega)) w) ?_
        refine vv (i := 30) (v := .agg (n5C (mkRow (i - l.length))).toArray) rfl rfl rfl (yb_call (f := 59) (args := #[.int .i64 1, .int .i64 (((i - l.length) : Nat) : Int)]) (fun _ => by kernel_rfl) fun W hW => markRow_any (i - l.length) (by omega) W) ?_
        refine vp (i := 31) (v := .bool true) rfl rfl rfl (run_bin rfl (vx := .agg (n5C y1).toArray) (vy := .agg (n5C (mkRow (i - l.length))).toArray) (by kernel_rfl) (by kernel_rfl) fun w => (by rw [row_mark hy1 h2]; exact eq_row (mkRow (i - l.length)) w)) ?_
        refine vm (i := 32) (v := .bool false) rfl rfl rfl ?_
        refine vm (i := 33) (v := .bool false) rfl rfl rfl ?_
        refine vm (i := 34) (v := .bool false) rfl rfl rfl ?_
        refine wpV_done (by kernel_rfl) (fun W8 hW8 => ?_) _
        refine (show Code.wp _ _ _ _ _ from ?_)
        refine wp_cond_false rfl ?_
        refine wp_skip ?_
        refine (show Code.wp _ _ _ _ _ from ?_)
        refine wp_region_L (W0 := w) [] (hW8) ?_
        refine lm (v := .int .i64 ((i : Nat) : Int)) rfl rfl ?_
        refine lp (v := .int .i64 (((i + 1) : Nat) : Int)) rfl rfl (run_bin rfl (vx := (.int .i64 ((i : Nat) : Int))) (vy := (.int .i64 ((1 : Nat) : Int))) (by kernel_rfl) (by kernel_rfl) fun w => bn_add (z := (i + 1)) rfl (wr_i64 (by omega)) w) ?_
        refine lm (v := .int .i64 (((i + 1) : Nat) : Int)) rfl rfl ?_
        refine wpL_done (fun W9 hW9 => ?_)
        go_roundw
        case rel =>
          repeat apply Exists.intro
          exact ⟨⟨i + 1, (by omega), rfl, (hW9.sub (fun p hp => by first | exact hp | (simp only [List.mem_cons, List.mem_append, List.nil_append, List.not_mem_nil, or_assoc, or_false, false_or] at hp ⊢ <;> grind)))⟩, rfl⟩
        case measure => (show l.length + 12 - (intOf (.int .i64 (((i + 1) : Nat) : Int))).toNat < l.length + 12 - (intOf (.int .i64 ((i : Nat) : Int))).toNat); simp only [intOf]; omega
      | true =>
        have h2 : i < l.length := of_decide_eq_true hd2
        clear hd2
        refine vm (i := 5) (v := .slice p (l.length + 12) c) rfl rfl rfl ?_
        refine vm (i := 6) (v := .int .i64 ((i : Nat) : Int)) rfl rfl rfl ?_
        obtain ⟨y2, g2_, f2_, hy2, hp2, hc2⟩ := RL.at (RL.base HP.out) n5C_len (by decide) (hW6.sub (fun _ h => by cases h)) (k := i) (by omega)
        refine vp (i := 7) (v := .pointer (some ⟨g2_, f2_ + i * 5, none⟩)) rfl rfl rfl (run_idxQ (p := p) (cap := c) (n := (l.length + 12)) (j := .i64) (k := i) (sz := 5) rfl Try.underlying26 (by kernel_rfl) (by kernel_rfl) hp2 (by kernel_rfl) (by omega)) ?_
        refine vb (i := 8) (v := .agg (n5C y2).toArray) rfl rfl rfl (yb_rs (off := f2_ + i * 5) (cs := n5C y2) rfl (by kernel_rfl) (fun W hW => hc2 W (hW.sub (fun _ h => by cases h))) Try.underlying82 rfl (by kernel_rfl)) ?_
        refine vm (i := 9) (v := .slice q l.length d) rfl rfl rfl ?_
        refine vm (i := 10) (v := .int .i64 ((i : Nat) : Int)) rfl rfl rfl ?_
        obtain ⟨y3, g3_, f3_, hy3, hp3, hc3⟩ := RL.at (RL.base HQ.out) n5C_len (by decide) (hW6.sub (fun _ h => by cases h)) (k := i) (by omega)
        refine vp (i := 11) (v := .pointer (some ⟨g3_, f3_ + i * 5, none⟩)) rfl rfl rfl (run_idxQ (p := q) (cap := d) (n := l.length) (j := .i64) (k := i) (sz := 5) rfl Try.underlying26 (by kernel_rfl) (by kernel_rfl) hp3 (by kernel_rfl) (by omega)) ?_
        refine vb (i := 12) (v := .agg (n5C y3).toArray) rfl rfl rfl (yb_rs (off := f3_ + i * 5) (cs := n5C y3) rfl (by kernel_rfl) (fun W hW => hc3 W (hW.sub (fun _ h => by cases h))) Try.underlying82 rfl (by kernel_rfl)) ?_
        refine vp (i := 13) (v := .bool true) rfl rfl rfl (run_bin rfl (vx := .agg (n5C y2).toArray) (vy := .agg (n5C y3).toArray) (by kernel_rfl) (by kernel_rfl) fun w => (by rw [kept_at hy2 hy3]; exact eq_row y3 w)) ?_
        refine vm (i := 14) (v := .bool false) rfl rfl rfl ?_
        refine vm (i := 15) (v := .bool false) rfl rfl rfl ?_
        refine vm (i := 16) (v := .bool false) rfl rfl rfl ?_
        refine vm (i := 17) (v := .int .i64 ((i : Nat) : Int)) rfl rfl rfl ?_
        refine vm (i := 18) (v := .slice q l.length d) rfl rfl rfl ?_
        refine vp (i := 19) (v := .int .i64 ((l.length : Nat) : Int)) rfl rfl rfl (run_lenL (p := q) (cap := d) (n := l.length) rfl Try.underlying26 (by kernel_rfl)) ?_
        refine vp (i := 20) (v := .bool false) rfl rfl rfl (run_bin rfl (vx := (.int .i64 ((i : Nat) : Int))) (vy := (.int .i64 ((l.length : Nat) : Int))) (by kernel_rfl) (by kernel_rfl) fun w => bn_geq (decide_eq_true (by assumption)) w) ?_
        refine vm (i := 21) (v := .bool false) rfl rfl rfl ?_
        refine vn (i := 22) rfl rfl ?_
        refine vn (i := 23) rfl rfl ?_
        refine vn (i := 24) rfl rfl ?_
        refine vn (i := 25) rfl rfl ?_
        refine vn (i := 26) rfl rfl ?_
        refine vn (i := 27) rfl rfl ?_
        refine vn (i := 28) rfl rfl ?_
        refine vn (i := 29) rfl rfl ?_
        refine vn (i := 30) rfl rfl ?_
        refine vn (i := 31) rfl rfl ?_
        refine vn (i := 32) rfl rfl ?_
        refine vm (i := 33) (v := .bool false) rfl rfl rfl ?_
        refine vm (i := 34) (v := .bool false) rfl rfl rfl ?_
        refine wpV_done (by kernel_rfl) (fun W10 hW10 => ?_) _
        refine (show Code.wp _ _ _ _ _ from ?_)
        refine wp_cond_false rfl ?_
        refine wp_skip ?_
        refine (show Code.wp _ _ _ _ _ from ?_)
        refine wp_region_L (W0 := w) [] (hW10) ?_
        refine lm (v := .int .i64 ((i : Nat) : Int)) rfl rfl ?_
        refine lp (v := .int .i64 (((i + 1) : Nat) : Int)) rfl rfl (run_bin rfl (vx := (.int .i64 ((i : Nat) : Int))) (vy := (.int .i64 ((1 : Nat) : Int))) (by kernel_rfl) (by kernel_rfl) fun w => bn_add (z := (i + 1)) rfl (wr_i64 (by omega)) w) ?_
        refine lm (v := .int .i64 (((i + 1) : Nat) : Int)) rfl rfl ?_
        refine wpL_done (fun W11 hW11 => ?_)
        go_roundw
        case rel =>
          repeat apply Exists.intro
          exact ⟨⟨i + 1, (by omega), rfl, (hW11.sub (fun p hp => by first | exact hp | (simp only [List.mem_cons, List.mem_append, List.nil_append, List.not_mem_nil, or_assoc, or_false, false_or] at hp ⊢ <;> grind)))⟩, rfl⟩
        case measure => (show l.length + 12 - (intOf (.int .i64 (((i + 1) : Nat) : Int))).toNat < l.length + 12 - (intOf (.int .i64 ((i : Nat) : Int))).toNat); simp only [intOf]; omega
set_option maxRecDepth 100000 in
set_option maxHeartbeats 4000000 in
theorem KeptFrames_any (l : List N5) (p q : Option Addr) (c d : Nat) (hl : l.length ≤ 3518437208780) (hc : l.length + 12 ≤ c) (w : World) (hp : SLV w p ((l ++ mkFraL 12).flatMap n5C)) (hq : SLV w q (l.flatMap n5C)) : Calls Try.prog 49 #[.slice p l.length c, .slice q l.length d] w fun e w' => e = .returned (.bool true) ∧ Below w.heap.size w w' := by
  have HP := Lib.hid hp
  clear hp
  have HQ := Lib.hid hq
  clear hq
  have hlen : (l ++ mkFraL 12).length = l.length + 12 := by rw [List.length_append, mkFraL_len]
  go_enter Try.func49, Try.ntmps49
  refine wp_seq ?_
  refine wp_region_L (W0 := w) [] (KS.start w) ?_
  refine lm (v := .bool false) rfl rfl ?_
  refine wpL_done (fun W1 hW1 => ?_)
  refine (show Code.wp _ _ _ _ _ from ?_)
  refine wp_seq ?_
  refine wp_seq ?_
  refine wp_region_L (W0 := w) [] (hW1) ?_
  refine lm (v := .slice p l.length c) rfl rfl ?_
  refine lp (v := .int .i64 ((l.length : Nat) : Int)) rfl rfl (run_lenL (p := p) (cap := c) (n := l.length) rfl Try.underlying27 (by kernel_rfl)) ?_
  refine lm (v := .slice q l.length d) rfl rfl ?_
  refine lp (v := .int .i64 ((l.length : Nat) : Int)) rfl rfl (run_lenL (p := q) (cap := d) (n := l.length) rfl Try.underlying27 (by kernel_rfl)) ?_
  refine lp (v := .bool false) rfl rfl (run_bin rfl (vx := (.int .i64 ((l.length : Nat) : Int))) (vy := (.int .i64 ((l.length : Nat) : Int))) (by kernel_rfl) (by kernel_rfl) fun w => bn_neq (decide_eq_true rfl) w) ?_
  refine wpL_done (fun W2 hW2 => ?_)
  refine (show Code.wp _ _ _ _ _ from ?_)
  refine wp_cond_false rfl ?_
  refine wp_skip ?_
  refine (show Code.wp _ _ _ _ _ from ?_)
  refine wp_seq ?_
  refine wp_region_L (W0 := w) [] (hW2) ?_
  refine lm (v := .slice p l.length c) rfl rfl ?_
  refine lm (v := .slice q l.length d) rfl rfl ?_
  refine lp (v := .int .i64 ((l.length : Nat) : Int)) rfl rfl (run_lenL (p := q) (cap := d) (n := l.length) rfl Try.underlying27 (by kernel_rfl)) ?_
  refine lp (v := .int .i64 (((l.length + 12) : Nat) : Int)) rfl rfl (run_bin rfl (vx := (.int .i64 ((l.length : Nat) : Int))) (vy := (.int .i64 ((12 : Nat) : Int))) (by kernel_rfl) (by kernel_rfl) fun w => bn_add (z := (l.length + 12)) rfl (wr_i64 (by omega)) w) ?_
  refine lp (v := .slice p (l.length + 12) c) rfl rfl (run_slt (kd := .i64) (j := (l.length + 12)) (n := l.length) (c := c) (sz := 5) rfl Try.underlying27 (by kernel_rfl) (by kernel_rfl) (by kernel_rfl) (by omega)) ?_
  refine lm (v := .slice p (l.length + 12) c) rfl rfl ?_
  refine wpL_done (fun W3 hW3 => ?_)
  refine (show Code.wp _ _ _ _ _ from ?_)
  refine wp_seq ?_
  refine wp_seq ?_
  refine wp_region_L (W0 := w) [] (hW3) ?_
  refine lm (v := .int .i64 0) rfl rfl ?_
  refine wpL_done (fun W4 hW4 => ?_)
  refine (show Code.wp _ _ _ _ _ from ?_)
  refine wp_block ?_
  go_loopw [6] (fun u6 wr => ∃ (i : Nat), (i ≤ l.length + 12) ∧ u6 = .int .i64 ((i : Nat) : Int) ∧ KS w [] wr) (fun u6 _ => l.length + 12 - (intOf u6).toNat)
  case atStart => exact ⟨0, (Nat.zero_le _), rfl, (hW4.sub (fun p hp => by first | exact hp | (simp only [List.mem_cons, List.mem_append, List.nil_append, List.not_mem_nil, or_assoc, or_false, false_or] at hp ⊢ <;> grind)))⟩
  case round =>
    obtain ⟨i, hi, rfl, hL5⟩ := hrel
    refine wp_seq ?_
    refine wp_seq ?_
    refine wp_region_L (W0 := w) [] (hL5) ?_
    refine lm (v := .int .i64 ((i : Nat) : Int)) rfl rfl ?_
    refine lm (v := .slice p (l.length + 12) c) rfl rfl ?_
    refine lp (v := .int .i64 (((l.length + 12) : Nat) : Int)) rfl rfl (run_lenL (p := p) (cap := c) (n := (l.length + 12)) rfl Try.underlying27 (by kernel_rfl)) ?_
    refine lp (v := .bool (decide (i < (l.length + 12)))) rfl rfl (run_bin rfl (vx := (.int .i64 ((i : Nat) : Int))) (vy := (.int .i64 (((l.length + 12) : Nat) : Int))) (by kernel_rfl) (by kernel_rfl) fun w => bn_lss rfl w) ?_
    refine wpL_done (fun W6 hW6 => ?_)
    refine (show Code.wp _ _ _ _ _ from ?_)
    cases hd1 : (decide (i < (l.length + 12))) with
    | false =>
      have h1 : ¬ (i < (l.length + 12)) := of_decide_eq_false hd1
      clear hd1
      refine wp_cond_false rfl ?_
      refine wp_exit ?_
      refine (show Code.wp _ _ _ _ _ from ?_)
      refine wp_seq ?_
      refine wp_region_L (W0 := w) [] (hW6) ?_
      refine lm (v := .bool true) rfl rfl ?_
      refine wpL_done (fun W7 hW7 => ?_)
      refine (show Code.wp _ _ _ _ _ from ?_)
      refine wp_ret ?_
      try simp only [inBlock_ret, then_ret]
      refine bodyPost_ret (v := .bool true) ?_ rfl ?_
      · kernel_rfl
      · exact ⟨rfl, hW7.1⟩
    | true =>
      have h1 : i < (l.length + 12) := of_decide_eq_true hd1
      clear hd1
      refine wp_cond_true rfl ?_
      refine wp_skip ?_
      refine (show Code.wp _ _ _ _ _ from ?_)
      refine wp_seq ?_
      refine wp_block ?_
      refine wp_seq ?_
      refine wp_region_V (W0 := w) [] (by kernel_rfl) (hW6) ?_
      refine vm (i := 0) (v := .int .i64 ((i : Nat) : Int)) rfl rfl rfl ?_
      refine vm (i := 1) (v := .slice q l.length d) rfl rfl rfl ?_
      refine vp (i := 2) (v := .int .i64 ((l.length : Nat) : Int)) rfl rfl rfl (run_lenL (p := q) (cap := d) (n := l.length) rfl Try.underlying27 (by kernel_rfl)) ?_
      refine vp (i := 3) (v := .bool (decide (i < l.length))) rfl rfl rfl (run_bin rfl (vx := (.int .i64 ((i : Nat) : Int))) (vy := (.int .i64 ((l.length : Nat) : Int))) (by kernel_rfl) (by kernel_rfl) fun w => bn_lss rfl w) ?_
      refine vm (i := 4) (v := .bool (decide (i < l.length))) rfl rfl rfl ?_
      cases hd2 : (decide (i < l.length)) with
      | false =>
        have h2 : ¬ (i < l.length) := of_decide_eq_false hd2
        clear hd2
        refine vn (i := 5) rfl rfl ?_
        refine vn (i := 6) rfl rfl ?_
        refine vn (i := 7) rfl rfl ?_
        refine vn (i := 8) rfl rfl ?_
        refine vn (i := 9) rfl rfl ?_
        refine vn (i := 10) rfl rfl ?_
        refine vn (i := 11) rfl rfl ?_
        refine vn (i := 12) rfl rfl ?_
        refine vn (i := 13) rfl rfl ?_
        refine vn (i := 14) rfl rfl ?_
        refine vm (i := 15) (v := .bool false) rfl rfl rfl ?_
        refine vm (i := 16) (v := .bool false) rfl rfl rfl ?_
        refine vm (i := 17) (v := .int .i64 ((i : Nat) : Int)) rfl rfl rfl ?_
        refine vm (i := 18) (v := .slice q l.length d) rfl rfl rfl ?_
        refine vp (i := 19) (v := .int .i64 ((l.length : Nat) : Int)) rfl rfl rfl (run_lenL (p := q) (cap := d) (n := l.length) rfl Try.underlying27 (by kernel_rfl)) ?_
        refine vp (i := 20) (v := .bool true) rfl rfl rfl (run_bin rfl (vx := (.int .i64 ((i : Nat) : Int))) (vy := (.int .i64 ((l.length : Nat) : Int))) (by kernel_rfl) (by kernel_rfl) fun w => bn_geq (decide_eq_false (by assumption)) w) ?_
        refine vm (i := 21) (v := .bool true) rfl rfl rfl ?_
        refine vm (i := 22) (v := .slice p (l.length + 12) c) rfl rfl rfl ?_
        refine vm (i := 23) (v := .int .i64 ((i : Nat) : Int)) rfl rfl rfl ?_
        obtain ⟨y1, g1_, f1_, hy1, hp1, hc1⟩ := RL.at (RL.base HP.out) n5C_len (by decide) (hW6.sub (fun _ h => by cases h)) (k := i) (by omega)
        refine vp (i := 24) (v := .pointer (some ⟨g1_, f1_ + i * 5, none⟩)) rfl rfl rfl (run_idxQ (p := p) (cap := c) (n := (l.length + 12)) (j := .i64) (k := i) (sz := 5) rfl Try.underlying27 (by kernel_rfl) (by kernel_rfl) hp1 (by kernel_rfl) (by omega)) ?_
        refine vb (i := 25) (v := .agg (n5C y1).toArray) rfl rfl rfl (yb_rs (off := f1_ + i * 5) (cs := n5C y1) rfl (by kernel_rfl) (fun W hW => hc1 W (hW.sub (fun _ h => by cases h))) Try.underlying85 rfl (by kernel_rfl)) ?_
        refine vm (i := 26) (v := .int .i64 ((i : Nat) : Int)) rfl rfl rfl ?_
        refine vm (i := 27) (v := .slice q l.length d) rfl rfl rfl ?_
        refine vp (i := 28) (v := .int .i64 ((l.length : Nat) : Int)) rfl rfl rfl (run_lenL (p := q) (cap := d) (n := l.length) rfl Try.underlying27 (by kernel_rfl)) ?_
        refine vp (i := 29) (v := .int .i64 (((i - l.length) : Nat) : Int)) rfl rfl rfl (run_bin rfl (vx := (.int .i64 ((i : Nat) : Int))) (vy := (.int .i64 ((l.length : Nat) : Int))) (by kernel_rfl) (by kernel_rfl) fun w => bn_sub (z := (i - l.length)) rfl (by omega) (wr_i64 (by omega)) w) ?_
        refine vv (i := 30) (v := .agg (n5C (mkFra (i - l.length))).toArray) rfl rfl rfl (yb_call (f := 60) (args := #[.int .i64 1, .int .i64 (((i - l.length) : Nat) : Int)]) (fun _ => by kernel_rfl) fun W hW => markFrame_any (i - l.length) (by omega) W) ?_
        refine vp (i := 31) (v := .bool true) rfl rfl rfl (run_bin rfl (vx := .agg (n5C y1).toArray) (vy := .agg (n5C (mkFra (i - l.length))).toArray) (by kernel_rfl) (by kernel_rfl) fun w => (by rw [fra_mark hy1 h2]; exact eq_fra (mkFra (i - l.length)) w)) ?_
        refine vm (i := 32) (v := .bool false) rfl rfl rfl ?_
        refine vm (i := 33) (v := .bool false) rfl rfl rfl ?_
        refine vm (i := 34) (v := .bool false) rfl rfl rfl ?_
        refine wpV_done (by kernel_rfl) (fun W8 hW8 => ?_) _
        refine (show Code.wp _ _ _ _ _ from ?_)
        refine wp_cond_false rfl ?_
        refine wp_skip ?_
        refine (show Code.wp _ _ _ _ _ from ?_)
        refine wp_region_L (W0 := w) [] (hW8) ?_
        refine lm (v := .int .i64 ((i : Nat) : Int)) rfl rfl ?_
        refine lp (v := .int .i64 (((i + 1) : Nat) : Int)) rfl rfl (run_bin rfl (vx := (.int .i64 ((i : Nat) : Int))) (vy := (.int .i64 ((1 : Nat) : Int))) (by kernel_rfl) (by kernel_rfl) fun w => bn_add (z := (i + 1)) rfl (wr_i64 (by omega)) w) ?_
        refine lm (v := .int .i64 (((i + 1) : Nat) : Int)) rfl rfl ?_
        refine wpL_done (fun W9 hW9 => ?_)
        go_roundw
        case rel =>
          repeat apply Exists.intro
          exact ⟨⟨i + 1, (by omega), rfl, (hW9.sub (fun p hp => by first | exact hp | (simp only [List.mem_cons, List.mem_append, List.nil_append, List.not_mem_nil, or_assoc, or_false, false_or] at hp ⊢ <;> grind)))⟩, rfl⟩
        case measure => (show l.length + 12 - (intOf (.int .i64 (((i + 1) : Nat) : Int))).toNat < l.length + 12 - (intOf (.int .i64 ((i : Nat) : Int))).toNat); simp only [intOf]; omega
      | true =>
        have h2 : i < l.length := of_decide_eq_true hd2
        clear hd2
        refine vm (i := 5) (v := .slice p (l.length + 12) c) rfl rfl rfl ?_
        refine vm (i := 6) (v := .int .i64 ((i : Nat) : Int)) rfl rfl rfl ?_
        obtain ⟨y2, g2_, f2_, hy2, hp2, hc2⟩ := RL.at (RL.base HP.out) n5C_len (by decide) (hW6.sub (fun _ h => by cases h)) (k := i) (by omega)
        refine vp (i := 7) (v := .pointer (some ⟨g2_, f2_ + i * 5, none⟩)) rfl rfl rfl (run_idxQ (p := p) (cap := c) (n := (l.length + 12)) (j := .i64) (k := i) (sz := 5) rfl Try.underlying27 (by kernel_rfl) (by kernel_rfl) hp2 (by kernel_rfl) (by omega)) ?_
        refine vb (i := 8) (v := .agg (n5C y2).toArray) rfl rfl rfl (yb_rs (off := f2_ + i * 5) (cs := n5C y2) rfl (by kernel_rfl) (fun W hW => hc2 W (hW.sub (fun _ h => by cases h))) Try.underlying85 rfl (by kernel_rfl)) ?_
        refine vm (i := 9) (v := .slice q l.length d) rfl rfl rfl ?_
        refine vm (i := 10) (v := .int .i64 ((i : Nat) : Int)) rfl rfl rfl ?_
        obtain ⟨y3, g3_, f3_, hy3, hp3, hc3⟩ := RL.at (RL.base HQ.out) n5C_len (by decide) (hW6.sub (fun _ h => by cases h)) (k := i) (by omega)
        refine vp (i := 11) (v := .pointer (some ⟨g3_, f3_ + i * 5, none⟩)) rfl rfl rfl (run_idxQ (p := q) (cap := d) (n := l.length) (j := .i64) (k := i) (sz := 5) rfl Try.underlying27 (by kernel_rfl) (by kernel_rfl) hp3 (by kernel_rfl) (by omega)) ?_
        refine vb (i := 12) (v := .agg (n5C y3).toArray) rfl rfl rfl (yb_rs (off := f3_ + i * 5) (cs := n5C y3) rfl (by kernel_rfl) (fun W hW => hc3 W (hW.sub (fun _ h => by cases h))) Try.underlying85 rfl (by kernel_rfl)) ?_
        refine vp (i := 13) (v := .bool true) rfl rfl rfl (run_bin rfl (vx := .agg (n5C y2).toArray) (vy := .agg (n5C y3).toArray) (by kernel_rfl) (by kernel_rfl) fun w => (by rw [kept_at hy2 hy3]; exact eq_fra y3 w)) ?_
        refine vm (i := 14) (v := .bool false) rfl rfl rfl ?_
        refine vm (i := 15) (v := .bool false) rfl rfl rfl ?_
        refine vm (i := 16) (v := .bool false) rfl rfl rfl ?_
        refine vm (i := 17) (v := .int .i64 ((i : Nat) : Int)) rfl rfl rfl ?_
        refine vm (i := 18) (v := .slice q l.length d) rfl rfl rfl ?_
        refine vp (i := 19) (v := .int .i64 ((l.length : Nat) : Int)) rfl rfl rfl (run_lenL (p := q) (cap := d) (n := l.length) rfl Try.underlying27 (by kernel_rfl)) ?_
        refine vp (i := 20) (v := .bool false) rfl rfl rfl (run_bin rfl (vx := (.int .i64 ((i : Nat) : Int))) (vy := (.int .i64 ((l.length : Nat) : Int))) (by kernel_rfl) (by kernel_rfl) fun w => bn_geq (decide_eq_true (by assumption)) w) ?_
        refine vm (i := 21) (v := .bool false) rfl rfl rfl ?_
        refine vn (i := 22) rfl rfl ?_
        refine vn (i := 23) rfl rfl ?_
        refine vn (i := 24) rfl rfl ?_
        refine vn (i := 25) rfl rfl ?_
        refine vn (i := 26) rfl rfl ?_
        refine vn (i := 27) rfl rfl ?_
        refine vn (i := 28) rfl rfl ?_
        refine vn (i := 29) rfl rfl ?_
        refine vn (i := 30) rfl rfl ?_
        refine vn (i := 31) rfl rfl ?_
        refine vn (i := 32) rfl rfl ?_
        refine vm (i := 33) (v := .bool false) rfl rfl rfl ?_
        refine vm (i := 34) (v := .bool false) rfl rfl rfl ?_
        refine wpV_done (by kernel_rfl) (fun W10 hW10 => ?_) _
        refine (show Code.wp _ _ _ _ _ from ?_)
        refine wp_cond_false rfl ?_
        refine wp_skip ?_
        refine (show Code.wp _ _ _ _ _ from ?_)
        refine wp_region_L (W0 := w) [] (hW10) ?_
        refine lm (v := .int .i64 ((i : Nat) : Int)) rfl rfl ?_
        refine lp (v := .int .i64 (((i + 1) : Nat) : Int)) rfl rfl (run_bin rfl (vx := (.int .i64 ((i : Nat) : Int))) (vy := (.int .i64 ((1 : Nat) : Int))) (by kernel_rfl) (by kernel_rfl) fun w => bn_add (z := (i + 1)) rfl (wr_i64 (by omega)) w) ?_
        refine lm (v := .int .i64 (((i + 1) : Nat) : Int)) rfl rfl ?_
        refine wpL_done (fun W11 hW11 => ?_)
        go_roundw
        case rel =>
          repeat apply Exists.intro
          exact ⟨⟨i + 1, (by omega), rfl, (hW11.sub (fun p hp => by first | exact hp | (simp only [List.mem_cons, List.mem_append, List.nil_append, List.not_mem_nil, or_assoc, or_false, false_or] at hp ⊢ <;> grind)))⟩, rfl⟩
        case measure => (show l.length + 12 - (intOf (.int .i64 (((i + 1) : Nat) : Int))).toNat < l.length + 12 - (intOf (.int .i64 ((i : Nat) : Int))).toNat); simp only [intOf]; omega
set_option maxRecDepth 100000 in
set_option maxHeartbeats 4000000 in
theorem SameRows_any (l : List N5) (p q : Option Addr) (c d : Nat) (hl : l.length ≤ 3518437208780) (w : World) (hp : SLV w p (l.flatMap n5C)) (hq : SLV w q (l.flatMap n5C)) : Calls Try.prog 71 #[.slice p l.length c, .slice q l.length d] w fun e w' => e = .returned (.bool true) ∧ Below w.heap.size w w' := by
  have HP := Lib.hid hp
  clear hp
  have HQ := Lib.hid hq
  clear hq
  go_enter Try.func71, Try.ntmps71
  refine wp_seq ?_
  refine wp_region_L (W0 := w) [] (KS.start w) ?_
  refine lm (v := .bool false) rfl rfl ?_
  refine wpL_done (fun W1 hW1 => ?_)
  refine (show Code.wp _ _ _ _ _ from ?_)
  refine wp_seq ?_
  refine wp_seq ?_
  refine wp_region_L (W0 := w) [] (hW1) ?_
  refine lm (v := .slice p l.length c) rfl rfl ?_
  refine lp (v := .int .i64 ((l.length : Nat) : Int)) rfl rfl (run_lenL (p := p) (cap := c) (n := l.length) rfl Try.underlying26 (by kernel_rfl)) ?_
  refine lm (v := .slice q l.length d) rfl rfl ?_
  refine lp (v := .int .i64 ((l.length : Nat) : Int)) rfl rfl (run_lenL (p := q) (cap := d) (n := l.length) rfl Try.underlying26 (by kernel_rfl)) ?_
  refine lp (v := .bool false) rfl rfl (run_bin rfl (vx := (.int .i64 ((l.length : Nat) : Int))) (vy := (.int .i64 ((l.length : Nat) : Int))) (by kernel_rfl) (by kernel_rfl) fun w => bn_neq (decide_eq_true rfl) w) ?_
  refine wpL_done (fun W2 hW2 => ?_)
  refine (show Code.wp _ _ _ _ _ from ?_)
  refine wp_cond_false rfl ?_
  refine wp_skip ?_
  refine (show Code.wp _ _ _ _ _ from ?_)
  refine wp_seq ?_
  refine wp_seq ?_
  refine wp_region_L (W0 := w) [] (hW2) ?_
  refine lm (v := .int .i64 0) rfl rfl ?_
  refine wpL_done (fun W3 hW3 => ?_)
  refine (show Code.wp _ _ _ _ _ from ?_)
  refine wp_block ?_
  go_loopw [5] (fun u5 wr => ∃ (i : Nat), (i ≤ l.length) ∧ u5 = .int .i64 ((i : Nat) : Int) ∧ KS w [] wr) (fun u5 _ => l.length - (intOf u5).toNat)
  case atStart => exact ⟨0, (Nat.zero_le _), rfl, (hW3.sub (fun p hp => by first | exact hp | (simp only [List.mem_cons, List.mem_append, List.nil_append, List.not_mem_nil, or_assoc, or_false, false_or] at hp ⊢ <;> grind)))⟩
  case round =>
    obtain ⟨i, hi, rfl, hL4⟩ := hrel
    refine wp_seq ?_
    refine wp_seq ?_
    refine wp_region_L (W0 := w) [] (hL4) ?_
    refine lm (v := .int .i64 ((i : Nat) : Int)) rfl rfl ?_
    refine lm (v := .slice p l.length c) rfl rfl ?_
    refine lp (v := .int .i64 ((l.length : Nat) : Int)) rfl rfl (run_lenL (p := p) (cap := c) (n := l.length) rfl Try.underlying26 (by kernel_rfl)) ?_
    refine lp (v := .bool (decide (i < l.length))) rfl rfl (run_bin rfl (vx := (.int .i64 ((i : Nat) : Int))) (vy := (.int .i64 ((l.length : Nat) : Int))) (by kernel_rfl) (by kernel_rfl) fun w => bn_lss rfl w) ?_
    refine wpL_done (fun W5 hW5 => ?_)
    refine (show Code.wp _ _ _ _ _ from ?_)
    cases hd1 : (decide (i < l.length)) with
    | false =>
      have h1 : ¬ (i < l.length) := of_decide_eq_false hd1
      clear hd1
      refine wp_cond_false rfl ?_
      refine wp_exit ?_
      refine (show Code.wp _ _ _ _ _ from ?_)
      refine wp_seq ?_
      refine wp_region_L (W0 := w) [] (hW5) ?_
      refine lm (v := .bool true) rfl rfl ?_
      refine wpL_done (fun W6 hW6 => ?_)
      refine (show Code.wp _ _ _ _ _ from ?_)
      refine wp_ret ?_
      try simp only [inBlock_ret, then_ret]
      refine bodyPost_ret (v := .bool true) ?_ rfl ?_
      · kernel_rfl
      · exact ⟨rfl, hW6.1⟩
    | true =>
      have h1 : i < l.length := of_decide_eq_true hd1
      clear hd1
      refine wp_cond_true rfl ?_
      refine wp_skip ?_
      refine (show Code.wp _ _ _ _ _ from ?_)
      refine wp_seq ?_
      refine wp_block ?_
      refine wp_seq ?_
      refine wp_region_V (W0 := w) [] (by kernel_rfl) (hW5) ?_
      refine vm (i := 0) (v := .slice p l.length c) rfl rfl rfl ?_
      refine vm (i := 1) (v := .int .i64 ((i : Nat) : Int)) rfl rfl rfl ?_
      obtain ⟨y1, g1_, f1_, hy1, hp1, hc1⟩ := RL.at (RL.base HP.out) n5C_len (by decide) (hW5.sub (fun _ h => by cases h)) (k := i) (by omega)
      refine vp (i := 2) (v := .pointer (some ⟨g1_, f1_ + i * 5, none⟩)) rfl rfl rfl (run_idxQ (p := p) (cap := c) (n := l.length) (j := .i64) (k := i) (sz := 5) rfl Try.underlying26 (by kernel_rfl) (by kernel_rfl) hp1 (by kernel_rfl) (by omega)) ?_
      refine vb (i := 3) (v := .agg (n5C y1).toArray) rfl rfl rfl (yb_rs (off := f1_ + i * 5) (cs := n5C y1) rfl (by kernel_rfl) (fun W hW => hc1 W (hW.sub (fun _ h => by cases h))) Try.underlying82 rfl (by kernel_rfl)) ?_
      refine vm (i := 4) (v := .slice q l.length d) rfl rfl rfl ?_
      refine vm (i := 5) (v := .int .i64 ((i : Nat) : Int)) rfl rfl rfl ?_
      obtain ⟨y2, g2_, f2_, hy2, hp2, hc2⟩ := RL.at (RL.base HQ.out) n5C_len (by decide) (hW5.sub (fun _ h => by cases h)) (k := i) (by omega)
      refine vp (i := 6) (v := .pointer (some ⟨g2_, f2_ + i * 5, none⟩)) rfl rfl rfl (run_idxQ (p := q) (cap := d) (n := l.length) (j := .i64) (k := i) (sz := 5) rfl Try.underlying26 (by kernel_rfl) (by kernel_rfl) hp2 (by kernel_rfl) (by omega)) ?_
      refine vb (i := 7) (v := .agg (n5C y2).toArray) rfl rfl rfl (yb_rs (off := f2_ + i * 5) (cs := n5C y2) rfl (by kernel_rfl) (fun W hW => hc2 W (hW.sub (fun _ h => by cases h))) Try.underlying82 rfl (by kernel_rfl)) ?_
      refine vp (i := 8) (v := .bool false) rfl rfl rfl (run_bin rfl (vx := .agg (n5C y1).toArray) (vy := .agg (n5C y2).toArray) (by kernel_rfl) (by kernel_rfl) fun w => (by rw [show y1 = y2 from Option.some.inj (hy1.symm.trans hy2)]; exact ne_row y2 w)) ?_
      refine wpV_done (by kernel_rfl) (fun W7 hW7 => ?_) _
      refine (show Code.wp _ _ _ _ _ from ?_)
      refine wp_cond_false rfl ?_
      refine wp_skip ?_
      refine (show Code.wp _ _ _ _ _ from ?_)
      refine wp_region_L (W0 := w) [] (hW7) ?_
      refine lm (v := .int .i64 ((i : Nat) : Int)) rfl rfl ?_
      refine lp (v := .int .i64 (((i + 1) : Nat) : Int)) rfl rfl (run_bin rfl (vx := (.int .i64 ((i : Nat) : Int))) (vy := (.int .i64 ((1 : Nat) : Int))) (by kernel_rfl) (by kernel_rfl) fun w => bn_add (z := (i + 1)) rfl (wr_i64 (by omega)) w) ?_
      refine lm (v := .int .i64 (((i + 1) : Nat) : Int)) rfl rfl ?_
      refine wpL_done (fun W8 hW8 => ?_)
      go_roundw
      case rel =>
        repeat apply Exists.intro
        exact ⟨⟨i + 1, (by omega), rfl, (hW8.sub (fun p hp => by first | exact hp | (simp only [List.mem_cons, List.mem_append, List.nil_append, List.not_mem_nil, or_assoc, or_false, false_or] at hp ⊢ <;> grind)))⟩, rfl⟩
      case measure => (show l.length - (intOf (.int .i64 (((i + 1) : Nat) : Int))).toNat < l.length - (intOf (.int .i64 ((i : Nat) : Int))).toNat); simp only [intOf]; omega
set_option maxRecDepth 100000 in
set_option maxHeartbeats 4000000 in
theorem SameFrames_any (l : List N5) (p q : Option Addr) (c d : Nat) (hl : l.length ≤ 3518437208780) (w : World) (hp : SLV w p (l.flatMap n5C)) (hq : SLV w q (l.flatMap n5C)) : Calls Try.prog 72 #[.slice p l.length c, .slice q l.length d] w fun e w' => e = .returned (.bool true) ∧ Below w.heap.size w w' := by
  have HP := Lib.hid hp
  clear hp
  have HQ := Lib.hid hq
  clear hq
  go_enter Try.func72, Try.ntmps72
  refine wp_seq ?_
  refine wp_region_L (W0 := w) [] (KS.start w) ?_
  refine lm (v := .bool false) rfl rfl ?_
  refine wpL_done (fun W1 hW1 => ?_)
  refine (show Code.wp _ _ _ _ _ from ?_)
  refine wp_seq ?_
  refine wp_seq ?_
  refine wp_region_L (W0 := w) [] (hW1) ?_
  refine lm (v := .slice p l.length c) rfl rfl ?_
  refine lp (v := .int .i64 ((l.length : Nat) : Int)) rfl rfl (run_lenL (p := p) (cap := c) (n := l.length) rfl Try.underlying27 (by kernel_rfl)) ?_
  refine lm (v := .slice q l.length d) rfl rfl ?_
  refine lp (v := .int .i64 ((l.length : Nat) : Int)) rfl rfl (run_lenL (p := q) (cap := d) (n := l.length) rfl Try.underlying27 (by kernel_rfl)) ?_
  refine lp (v := .bool false) rfl rfl (run_bin rfl (vx := (.int .i64 ((l.length : Nat) : Int))) (vy := (.int .i64 ((l.length : Nat) : Int))) (by kernel_rfl) (by kernel_rfl) fun w => bn_neq (decide_eq_true rfl) w) ?_
  refine wpL_done (fun W2 hW2 => ?_)
  refine (show Code.wp _ _ _ _ _ from ?_)
  refine wp_cond_false rfl ?_
  refine wp_skip ?_
  refine (show Code.wp _ _ _ _ _ from ?_)
  refine wp_seq ?_
  refine wp_seq ?_
  refine wp_region_L (W0 := w) [] (hW2) ?_
  refine lm (v := .int .i64 0) rfl rfl ?_
  refine wpL_done (fun W3 hW3 => ?_)
  refine (show Code.wp _ _ _ _ _ from ?_)
  refine wp_block ?_
  go_loopw [5] (fun u5 wr => ∃ (i : Nat), (i ≤ l.length) ∧ u5 = .int .i64 ((i : Nat) : Int) ∧ KS w [] wr) (fun u5 _ => l.length - (intOf u5).toNat)
  case atStart => exact ⟨0, (Nat.zero_le _), rfl, (hW3.sub (fun p hp => by first | exact hp | (simp only [List.mem_cons, List.mem_append, List.nil_append, List.not_mem_nil, or_assoc, or_false, false_or] at hp ⊢ <;> grind)))⟩
  case round =>
    obtain ⟨i, hi, rfl, hL4⟩ := hrel
    refine wp_seq ?_
    refine wp_seq ?_
    refine wp_region_L (W0 := w) [] (hL4) ?_
    refine lm (v := .int .i64 ((i : Nat) : Int)) rfl rfl ?_
    refine lm (v := .slice p l.length c) rfl rfl ?_
    refine lp (v := .int .i64 ((l.length : Nat) : Int)) rfl rfl (run_lenL (p := p) (cap := c) (n := l.length) rfl Try.underlying27 (by kernel_rfl)) ?_
    refine lp (v := .bool (decide (i < l.length))) rfl rfl (run_bin rfl (vx := (.int .i64 ((i : Nat) : Int))) (vy := (.int .i64 ((l.length : Nat) : Int))) (by kernel_rfl) (by kernel_rfl) fun w => bn_lss rfl w) ?_
    refine wpL_done (fun W5 hW5 => ?_)
    refine (show Code.wp _ _ _ _ _ from ?_)
    cases hd1 : (decide (i < l.length)) with
    | false =>
      have h1 : ¬ (i < l.length) := of_decide_eq_false hd1
      clear hd1
      refine wp_cond_false rfl ?_
      refine wp_exit ?_
      refine (show Code.wp _ _ _ _ _ from ?_)
      refine wp_seq ?_
      refine wp_region_L (W0 := w) [] (hW5) ?_
      refine lm (v := .bool true) rfl rfl ?_
      refine wpL_done (fun W6 hW6 => ?_)
      refine (show Code.wp _ _ _ _ _ from ?_)
      refine wp_ret ?_
      try simp only [inBlock_ret, then_ret]
      refine bodyPost_ret (v := .bool true) ?_ rfl ?_
      · kernel_rfl
      · exact ⟨rfl, hW6.1⟩
    | true =>
      have h1 : i < l.length := of_decide_eq_true hd1
      clear hd1
      refine wp_cond_true rfl ?_
      refine wp_skip ?_
      refine (show Code.wp _ _ _ _ _ from ?_)
      refine wp_seq ?_
      refine wp_block ?_
      refine wp_seq ?_
      refine wp_region_V (W0 := w) [] (by kernel_rfl) (hW5) ?_
      refine vm (i := 0) (v := .slice p l.length c) rfl rfl rfl ?_
      refine vm (i := 1) (v := .int .i64 ((i : Nat) : Int)) rfl rfl rfl ?_
      obtain ⟨y1, g1_, f1_, hy1, hp1, hc1⟩ := RL.at (RL.base HP.out) n5C_len (by decide) (hW5.sub (fun _ h => by cases h)) (k := i) (by omega)
      refine vp (i := 2) (v := .pointer (some ⟨g1_, f1_ + i * 5, none⟩)) rfl rfl rfl (run_idxQ (p := p) (cap := c) (n := l.length) (j := .i64) (k := i) (sz := 5) rfl Try.underlying27 (by kernel_rfl) (by kernel_rfl) hp1 (by kernel_rfl) (by omega)) ?_
      refine vb (i := 3) (v := .agg (n5C y1).toArray) rfl rfl rfl (yb_rs (off := f1_ + i * 5) (cs := n5C y1) rfl (by kernel_rfl) (fun W hW => hc1 W (hW.sub (fun _ h => by cases h))) Try.underlying85 rfl (by kernel_rfl)) ?_
      refine vm (i := 4) (v := .slice q l.length d) rfl rfl rfl ?_
      refine vm (i := 5) (v := .int .i64 ((i : Nat) : Int)) rfl rfl rfl ?_
      obtain ⟨y2, g2_, f2_, hy2, hp2, hc2⟩ := RL.at (RL.base HQ.out) n5C_len (by decide) (hW5.sub (fun _ h => by cases h)) (k := i) (by omega)
      refine vp (i := 6) (v := .pointer (some ⟨g2_, f2_ + i * 5, none⟩)) rfl rfl rfl (run_idxQ (p := q) (cap := d) (n := l.length) (j := .i64) (k := i) (sz := 5) rfl Try.underlying27 (by kernel_rfl) (by kernel_rfl) hp2 (by kernel_rfl) (by omega)) ?_
      refine vb (i := 7) (v := .agg (n5C y2).toArray) rfl rfl rfl (yb_rs (off := f2_ + i * 5) (cs := n5C y2) rfl (by kernel_rfl) (fun W hW => hc2 W (hW.sub (fun _ h => by cases h))) Try.underlying85 rfl (by kernel_rfl)) ?_
      refine vp (i := 8) (v := .bool false) rfl rfl rfl (run_bin rfl (vx := .agg (n5C y1).toArray) (vy := .agg (n5C y2).toArray) (by kernel_rfl) (by kernel_rfl) fun w => (by rw [show y1 = y2 from Option.some.inj (hy1.symm.trans hy2)]; exact ne_fra y2 w)) ?_
      refine wpV_done (by kernel_rfl) (fun W7 hW7 => ?_) _
      refine (show Code.wp _ _ _ _ _ from ?_)
      refine wp_cond_false rfl ?_
      refine wp_skip ?_
      refine (show Code.wp _ _ _ _ _ from ?_)
      refine wp_region_L (W0 := w) [] (hW7) ?_
      refine lm (v := .int .i64 ((i : Nat) : Int)) rfl rfl ?_
      refine lp (v := .int .i64 (((i + 1) : Nat) : Int)) rfl rfl (run_bin rfl (vx := (.int .i64 ((i : Nat) : Int))) (vy := (.int .i64 ((1 : Nat) : Int))) (by kernel_rfl) (by kernel_rfl) fun w => bn_add (z := (i + 1)) rfl (wr_i64 (by omega)) w) ?_
      refine lm (v := .int .i64 (((i + 1) : Nat) : Int)) rfl rfl ?_
      refine wpL_done (fun W8 hW8 => ?_)
      go_roundw
      case rel =>
        repeat apply Exists.intro
        exact ⟨⟨i + 1, (by omega), rfl, (hW8.sub (fun p hp => by first | exact hp | (simp only [List.mem_cons, List.mem_append, List.nil_append, List.not_mem_nil, or_assoc, or_false, false_or] at hp ⊢ <;> grind)))⟩, rfl⟩
      case measure => (show l.length - (intOf (.int .i64 (((i + 1) : Nat) : Int))).toNat < l.length - (intOf (.int .i64 ((i : Nat) : Int))).toNat); simp only [intOf]; omega
end Go.Proofs.Ythpooalhibedpaa
/- A ship that was lent. -/
namespace Go.Proofs.Ythpooalhibedpaa
open Go Go.RowKit Tw
def NewF (F : List (Nat × Obj) → Value → Prop) (W0 : Base) (K : List (Nat × Obj)) (v : Value) (K' : List (Nat × Obj)) : Prop :=
  ∃ T, F T v ∧ (∀ b ∈ T, W0.B ≤ b.1) ∧ (∀ p ∈ K, ∀ q ∈ T, q.1 ≠ p.1) ∧ K' = K ++ T
theorem NewF.sub {F : List (Nat × Obj) → Value → Prop} {W0 : Base} {K K' : List (Nat × Obj)} {v : Value} (h : NewF F W0 K v K') : ∀ p ∈ K, p ∈ K' := by
  obtain ⟨_, _, _, _, rfl⟩ := h
  exact fun p hp => List.mem_append_left _ hp
theorem calls_new {P : Program} {W0 : Base} {K : List (Nat × Obj)} {W : World} {F : List (Nat × Obj) → Value → Prop} {f : FuncId} {args : Array Value} (hW : KS W0 K W) (h : Calls P f args W fun e w' => ∃ v T, e = .returned v ∧ F T v ∧ (∀ b ∈ T, W.heap.size ≤ b.1) ∧ KS (W : Base) T w') :
    Calls P f args W fun e w' => ∃ v K', e = .returned v ∧ KS W0 K' w' ∧ NewF F W0 K v K' :=
  h.mono fun e w' ⟨v, T, he, hF, hn, hk⟩ => by
    have hK := hW.below hk.1
    refine ⟨v, _, he, ⟨hK.1, fun p hp => ?_⟩, T, hF, fun b hb => Nat.le_trans hW.size (hn b hb), fun p hp q hq e => ?_, rfl⟩
    · rcases List.mem_append.1 hp with h | h
      · exact hK.2 p h
      · exact hk.2 p h
    · have h1 := lt_of_block (hW.2 p hp)
      have h2 := hn q hq
      omega
def FC (cs : List Col) (T : List (Nat × Obj)) (v : Value) : Prop := ∃ X q d, v = .slice q cs.length d ∧ cs.length + 12 ≤ d ∧ X.length = cs.length ∧ LentC cs X T ∧ HL colC q (X ++ mkColL 12) T
def FO (os : List Cov) (T : List (Nat × Obj)) (v : Value) : Prop := ∃ X q d, v = .slice q os.length d ∧ os.length + 12 ≤ d ∧ X.length = os.length ∧ LentO os X T ∧ HL covC q (X ++ mkCovL 12) T
def FT (ts : List Tk) (T : List (Nat × Obj)) (v : Value) : Prop := ∃ X q d, v = .slice q ts.length d ∧ ts.length + 12 ≤ d ∧ X.length = ts.length ∧ LentT ts X T ∧ HL tkC q (X ++ mkTnkL 12) T
def FN (m l : List N5) (T : List (Nat × Obj)) (v : Value) : Prop := ∃ q d, v = .slice q l.length d ∧ l.length + 12 ≤ d ∧ HL n5C q (l ++ m) T
theorem fn_of {P : Program} {m l : List N5} {f : FuncId} {args : Array Value} {W : World} {E : TypeId} (h : Calls P f args W fun e w' => ∃ q d, e = .returned (.slice q l.length d) ∧ l.length + 12 ≤ d ∧ OutV W w' E 5 (.slice q (l ++ m).length d) (l ++ m).length ((l ++ m).flatMap n5C) ∧ Below W.heap.size W w') :
    Calls P f args W fun e w' => ∃ v T, e = .returned v ∧ FN m l T v ∧ (∀ b ∈ T, W.heap.size ≤ b.1) ∧ KS (W : Base) T w' :=
  h.mono fun e w' ⟨q, d, he, hd, hO, hb⟩ => by
    obtain ⟨Kl, h1, _, h3⟩ := hO.own (KS.start W) hb
    exact ⟨_, Kl, he, ⟨q, d, rfl, hd, own_hl h1⟩, own_new h1, h3⟩
structure LentSp (s t : Sp) (T : List (Nat × Obj)) : Prop where
  rest : t.li = s.li ∧ t.lm = s.lm ∧ t.rs = s.rs ∧ t.fs = s.fs
  cs : t.cs.length = s.cs.length ∧ LentC s.cs t.cs T ∧ HL colC t.pc (t.cs ++ mkColL 12) T ∧ s.cs.length + 12 ≤ t.cc
  os : t.os.length = s.os.length ∧ LentO s.os t.os T ∧ HL covC t.po (t.os ++ mkCovL 12) T ∧ s.os.length + 12 ≤ t.co
  ts : t.ts.length = s.ts.length ∧ LentT s.ts t.ts T ∧ HL tkC t.pt (t.ts ++ mkTnkL 12) T ∧ s.ts.length + 12 ≤ t.ct
  rs : HL n5C t.pr (s.rs ++ mkRowL 12) T ∧ s.rs.length + 12 ≤ t.cr
  fs : HL n5C t.pf (s.fs ++ mkFraL 12) T ∧ s.fs.length + 12 ≤ t.cf
structure SpIn (W : World) (s : Sp) : Prop where
  nc : s.cs.length ≤ 1000000
  no : s.os.length ≤ 1000000
  np : ∀ o ∈ s.cs, o.plugs.length ≤ 1000000
  nr : ∀ o ∈ s.os, o.rows.length ≤ 1000000
  nrs : s.rs.length ≤ 3518437208780
  nfs : s.fs.length ≤ 3518437208780
  nts : s.ts.length ≤ 2199023255488
  nst : ∀ o ∈ s.ts, o.steps.length ≤ 17592186044403
  hc : SLV W s.pc (s.cs.flatMap colC)
  ho : SLV W s.po (s.os.flatMap covC)
  hp : PlR W s.cs
  hr : RwR W s.os
  hrs : SLV W s.pr (s.rs.flatMap n5C)
  hfs : SLV W s.pf (s.fs.flatMap n5C)
  hts : SLV W s.pt (s.ts.flatMap tkC)
  hst : StR W s.ts
theorem StR.keep {W W' : World} {ts : List Tk} (h : StR W ts) (hb : Below W.heap.size W W') : StR W' ts := fun c hc => (h c hc).keep hb
end Go.Proofs.Ythpooalhibedpaa
namespace Go.Proofs.Ythpooalhibedpaa
open Go Go.RowKit Tw
set_option maxRecDepth 100000 in
set_option maxHeartbeats 4000000 in
theorem LentShip_any (s : Sp) (w : World) (hs : SpIn w s) : Calls Try.prog 7 #[.agg (spC s).toArray] w fun e w' => ∃ t T, e = .returned (.agg (spC t).toArray) ∧ LentSp s t T ∧ (∀ b ∈ T, w.heap.size ≤ b.1) ∧ KS (w : Base) T w' := by
  go_enter Try.func7, Try.ntmps7
  refine wp_seq ?_
  refine wp_region_L (W0 := w) [] (KS.start w) ?_
  refine wpL_new (fun g => .pointer (some ⟨g, 0, none⟩)) (obi := .cells #[.slice s.pc s.cs.length s.cc, .slice s.po s.os.length s.co, .int .i64 s.li.a, .int .i64 s.li.b, .int .i64 s.li.c, .int .i64 s.li.d, .slice s.pr s.rs.length s.cr, .slice s.pf s.fs.length s.cf, .slice s.pt s.ts.length s.ct, .int .i64 s.lm.a, .int .i64 s.lm.b, .int .i64 s.lm.c, .int .i64 s.lm.d] 32 (0, 0)) rfl rfl (fun _ => by kernel_rfl) (fun _ => by simp only [List.setIfInBounds_toArray, List.set_cons_succ, List.set_cons_zero] <;> rfl) fun g1 Bg1 Fg1 => ?_
  refine wpL_new (fun g => .pointer (some ⟨g, 0, none⟩)) (obi := .cells (shC (.slice none 0 0) (.slice none 0 0) tl0).toArray 32 (0, 0)) rfl rfl (fun _ => by kernel_rfl) (fun _ => by simp only [List.setIfInBounds_toArray, List.set_cons_succ, List.set_cons_zero] <;> rfl) fun g2 Bg2 Fg2 => ?_
  obtain dj3_0 : g1 ≠ g2 := by simpa only [dj_app_l, dj_app_r, dj_cons_l, dj_cons_r, dj_nil_l, dj_nil_r, dk_app, dk_cons, dk_nil, and_true, true_and, and_assoc] using (show Dk g2 [(g1, .cells #[.slice s.pc s.cs.length s.cc, .slice s.po s.os.length s.co, .int .i64 s.li.a, .int .i64 s.li.b, .int .i64 s.li.c, .int .i64 s.li.d, .slice s.pr s.rs.length s.cr, .slice s.pf s.fs.length s.cf, .slice s.pt s.ts.length s.ct, .int .i64 s.lm.a, .int .i64 s.lm.b, .int .i64 s.lm.c, .int .i64 s.lm.d] 32 (0, 0))] from Fg2)
  refine wpL_done (fun W1 hW1 => ?_)
  refine (show Code.wp _ _ _ _ _ from ?_)
  refine wp_seq ?_
  refine wp_region_L (W0 := w) [(g2, .cells (shC (.slice none 0 0) (.slice none 0 0) tl0).toArray 32 (0, 0)), (g1, .cells #[.slice s.pc s.cs.length s.cc, .slice s.po s.os.length s.co, .int .i64 s.li.a, .int .i64 s.li.b, .int .i64 s.li.c, .int .i64 s.li.d, .slice s.pr s.rs.length s.cr, .slice s.pf s.fs.length s.cf, .slice s.pt s.ts.length s.ct, .int .i64 s.lm.a, .int .i64 s.lm.b, .int .i64 s.lm.c, .int .i64 s.lm.d] 32 (0, 0))] (hW1) ?_
  refine lm (v := .pointer (some ⟨g1, 0, none⟩)) rfl rfl ?_
  refine lv (v := .slice s.pc s.cs.length s.cc) rfl rfl (yb_cell (off := 0) rfl (by kernel_rfl) (.tail _ (.head _)) Try.underlying22 rfl (by kernel_rfl)) ?_
  refine wpL_c (f := 28) (args := #[.slice s.pc s.cs.length s.cc]) (NewF (FC s.cs) w [(g2, .cells (shC (.slice none 0 0) (.slice none 0 0) tl0).toArray 32 (0, 0)), (g1, .cells #[.slice s.pc s.cs.length s.cc, .slice s.po s.os.length s.co, .int .i64 s.li.a, .int .i64 s.li.b, .int .i64 s.li.c, .int .i64 s.li.d, .slice s.pr s.rs.length s.cr, .slice s.pf s.fs.length s.cf, .slice s.pt s.ts.length s.ct, .int .i64 s.lm.a, .int .i64 s.lm.b, .int .i64 s.lm.c, .int .i64 s.lm.d] 32 (0, 0))]) rfl (by kernel_rfl) (fun _ => (by kernel_rfl)) (fun W hW => calls_new hW ((LentColumns_any s.cs s.pc s.cc hs.nc hs.np W (hs.hc.keep hW.1) (hs.hp.keep hW.1)).mono fun _ _ ⟨X, q, d, T, h1, h2, h3, h4, h5, h6, h7⟩ => ⟨_, T, h1, ⟨X, q, d, rfl, h2, h3, h4, h5⟩, h6, h7⟩)) (fun _ => by simp only [List.setIfInBounds_toArray, List.set_cons_succ, List.set_cons_zero] <;> rfl) ?_
  rintro _ _ ⟨T4, ⟨X4, p4, c4, rfl, n4, x4, L4, H4⟩, b4, N4, rfl⟩
  obtain ⟨dj5_0, dj5_1⟩ : Dk g2 T4 ∧ Dk g1 T4 := by simpa only [dj_app_l, dj_app_r, dj_cons_l, dj_cons_r, dj_nil_l, dj_nil_r, dk_app, dk_cons, dk_nil, and_true, true_and, and_assoc] using (show Dj [(g2, .cells (shC (.slice none 0 0) (.slice none 0 0) tl0).toArray 32 (0, 0)), (g1, .cells #[.slice s.pc s.cs.length s.cc, .slice s.po s.os.length s.co, .int .i64 s.li.a, .int .i64 s.li.b, .int .i64 s.li.c, .int .i64 s.li.d, .slice s.pr s.rs.length s.cr, .slice s.pf s.fs.length s.cf, .slice s.pt s.ts.length s.ct, .int .i64 s.lm.a, .int .i64 s.lm.b, .int .i64 s.lm.c, .int .i64 s.lm.d] 32 (0, 0))] T4 from N4)
  refine lm (v := .pointer (some ⟨g1, 0, none⟩)) rfl rfl ?_
  refine wpL_s ((g2, .cells (shC (.slice none 0 0) (.slice none 0 0) tl0).toArray 32 (0, 0)) :: (g1, .cells #[.slice p4 s.cs.length c4, .slice s.po s.os.length s.co, .int .i64 s.li.a, .int .i64 s.li.b, .int .i64 s.li.c, .int .i64 s.li.d, .slice s.pr s.rs.length s.cr, .slice s.pf s.fs.length s.cf, .slice s.pt s.ts.length s.ct, .int .i64 s.lm.a, .int .i64 s.lm.b, .int .i64 s.lm.c, .int .i64 s.lm.d] 32 (0, 0)) :: T4) rfl rfl (st_row (off := 0) (v := .slice p4 s.cs.length c4) rfl (by kernel_rfl) (by kernel_rfl) (.tail _ (.head _)) Bg1 (by kernel_rfl) (by first | (simp [Value.cells]; done) | exact Nat.le_of_ble_eq_true rfl) (by intro v hv; simp [Value.cells] at hv; first | (subst hv; rfl) | (rcases hv with rfl <;> rfl)) (by kernel_rfl) (List.forall_mem_cons.2 ⟨.inr ⟨(.head _), (by first | assumption | exact Ne.symm (by assumption))⟩, (List.forall_mem_cons.2 ⟨.inl rfl, (fun p hp => .inr ⟨(.tail _ (.tail _ hp)), ((show Dk g1 T4 from (by (try simp only [dj_app_l, dj_app_r, dj_cons_l, dj_cons_r, dj_nil_l, dj_nil_r, dk_app, dk_cons, dk_nil, and_true, true_and, and_assoc]); repeat' (first | trivial | assumption | exact Dj.symm (by assumption) | exact Ne.symm (by assumption) | apply And.intro))) _ hp)⟩)⟩)⟩)) ?_
  refine wpL_done (fun W2 hW2 => ?_)
  refine (show Code.wp _ _ _ _ _ from ?_)
  refine wp_seq ?_
  refine wp_region_L (W0 := w) ((g2, .cells (shC (.slice none 0 0) (.slice none 0 0) tl0).toArray 32 (0, 0)) :: (g1, .cells #[.slice p4 s.cs.length c4, .slice s.po s.os.length s.co, .int .i64 s.li.a, .int .i64 s.li.b, .int .i64 s.li.c, .int .i64 s.li.d, .slice s.pr s.rs.length s.cr, .slice s.pf s.fs.length s.cf, .slice s.pt s.ts.length s.ct, .int .i64 s.lm.a, .int .i64 s.lm.b, .int .i64 s.lm.c, .int .i64 s.lm.d] 32 (0, 0)) :: T4) (hW2) ?_
  refine lm (v := .pointer (some ⟨g1, 1, none⟩)) rfl rfl ?_
  refine lv (v := .slice s.po s.os.length s.co) rfl rfl (yb_cell (off := 1) rfl (by kernel_rfl) (.tail _ (.head _)) Try.underlying23 rfl (by kernel_rfl)) ?_
  refine wpL_c (f := 29) (args := #[.slice s.po s.os.length s.co]) (NewF (FO s.os) w ((g2, .cells (shC (.slice none 0 0) (.slice none 0 0) tl0).toArray 32 (0, 0)) :: (g1, .cells #[.slice p4 s.cs.length c4, .slice s.po s.os.length s.co, .int .i64 s.li.a, .int .i64 s.li.b, .int .i64 s.li.c, .int .i64 s.li.d, .slice s.pr s.rs.length s.cr, .slice s.pf s.fs.length s.cf, .slice s.pt s.ts.length s.ct, .int .i64 s.lm.a, .int .i64 s.lm.b, .int .i64 s.lm.c, .int .i64 s.lm.d] 32 (0, 0)) :: T4)) rfl (by kernel_rfl) (fun _ => (by kernel_rfl)) (fun W hW => calls_new hW ((LentCovers_any s.os s.po s.co hs.no hs.nr W (hs.ho.keep hW.1) (hs.hr.keep hW.1)).mono fun _ _ ⟨X, q, d, T, h1, h2, h3, h4, h5, h6, h7⟩ => ⟨_, T, h1, ⟨X, q, d, rfl, h2, h3, h4, h5⟩, h6, h7⟩)) (fun _ => by simp only [List.setIfInBounds_toArray, List.set_cons_succ, List.set_cons_zero] <;> rfl) ?_
  rintro _ _ ⟨T6, ⟨X6, p6, c6, rfl, n6, x6, L6, H6⟩, b6, N6, rfl⟩
  obtain ⟨dj7_0, dj7_1, dj7_2⟩ : Dk g2 T6 ∧ Dk g1 T6 ∧ Dj T4 T6 := by simpa only [dj_app_l, dj_app_r, dj_cons_l, dj_cons_r, dj_nil_l, dj_nil_r, dk_app, dk_cons, dk_nil, and_true, true_and, and_assoc] using (show Dj ((g2, .cells (shC (.slice none 0 0) (.slice none 0 0) tl0).toArray 32 (0, 0)) :: (g1, .cells #[.slice p4 s.cs.length c4, .slice s.po s.os.length s.co, .int .i64 s.li.a, .int .i64 s.li.b, .int .i64 s.li.c, .int .i64 s.li.d, .slice s.pr s.rs.length s.cr, .slice s.pf s.fs.length s.cf, .slice s.pt s.ts.length s.ct, .int .i64 s.lm.a, .int .i64 s.lm.b, .int .i64 s.lm.c, .int .i64 s.lm.d] 32 (0, 0)) :: T4) T6 from N6)
  refine wpL_sub (K2 := ((g2, .cells (shC (.slice none 0 0) (.slice none 0 0) tl0).toArray 32 (0, 0)) :: (g1, .cells #[.slice p4 s.cs.length c4, .slice s.po s.os.length s.co, .int .i64 s.li.a, .int .i64 s.li.b, .int .i64 s.li.c, .int .i64 s.li.d, .slice s.pr s.rs.length s.cr, .slice s.pf s.fs.length s.cf, .slice s.pt s.ts.length s.ct, .int .i64 s.lm.a, .int .i64 s.lm.b, .int .i64 s.lm.c, .int .i64 s.lm.d] 32 (0, 0)) :: (T4 ++ T6))) (fun p hp => by simp only [List.mem_cons, List.mem_append, or_assoc] at hp ⊢; exact hp) ?_
  refine lm (v := .pointer (some ⟨g1, 1, none⟩)) rfl rfl ?_
  refine wpL_s ((g2, .cells (shC (.slice none 0 0) (.slice none 0 0) tl0).toArray 32 (0, 0)) :: (g1, .cells #[.slice p4 s.cs.length c4, .slice p6 s.os.length c6, .int .i64 s.li.a, .int .i64 s.li.b, .int .i64 s.li.c, .int .i64 s.li.d, .slice s.pr s.rs.length s.cr, .slice s.pf s.fs.length s.cf, .slice s.pt s.ts.length s.ct, .int .i64 s.lm.a, .int .i64 s.lm.b, .int .i64 s.lm.c, .int .i64 s.lm.d] 32 (0, 0)) :: (T4 ++ T6)) rfl rfl (st_row (off := 1) (v := .slice p6 s.os.length c6) rfl (by kernel_rfl) (by kernel_rfl) (.tail _ (.head _)) Bg1 (by kernel_rfl) (by first | (simp [Value.cells]; done) | exact Nat.le_of_ble_eq_true rfl) (by intro v hv; simp [Value.cells] at hv; first | (subst hv; rfl) | (rcases hv with rfl <;> rfl)) (by kernel_rfl) (List.forall_mem_cons.2 ⟨.inr ⟨(.head _), (by first | assumption | exact Ne.symm (by assumption))⟩, (List.forall_mem_cons.2 ⟨.inl rfl, (fun p hp => .inr ⟨(.tail _ (.tail _ hp)), ((show Dk g1 (T4 ++ T6) from (by (try simp only [dj_app_l, dj_app_r, dj_cons_l, dj_cons_r, dj_nil_l, dj_nil_r, dk_app, dk_cons, dk_nil, and_true, true_and, and_assoc]); repeat' (first | trivial | assumption | exact Dj.symm (by assumption) | exact Ne.symm (by assumption) | apply And.intro))) _ hp)⟩)⟩)⟩)) ?_
  refine wpL_done (fun W3 hW3 => ?_)
  refine (show Code.wp _ _ _ _ _ from ?_)
  refine wp_seq ?_
  refine wp_region_L (W0 := w) ((g2, .cells (shC (.slice none 0 0) (.slice none 0 0) tl0).toArray 32 (0, 0)) :: (g1, .cells #[.slice p4 s.cs.length c4, .slice p6 s.os.length c6, .int .i64 s.li.a, .int .i64 s.li.b, .int .i64 s.li.c, .int .i64 s.li.d, .slice s.pr s.rs.length s.cr, .slice s.pf s.fs.length s.cf, .slice s.pt s.ts.length s.ct, .int .i64 s.lm.a, .int .i64 s.lm.b, .int .i64 s.lm.c, .int .i64 s.lm.d] 32 (0, 0)) :: (T4 ++ T6)) (hW3) ?_
  refine lm (v := .pointer (some ⟨g1, 6, none⟩)) rfl rfl ?_
  refine lv (v := .slice s.pr s.rs.length s.cr) rfl rfl (yb_cell (off := 6) rfl (by kernel_rfl) (.tail _ (.head _)) Try.underlying26 rfl (by kernel_rfl)) ?_
  refine wpL_c (f := 30) (args := #[.slice s.pr s.rs.length s.cr]) (NewF (FN (mkRowL 12) s.rs) w ((g2, .cells (shC (.slice none 0 0) (.slice none 0 0) tl0).toArray 32 (0, 0)) :: (g1, .cells #[.slice p4 s.cs.length c4, .slice p6 s.os.length c6, .int .i64 s.li.a, .int .i64 s.li.b, .int .i64 s.li.c, .int .i64 s.li.d, .slice s.pr s.rs.length s.cr, .slice s.pf s.fs.length s.cf, .slice s.pt s.ts.length s.ct, .int .i64 s.lm.a, .int .i64 s.lm.b, .int .i64 s.lm.c, .int .i64 s.lm.d] 32 (0, 0)) :: (T4 ++ T6))) rfl (by kernel_rfl) (fun _ => (by kernel_rfl)) (fun W hW => calls_new hW (fn_of (LentRows_any s.rs s.pr s.cr hs.nrs W (hs.hrs.keep hW.1)))) (fun _ => by simp only [List.setIfInBounds_toArray, List.set_cons_succ, List.set_cons_zero] <;> rfl) ?_
  rintro _ _ ⟨T8, ⟨p8, c8, rfl, n8, H8⟩, b8, N8, rfl⟩
  obtain ⟨dj9_0, dj9_1, dj9_2, dj9_3⟩ : Dk g2 T8 ∧ Dk g1 T8 ∧ Dj T4 T8 ∧ Dj T6 T8 := by simpa only [dj_app_l, dj_app_r, dj_cons_l, dj_cons_r, dj_nil_l, dj_nil_r, dk_app, dk_cons, dk_nil, and_true, true_and, and_assoc] using (show Dj ((g2, .cells (shC (.slice none 0 0) (.slice none 0 0) tl0).toArray 32 (0, 0)) :: (g1, .cells #[.slice p4 s.cs.length c4, .slice p6 s.os.length c6, .int .i64 s.li.a, .int .i64 s.li.b, .int .i64 s.li.c, .int .i64 s.li.d, .slice s.pr s.rs.length s.cr, .slice s.pf s.fs.length s.cf, .slice s.pt s.ts.length s.ct, .int .i64 s.lm.a, .int .i64 s.lm.b, .int .i64 s.lm.c, .int .i64 s.lm.d] 32 (0, 0)) :: (T4 ++ T6)) T8 from N8)
  refine wpL_sub (K2 := ((g2, .cells (shC (.slice none 0 0) (.slice none 0 0) tl0).toArray 32 (0, 0)) :: (g1, .cells #[.slice p4 s.cs.length c4, .slice p6 s.os.length c6, .int .i64 s.li.a, .int .i64 s.li.b, .int .i64 s.li.c, .int .i64 s.li.d, .slice s.pr s.rs.length s.cr, .slice s.pf s.fs.length s.cf, .slice s.pt s.ts.length s.ct, .int .i64 s.lm.a, .int .i64 s.lm.b, .int .i64 s.lm.c, .int .i64 s.lm.d] 32 (0, 0)) :: (T4 ++ (T6 ++ T8)))) (fun p hp => by simp only [List.mem_cons, List.mem_append, or_assoc] at hp ⊢; exact hp) ?_
  refine lm (v := .pointer (some ⟨g1, 6, none⟩)) rfl rfl ?_
  refine wpL_s ((g2, .cells (shC (.slice none 0 0) (.slice none 0 0) tl0).toArray 32 (0, 0)) :: (g1, .cells #[.slice p4 s.cs.length c4, .slice p6 s.os.length c6, .int .i64 s.li.a, .int .i64 s.li.b, .int .i64 s.li.c, .int .i64 s.li.d, .slice p8 s.rs.length c8, .slice s.pf s.fs.length s.cf, .slice s.pt s.ts.length s.ct, .int .i64 s.lm.a, .int .i64 s.lm.b, .int .i64 s.lm.c, .int .i64 s.lm.d] 32 (0, 0)) :: (T4 ++ (T6 ++ T8))) rfl rfl (st_row (off := 6) (v := .slice p8 s.rs.length c8) rfl (by kernel_rfl) (by kernel_rfl) (.tail _ (.head _)) Bg1 (by kernel_rfl) (by first | (simp [Value.cells]; done) | exact Nat.le_of_ble_eq_true rfl) (by intro v hv; simp [Value.cells] at hv; first | (subst hv; rfl) | (rcases hv with rfl <;> rfl)) (by kernel_rfl) (List.forall_mem_cons.2 ⟨.inr ⟨(.head _), (by first | assumption | exact Ne.symm (by assumption))⟩, (List.forall_mem_cons.2 ⟨.inl rfl, (fun p hp => .inr ⟨(.tail _ (.tail _ hp)), ((show Dk g1 (T4 ++ (T6 ++ T8)) from (by (try simp only [dj_app_l, dj_app_r, dj_cons_l, dj_cons_r, dj_nil_l, dj_nil_r, dk_app, dk_cons, dk_nil, and_true, true_and, and_assoc]); repeat' (first | trivial | assumption | exact Dj.symm (by assumption) | exact Ne.symm (by assumption) | apply And.intro))) _ hp)⟩)⟩)⟩)) ?_
  refine wpL_done (fun W4 hW4 => ?_)
  refine (show Code.wp _ _ _ _ _ from ?_)
  refine wp_seq ?_
  refine wp_region_L (W0 := w) ((g2, .cells (shC (.slice none 0 0) (.slice none 0 0) tl0).toArray 32 (0, 0)) :: (g1, .cells #[.slice p4 s.cs.length c4, .slice p6 s.os.length c6, .int .i64 s.li.a, .int .i64 s.li.b, .int .i64 s.li.c, .int .i64 s.li.d, .slice p8 s.rs.length c8, .slice s.pf s.fs.length s.cf, .slice s.pt s.ts.length s.ct, .int .i64 s.lm.a, .int .i64 s.lm.b, .int .i64 s.lm.c, .int .i64 s.lm.d] 32 (0, 0)) :: (T4 ++ (T6 ++ T8))) (hW4) ?_
  refine lm (v := .pointer (some ⟨g1, 7, none⟩)) rfl rfl ?_
  refine lv (v := .slice s.pf s.fs.length s.cf) rfl rfl (yb_cell (off := 7) rfl (by kernel_rfl) (.tail _ (.head _)) Try.underlying27 rfl (by kernel_rfl)) ?_
  refine wpL_c (f := 31) (args := #[.slice s.pf s.fs.length s.cf]) (NewF (FN (mkFraL 12) s.fs) w ((g2, .cells (shC (.slice none 0 0) (.slice none 0 0) tl0).toArray 32 (0, 0)) :: (g1, .cells #[.slice p4 s.cs.length c4, .slice p6 s.os.length c6, .int .i64 s.li.a, .int .i64 s.li.b, .int .i64 s.li.c, .int .i64 s.li.d, .slice p8 s.rs.length c8, .slice s.pf s.fs.length s.cf, .slice s.pt s.ts.length s.ct, .int .i64 s.lm.a, .int .i64 s.lm.b, .int .i64 s.lm.c, .int .i64 s.lm.d] 32 (0, 0)) :: (T4 ++ (T6 ++ T8)))) rfl (by kernel_rfl) (fun _ => (by kernel_rfl)) (fun W hW => calls_new hW (fn_of (LentFrames_any s.fs s.pf s.cf hs.nfs W (hs.hfs.keep hW.1)))) (fun _ => by simp only [List.setIfInBounds_toArray, List.set_cons_succ, List.set_cons_zero] <;> rfl) ?_
  rintro _ _ ⟨T10, ⟨p10, c10, rfl, n10, H10⟩, b10, N10, rfl⟩
  obtain ⟨dj11_0, dj11_1, dj11_2, dj11_3, dj11_4⟩ : Dk g2 T10 ∧ Dk g1 T10 ∧ Dj T4 T10 ∧ Dj T6 T10 ∧ Dj T8 T10 := by simpa only [dj_app_l, dj_app_r, dj_cons_l, dj_cons_r, dj_nil_l, dj_nil_r, dk_app, dk_cons, dk_nil, and_true, true_and, and_assoc] using (show Dj ((g2, .cells (shC (.slice none 0 0) (.slice none 0 0) tl0).toArray 32 (0, 0)) :: (g1, .cells #[.slice p4 s.cs.length c4, .slice p6 s.os.length c6, .int .i64 s.li.a, .int .i64 s.li.b, .int .i64 s.li.c, .int .i64 s.li.d, .slice p8 s.rs.length c8, .slice s.pf s.fs.length s.cf, .slice s.pt s.ts.length s.ct, .int .i64 s.lm.a, .int .i64 s.lm.b, .int .i64 s.lm.c, .int .i64 s.lm.d] 32 (0, 0)) :: (T4 ++ (T6 ++ T8))) T10 from N10)
  refine wpL_sub (K2 := ((g2, .cells (shC (.slice none 0 0) (.slice none 0 0) tl0).toArray 32 (0, 0)) :: (g1, .cells #[.slice p4 s.cs.length c4, .slice p6 s.os.length c6, .int .i64 s.li.a, .int .i64 s.li.b, .int .i64 s.li.c, .int .i64 s.li.d, .slice p8 s.rs.length c8, .slice s.pf s.fs.length s.cf, .slice s.pt s.ts.length s.ct, .int .i64 s.lm.a, .int .i64 s.lm.b, .int .i64 s.lm.c, .int .i64 s.lm.d] 32 (0, 0)) :: (T4 ++ (T6 ++ (T8 ++ T10))))) (fun p hp => by simp only [List.mem_cons, List.mem_append, or_assoc] at hp ⊢; exact hp) ?_
  refine lm (v := .pointer (some ⟨g1, 7, none⟩)) rfl rfl ?_
  refine wpL_s ((g2, .cells (shC (.slice none 0 0) (.slice none 0 0) tl0).toArray 32 (0, 0)) :: (g1, .cells #[.slice p4 s.cs.length c4, .slice p6 s.os.length c6, .int .i64 s.li.a, .int .i64 s.li.b, .int .i64 s.li.c, .int .i64 s.li.d, .slice p8 s.rs.length c8, .slice p10 s.fs.length c10, .slice s.pt s.ts.length s.ct, .int .i64 s.lm.a, .int .i64 s.lm.b, .int .i64 s.lm.c, .int .i64 s.lm.d] 32 (0, 0)) :: (T4 ++ (T6 ++ (T8 ++ T10)))) rfl rfl (st_row (off := 7) (v := .slice p10 s.fs.length c10) rfl (by kernel_rfl) (by kernel_rfl) (.tail _ (.head _)) Bg1 (by kernel_rfl) (by first | (simp [Value.cells]; done) | exact Nat.le_of_ble_eq_true rfl) (by intro v hv; simp [Value.cells] at hv; first | (subst hv; rfl) | (rcases hv with rfl <;> rfl)) (by kernel_rfl) (List.forall_mem_cons.2 ⟨.inr ⟨(.head _), (by first | assumption | exact Ne.symm (by assumption))⟩, (List.forall_mem_cons.2 ⟨.inl rfl, (fun p hp => .inr ⟨(.tail _ (.tail _ hp)), ((show Dk g1 (T4 ++ (T6 ++ (T8 ++ T10))) from (by (try simp only [dj_app_l, dj_app_r, dj_cons_l, dj_cons_r, dj_nil_l, dj_nil_r, dk_app, dk_cons, dk_nil, and_true, true_and, and_assoc]); repeat' (first | trivial | assumption | exact Dj.symm (by assumption) | exact Ne.symm (by assumption) | apply And.intro))) _ hp)⟩)⟩)⟩)) ?_
  refine wpL_done (fun W5 hW5 => ?_)
  refine (show Code.wp _ _ _ _ _ from ?_)
  refine wp_seq ?_
  refine wp_region_L (W0 := w) ((g2, .cells (shC (.slice none 0 0) (.slice none 0 0) tl0).toArray 32 (0, 0)) :: (g1, .cells #[.slice p4 s.cs.length c4, .slice p6 s.os.length c6, .int .i64 s.li.a, .int .i64 s.li.b, .int .i64 s.li.c, .int .i64 s.li.d, .slice p8 s.rs.length c8, .slice p10 s.fs.length c10, .slice s.pt s.ts.length s.ct, .int .i64 s.lm.a, .int .i64 s.lm.b, .int .i64 s.lm.c, .int .i64 s.lm.d] 32 (0, 0)) :: (T4 ++ (T6 ++ (T8 ++ T10)))) (hW5) ?_
  refine lm (v := .pointer (some ⟨g1, 8, none⟩)) rfl rfl ?_
  refine lv (v := .slice s.pt s.ts.length s.ct) rfl rfl (yb_cell (off := 8) rfl (by kernel_rfl) (.tail _ (.head _)) Try.underlying28 rfl (by kernel_rfl)) ?_
  refine wpL_c (f := 32) (args := #[.slice s.pt s.ts.length s.ct]) (NewF (FT s.ts) w ((g2, .cells (shC (.slice none 0 0) (.slice none 0 0) tl0).toArray 32 (0, 0)) :: (g1, .cells #[.slice p4 s.cs.length c4, .slice p6 s.os.length c6, .int .i64 s.li.a, .int .i64 s.li.b, .int .i64 s.li.c, .int .i64 s.li.d, .slice p8 s.rs.length c8, .slice p10 s.fs.length c10, .slice s.pt s.ts.length s.ct, .int .i64 s.lm.a, .int .i64 s.lm.b, .int .i64 s.lm.c, .int .i64 s.lm.d] 32 (0, 0)) :: (T4 ++ (T6 ++ (T8 ++ T10))))) rfl (by kernel_rfl) (fun _ => (by kernel_rfl)) (fun W hW => calls_new hW ((LentTanks_any s.ts s.pt s.ct hs.nts hs.nst W (hs.hts.keep hW.1) (hs.hst.keep hW.1)).mono fun _ _ ⟨X, q, d, T, h1, h2, h3, h4, h5, h6, h7⟩ => ⟨_, T, h1, ⟨X, q, d, rfl, h2, h3, h4, h5⟩, h6, h7⟩)) (fun _ => by simp only [List.setIfInBounds_toArray, List.set_cons_succ, List.set_cons_zero] <;> rfl) ?_
  rintro _ _ ⟨T12, ⟨X12, p12, c12, rfl, n12, x12, L12, H12⟩, b12, N12, rfl⟩
  obtain ⟨dj13_0, dj13_1, dj13_2, dj13_3, dj13_4, dj13_5⟩ : Dk g2 T12 ∧ Dk g1 T12 ∧ Dj T4 T12 ∧ Dj T6 T12 ∧ Dj T8 T12 ∧ Dj T10 T12 := by simpa only [dj_app_l, dj_app_r, dj_cons_l, dj_cons_r, dj_nil_l, dj_nil_r, dk_app, dk_cons, dk_nil, and_true, true_and, and_assoc] using (show Dj ((g2, .cells (shC (.slice none 0 0) (.slice none 0 0) tl0).toArray 32 (0, 0)) :: (g1, .cells #[.slice p4 s.cs.length c4, .slice p6 s.os.length c6, .int .i64 s.li.a, .int .i64 s.li.b, .int .i64 s.li.c, .int .i64 s.li.d, .slice p8 s.rs.length c8, .slice p10 s.fs.length c10, .slice s.pt s.ts.length s.ct, .int .i64 s.lm.a, .int .i64 s.lm.b, .int .i64 s.lm.c, .int .i64 s.lm.d] 32 (0, 0)) :: (T4 ++ (T6 ++ (T8 ++ T10)))) T12 from N12)
  refine wpL_sub (K2 := ((g2, .cells (shC (.slice none 0 0) (.slice none 0 0) tl0).toArray 32 (0, 0)) :: (g1, .cells #[.slice p4 s.cs.length c4, .slice p6 s.os.length c6, .int .i64 s.li.a, .int .i64 s.li.b, .int .i64 s.li.c, .int .i64 s.li.d, .slice p8 s.rs.length c8, .slice p10 s.fs.length c10, .slice s.pt s.ts.length s.ct, .int .i64 s.lm.a, .int .i64 s.lm.b, .int .i64 s.lm.c, .int .i64 s.lm.d] 32 (0, 0)) :: (T4 ++ (T6 ++ (T8 ++ (T10 ++ T12)))))) (fun p hp => by simp only [List.mem_cons, List.mem_append, or_assoc] at hp ⊢; exact hp) ?_
  refine lm (v := .pointer (some ⟨g1, 8, none⟩)) rfl rfl ?_
  refine wpL_s ((g2, .cells (shC (.slice none 0 0) (.slice none 0 0) tl0).toArray 32 (0, 0)) :: (g1, .cells #[.slice p4 s.cs.length c4, .slice p6 s.os.length c6, .int .i64 s.li.a, .int .i64 s.li.b, .int .i64 s.li.c, .int .i64 s.li.d, .slice p8 s.rs.length c8, .slice p10 s.fs.length c10, .slice p12 s.ts.length c12, .int .i64 s.lm.a, .int .i64 s.lm.b, .int .i64 s.lm.c, .int .i64 s.lm.d] 32 (0, 0)) :: (T4 ++ (T6 ++ (T8 ++ (T10 ++ T12))))) rfl rfl (st_row (off := 8) (v := .slice p12 s.ts.length c12) rfl (by kernel_rfl) (by kernel_rfl) (.tail _ (.head _)) Bg1 (by kernel_rfl) (by first | (simp [Value.cells]; done) | exact Nat.le_of_ble_eq_true rfl) (by intro v hv; simp [Value.cells] at hv; first | (subst hv; rfl) | (rcases hv with rfl <;> rfl)) (by kernel_rfl) (List.forall_mem_cons.2 ⟨.inr ⟨(.head _), (by first | assumption | exact Ne.symm (by assumption))⟩, (List.forall_mem_cons.2 ⟨.inl rfl, (fun p hp => .inr ⟨(.tail _ (.tail _ hp)), ((show Dk g1 (T4 ++ (T6 ++ (T8 ++ (T10 ++ T12)))) from (by (try simp only [dj_app_l, dj_app_r, dj_cons_l, dj_cons_r, dj_nil_l, dj_nil_r, dk_app, dk_cons, dk_nil, and_true, true_and, and_assoc]); repeat' (first | trivial | assumption | exact Dj.symm (by assumption) | exact Ne.symm (by assumption) | apply And.intro))) _ hp)⟩)⟩)⟩)) ?_
  refine wpL_done (fun W6 hW6 => ?_)
  refine (show Code.wp _ _ _ _ _ from ?_)
  refine wp_seq ?_
  refine wp_region_L (W0 := w) ((g2, .cells (shC (.slice none 0 0) (.slice none 0 0) tl0).toArray 32 (0, 0)) :: (g1, .cells #[.slice p4 s.cs.length c4, .slice p6 s.os.length c6, .int .i64 s.li.a, .int .i64 s.li.b, .int .i64 s.li.c, .int .i64 s.li.d, .slice p8 s.rs.length c8, .slice p10 s.fs.length c10, .slice p12 s.ts.length c12, .int .i64 s.lm.a, .int .i64 s.lm.b, .int .i64 s.lm.c, .int .i64 s.lm.d] 32 (0, 0)) :: (T4 ++ (T6 ++ (T8 ++ (T10 ++ T12))))) (hW6) ?_
  refine lv (v := .agg #[.slice p4 s.cs.length c4, .slice p6 s.os.length c6, .int .i64 s.li.a, .int .i64 s.li.b, .int .i64 s.li.c, .int .i64 s.li.d, .slice p8 s.rs.length c8, .slice p10 s.fs.length c10, .slice p12 s.ts.length c12, .int .i64 s.lm.a, .int .i64 s.lm.b, .int .i64 s.lm.c, .int .i64 s.lm.d]) rfl rfl (yb_load (n := 13) (off := 0) rfl (by kernel_rfl) (.tail _ (.head _)) Try.underlying32 rfl (by kernel_rfl) (by first | (simp [Value.cells]; done) | exact Nat.le_of_ble_eq_true rfl) (by kernel_rfl)) ?_
  refine wpL_s ((g2, .cells #[.slice p4 s.cs.length c4, .slice p6 s.os.length c6, .int .i64 s.li.a, .int .i64 s.li.b, .int .i64 s.li.c, .int .i64 s.li.d, .slice p8 s.rs.length c8, .slice p10 s.fs.length c10, .slice p12 s.ts.length c12, .int .i64 s.lm.a, .int .i64 s.lm.b, .int .i64 s.lm.c, .int .i64 s.lm.d] 32 (0, 0)) :: (g1, .cells #[.slice p4 s.cs.length c4, .slice p6 s.os.length c6, .int .i64 s.li.a, .int .i64 s.li.b, .int .i64 s.li.c, .int .i64 s.li.d, .slice p8 s.rs.length c8, .slice p10 s.fs.length c10, .slice p12 s.ts.length c12, .int .i64 s.lm.a, .int .i64 s.lm.b, .int .i64 s.lm.c, .int .i64 s.lm.d] 32 (0, 0)) :: (T4 ++ (T6 ++ (T8 ++ (T10 ++ T12))))) rfl rfl (st_row (off := 0) (v := .agg #[.slice p4 s.cs.length c4, .slice p6 s.os.length c6, .int .i64 s.li.a, .int .i64 s.li.b, .int .i64 s.li.c, .int .i64 s.li.d, .slice p8 s.rs.length c8, .slice p10 s.fs.length c10, .slice p12 s.ts.length c12, .int .i64 s.lm.a, .int .i64 s.lm.b, .int .i64 s.lm.c, .int .i64 s.lm.d]) rfl (by kernel_rfl) (by kernel_rfl) (.head _) Bg2 (by kernel_rfl) (by first | (simp [Value.cells]; done) | exact Nat.le_of_ble_eq_true rfl) (by intro v hv; simp [Value.cells] at hv; first | (subst hv; rfl) | (rcases hv with rfl | rfl | rfl | rfl | rfl | rfl | rfl | rfl | rfl | rfl | rfl | rfl | rfl <;> rfl)) (by kernel_rfl) (List.forall_mem_cons.2 ⟨.inl rfl, (List.forall_mem_cons.2 ⟨.inr ⟨(.tail _ (.head _)), (by first | assumption | exact Ne.symm (by assumption))⟩, (fun p hp => .inr ⟨(.tail _ (.tail _ hp)), ((show Dk g2 (T4 ++ (T6 ++ (T8 ++ (T10 ++ T12)))) from (by (try simp only [dj_app_l, dj_app_r, dj_cons_l, dj_cons_r, dj_nil_l, dj_nil_r, dk_app, dk_cons, dk_nil, and_true, true_and, and_assoc]); repeat' (first | trivial | assumption | exact Dj.symm (by assumption) | exact Ne.symm (by assumption) | apply And.intro))) _ hp)⟩)⟩)⟩)) ?_
  refine wpL_done (fun W7 hW7 => ?_)
  refine (show Code.wp _ _ _ _ _ from ?_)
  refine wp_ret ?_
  try simp only [inBlock_ret, then_ret]
  refine bodyPost_ret (v := .agg #[.slice p4 s.cs.length c4, .slice p6 s.os.length c6, .int .i64 s.li.a, .int .i64 s.li.b, .int .i64 s.li.c, .int .i64 s.li.d, .slice p8 s.rs.length c8, .slice p10 s.fs.length c10, .slice p12 s.ts.length c12, .int .i64 s.lm.a, .int .i64 s.lm.b, .int .i64 s.lm.c, .int .i64 s.lm.d]) ?_ rfl ?_
  · exact (res_cell (p := 2) rfl rfl (hW7.2 _ (.head _)) Try.underlying32 rfl (by kernel_rfl))
  · exact ⟨({ s with cs := X4, pc := p4, cc := c4, os := X6, po := p6, co := c6, pr := p8, cr := c8, pf := p10, cf := c10, ts := X12, pt := p12, ct := c12 } : Sp), (T4 ++ (T6 ++ (T8 ++ (T10 ++ T12)))), by simp [spC, spT, shC, x4, x6, x12], ⟨⟨rfl, rfl, rfl, rfl⟩, ⟨x4, L4.mono (fun p hp => by simp only [List.mem_cons, List.mem_append, List.nil_append, List.not_mem_nil, or_assoc, or_false, false_or, hp, true_or, or_true]), H4.mono (fun p hp => by simp only [List.mem_cons, List.mem_append, List.nil_append, List.not_mem_nil, or_assoc, or_false, false_or, hp, true_or, or_true]), n4⟩, ⟨x6, L6.mono (fun p hp => by simp only [List.mem_cons, List.mem_append, List.nil_append, List.not_mem_nil, or_assoc, or_false, false_or, hp, true_or, or_true]), H6.mono (fun p hp => by simp only [List.mem_cons, List.mem_append, List.nil_append, List.not_mem_nil, or_assoc, or_false, false_or, hp, true_or, or_true]), n6⟩, ⟨x12, L12.mono (fun p hp => by simp only [List.mem_cons, List.mem_append, List.nil_append, List.not_mem_nil, or_assoc, or_false, false_or, hp, true_or, or_true]), H12.mono (fun p hp => by simp only [List.mem_cons, List.mem_append, List.nil_append, List.not_mem_nil, or_assoc, or_false, false_or, hp, true_or, or_true]), n12⟩, ⟨H8.mono (fun p hp => by simp only [List.mem_cons, List.mem_append, List.nil_append, List.not_mem_nil, or_assoc, or_false, false_or, hp, true_or, or_true]), n8⟩, ⟨H10.mono (fun p hp => by simp only [List.mem_cons, List.mem_append, List.nil_append, List.not_mem_nil, or_assoc, or_false, false_or, hp, true_or, or_true]), n10⟩⟩, (fun b hb => by simp only [List.mem_append] at hb; rcases hb with h | h | h | h | h; exact b4 b h; exact b6 b h; exact b8 b h; exact b10 b h; exact b12 b h), hW7.sub (fun p hp => by simp only [List.mem_cons, List.mem_append, List.nil_append, List.not_mem_nil, or_assoc, or_false, false_or, hp, true_or, or_true])⟩
end Go.Proofs.Ythpooalhibedpaa
namespace Go.Proofs.Ythpooalhibedpaa
open Go Go.RowKit Tw
theorem eq_light (r : N4) {px py : Operand} (w : World) : (do eqGuard .eql 25 px py (.agg (n4C r).toArray) (.agg (n4C r).toArray); binOp .eql 25 (.agg (n4C r).toArray) (.agg (n4C r).toArray) : Sem Value).run Try.prog w = .ok (.bool true) w := by
  unfold n4C
  go_simp
theorem eq_limits (r : N4) {px py : Operand} (w : World) : (do eqGuard .eql 30 px py (.agg (n4C r).toArray) (.agg (n4C r).toArray); binOp .eql 30 (.agg (n4C r).toArray) (.agg (n4C r).toArray) : Sem Value).run Try.prog w = .ok (.bool true) w := by
  unfold n4C
  go_simp
theorem slv_preg {α : Type} {cells : α → List Value} {W : World} {p : Option Addr} {l m : List α} (h : SLV W p ((l ++ m).flatMap cells)) : SLV W p (l.flatMap cells) := by
  rw [List.flatMap_append] at h
  refine h.elim (fun e => .inl (List.append_eq_nil_iff.1 e).1) fun ⟨b, off, hp, hlt, hc⟩ => .inr ⟨b, off, hp, hlt, fun i u hu => hc i u ?_⟩
  rw [List.getElem?_append_left (List.getElem?_eq_some_iff.1 hu).1]
  exact hu
theorem LentOA.keep {W W' : World} {l X : List Cov} (h : LentOA W l X) (hb : Below W.heap.size W W') : LentOA W' l X := fun j x hx => by
  obtain ⟨y, q, d, h1, h2, h3, h4⟩ := h j x hx
  exact ⟨y, q, d, h1, h2, h3, h4.keep hb⟩
theorem LentCA.keep {W W' : World} {l X : List Col} (h : LentCA W l X) (hb : Below W.heap.size W W') : LentCA W' l X := fun j x hx => by
  obtain ⟨y, q, d, h1, h2, h3, h4⟩ := h j x hx
  exact ⟨y, q, d, h1, h2, h3, h4.keep hb⟩
theorem LentTA.keep {W W' : World} {l X : List Tk} (h : LentTA W l X) (hb : Below W.heap.size W W') : LentTA W' l X := fun j x hx => by
  obtain ⟨y, q, d, h1, h2, h3, h4⟩ := h j x hx
  exact ⟨y, q, d, h1, h2, h3, h4.keep hb⟩
theorem held {W W' : World} {b : Nat × Obj} (hb : Below W.heap.size W W') (h : W.heap[b.1]? = some b.2) : W'.heap[b.1]? = some b.2 :=
  (KS.below (W0 := (W : Base)) (K := [b]) ⟨Below.refl _ _, fun p hp => by cases List.mem_singleton.1 hp; exact h⟩ hb).2 _ (.head _)
theorem SpIn.keep {W W' : World} {s : Sp} (h : SpIn W s) (hb : Below W.heap.size W W') : SpIn W' s := ⟨h.nc, h.no, h.np, h.nr, h.nrs, h.nfs, h.nts, h.nst, h.hc.keep hb, h.ho.keep hb, h.hp.keep hb, h.hr.keep hb, h.hrs.keep hb, h.hfs.keep hb, h.hts.keep hb, h.hst.keep hb⟩
set_option maxRecDepth 100000 in
set_option maxHeartbeats 4000000 in
theorem SameShip_any (s t : Sp) (T : List (Nat × Obj)) (w : World) (hs : SpIn w s) (h : LentSp s t T) (hT : ∀ b ∈ T, w.heap[b.1]? = some b.2) : Calls Try.prog 45 #[.agg (spC t).toArray, .agg (spC s).toArray] w fun e w' => e = .returned (.bool true) ∧ Below w.heap.size w w' := by
  go_enter Try.func45, Try.ntmps45
  refine wp_seq ?_
  refine wp_region_L (W0 := w) [] (KS.start w) ?_
  refine wpL_new (fun g => .pointer (some ⟨g, 0, none⟩)) (obi := .cells #[.slice t.pc t.cs.length t.cc, .slice t.po t.os.length t.co, .int .i64 t.li.a, .int .i64 t.li.b, .int .i64 t.li.c, .int .i64 t.li.d, .slice t.pr t.rs.length t.cr, .slice t.pf t.fs.length t.cf, .slice t.pt t.ts.length t.ct, .int .i64 t.lm.a, .int .i64 t.lm.b, .int .i64 t.lm.c, .int .i64 t.lm.d] 32 (0, 0)) rfl rfl (fun _ => by kernel_rfl) (fun _ => by simp only [List.setIfInBounds_toArray, List.set_cons_succ, List.set_cons_zero] <;> rfl) fun g1 Bg1 Fg1 => ?_
  refine wpL_new (fun g => .pointer (some ⟨g, 0, none⟩)) (obi := .cells #[.slice s.pc s.cs.length s.cc, .slice s.po s.os.length s.co, .int .i64 s.li.a, .int .i64 s.li.b, .int .i64 s.li.c, .int .i64 s.li.d, .slice s.pr s.rs.length s.cr, .slice s.pf s.fs.length s.cf, .slice s.pt s.ts.length s.ct, .int .i64 s.lm.a, .int .i64 s.lm.b, .int .i64 s.lm.c, .int .i64 s.lm.d] 32 (0, 0)) rfl rfl (fun _ => by kernel_rfl) (fun _ => by simp only [List.setIfInBounds_toArray, List.set_cons_succ, List.set_cons_zero] <;> rfl) fun g2 Bg2 Fg2 => ?_
  obtain dj3_0 : g1 ≠ g2 := by simpa only [dj_app_l, dj_app_r, dj_cons_l, dj_cons_r, dj_nil_l, dj_nil_r, dk_app, dk_cons, dk_nil, and_true, true_and, and_assoc] using (show Dk g2 [(g1, .cells #[.slice t.pc t.cs.length t.cc, .slice t.po t.os.length t.co, .int .i64 t.li.a, .int .i64 t.li.b, .int .i64 t.li.c, .int .i64 t.li.d, .slice t.pr t.rs.length t.cr, .slice t.pf t.fs.length t.cf, .slice t.pt t.ts.length t.ct, .int .i64 t.lm.a, .int .i64 t.lm.b, .int .i64 t.lm.c, .int .i64 t.lm.d] 32 (0, 0))] from Fg2)
  refine lm (v := .bool false) rfl rfl ?_
  refine wpL_done (fun W1 hW1 => ?_)
  refine (show Code.wp _ _ _ _ _ from ?_)
  refine wp_seq ?_
  refine wp_region_L (W0 := w) [(g2, .cells #[.slice s.pc s.cs.length s.cc, .slice s.po s.os.length s.co, .int .i64 s.li.a, .int .i64 s.li.b, .int .i64 s.li.c, .int .i64 s.li.d, .slice s.pr s.rs.length s.cr, .slice s.pf s.fs.length s.cf, .slice s.pt s.ts.length s.ct, .int .i64 s.lm.a, .int .i64 s.lm.b, .int .i64 s.lm.c, .int .i64 s.lm.d] 32 (0, 0)), (g1, .cells #[.slice t.pc t.cs.length t.cc, .slice t.po t.os.length t.co, .int .i64 t.li.a, .int .i64 t.li.b, .int .i64 t.li.c, .int .i64 t.li.d, .slice t.pr t.rs.length t.cr, .slice t.pf t.fs.length t.cf, .slice t.pt t.ts.length t.ct, .int .i64 t.lm.a, .int .i64 t.lm.b, .int .i64 t.lm.c, .int .i64 t.lm.d] 32 (0, 0))] (hW1) ?_
  refine lm (v := .pointer (some ⟨g1, 0, none⟩)) rfl rfl ?_
  refine lv (v := .slice t.pc t.cs.length t.cc) rfl rfl (yb_cell (off := 0) rfl (by kernel_rfl) (.tail _ (.head _)) Try.underlying22 rfl (by kernel_rfl)) ?_
  refine lm (v := .pointer (some ⟨g2, 0, none⟩)) rfl rfl ?_
  refine lv (v := .slice s.pc s.cs.length s.cc) rfl rfl (yb_cell (off := 0) rfl (by kernel_rfl) (.head _) Try.underlying22 rfl (by kernel_rfl)) ?_
  refine lv (v := .bool true) rfl rfl (yb_call (f := 69) (args := #[.slice t.pc t.cs.length t.cc, .slice s.pc s.cs.length s.cc]) (fun _ => by kernel_rfl) fun W hW => SameColumns_any s.cs t.cs t.pc s.pc t.cc s.cc hs.nc hs.np h.cs.1 W ((slv_preg (h.cs.2.2.1 w hT)).keep hW.1) ((h.cs.2.1.at hT).keep hW.1) ((hs.hc).keep hW.1) ((hs.hp).keep hW.1)) ?_
  refine lm (v := .bool true) rfl rfl ?_
  refine lm (v := .pointer (some ⟨g1, 1, none⟩)) rfl rfl ?_
  refine lv (v := .slice t.po t.os.length t.co) rfl rfl (yb_cell (off := 1) rfl (by kernel_rfl) (.tail _ (.head _)) Try.underlying23 rfl (by kernel_rfl)) ?_
  refine lm (v := .pointer (some ⟨g2, 1, none⟩)) rfl rfl ?_
  refine lv (v := .slice s.po s.os.length s.co) rfl rfl (yb_cell (off := 1) rfl (by kernel_rfl) (.head _) Try.underlying23 rfl (by kernel_rfl)) ?_
  refine lv (v := .bool true) rfl rfl (yb_call (f := 70) (args := #[.slice t.po t.os.length t.co, .slice s.po s.os.length s.co]) (fun _ => by kernel_rfl) fun W hW => SameCovers_any s.os t.os t.po s.po t.co s.co hs.no hs.nr h.os.1 W ((slv_preg (h.os.2.2.1 w hT)).keep hW.1) ((h.os.2.1.at hT).keep hW.1) ((hs.ho).keep hW.1) ((hs.hr).keep hW.1)) ?_
  refine lm (v := .bool true) rfl rfl ?_
  refine lm (v := .bool true) rfl rfl ?_
  refine lm (v := .pointer (some ⟨g1, 2, none⟩)) rfl rfl ?_
  refine lv (v := .agg #[.int .i64 t.li.a, .int .i64 t.li.b, .int .i64 t.li.c, .int .i64 t.li.d]) rfl rfl (yb_load (n := 4) (off := 2) rfl (by kernel_rfl) (.tail _ (.head _)) Try.underlying25 rfl (by kernel_rfl) (by first | (simp [Value.cells]; done) | exact Nat.le_of_ble_eq_true rfl) (by kernel_rfl)) ?_
  refine lm (v := .pointer (some ⟨g2, 2, none⟩)) rfl rfl ?_
  refine lv (v := .agg #[.int .i64 s.li.a, .int .i64 s.li.b, .int .i64 s.li.c, .int .i64 s.li.d]) rfl rfl (yb_load (n := 4) (off := 2) rfl (by kernel_rfl) (.head _) Try.underlying25 rfl (by kernel_rfl) (by first | (simp [Value.cells]; done) | exact Nat.le_of_ble_eq_true rfl) (by kernel_rfl)) ?_
  refine lp (v := .bool true) rfl rfl (run_bin rfl (vx := .agg #[.int .i64 t.li.a, .int .i64 t.li.b, .int .i64 t.li.c, .int .i64 t.li.d]) (vy := .agg #[.int .i64 s.li.a, .int .i64 s.li.b, .int .i64 s.li.c, .int .i64 s.li.d]) (by kernel_rfl) (by kernel_rfl) fun w => (by rw [h.rest.1]; exact eq_light s.li w)) ?_
  refine lm (v := .bool true) rfl rfl ?_
  refine lm (v := .bool true) rfl rfl ?_
  refine lm (v := .pointer (some ⟨g1, 6, none⟩)) rfl rfl ?_
  refine lv (v := .slice t.pr t.rs.length t.cr) rfl rfl (yb_cell (off := 6) rfl (by kernel_rfl) (.tail _ (.head _)) Try.underlying26 rfl (by kernel_rfl)) ?_
  refine lm (v := .pointer (some ⟨g2, 6, none⟩)) rfl rfl ?_
  refine lv (v := .slice s.pr s.rs.length s.cr) rfl rfl (yb_cell (off := 6) rfl (by kernel_rfl) (.head _) Try.underlying26 rfl (by kernel_rfl)) ?_
  refine lv (v := .bool true) rfl rfl (yb_call (f := 71) (args := #[.slice t.pr t.rs.length t.cr, .slice s.pr s.rs.length s.cr]) (fun _ => by kernel_rfl) fun W hW => (by rw [h.rest.2.2.1]; exact SameRows_any s.rs t.pr s.pr t.cr s.cr hs.nrs W ((slv_preg (h.rs.1 w hT)).keep hW.1) ((hs.hrs).keep hW.1))) ?_
  refine lm (v := .bool true) rfl rfl ?_
  refine lm (v := .bool true) rfl rfl ?_
  refine lm (v := .pointer (some ⟨g1, 7, none⟩)) rfl rfl ?_
  refine lv (v := .slice t.pf t.fs.length t.cf) rfl rfl (yb_cell (off := 7) rfl (by kernel_rfl) (.tail _ (.head _)) Try.underlying27 rfl (by kernel_rfl)) ?_
  refine lm (v := .pointer (some ⟨g2, 7, none⟩)) rfl rfl ?_
  refine lv (v := .slice s.pf s.fs.length s.cf) rfl rfl (yb_cell (off := 7) rfl (by kernel_rfl) (.head _) Try.underlying27 rfl (by kernel_rfl)) ?_
  refine lv (v := .bool true) rfl rfl (yb_call (f := 72) (args := #[.slice t.pf t.fs.length t.cf, .slice s.pf s.fs.length s.cf]) (fun _ => by kernel_rfl) fun W hW => (by rw [h.rest.2.2.2]; exact SameFrames_any s.fs t.pf s.pf t.cf s.cf hs.nfs W ((slv_preg (h.fs.1 w hT)).keep hW.1) ((hs.hfs).keep hW.1))) ?_
  refine lm (v := .bool true) rfl rfl ?_
  refine lm (v := .bool true) rfl rfl ?_
  refine lm (v := .pointer (some ⟨g1, 8, none⟩)) rfl rfl ?_
  refine lv (v := .slice t.pt t.ts.length t.ct) rfl rfl (yb_cell (off := 8) rfl (by kernel_rfl) (.tail _ (.head _)) Try.underlying28 rfl (by kernel_rfl)) ?_
  refine lm (v := .pointer (some ⟨g2, 8, none⟩)) rfl rfl ?_
  refine lv (v := .slice s.pt s.ts.length s.ct) rfl rfl (yb_cell (off := 8) rfl (by kernel_rfl) (.head _) Try.underlying28 rfl (by kernel_rfl)) ?_
  refine lv (v := .bool true) rfl rfl (yb_call (f := 73) (args := #[.slice t.pt t.ts.length t.ct, .slice s.pt s.ts.length s.ct]) (fun _ => by kernel_rfl) fun W hW => SameTanks_any s.ts t.ts t.pt s.pt t.ct s.ct hs.nts hs.nst h.ts.1 W ((slv_preg (h.ts.2.2.1 w hT)).keep hW.1) ((h.ts.2.1.at hT).keep hW.1) ((hs.hts).keep hW.1) ((hs.hst).keep hW.1)) ?_
  refine lm (v := .bool true) rfl rfl ?_
  refine lm (v := .bool true) rfl rfl ?_
  refine lm (v := .pointer (some ⟨g1, 9, none⟩)) rfl rfl ?_
  refine lv (v := .agg #[.int .i64 t.lm.a, .int .i64 t.lm.b, .int .i64 t.lm.c, .int .i64 t.lm.d]) rfl rfl (yb_load (n := 4) (off := 9) rfl (by kernel_rfl) (.tail _ (.head _)) Try.underlying30 rfl (by kernel_rfl) (by first | (simp [Value.cells]; done) | exact Nat.le_of_ble_eq_true rfl) (by kernel_rfl)) ?_
  refine lm (v := .pointer (some ⟨g2, 9, none⟩)) rfl rfl ?_
  refine lv (v := .agg #[.int .i64 s.lm.a, .int .i64 s.lm.b, .int .i64 s.lm.c, .int .i64 s.lm.d]) rfl rfl (yb_load (n := 4) (off := 9) rfl (by kernel_rfl) (.head _) Try.underlying30 rfl (by kernel_rfl) (by first | (simp [Value.cells]; done) | exact Nat.le_of_ble_eq_true rfl) (by kernel_rfl)) ?_
  refine lp (v := .bool true) rfl rfl (run_bin rfl (vx := .agg #[.int .i64 t.lm.a, .int .i64 t.lm.b, .int .i64 t.lm.c, .int .i64 t.lm.d]) (vy := .agg #[.int .i64 s.lm.a, .int .i64 s.lm.b, .int .i64 s.lm.c, .int .i64 s.lm.d]) (by kernel_rfl) (by kernel_rfl) fun w => (by rw [h.rest.2.1]; exact eq_limits s.lm w)) ?_
  refine lm (v := .bool true) rfl rfl ?_
  refine lm (v := .bool true) rfl rfl ?_
  refine wpL_done (fun W2 hW2 => ?_)
  refine (show Code.wp _ _ _ _ _ from ?_)
  refine wp_ret ?_
  try simp only [inBlock_ret, then_ret]
  refine bodyPost_ret (v := .bool true) ?_ rfl ?_
  · kernel_rfl
  · exact ⟨rfl, hW2.1⟩
set_option maxRecDepth 100000 in
set_option maxHeartbeats 4000000 in
theorem KeptShip_any (s t : Sp) (T : List (Nat × Obj)) (w : World) (hs : SpIn w s) (h : LentSp s t T) (hT : ∀ b ∈ T, w.heap[b.1]? = some b.2) : Calls Try.prog 22 #[.agg (spC t).toArray, .agg (spC s).toArray] w fun e w' => e = .returned (.bool true) ∧ Below w.heap.size w w' := by
  go_enter Try.func22, Try.ntmps22
  refine wp_seq ?_
  refine wp_region_L (W0 := w) [] (KS.start w) ?_
  refine wpL_new (fun g => .pointer (some ⟨g, 0, none⟩)) (obi := .cells #[.slice t.pc t.cs.length t.cc, .slice t.po t.os.length t.co, .int .i64 t.li.a, .int .i64 t.li.b, .int .i64 t.li.c, .int .i64 t.li.d, .slice t.pr t.rs.length t.cr, .slice t.pf t.fs.length t.cf, .slice t.pt t.ts.length t.ct, .int .i64 t.lm.a, .int .i64 t.lm.b, .int .i64 t.lm.c, .int .i64 t.lm.d] 32 (0, 0)) rfl rfl (fun _ => by kernel_rfl) (fun _ => by simp only [List.setIfInBounds_toArray, List.set_cons_succ, List.set_cons_zero] <;> rfl) fun g1 Bg1 Fg1 => ?_
  refine wpL_new (fun g => .pointer (some ⟨g, 0, none⟩)) (obi := .cells #[.slice s.pc s.cs.length s.cc, .slice s.po s.os.length s.co, .int .i64 s.li.a, .int .i64 s.li.b, .int .i64 s.li.c, .int .i64 s.li.d, .slice s.pr s.rs.length s.cr, .slice s.pf s.fs.length s.cf, .slice s.pt s.ts.length s.ct, .int .i64 s.lm.a, .int .i64 s.lm.b, .int .i64 s.lm.c, .int .i64 s.lm.d] 32 (0, 0)) rfl rfl (fun _ => by kernel_rfl) (fun _ => by simp only [List.setIfInBounds_toArray, List.set_cons_succ, List.set_cons_zero] <;> rfl) fun g2 Bg2 Fg2 => ?_
  obtain dj3_0 : g1 ≠ g2 := by simpa only [dj_app_l, dj_app_r, dj_cons_l, dj_cons_r, dj_nil_l, dj_nil_r, dk_app, dk_cons, dk_nil, and_true, true_and, and_assoc] using (show Dk g2 [(g1, .cells #[.slice t.pc t.cs.length t.cc, .slice t.po t.os.length t.co, .int .i64 t.li.a, .int .i64 t.li.b, .int .i64 t.li.c, .int .i64 t.li.d, .slice t.pr t.rs.length t.cr, .slice t.pf t.fs.length t.cf, .slice t.pt t.ts.length t.ct, .int .i64 t.lm.a, .int .i64 t.lm.b, .int .i64 t.lm.c, .int .i64 t.lm.d] 32 (0, 0))] from Fg2)
  refine lm (v := .bool false) rfl rfl ?_
  refine wpL_done (fun W1 hW1 => ?_)
  refine (show Code.wp _ _ _ _ _ from ?_)
  refine wp_seq ?_
  refine wp_region_L (W0 := w) [(g2, .cells #[.slice s.pc s.cs.length s.cc, .slice s.po s.os.length s.co, .int .i64 s.li.a, .int .i64 s.li.b, .int .i64 s.li.c, .int .i64 s.li.d, .slice s.pr s.rs.length s.cr, .slice s.pf s.fs.length s.cf, .slice s.pt s.ts.length s.ct, .int .i64 s.lm.a, .int .i64 s.lm.b, .int .i64 s.lm.c, .int .i64 s.lm.d] 32 (0, 0)), (g1, .cells #[.slice t.pc t.cs.length t.cc, .slice t.po t.os.length t.co, .int .i64 t.li.a, .int .i64 t.li.b, .int .i64 t.li.c, .int .i64 t.li.d, .slice t.pr t.rs.length t.cr, .slice t.pf t.fs.length t.cf, .slice t.pt t.ts.length t.ct, .int .i64 t.lm.a, .int .i64 t.lm.b, .int .i64 t.lm.c, .int .i64 t.lm.d] 32 (0, 0))] (hW1) ?_
  refine lv (v := .agg #[.slice t.pc t.cs.length t.cc, .slice t.po t.os.length t.co, .int .i64 t.li.a, .int .i64 t.li.b, .int .i64 t.li.c, .int .i64 t.li.d, .slice t.pr t.rs.length t.cr, .slice t.pf t.fs.length t.cf, .slice t.pt t.ts.length t.ct, .int .i64 t.lm.a, .int .i64 t.lm.b, .int .i64 t.lm.c, .int .i64 t.lm.d]) rfl rfl (yb_load (n := 13) (off := 0) rfl (by kernel_rfl) (.tail _ (.head _)) Try.underlying32 rfl (by kernel_rfl) (by first | (simp [Value.cells]; done) | exact Nat.le_of_ble_eq_true rfl) (by kernel_rfl)) ?_
  refine lv (v := .agg #[.slice s.pc s.cs.length s.cc, .slice s.po s.os.length s.co, .int .i64 s.li.a, .int .i64 s.li.b, .int .i64 s.li.c, .int .i64 s.li.d, .slice s.pr s.rs.length s.cr, .slice s.pf s.fs.length s.cf, .slice s.pt s.ts.length s.ct, .int .i64 s.lm.a, .int .i64 s.lm.b, .int .i64 s.lm.c, .int .i64 s.lm.d]) rfl rfl (yb_load (n := 13) (off := 0) rfl (by kernel_rfl) (.head _) Try.underlying32 rfl (by kernel_rfl) (by first | (simp [Value.cells]; done) | exact Nat.le_of_ble_eq_true rfl) (by kernel_rfl)) ?_
  refine lv (v := .bool true) rfl rfl (yb_call (f := 45) (args := #[.agg #[.slice t.pc t.cs.length t.cc, .slice t.po t.os.length t.co, .int .i64 t.li.a, .int .i64 t.li.b, .int .i64 t.li.c, .int .i64 t.li.d, .slice t.pr t.rs.length t.cr, .slice t.pf t.fs.length t.cf, .slice t.pt t.ts.length t.ct, .int .i64 t.lm.a, .int .i64 t.lm.b, .int .i64 t.lm.c, .int .i64 t.lm.d], .agg #[.slice s.pc s.cs.length s.cc, .slice s.po s.os.length s.co, .int .i64 s.li.a, .int .i64 s.li.b, .int .i64 s.li.c, .int .i64 s.li.d, .slice s.pr s.rs.length s.cr, .slice s.pf s.fs.length s.cf, .slice s.pt s.ts.length s.ct, .int .i64 s.lm.a, .int .i64 s.lm.b, .int .i64 s.lm.c, .int .i64 s.lm.d]]) (fun _ => by kernel_rfl) fun W hW => SameShip_any s t T W (hs.keep hW.1) h (fun b hb => held hW.1 (hT b hb))) ?_
  refine lm (v := .bool true) rfl rfl ?_
  refine lm (v := .pointer (some ⟨g1, 0, none⟩)) rfl rfl ?_
  refine lv (v := .slice t.pc t.cs.length t.cc) rfl rfl (yb_cell (off := 0) rfl (by kernel_rfl) (.tail _ (.head _)) Try.underlying22 rfl (by kernel_rfl)) ?_
  refine lm (v := .pointer (some ⟨g2, 0, none⟩)) rfl rfl ?_
  refine lv (v := .slice s.pc s.cs.length s.cc) rfl rfl (yb_cell (off := 0) rfl (by kernel_rfl) (.head _) Try.underlying22 rfl (by kernel_rfl)) ?_
  refine lv (v := .bool true) rfl rfl (yb_call (f := 46) (args := #[.slice t.pc t.cs.length t.cc, .slice s.pc s.cs.length s.cc]) (fun _ => by kernel_rfl) fun W hW => (by rw [h.cs.1]; exact KeptColumns_any s.cs t.cs t.pc s.pc t.cc s.cc hs.nc hs.np h.cs.1 h.cs.2.2.2 W ((h.cs.2.2.1 w hT).keep hW.1) ((h.cs.2.1.at hT).keep hW.1) ((hs.hc).keep hW.1) ((hs.hp).keep hW.1))) ?_
  refine lm (v := .bool true) rfl rfl ?_
  refine lm (v := .bool true) rfl rfl ?_
  refine lm (v := .pointer (some ⟨g1, 1, none⟩)) rfl rfl ?_
  refine lv (v := .slice t.po t.os.length t.co) rfl rfl (yb_cell (off := 1) rfl (by kernel_rfl) (.tail _ (.head _)) Try.underlying23 rfl (by kernel_rfl)) ?_
  refine lm (v := .pointer (some ⟨g2, 1, none⟩)) rfl rfl ?_
  refine lv (v := .slice s.po s.os.length s.co) rfl rfl (yb_cell (off := 1) rfl (by kernel_rfl) (.head _) Try.underlying23 rfl (by kernel_rfl)) ?_
  refine lv (v := .bool true) rfl rfl (yb_call (f := 47) (args := #[.slice t.po t.os.length t.co, .slice s.po s.os.length s.co]) (fun _ => by kernel_rfl) fun W hW => (by rw [h.os.1]; exact KeptCovers_any s.os t.os t.po s.po t.co s.co hs.no hs.nr h.os.1 h.os.2.2.2 W ((h.os.2.2.1 w hT).keep hW.1) ((h.os.2.1.at hT).keep hW.1) ((hs.ho).keep hW.1) ((hs.hr).keep hW.1))) ?_
  refine lm (v := .bool true) rfl rfl ?_
  refine lm (v := .bool true) rfl rfl ?_
  refine lm (v := .pointer (some ⟨g1, 6, none⟩)) rfl rfl ?_
  refine lv (v := .slice t.pr t.rs.length t.cr) rfl rfl (yb_cell (off := 6) rfl (by kernel_rfl) (.tail _ (.head _)) Try.underlying26 rfl (by kernel_rfl)) ?_
  refine lm (v := .pointer (some ⟨g2, 6, none⟩)) rfl rfl ?_
  refine lv (v := .slice s.pr s.rs.length s.cr) rfl rfl (yb_cell (off := 6) rfl (by kernel_rfl) (.head _) Try.underlying26 rfl (by kernel_rfl)) ?_
  refine lv (v := .bool true) rfl rfl (yb_call (f := 48) (args := #[.slice t.pr t.rs.length t.cr, .slice s.pr s.rs.length s.cr]) (fun _ => by kernel_rfl) fun W hW => (by rw [h.rest.2.2.1]; exact KeptRows_any s.rs t.pr s.pr t.cr s.cr hs.nrs h.rs.2 W ((h.rs.1 w hT).keep hW.1) ((hs.hrs).keep hW.1))) ?_
  refine lm (v := .bool true) rfl rfl ?_
  refine lm (v := .bool true) rfl rfl ?_
  refine lm (v := .pointer (some ⟨g1, 7, none⟩)) rfl rfl ?_
  refine lv (v := .slice t.pf t.fs.length t.cf) rfl rfl (yb_cell (off := 7) rfl (by kernel_rfl) (.tail _ (.head _)) Try.underlying27 rfl (by kernel_rfl)) ?_
  refine lm (v := .pointer (some ⟨g2, 7, none⟩)) rfl rfl ?_
  refine lv (v := .slice s.pf s.fs.length s.cf) rfl rfl (yb_cell (off := 7) rfl (by kernel_rfl) (.head _) Try.underlying27 rfl (by kernel_rfl)) ?_
  refine lv (v := .bool true) rfl rfl (yb_call (f := 49) (args := #[.slice t.pf t.fs.length t.cf, .slice s.pf s.fs.length s.cf]) (fun _ => by kernel_rfl) fun W hW => (by rw [h.rest.2.2.2]; exact KeptFrames_any s.fs t.pf s.pf t.cf s.cf hs.nfs h.fs.2 W ((h.fs.1 w hT).keep hW.1) ((hs.hfs).keep hW.1))) ?_
  refine lm (v := .bool true) rfl rfl ?_
  refine lm (v := .bool true) rfl rfl ?_
  refine lm (v := .pointer (some ⟨g1, 8, none⟩)) rfl rfl ?_
  refine lv (v := .slice t.pt t.ts.length t.ct) rfl rfl (yb_cell (off := 8) rfl (by kernel_rfl) (.tail _ (.head _)) Try.underlying28 rfl (by kernel_rfl)) ?_
  refine lm (v := .pointer (some ⟨g2, 8, none⟩)) rfl rfl ?_
  refine lv (v := .slice s.pt s.ts.length s.ct) rfl rfl (yb_cell (off := 8) rfl (by kernel_rfl) (.head _) Try.underlying28 rfl (by kernel_rfl)) ?_
  refine lv (v := .bool true) rfl rfl (yb_call (f := 50) (args := #[.slice t.pt t.ts.length t.ct, .slice s.pt s.ts.length s.ct]) (fun _ => by kernel_rfl) fun W hW => (by rw [h.ts.1]; exact KeptTanks_any s.ts t.ts t.pt s.pt t.ct s.ct hs.nts hs.nst h.ts.1 h.ts.2.2.2 W ((h.ts.2.2.1 w hT).keep hW.1) ((h.ts.2.1.at hT).keep hW.1) ((hs.hts).keep hW.1) ((hs.hst).keep hW.1))) ?_
  refine lm (v := .bool true) rfl rfl ?_
  refine lm (v := .bool true) rfl rfl ?_
  refine wpL_done (fun W2 hW2 => ?_)
  refine (show Code.wp _ _ _ _ _ from ?_)
  refine wp_ret ?_
  try simp only [inBlock_ret, then_ret]
  refine bodyPost_ret (v := .bool true) ?_ rfl ?_
  · kernel_rfl
  · exact ⟨rfl, hW2.1⟩
end Go.Proofs.Ythpooalhibedpaa
/- What the layer says of a ship that was lent. -/
namespace Go.Proofs.Ythpooalhibedpaa
open Go Go.RowKit Tw
def eC (c : Col) : Col := c.re none 0
def eO (c : Cov) : Cov := c.re none 0
theorem fstF_e {α : Type} {g : α → α} {P : α → Bool} (h : ∀ x, P (g x) = P x) : ∀ (l : List α) (i : Nat), fstF P i (l.map g) = fstF P i l
  | [], _ => rfl
  | x :: l, i => by simp only [List.map_cons, fstF, h, fstF_e h l]
theorem idxF_e {α : Type} {g : α → α} {P : α → Bool} (h : ∀ x, P (g x) = P x) : ∀ (l : List α) (i : Nat), idxF P i (l.map g) = idxF P i l
  | [], _ => rfl
  | x :: l, i => by simp only [List.map_cons, idxF, h, idxF_e h l]
theorem find_e (b r : Int) (d : Bool) (cs : List Col) : fst (isAt b r d) (cs.map eC) = fst (isAt b r d) cs := fstF_e (g := eC) (P := isAt b r d) (fun _ => rfl) cs 0
theorem tallF_e : ∀ (cs : List Col) (m : Int), tallF m (cs.map eC) = tallF m cs
  | [], _ => rfl
  | c :: cs, m => tallF_e cs (max m c.tiers)
theorem tall_e (cs : List Col) : tallX (cs.map eC) = tallX cs := by
  cases cs with
  | nil => rfl
  | cons c cs => exact tallF_e cs c.tiers
theorem tiersF_e : ∀ (cs : List Col) (m : Int), tiersF m (cs.map eC) = tiersF m cs
  | [], _ => rfl
  | _ :: cs, _ => tiersF_e cs _
theorem places_e (cs : List Col) : placesX (cs.map eC) = placesX cs := by
  unfold placesX
  rw [tiersF_e]
theorem colsF_e : ∀ (cs : List Col) (L : List I3), colsF L (cs.map eC) = colsF L cs
  | [], _ => rfl
  | c :: cs, L => by
    have h := colsF_e cs (L ++ [placeX c])
    show (colX c && (!decide (placeX c ∈ L) && colsF (L ++ [placeX c]) (cs.map eC))) = _
    rw [h]; rfl
theorem ovsF_e : ∀ (os : List Cov) (L : List I2), ovsF L (os.map eO) = ovsF L os
  | [], _ => rfl
  | o :: os, L => by
    simp only [List.map_cons, ovsF, ovsF_e os]
    rfl
theorem right_e (cs : List Col) (os : List Cov) : rightX (cs.map eC) (os.map eO) = rightX cs os := by
  unfold rightX colsX ovsX
  rw [List.length_map, List.length_map, colsF_e, ovsF_e]
theorem elB_e {α : Type} (g : α → α) (l : List α) (n : Int) : elB (l.map g) n = elB l n := by
  unfold elB
  rw [List.length_map]
theorem elC_e {α : Type} (g : α → α) (z : α) (hz : g z = z) (l : List α) (n : Int) : elC z (l.map g) n = g (elC z l n) := by
  unfold elC
  rw [List.getElem?_map]
  by_cases hn : n < 0
  · rw [if_pos hn, if_pos hn]; exact hz.symm
  · rw [if_neg hn, if_neg hn]
    cases l[n.toNat]? with
    | none => exact hz.symm
    | some x => rfl
theorem covOf_e (cs : List Col) (os : List Cov) (n : Int) : covOf (cs.map eC) (os.map eO) n = covOf cs os n := by
  unfold covOf
  rw [elB_e, elC_e eC col0 rfl]
  exact congrArg (fun z => if elB cs n = true then z else none) (fstF_e (g := eO) (P := belX (elC col0 cs n)) (fun _ => rfl) os 0)
theorem along_e (cs : List Col) (os : List Cov) (n : Int) (deck : Bool) : alongX (cs.map eC) (os.map eO) n deck = alongX cs os n deck := by
  unfold alongX
  rw [elB_e, elC_e eO cov0 rfl]
  exact congrArg (fun z => if elB os n = true then z else []) (idxF_e (g := eC) (P := partOf deck (elC cov0 os n)) (fun _ => rfl) cs 0)
theorem beside_e (cs : List Col) (n : Int) : besideX (cs.map eC) n = besideX cs n := by
  unfold besideX
  rw [elB_e, elC_e eC col0 rfl]
  exact congrArg (fun z => if elB cs n = true then z else []) (idxF_e (g := eC) (P := besideB (elC col0 cs n)) (fun _ => rfl) cs 0)
theorem bayB_e (cs : List Col) (n : Int) : bayB (cs.map eC) n = bayB cs n := by
  unfold bayB
  rw [elB_e, elC_e eC col0 rfl]; rfl
theorem bayN_e (cs : List Col) (n : Int) : bayN (cs.map eC) n = bayN cs n := by
  unfold bayN
  rw [elC_e eC col0 rfl]; rfl
theorem apB_e (cs : List Col) (a b : Int) : apB (cs.map eC) a b = apB cs a b := by
  unfold apB
  rw [bayB_e, bayB_e]
theorem apN_e (cs : List Col) (a b : Int) : apN (cs.map eC) a b = apN cs a b := by
  unfold apN
  rw [apB_e, bayN_e, bayN_e]
theorem lentC_e {l X : List Col} {T : List (Nat × Obj)} (h : LentC l X T) (hl : X.length = l.length) : X.map eC = l.map eC := by
  apply List.ext_getElem?
  intro i
  rw [List.getElem?_map, List.getElem?_map]
  cases hx : X[i]? with
  | none =>
    rw [List.getElem?_eq_none_iff] at hx
    rw [List.getElem?_eq_none_iff.2 (by omega)]
  | some x =>
    obtain ⟨y, q, d, h1, rfl, _, _⟩ := h i x hx
    rw [h1]; rfl
theorem lentO_e {l X : List Cov} {T : List (Nat × Obj)} (h : LentO l X T) (hl : X.length = l.length) : X.map eO = l.map eO := by
  apply List.ext_getElem?
  intro i
  rw [List.getElem?_map, List.getElem?_map]
  cases hx : X[i]? with
  | none =>
    rw [List.getElem?_eq_none_iff] at hx
    rw [List.getElem?_eq_none_iff.2 (by omega)]
  | some x =>
    obtain ⟨y, q, d, h1, rfl, _, _⟩ := h i x hx
    rw [h1]; rfl
theorem lent_says {s t : Sp} {T : List (Nat × Obj)} (h : LentSp s t T) :
    rightX t.cs t.os = rightX s.cs s.os ∧ tallX t.cs = tallX s.cs ∧ placesX t.cs = placesX s.cs ∧ (∀ b r d, fst (isAt b r d) t.cs = fst (isAt b r d) s.cs) ∧ (∀ n, covOf t.cs t.os n = covOf s.cs s.os n) ∧ (∀ n d, alongX t.cs t.os n d = alongX s.cs s.os n d) ∧ (∀ n, besideX t.cs n = besideX s.cs n) ∧ (∀ a b, apB t.cs a b = apB s.cs a b) ∧ ∀ a b, apN t.cs a b = apN s.cs a b := by
  have h1 := lentC_e h.cs.2.1 h.cs.1
  have h2 := lentO_e h.os.2.1 h.os.1
  refine ⟨?_, ?_, ?_, fun b r d => ?_, fun n => ?_, fun n d => ?_, fun n => ?_, fun a b => ?_, fun a b => ?_⟩
  · rw [← right_e t.cs, h1, h2, right_e]
  · rw [← tall_e t.cs, h1, tall_e]
  · rw [← places_e t.cs, h1, places_e]
  · rw [← find_e b r d t.cs, h1, find_e]
  · rw [← covOf_e t.cs, h1, h2, covOf_e]
  · rw [← along_e t.cs, h1, h2, along_e]
  · rw [← beside_e t.cs, h1, beside_e]
  · rw [← apB_e t.cs, h1, apB_e]
  · rw [← apN_e t.cs, h1, apN_e]
end Go.Proofs.Ythpooalhibedpaa
/- The reference of ship: plain facts. -/
namespace Go.Proofs.Ythpooalhibedpaa
open Go Go.RowKit Tw
def inR (n a b : Int) : Bool := !decide (n < a) && !decide (b < n)
theorem el_nat0 {α : Type} {d : α} {l : List α} {i : Nat} {y : α} (hy : l[i]? = some y) : elB l ((i : Nat) : Int) = true ∧ elC d l ((i : Nat) : Int) = y := el_in (by omega) (by simpa using hy)
theorem colX_is (c : Col) : colX c = (rgsX (rangesX c) && incX c.plugs (c.tiers - 1)) := by
  unfold colX
  cases h : rgsX (rangesX c) with
  | false => rfl
  | true =>
    have h1 : 1 ≤ c.tiers ∧ c.tiers ≤ 10 := by
      unfold rangesX at h
      simp only [rgsX, Bool.and_eq_true, Bool.not_eq_true', decide_eq_false_iff_not] at h
      omega
    rw [wi_i64 (by omega)]
def plB (c : Col) : Bool := inR c.x (-500000) 500000 && (inR c.y (-500000) 500000 && inR c.z (-500000) 500000)
def ldB (c : Col) : Bool := inR c.k20 0 500000000 && (inR c.k40 0 500000000 && inR c.lash 0 1000000000000)
theorem rgs_in (c : Col) : rgsX (rangesX c) = (inR c.bay 0 39 && (inR c.row 0 30 && (inR c.tiers 1 10 && (inR c.height 0 40000 && (ldB c && plB c))))) := by
  unfold rangesX plB ldB inR
  simp only [rgsX]
  rw [Bool.eq_iff_iff]
  simp only [Bool.and_eq_true, Bool.not_eq_true', decide_eq_false_iff_not, and_true]
  constructor
  · intro h
    repeat' apply And.intro
    all_goals omega
  · intro h
    repeat' apply And.intro
    all_goals first | omega | trivial
theorem has_yes {l : List Int} {n : Int} {k : Nat} {y : Int} (h : fstF (fun m => decide (n = m)) 0 (l.take k) = none) (hy : l[k]? = some y) (e : y = n) : hasN l n = true := by
  rw [has_fst, fst_here h hy (decide_eq_true e.symm)]; rfl
theorem has_no {l : List Int} {n : Int} {k : Nat} (h : fstF (fun m => decide (n = m)) 0 (l.take k) = none) (hk : ¬ k < l.length) : hasN l n = false := by
  rw [has_fst, fst_end h hk]; rfl
section
variable {cs : List Col} {os : List Cov} {n : Int}
theorem covOf_neg (h : n < 0) : covOf cs os n = none := by unfold covOf; rw [(el_neg (d := col0) h).1]; rfl
theorem covOf_big {m : Nat} (h : ¬ m < cs.length) : covOf cs os ((m : Nat) : Int) = none := by unfold covOf; rw [(el_big (d := col0) (by omega) (by omega)).1]; rfl
theorem along_neg {d : Bool} (h : n < 0) : alongX cs os n d = [] := by unfold alongX; rw [(el_neg (d := cov0) h).1]; rfl
theorem along_big {m : Nat} {d : Bool} (h : ¬ m < os.length) : alongX cs os ((m : Nat) : Int) d = [] := by unfold alongX; rw [(el_big (d := cov0) (by omega) (by omega)).1]; rfl
theorem covOf_at {m : Nat} {y : Col} (hy : cs[m]? = some y) : covOf cs os ((m : Nat) : Int) = fst (belX y) os := by
  obtain ⟨h1, h2⟩ := el_nat0 (d := col0) hy
  unfold covOf; rw [h1, h2]; rfl
theorem along_at {m : Nat} {o : Cov} {d : Bool} (ho : os[m]? = some o) : alongX cs os ((m : Nat) : Int) d = idx (partOf d o) cs := by
  obtain ⟨h1, h2⟩ := el_nat0 (d := cov0) ho
  unfold alongX; rw [h1, h2]; rfl
end
theorem tallR {cs : List Col} {k : Nat} {c : Col} {m : Int} (hy : cs[k]? = some c) (h : k = 0 ∨ tallX cs = tallF m (cs.drop k)) (hm : k = 0 ∨ m < c.tiers) : tallX cs = tallF c.tiers (cs.drop (k + 1)) := by
  rcases Nat.eq_zero_or_pos k with rfl | hk
  · rw [tall_start hy, tall_step hy, Int.max_self]
  · rcases h with h | h
    · omega
    · rcases hm with hm | hm
      · omega
      · rw [h, tall_step hy, Int.max_eq_right (Int.le_of_lt hm)]
theorem tallN {cs : List Col} {k : Nat} {c : Col} {m : Int} (hy : cs[k]? = some c) (h : k = 0 ∨ tallX cs = tallF m (cs.drop k)) (hk : ¬ k = 0) (hm : ¬ m < c.tiers) : tallX cs = tallF m (cs.drop (k + 1)) := by
  rcases h with h | h
  · exact absurd h hk
  · rw [h, tall_step hy, Int.max_eq_left (by omega)]
theorem placesR {cs : List Col} {k : Nat} {c : Col} {m s : Int} (hy : cs[k]? = some c) (h : placesX cs = IntKind.i64.wrap (2 * tiersF m (cs.drop k))) (hs : s = IntKind.i64.wrap (2 * m)) : placesX cs = IntKind.i64.wrap (2 * tiersF (IntKind.i64.wrap (m + c.tiers)) (cs.drop (k + 1))) ∧ IntKind.i64.wrap (IntKind.i64.wrap (s + c.tiers) + c.tiers) = IntKind.i64.wrap (2 * IntKind.i64.wrap (m + c.tiers)) := by
  refine ⟨by rw [h, tiers_step hy], ?_⟩
  subst hs
  unfold IntKind.wrap
  simp [IntKind.bits, IntKind.signed]
  omega
theorem tallE {cs : List Col} {k : Nat} {m : Int} (h : k = 0 ∨ tallX cs = tallF m (cs.drop k)) (h0 : k = 0 → m = 0) (hk : ¬ k < cs.length) : m = tallX cs := by
  rcases Nat.eq_zero_or_pos k with rfl | hp
  · have e : cs = [] := List.eq_nil_of_length_eq_zero (by omega)
    rw [h0 rfl, e]; rfl
  · rcases h with h | h
    · omega
    · rw [h, tall_end hk]
section
variable {cs : List Col} {a b : Int}
end
def rowOk (c : Col) : Prop := -9223372036854775808 ≤ c.row ∧ c.row ≤ 9223372036854775807
end Go.Proofs.Ythpooalhibedpaa
namespace Go.Proofs.Ythpooalhibedpaa
open Go Go.RowKit Tw
set_option maxRecDepth 100000 in
set_option maxHeartbeats 4000000 in
theorem within_any (n a b : Int) (w : World) : Calls Try.prog 37 #[.int .i64 n, .int .i64 a, .int .i64 b] w fun e w' => e = .returned (.bool (inR n a b)) ∧ Below w.heap.size w w' := by
  go_enter Try.func37, Try.ntmps37
  refine wp_seq ?_
  refine wp_region_L (W0 := w) [] (KS.start w) ?_
  refine lm (v := .bool false) rfl rfl ?_
  refine wpL_done (fun W1 hW1 => ?_)
  refine (show Code.wp _ _ _ _ _ from ?_)
  refine wp_seq ?_
  refine wp_region_L (W0 := w) [] (hW1) ?_
  refine lm (v := .int .i64 n) rfl rfl ?_
  refine lm (v := .int .i64 a) rfl rfl ?_
  refine lp (v := .bool (!(decide (n < a)))) rfl rfl (run_bin rfl (vx := (.int .i64 n)) (vy := (.int .i64 a)) (by kernel_rfl) (by kernel_rfl) fun w => bi_geq rfl w) ?_
  refine lm (v := .bool (!(decide (n < a)))) rfl rfl ?_
  cases hd1 : (decide (n < a)) with
  | false =>
    have h1 : ¬ (n < a) := of_decide_eq_false hd1
    clear hd1
    refine lm (v := .int .i64 n) rfl rfl ?_
    refine lm (v := .int .i64 b) rfl rfl ?_
    refine lp (v := .bool (!(decide (b < n)))) rfl rfl (run_bin rfl (vx := (.int .i64 n)) (vy := (.int .i64 b)) (by kernel_rfl) (by kernel_rfl) fun w => bi_leq rfl w) ?_
    refine lm (v := .bool (!(decide (b < n)))) rfl rfl ?_
    refine lm (v := .bool (!(decide (b < n)))) rfl rfl ?_
    refine wpL_done (fun W2 hW2 => ?_)
    refine (show Code.wp _ _ _ _ _ from ?_)
    refine wp_ret ?_
    try simp only [inBlock_ret, then_ret]
    refine bodyPost_ret (v := .bool (!(decide (b < n)))) ?_ rfl ?_
    · kernel_rfl
    · exact ⟨(bool_is (by unfold inR; simp [*])), hW2.1⟩
  | true =>
    have h1 : n < a := of_decide_eq_true hd1
    clear hd1
    refine ln rfl ?_
    refine ln rfl ?_
    refine ln rfl ?_
    refine lm (v := .bool false) rfl rfl ?_
    refine lm (v := .bool false) rfl rfl ?_
    refine wpL_done (fun W3 hW3 => ?_)
    refine (show Code.wp _ _ _ _ _ from ?_)
    refine wp_ret ?_
    try simp only [inBlock_ret, then_ret]
    refine bodyPost_ret (v := .bool false) ?_ rfl ?_
    · kernel_rfl
    · exact ⟨(bool_is (by unfold inR; simp [*])), hW3.1⟩
set_option maxRecDepth 100000 in
set_option maxHeartbeats 4000000 in
theorem inside_any (l : List Int) (p : Option Addr) (c : Nat) (n : Int) (hl : l.length ≤ 4000000000) (w : World) (hp : SLV w p (l.flatMap inC)) : Calls Try.prog 39 #[.slice p l.length c, .int .i64 n] w fun e w' => e = .returned (.bool (hasN l n)) ∧ Below w.heap.size w w' := by
  have HP := Lib.hid hp
  clear hp
  go_enter Try.func39, Try.ntmps39
  refine wp_seq ?_
  refine wp_region_L (W0 := w) [] (KS.start w) ?_
  refine lm (v := .bool false) rfl rfl ?_
  refine wpL_done (fun W1 hW1 => ?_)
  refine (show Code.wp _ _ _ _ _ from ?_)
  refine wp_seq ?_
  refine wp_seq ?_
  refine wp_region_L (W0 := w) [] (hW1) ?_
  refine lm (v := .int .i64 0) rfl rfl ?_
  refine wpL_done (fun W2 hW2 => ?_)
  refine (show Code.wp _ _ _ _ _ from ?_)
  refine wp_block ?_
  go_loopw [5] (fun u5 wr => ∃ (k : Nat), (k ≤ l.length) ∧ (fstF (fun m => decide (n = m)) 0 (l.take k) = none) ∧ u5 = .int .i64 ((k : Nat) : Int) ∧ KS w [] wr) (fun u5 _ => l.length - (intOf u5).toNat)
  case atStart => exact ⟨0, (Nat.zero_le _), fst_zero, rfl, (hW2.sub (fun p hp => by first | exact hp | (simp only [List.mem_cons, List.mem_append, List.nil_append, List.not_mem_nil, or_assoc, or_false, false_or] at hp ⊢ <;> grind)))⟩
  case round =>
    obtain ⟨k, hk, hF, rfl, hL3⟩ := hrel
    refine wp_seq ?_
    refine wp_seq ?_
    refine wp_region_L (W0 := w) [] (hL3) ?_
    refine lm (v := .int .i64 ((k : Nat) : Int)) rfl rfl ?_
    refine lm (v := .slice p l.length c) rfl rfl ?_
    refine lp (v := .int .i64 ((l.length : Nat) : Int)) rfl rfl (run_lenL (p := p) (cap := c) (n := l.length) rfl Try.underlying39 (by kernel_rfl)) ?_
    refine lp (v := .bool (decide (k < l.length))) rfl rfl (run_bin rfl (vx := (.int .i64 ((k : Nat) : Int))) (vy := (.int .i64 ((l.length : Nat) : Int))) (by kernel_rfl) (by kernel_rfl) fun w => bn_lss rfl w) ?_
    refine wpL_done (fun W4 hW4 => ?_)
    refine (show Code.wp _ _ _ _ _ from ?_)
    cases hd1 : (decide (k < l.length)) with
    | false =>
      have h1 : ¬ (k < l.length) := of_decide_eq_false hd1
      clear hd1
      refine wp_cond_false rfl ?_
      refine wp_exit ?_
      refine (show Code.wp _ _ _ _ _ from ?_)
      refine wp_seq ?_
      refine wp_region_L (W0 := w) [] (hW4) ?_
      refine lm (v := .bool false) rfl rfl ?_
      refine wpL_done (fun W5 hW5 => ?_)
      refine (show Code.wp _ _ _ _ _ from ?_)
      refine wp_ret ?_
      try simp only [inBlock_ret, then_ret]
      refine bodyPost_ret (v := .bool false) ?_ rfl ?_
      · kernel_rfl
      · exact ⟨(bool_is (has_no hF h1).symm), hW5.1⟩
    | true =>
      have h1 : k < l.length := of_decide_eq_true hd1
      clear hd1
      refine wp_cond_true rfl ?_
      refine wp_skip ?_
      refine (show Code.wp _ _ _ _ _ from ?_)
      refine wp_seq ?_
      refine wp_block ?_
      refine wp_seq ?_
      refine wp_region_L (W0 := w) [] (hW4) ?_
      refine lm (v := .slice p l.length c) rfl rfl ?_
      refine lm (v := .int .i64 ((k : Nat) : Int)) rfl rfl ?_
      obtain ⟨y1, g1_, f1_, hy1, hp1, hc1⟩ := RL.at (RL.base HP.out) inC_len (by decide) (hW4.sub (fun _ h => by cases h)) (k := k) (by omega)
      refine lp (v := .pointer (some ⟨g1_, f1_ + k * 1, none⟩)) rfl rfl (run_idxQ (p := p) (cap := c) (n := l.length) (j := .i64) (k := k) (sz := 1) rfl Try.underlying39 (by kernel_rfl) (by kernel_rfl) hp1 (by kernel_rfl) (by omega)) ?_
      refine lv (v := .int .i64 y1) rfl rfl (yb_rf (v := .int .i64 y1) rfl (by kernel_rfl) (fun W hW => hc1 W (hW.sub (fun _ h => by cases h)) 0 _ rfl) Try.underlying3 rfl) ?_
      refine lm (v := .int .i64 n) rfl rfl ?_
      refine lp (v := .bool (decide (y1 = n))) rfl rfl (run_bin rfl (vx := (.int .i64 y1)) (vy := (.int .i64 n)) (by kernel_rfl) (by kernel_rfl) fun w => bi_eql rfl w) ?_
      refine wpL_done (fun W6 hW6 => ?_)
      refine (show Code.wp _ _ _ _ _ from ?_)
      cases hd2 : (decide (y1 = n)) with
      | false =>
        have h2 : ¬ (y1 = n) := of_decide_eq_false hd2
        clear hd2
        refine wp_cond_false rfl ?_
        refine wp_skip ?_
        refine (show Code.wp _ _ _ _ _ from ?_)
        refine wp_region_L (W0 := w) [] (hW6) ?_
        refine lm (v := .int .i64 ((k : Nat) : Int)) rfl rfl ?_
        refine lp (v := .int .i64 (((k + 1) : Nat) : Int)) rfl rfl (run_bin rfl (vx := (.int .i64 ((k : Nat) : Int))) (vy := (.int .i64 ((1 : Nat) : Int))) (by kernel_rfl) (by kernel_rfl) fun w => bn_add (z := (k + 1)) rfl (wr_i64 (by omega)) w) ?_
        refine lm (v := .int .i64 (((k + 1) : Nat) : Int)) rfl rfl ?_
        refine wpL_done (fun W7 hW7 => ?_)
        go_roundw
        case rel =>
          repeat apply Exists.intro
          exact ⟨⟨k + 1, (by omega), (fst_next hF hy1 (decide_eq_false (fun e => h2 e.symm))), rfl, (hW7.sub (fun p hp => by first | exact hp | (simp only [List.mem_cons, List.mem_append, List.nil_append, List.not_mem_nil, or_assoc, or_false, false_or] at hp ⊢ <;> grind)))⟩, rfl⟩
        case measure => (show l.length - (intOf (.int .i64 (((k + 1) : Nat) : Int))).toNat < l.length - (intOf (.int .i64 ((k : Nat) : Int))).toNat); simp only [intOf]; omega
      | true =>
        have h2 : y1 = n := of_decide_eq_true hd2
        clear hd2
        refine wp_cond_true rfl ?_
        refine wp_seq ?_
        refine wp_region_L (W0 := w) [] (hW6) ?_
        refine lm (v := .bool true) rfl rfl ?_
        refine wpL_done (fun W8 hW8 => ?_)
        refine (show Code.wp _ _ _ _ _ from ?_)
        refine wp_ret ?_
        try simp only [inBlock_ret, then_ret]
        refine bodyPost_ret (v := .bool true) ?_ rfl ?_
        · kernel_rfl
        · exact ⟨(bool_is (has_yes hF hy1 h2).symm), hW8.1⟩
set_option maxRecDepth 100000 in
set_option maxHeartbeats 4000000 in
theorem column_any (c : Col) (hl : c.plugs.length ≤ 4000000000) (w : World) (hp : SLV w c.pp (c.plugs.flatMap inC)) : Calls Try.prog 38 #[.agg (colC c).toArray] w fun e w' => e = .returned (.bool (colX c)) ∧ Below w.heap.size w w' := by
  have HP := Lib.hid hp
  clear hp
  go_enter Try.func38, Try.ntmps38
  refine wp_seq ?_
  refine wp_region_L (W0 := w) [] (KS.start w) ?_
  refine wpL_new (fun g => .pointer (some ⟨g, 0, none⟩)) (obi := .cells (colC c).toArray 49 (0, 0)) rfl rfl (fun _ => by kernel_rfl) (fun _ => by simp only [List.setIfInBounds_toArray, List.set_cons_succ, List.set_cons_zero] <;> rfl) fun g1 Bg1 Fg1 => ?_
  refine lm (v := .bool false) rfl rfl ?_
  refine wpL_done (fun W1 hW1 => ?_)
  refine (show Code.wp _ _ _ _ _ from ?_)
  refine wp_seq ?_
  refine wp_seq ?_
  refine wp_region_L (W0 := w) [(g1, .cells (colC c).toArray 49 (0, 0))] (hW1) ?_
  refine lm (v := .int .i64 0) rfl rfl ?_
  refine wpL_done (fun W2 hW2 => ?_)
  refine (show Code.wp _ _ _ _ _ from ?_)
  refine wp_block ?_
  go_loopw [3] (fun u3 wr => ∃ (k : Nat) (z : Int), (k ≤ c.plugs.length) ∧ (incX c.plugs (c.tiers - 1) = incF (c.tiers - 1) z (c.plugs.drop k)) ∧ ((k = 0 ∧ z = -1) ∨ (0 < k ∧ 0 ≤ z ∧ c.plugs[k - 1]? = some z)) ∧ u3 = .int .i64 ((k : Nat) : Int) ∧ KS w [(g1, .cells (colC c).toArray 49 (0, 0))] wr) (fun u3 _ => c.plugs.length - (intOf u3).toNat)
  case atStart => exact ⟨0, (-1), (Nat.zero_le _), rfl, (.inl ⟨rfl, rfl⟩), rfl, (hW2.sub (fun p hp => by first | exact hp | (simp only [List.mem_cons, List.mem_append, List.nil_append, List.not_mem_nil, or_assoc, or_false, false_or] at hp ⊢ <;> grind)))⟩
  case round =>
    obtain ⟨k, z, hk, hR, hz, rfl, hL3⟩ := hrel
    refine wp_seq ?_
    refine wp_seq ?_
    refine wp_region_L (W0 := w) [(g1, .cells (colC c).toArray 49 (0, 0))] (hL3) ?_
    refine lm (v := .int .i64 ((k : Nat) : Int)) rfl rfl ?_
    refine lm (v := .pointer (some ⟨g1, 8, none⟩)) rfl rfl ?_
    refine lv (v := .slice c.pp c.plugs.length c.pc) rfl rfl (yb_cell (off := 8) rfl (by kernel_rfl) (.head _) Try.underlying39 rfl (by kernel_rfl)) ?_
    refine lp (v := .int .i64 ((c.plugs.length : Nat) : Int)) rfl rfl (run_lenL (p := c.pp) (cap := c.pc) (n := c.plugs.length) rfl Try.underlying39 (by kernel_rfl)) ?_
    refine lp (v := .bool (decide (k < c.plugs.length))) rfl rfl (run_bin rfl (vx := (.int .i64 ((k : Nat) : Int))) (vy := (.int .i64 ((c.plugs.length : Nat) : Int))) (by kernel_rfl) (by kernel_rfl) fun w => bn_lss rfl w) ?_
    refine wpL_done (fun W4 hW4 => ?_)
    refine (show Code.wp _ _ _ _ _ from ?_)
    cases hd1 : (decide (k < c.plugs.length)) with
    | false =>
      have h1 : ¬ (k < c.plugs.length) := of_decide_eq_false hd1
      clear hd1
      refine wp_cond_false rfl ?_
      refine wp_exit ?_
      refine (show Code.wp _ _ _ _ _ from ?_)
      refine wp_joins (JoinR (fun z => List.toArray ((.agg (colC c).toArray) :: (.pointer (some ⟨g1, 0, none⟩)) :: z 2 :: (.int .i64 ((k : Nat) : Int)) :: (.bool (plB c)) :: undef :: (.int .i64 ((k : Nat) : Int)) :: (.pointer (some ⟨g1, 8, none⟩)) :: (.slice c.pp c.plugs.length c.pc) :: (.int .i64 ((c.plugs.length : Nat) : Int)) :: (.bool false) :: z 11 :: z 12 :: z 13 :: z 14 :: z 15 :: z 16 :: z 17 :: z 18 :: z 19 :: z 20 :: z 21 :: z 22 :: z 23 :: z 24 :: z 25 :: z 26 :: z 27 :: z 28 :: z 29 :: z 30 :: z 31 :: z 32 :: z 33 :: z 34 :: z 35 :: z 36 :: z 37 :: z 38 :: z 39 :: z 40 :: z 41 :: z 42 :: z 43 :: z 44 :: z 45 :: z 46 :: z 47 :: z 48 :: z 49 :: z 50 :: z 51 :: z 52 :: z 53 :: z 54 :: z 55 :: z 56 :: z 57 :: undef :: undef :: undef :: undef :: undef :: undef :: undef :: undef :: undef :: undef :: undef :: undef :: undef :: undef :: undef :: undef :: undef :: undef :: undef :: undef :: undef :: undef :: undef :: undef :: undef :: undef :: undef :: undef :: undef :: undef :: undef :: undef :: undef :: undef :: undef :: undef :: undef :: [])) w [(g1, .cells (colC c).toArray 49 (0, 0))]) 1 ?_ ?_
      · refine (show Code.wp _ _ _ _ _ from ?_)
        refine wp_region_L (W0 := w) [(g1, .cells (colC c).toArray 49 (0, 0))] (hW4) ?_
        refine lm (v := .pointer (some ⟨g1, 9, none⟩)) rfl rfl ?_
        refine lv (v := .int .i64 c.x) rfl rfl (yb_cell (off := 9) rfl (by kernel_rfl) (.head _) Try.underlying3 rfl (by kernel_rfl)) ?_
        refine lv (v := .bool (inR c.x (-500000) 500000)) rfl rfl (yb_call (f := 37) (args := #[.int .i64 c.x, .int .i64 (-500000), .int .i64 500000]) (fun _ => by kernel_rfl) fun W hW => within_any c.x (-500000) 500000 W) ?_
        refine lm (v := .bool (inR c.x (-500000) 500000)) rfl rfl ?_
        cases h2 : (inR c.x (-500000) 500000) with
        | false =>
          refine ln rfl ?_
          refine ln rfl ?_
          refine ln rfl ?_
          refine lm (v := .bool false) rfl rfl ?_
          refine lm (v := .bool false) rfl rfl ?_
          refine ln rfl ?_
          refine ln rfl ?_
          refine ln rfl ?_
          refine lm (v := .bool false) rfl rfl ?_
          refine lm (v := .bool false) rfl rfl ?_
          refine wpL_done (fun W5 hW5 => ?_)
          exact join_mk (by rw [show plB c = false from by unfold plB; simp [h2]]; kernel_rfl) (hW5.sub (fun p hp => by first | exact hp | (simp only [List.mem_cons, List.mem_append, List.nil_append, List.not_mem_nil, or_assoc, or_false, false_or] at hp ⊢ <;> grind)))
        | true =>
          refine lm (v := .pointer (some ⟨g1, 10, none⟩)) rfl rfl ?_
          refine lv (v := .int .i64 c.y) rfl rfl (yb_cell (off := 10) rfl (by kernel_rfl) (.head _) Try.underlying3 rfl (by kernel_rfl)) ?_
          refine lv (v := .bool (inR c.y (-500000) 500000)) rfl rfl (yb_call (f := 37) (args := #[.int .i64 c.y, .int .i64 (-500000), .int .i64 500000]) (fun _ => by kernel_rfl) fun W hW => within_any c.y (-500000) 500000 W) ?_
          refine lm (v := .bool (inR c.y (-500000) 500000)) rfl rfl ?_
          refine lm (v := .bool (inR c.y (-500000) 500000)) rfl rfl ?_
          cases h3 : (inR c.y (-500000) 500000) with
          | false =>
            refine ln rfl ?_
            refine ln rfl ?_
            refine ln rfl ?_
            refine lm (v := .bool false) rfl rfl ?_
            refine lm (v := .bool false) rfl rfl ?_
            refine wpL_done (fun W6 hW6 => ?_)
            exact join_mk (by rw [show plB c = false from by unfold plB; simp [h2, h3]]; kernel_rfl) (hW6.sub (fun p hp => by first | exact hp | (simp only [List.mem_cons, List.mem_append, List.nil_append, List.not_mem_nil, or_assoc, or_false, false_or] at hp ⊢ <;> grind)))
          | true =>
            refine lm (v := .pointer (some ⟨g1, 11, none⟩)) rfl rfl ?_
            refine lv (v := .int .i64 c.z) rfl rfl (yb_cell (off := 11) rfl (by kernel_rfl) (.head _) Try.underlying3 rfl (by kernel_rfl)) ?_
            refine lv (v := .bool (inR c.z (-500000) 500000)) rfl rfl (yb_call (f := 37) (args := #[.int .i64 c.z, .int .i64 (-500000), .int .i64 500000]) (fun _ => by kernel_rfl) fun W hW => within_any c.z (-500000) 500000 W) ?_
            refine lm (v := .bool (inR c.z (-500000) 500000)) rfl rfl ?_
            refine lm (v := .bool (inR c.z (-500000) 500000)) rfl rfl ?_
            refine wpL_done (fun W7 hW7 => ?_)
            exact join_mk (by rw [show plB c = (inR c.z (-500000) 500000) from by unfold plB; simp [h2, h3]]; kernel_rfl) (hW7.sub (fun p hp => by first | exact hp | (simp only [List.mem_cons, List.mem_append, List.nil_append, List.not_mem_nil, or_assoc, or_false, false_or] at hp ⊢ <;> grind)))
      · rintro a1 W1j ⟨⟨z, rfl⟩, hW1j⟩
        dsimp only [cutT]
        refine wp_joins (JoinR (fun z => List.toArray ((.agg (colC c).toArray) :: (.pointer (some ⟨g1, 0, none⟩)) :: z 2 :: (.int .i64 ((k : Nat) : Int)) :: (.bool (plB c)) :: (.bool (ldB c)) :: (.int .i64 ((k : Nat) : Int)) :: (.pointer (some ⟨g1, 8, none⟩)) :: (.slice c.pp c.plugs.length c.pc) :: (.int .i64 ((c.plugs.length : Nat) : Int)) :: (.bool false) :: z 11 :: z 12 :: z 13 :: z 14 :: z 15 :: z 16 :: z 17 :: z 18 :: z 19 :: z 20 :: z 21 :: z 22 :: z 23 :: z 24 :: z 25 :: z 26 :: z 27 :: z 28 :: z 29 :: z 30 :: z 31 :: z 32 :: z 33 :: z 34 :: z 35 :: z 36 :: z 37 :: z 38 :: z 39 :: z 40 :: z 41 :: z 42 :: z 43 :: z 44 :: z 45 :: z 46 :: z 47 :: z 48 :: z 49 :: z 50 :: z 51 :: z 52 :: z 53 :: z 54 :: z 55 :: z 56 :: z 57 :: z 58 :: z 59 :: z 60 :: z 61 :: z 62 :: z 63 :: z 64 :: z 65 :: z 66 :: z 67 :: z 68 :: z 69 :: z 70 :: undef :: undef :: undef :: undef :: undef :: undef :: undef :: undef :: undef :: undef :: undef :: undef :: undef :: undef :: undef :: undef :: undef :: undef :: undef :: undef :: undef :: undef :: undef :: undef :: [])) w [(g1, .cells (colC c).toArray 49 (0, 0))]) 1 ?_ ?_
        · refine (show Code.wp _ _ _ _ _ from ?_)
          refine wp_region_L (W0 := w) [(g1, .cells (colC c).toArray 49 (0, 0))] (hW1j) ?_
          refine lm (v := .pointer (some ⟨g1, 5, none⟩)) rfl rfl ?_
          refine lv (v := .int .i64 c.k20) rfl rfl (yb_cell (off := 5) rfl (by kernel_rfl) (.head _) Try.underlying3 rfl (by kernel_rfl)) ?_
          refine lv (v := .bool (inR c.k20 0 500000000)) rfl rfl (yb_call (f := 37) (args := #[.int .i64 c.k20, .int .i64 0, .int .i64 500000000]) (fun _ => by kernel_rfl) fun W hW => within_any c.k20 0 500000000 W) ?_
          refine lm (v := .bool (inR c.k20 0 500000000)) rfl rfl ?_
          cases h4 : (inR c.k20 0 500000000) with
          | false =>
            refine ln rfl ?_
            refine ln rfl ?_
            refine ln rfl ?_
            refine lm (v := .bool false) rfl rfl ?_
            refine lm (v := .bool false) rfl rfl ?_
            refine ln rfl ?_
            refine ln rfl ?_
            refine ln rfl ?_
            refine lm (v := .bool false) rfl rfl ?_
            refine lm (v := .bool false) rfl rfl ?_
            refine wpL_done (fun W8 hW8 => ?_)
            exact join_mk (by rw [show ldB c = false from by unfold ldB; simp [h4]]; kernel_rfl) (hW8.sub (fun p hp => by first | exact hp | (simp only [List.mem_cons, List.mem_append, List.nil_append, List.not_mem_nil, or_assoc, or_false, false_or] at hp ⊢ <;> grind)))
          | true =>
            refine lm (v := .pointer (some ⟨g1, 6, none⟩)) rfl rfl ?_
            refine lv (v := .int .i64 c.k40) rfl rfl (yb_cell (off := 6) rfl (by kernel_rfl) (.head _) Try.underlying3 rfl (by kernel_rfl)) ?_
            refine lv (v := .bool (inR c.k40 0 500000000)) rfl rfl (yb_call (f := 37) (args := #[.int .i64 c.k40, .int .i64 0, .int .i64 500000000]) (fun _ => by kernel_rfl) fun W hW => within_any c.k40 0 500000000 W) ?_
            refine lm (v := .bool (inR c.k40 0 500000000)) rfl rfl ?_
            refine lm (v := .bool (inR c.k40 0 500000000)) rfl rfl ?_
            cases h5 : (inR c.k40 0 500000000) with
            | false =>
              refine ln rfl ?_
              refine ln rfl ?_
              refine ln rfl ?_
              refine lm (v := .bool false) rfl rfl ?_
              refine lm (v := .bool false) rfl rfl ?_
              refine wpL_done (fun W9 hW9 => ?_)
              exact join_mk (by rw [show ldB c = false from by unfold ldB; simp [h4, h5]]; kernel_rfl) (hW9.sub (fun p hp => by first | exact hp | (simp only [List.mem_cons, List.mem_append, List.nil_append, List.not_mem_nil, or_assoc, or_false, false_or] at hp ⊢ <;> grind)))
            | true =>
              refine lm (v := .pointer (some ⟨g1, 7, none⟩)) rfl rfl ?_
              refine lv (v := .int .i64 c.lash) rfl rfl (yb_cell (off := 7) rfl (by kernel_rfl) (.head _) Try.underlying3 rfl (by kernel_rfl)) ?_
              refine lv (v := .bool (inR c.lash 0 1000000000000)) rfl rfl (yb_call (f := 37) (args := #[.int .i64 c.lash, .int .i64 0, .int .i64 1000000000000]) (fun _ => by kernel_rfl) fun W hW => within_any c.lash 0 1000000000000 W) ?_
              refine lm (v := .bool (inR c.lash 0 1000000000000)) rfl rfl ?_
              refine lm (v := .bool (inR c.lash 0 1000000000000)) rfl rfl ?_
              refine wpL_done (fun W10 hW10 => ?_)
              exact join_mk (by rw [show ldB c = (inR c.lash 0 1000000000000) from by unfold ldB; simp [h4, h5]]; kernel_rfl) (hW10.sub (fun p hp => by first | exact hp | (simp only [List.mem_cons, List.mem_append, List.nil_append, List.not_mem_nil, or_assoc, or_false, false_or] at hp ⊢ <;> grind)))
        · rintro a2 W2j ⟨⟨z, rfl⟩, hW2j⟩
          dsimp only [cutT]
          refine wp_seq ?_
          refine wp_region_L (W0 := w) [(g1, .cells (colC c).toArray 49 (0, 0))] (hW2j) ?_
          refine lm (v := .pointer (some ⟨g1, 0, none⟩)) rfl rfl ?_
          refine lv (v := .int .i64 c.bay) rfl rfl (yb_cell (off := 0) rfl (by kernel_rfl) (.head _) Try.underlying3 rfl (by kernel_rfl)) ?_
          refine lv (v := .bool (inR c.bay 0 39)) rfl rfl (yb_call (f := 37) (args := #[.int .i64 c.bay, .int .i64 0, .int .i64 39]) (fun _ => by kernel_rfl) fun W hW => within_any c.bay 0 39 W) ?_
          refine lm (v := .bool (inR c.bay 0 39)) rfl rfl ?_
          cases h6 : (inR c.bay 0 39) with
          | false =>
            refine ln rfl ?_
            refine ln rfl ?_
            refine ln rfl ?_
            refine lm (v := .bool false) rfl rfl ?_
            refine lm (v := .bool false) rfl rfl ?_
            refine ln rfl ?_
            refine ln rfl ?_
            refine ln rfl ?_
            refine lm (v := .bool false) rfl rfl ?_
            refine lm (v := .bool false) rfl rfl ?_
            refine ln rfl ?_
            refine ln rfl ?_
            refine ln rfl ?_
            refine lm (v := .bool false) rfl rfl ?_
            refine lm (v := .bool false) rfl rfl ?_
            refine ln rfl ?_
            refine lm (v := .bool false) rfl rfl ?_
            refine lm (v := .bool false) rfl rfl ?_
            refine ln rfl ?_
            refine lm (v := .bool false) rfl rfl ?_
            refine lm (v := .bool false) rfl rfl ?_
            refine wpL_done (fun W11 hW11 => ?_)
            refine (show Code.wp _ _ _ _ _ from ?_)
            refine wp_ret ?_
            try simp only [inBlock_ret, then_ret]
            refine bodyPost_ret (v := .bool false) ?_ rfl ?_
            · kernel_rfl
            · exact ⟨(bool_is (by rw [colX_is, hR, inc_end h1, rgs_in]; simp [*])), hW11.1⟩
          | true =>
            refine lm (v := .pointer (some ⟨g1, 1, none⟩)) rfl rfl ?_
            refine lv (v := .int .i64 c.row) rfl rfl (yb_cell (off := 1) rfl (by kernel_rfl) (.head _) Try.underlying3 rfl (by kernel_rfl)) ?_
            refine lv (v := .bool (inR c.row 0 30)) rfl rfl (yb_call (f := 37) (args := #[.int .i64 c.row, .int .i64 0, .int .i64 30]) (fun _ => by kernel_rfl) fun W hW => within_any c.row 0 30 W) ?_
            refine lm (v := .bool (inR c.row 0 30)) rfl rfl ?_
            refine lm (v := .bool (inR c.row 0 30)) rfl rfl ?_
            cases h7 : (inR c.row 0 30) with
            | false =>
              refine ln rfl ?_
              refine ln rfl ?_
              refine ln rfl ?_
              refine lm (v := .bool false) rfl rfl ?_
              refine lm (v := .bool false) rfl rfl ?_
              refine ln rfl ?_
              refine ln rfl ?_
              refine ln rfl ?_
              refine lm (v := .bool false) rfl rfl ?_
              refine lm (v := .bool false) rfl rfl ?_
              refine ln rfl ?_
              refine lm (v := .bool false) rfl rfl ?_
              refine lm (v := .bool false) rfl rfl ?_
              refine ln rfl ?_
              refine lm (v := .bool false) rfl rfl ?_
              refine lm (v := .bool false) rfl rfl ?_
              refine wpL_done (fun W12 hW12 => ?_)
              refine (show Code.wp _ _ _ _ _ from ?_)
              refine wp_ret ?_
              try simp only [inBlock_ret, then_ret]
              refine bodyPost_ret (v := .bool false) ?_ rfl ?_
              · kernel_rfl
              · exact ⟨(bool_is (by rw [colX_is, hR, inc_end h1, rgs_in]; simp [*])), hW12.1⟩
            | true =>
              refine lm (v := .pointer (some ⟨g1, 3, none⟩)) rfl rfl ?_
              refine lv (v := .int .i64 c.tiers) rfl rfl (yb_cell (off := 3) rfl (by kernel_rfl) (.head _) Try.underlying3 rfl (by kernel_rfl)) ?_
              refine lv (v := .bool (inR c.tiers 1 10)) rfl rfl (yb_call (f := 37) (args := #[.int .i64 c.tiers, .int .i64 1, .int .i64 10]) (fun _ => by kernel_rfl) fun W hW => within_any c.tiers 1 10 W) ?_
              refine lm (v := .bool (inR c.tiers 1 10)) rfl rfl ?_
              refine lm (v := .bool (inR c.tiers 1 10)) rfl rfl ?_
              cases h8 : (inR c.tiers 1 10) with
              | false =>
                refine ln rfl ?_
                refine ln rfl ?_
                refine ln rfl ?_
                refine lm (v := .bool false) rfl rfl ?_
                refine lm (v := .bool false) rfl rfl ?_
                refine ln rfl ?_
                refine lm (v := .bool false) rfl rfl ?_
                refine lm (v := .bool false) rfl rfl ?_
                refine ln rfl ?_
                refine lm (v := .bool false) rfl rfl ?_
                refine lm (v := .bool false) rfl rfl ?_
                refine wpL_done (fun W13 hW13 => ?_)
                refine (show Code.wp _ _ _ _ _ from ?_)
                refine wp_ret ?_
                try simp only [inBlock_ret, then_ret]
                refine bodyPost_ret (v := .bool false) ?_ rfl ?_
                · kernel_rfl
                · exact ⟨(bool_is (by rw [colX_is, hR, inc_end h1, rgs_in]; simp [*])), hW13.1⟩
              | true =>
                refine lm (v := .pointer (some ⟨g1, 4, none⟩)) rfl rfl ?_
                refine lv (v := .int .i64 c.height) rfl rfl (yb_cell (off := 4) rfl (by kernel_rfl) (.head _) Try.underlying3 rfl (by kernel_rfl)) ?_
                refine lv (v := .bool (inR c.height 0 40000)) rfl rfl (yb_call (f := 37) (args := #[.int .i64 c.height, .int .i64 0, .int .i64 40000]) (fun _ => by kernel_rfl) fun W hW => within_any c.height 0 40000 W) ?_
                refine lm (v := .bool (inR c.height 0 40000)) rfl rfl ?_
                refine lm (v := .bool (inR c.height 0 40000)) rfl rfl ?_
                cases h9 : (inR c.height 0 40000) with
                | false =>
                  refine ln rfl ?_
                  refine lm (v := .bool false) rfl rfl ?_
                  refine lm (v := .bool false) rfl rfl ?_
                  refine ln rfl ?_
                  refine lm (v := .bool false) rfl rfl ?_
                  refine lm (v := .bool false) rfl rfl ?_
                  refine wpL_done (fun W14 hW14 => ?_)
                  refine (show Code.wp _ _ _ _ _ from ?_)
                  refine wp_ret ?_
                  try simp only [inBlock_ret, then_ret]
                  refine bodyPost_ret (v := .bool false) ?_ rfl ?_
                  · kernel_rfl
                  · exact ⟨(bool_is (by rw [colX_is, hR, inc_end h1, rgs_in]; simp [*])), hW14.1⟩
                | true =>
                  refine lm (v := .bool (ldB c)) rfl rfl ?_
                  refine lm (v := .bool (ldB c)) rfl rfl ?_
                  refine lm (v := .bool (ldB c)) rfl rfl ?_
                  cases h10 : (ldB c) with
                  | false =>
                    refine ln rfl ?_
                    refine lm (v := .bool false) rfl rfl ?_
                    refine lm (v := .bool false) rfl rfl ?_
                    refine wpL_done (fun W15 hW15 => ?_)
                    refine (show Code.wp _ _ _ _ _ from ?_)
                    refine wp_ret ?_
                    try simp only [inBlock_ret, then_ret]
                    refine bodyPost_ret (v := .bool false) ?_ rfl ?_
                    · kernel_rfl
                    · exact ⟨(bool_is (by rw [colX_is, hR, inc_end h1, rgs_in]; simp [*])), hW15.1⟩
                  | true =>
                    refine lm (v := .bool (plB c)) rfl rfl ?_
                    refine lm (v := .bool (plB c)) rfl rfl ?_
                    refine lm (v := .bool (plB c)) rfl rfl ?_
                    refine wpL_done (fun W16 hW16 => ?_)
                    refine (show Code.wp _ _ _ _ _ from ?_)
                    refine wp_ret ?_
                    try simp only [inBlock_ret, then_ret]
                    refine bodyPost_ret (v := .bool (plB c)) ?_ rfl ?_
                    · kernel_rfl
                    · exact ⟨(bool_is (by rw [colX_is, hR, inc_end h1, rgs_in]; simp [*])), hW16.1⟩
    | true =>
      have h1 : k < c.plugs.length := of_decide_eq_true hd1
      clear hd1
      refine wp_cond_true rfl ?_
      refine wp_skip ?_
      refine (show Code.wp _ _ _ _ _ from ?_)
      refine wp_seq ?_
      refine wp_block ?_
      refine wp_seq ?_
      refine wp_seq ?_
      refine wp_region_V (W0 := w) [(g1, .cells (colC c).toArray 49 (0, 0))] (by kernel_rfl) (hW4) ?_
      refine vm (i := 0) (v := .pointer (some ⟨g1, 8, none⟩)) rfl rfl rfl ?_
      refine vv (i := 1) (v := .slice c.pp c.plugs.length c.pc) rfl rfl rfl (yb_cell (off := 8) rfl (by kernel_rfl) (.head _) Try.underlying39 rfl (by kernel_rfl)) ?_
      refine vm (i := 2) (v := .int .i64 ((k : Nat) : Int)) rfl rfl rfl ?_
      obtain ⟨y2, g2_, f2_, hy2, hp2, hc2⟩ := RL.at (RL.base HP.out) inC_len (by decide) (hW4.sub (fun _ h => by cases h)) (k := k) (by omega)
      refine vp (i := 3) (v := .pointer (some ⟨g2_, f2_ + k * 1, none⟩)) rfl rfl rfl (run_idxQ (p := c.pp) (cap := c.pc) (n := c.plugs.length) (j := .i64) (k := k) (sz := 1) rfl Try.underlying39 (by kernel_rfl) (by kernel_rfl) hp2 (by kernel_rfl) (by omega)) ?_
      refine vb (i := 4) (v := .int .i64 y2) rfl rfl rfl (yb_rf (v := .int .i64 y2) rfl (by kernel_rfl) (fun W hW => hc2 W (hW.sub (fun _ h => by cases h)) 0 _ rfl) Try.underlying3 rfl) ?_
      refine vp (i := 5) (v := .bool (decide (y2 < 0))) rfl rfl rfl (run_bin rfl (vx := (.int .i64 y2)) (vy := (.int .i64 0)) (by kernel_rfl) (by kernel_rfl) fun w => bi_lss rfl w) ?_
      refine vm (i := 6) (v := .bool (decide (y2 < 0))) rfl rfl rfl ?_
      cases hd11 : (decide (y2 < 0)) with
      | false =>
        have h11 : ¬ (y2 < 0) := of_decide_eq_false hd11
        clear hd11
        refine vm (i := 7) (v := .pointer (some ⟨g1, 8, none⟩)) rfl rfl rfl ?_
        refine vv (i := 8) (v := .slice c.pp c.plugs.length c.pc) rfl rfl rfl (yb_cell (off := 8) rfl (by kernel_rfl) (.head _) Try.underlying39 rfl (by kernel_rfl)) ?_
        refine vm (i := 9) (v := .int .i64 ((k : Nat) : Int)) rfl rfl rfl ?_
        refine vp (i := 10) (v := .pointer (some ⟨g2_, f2_ + k * 1, none⟩)) rfl rfl rfl (run_idxQ (p := c.pp) (cap := c.pc) (n := c.plugs.length) (j := .i64) (k := k) (sz := 1) rfl Try.underlying39 (by kernel_rfl) (by kernel_rfl) hp2 (by kernel_rfl) (by omega)) ?_
        refine vb (i := 11) (v := .int .i64 y2) rfl rfl rfl (yb_rf (v := .int .i64 y2) rfl (by kernel_rfl) (fun W hW => hc2 W (hW.sub (fun _ h => by cases h)) 0 _ rfl) Try.underlying3 rfl) ?_
        refine vm (i := 12) (v := .pointer (some ⟨g1, 3, none⟩)) rfl rfl rfl ?_
        refine vv (i := 13) (v := .int .i64 c.tiers) rfl rfl rfl (yb_cell (off := 3) rfl (by kernel_rfl) (.head _) Try.underlying3 rfl (by kernel_rfl)) ?_
        refine vp (i := 14) (v := .bool (!(decide (y2 < c.tiers)))) rfl rfl rfl (run_bin rfl (vx := (.int .i64 y2)) (vy := (.int .i64 c.tiers)) (by kernel_rfl) (by kernel_rfl) fun w => bi_geq rfl w) ?_
        refine vm (i := 15) (v := .bool (!(decide (y2 < c.tiers)))) rfl rfl rfl ?_
        refine wpV_done (by kernel_rfl) (fun W17 hW17 => ?_) _
        refine (show Code.wp _ _ _ _ _ from ?_)
        cases hd12 : (decide (y2 < c.tiers)) with
        | false =>
          have h12 : ¬ (y2 < c.tiers) := of_decide_eq_false hd12
          clear hd12
          refine wp_cond_true rfl ?_
          refine wp_seq ?_
          refine wp_region_L (W0 := w) [(g1, .cells (colC c).toArray 49 (0, 0))] (hW17) ?_
          refine lm (v := .bool false) rfl rfl ?_
          refine wpL_done (fun W18 hW18 => ?_)
          refine (show Code.wp _ _ _ _ _ from ?_)
          refine wp_ret ?_
          try simp only [inBlock_ret, then_ret]
          refine bodyPost_ret (v := .bool false) ?_ rfl ?_
          · kernel_rfl
          · exact ⟨(bool_is (by rw [colX_is, hR, inc_step hy2]; by_cases g1 : z < y2 <;> by_cases g2 : y2 ≤ c.tiers - 1 <;> simp [g1, g2] <;> omega)), hW18.1⟩
        | true =>
          have h12 : y2 < c.tiers := of_decide_eq_true hd12
          clear hd12
          refine wp_cond_false rfl ?_
          refine wp_skip ?_
          refine (show Code.wp _ _ _ _ _ from ?_)
          refine wp_seq ?_
          refine wp_region_V (W0 := w) [(g1, .cells (colC c).toArray 49 (0, 0))] (by kernel_rfl) (hW17) ?_
          refine vm (i := 0) (v := .int .i64 ((k : Nat) : Int)) rfl rfl rfl ?_
          refine vp (i := 1) (v := .bool (decide (0 < k))) rfl rfl rfl (run_bin rfl (vx := (.int .i64 ((k : Nat) : Int))) (vy := (.int .i64 ((0 : Nat) : Int))) (by kernel_rfl) (by kernel_rfl) fun w => bn_gtr rfl w) ?_
          refine vm (i := 2) (v := .bool (decide (0 < k))) rfl rfl rfl ?_
          cases hd13 : (decide (0 < k)) with
          | false =>
            have h13 : ¬ (0 < k) := of_decide_eq_false hd13
            clear hd13
            refine vn (i := 3) rfl rfl ?_
            refine vn (i := 4) rfl rfl ?_
            refine vn (i := 5) rfl rfl ?_
            refine vn (i := 6) rfl rfl ?_
            refine vn (i := 7) rfl rfl ?_
            refine vn (i := 8) rfl rfl ?_
            refine vn (i := 9) rfl rfl ?_
            refine vn (i := 10) rfl rfl ?_
            refine vn (i := 11) rfl rfl ?_
            refine vn (i := 12) rfl rfl ?_
            refine vn (i := 13) rfl rfl ?_
            refine vn (i := 14) rfl rfl ?_
            refine vm (i := 15) (v := .bool false) rfl rfl rfl ?_
            refine wpV_done (by kernel_rfl) (fun W19 hW19 => ?_) _
            refine (show Code.wp _ _ _ _ _ from ?_)
            refine wp_cond_false rfl ?_
            refine wp_skip ?_
            refine (show Code.wp _ _ _ _ _ from ?_)
            refine wp_region_L (W0 := w) [(g1, .cells (colC c).toArray 49 (0, 0))] (hW19) ?_
            refine lm (v := .int .i64 ((k : Nat) : Int)) rfl rfl ?_
            refine lp (v := .int .i64 (((k + 1) : Nat) : Int)) rfl rfl (run_bin rfl (vx := (.int .i64 ((k : Nat) : Int))) (vy := (.int .i64 ((1 : Nat) : Int))) (by kernel_rfl) (by kernel_rfl) fun w => bn_add (z := (k + 1)) rfl (wr_i64 (by omega)) w) ?_
            refine lm (v := .int .i64 (((k + 1) : Nat) : Int)) rfl rfl ?_
            refine wpL_done (fun W20 hW20 => ?_)
            go_roundw
            case rel =>
              repeat apply Exists.intro
              exact ⟨⟨k + 1, y2, (by omega), (by rw [hR, inc_step hy2, decide_eq_true (show z < y2 by omega), decide_eq_true (show y2 ≤ c.tiers - 1 by omega)]; rfl), (.inr ⟨by omega, by omega, by rw [Nat.add_sub_cancel]; exact hy2⟩), rfl, (hW20.sub (fun p hp => by first | exact hp | (simp only [List.mem_cons, List.mem_append, List.nil_append, List.not_mem_nil, or_assoc, or_false, false_or] at hp ⊢ <;> grind)))⟩, rfl⟩
            case measure => (show c.plugs.length - (intOf (.int .i64 (((k + 1) : Nat) : Int))).toNat < c.plugs.length - (intOf (.int .i64 ((k : Nat) : Int))).toNat); simp only [intOf]; omega
          | true =>
            have h13 : 0 < k := of_decide_eq_true hd13
            clear hd13
            refine vm (i := 3) (v := .pointer (some ⟨g1, 8, none⟩)) rfl rfl rfl ?_
            refine vv (i := 4) (v := .slice c.pp c.plugs.length c.pc) rfl rfl rfl (yb_cell (off := 8) rfl (by kernel_rfl) (.head _) Try.underlying39 rfl (by kernel_rfl)) ?_
            refine vm (i := 5) (v := .int .i64 ((k : Nat) : Int)) rfl rfl rfl ?_
            refine vp (i := 6) (v := .int .i64 (((k - 1) : Nat) : Int)) rfl rfl rfl (run_bin rfl (vx := (.int .i64 ((k : Nat) : Int))) (vy := (.int .i64 ((1 : Nat) : Int))) (by kernel_rfl) (by kernel_rfl) fun w => bn_sub (z := (k - 1)) rfl (by omega) (wr_i64 (by omega)) w) ?_
            obtain ⟨y3, g3_, f3_, hy3, hp3, hc3⟩ := RL.at (RL.base HP.out) inC_len (by decide) (hW17.sub (fun _ h => by cases h)) (k := (k - 1)) (by omega)
            have ez3 : y3 = z := by
              rcases hz with ⟨h8, _⟩ | ⟨_, _, h8⟩
              · omega
              · rw [h8] at hy3; exact (Option.some.inj hy3).symm
            refine vp (i := 7) (v := .pointer (some ⟨g3_, f3_ + (k - 1) * 1, none⟩)) rfl rfl rfl (run_idxQ (p := c.pp) (cap := c.pc) (n := c.plugs.length) (j := .i64) (k := (k - 1)) (sz := 1) rfl Try.underlying39 (by kernel_rfl) (by kernel_rfl) hp3 (by kernel_rfl) (by omega)) ?_
            refine vb (i := 8) (v := .int .i64 y3) rfl rfl rfl (yb_rf (v := .int .i64 y3) rfl (by kernel_rfl) (fun W hW => hc3 W (hW.sub (fun _ h => by cases h)) 0 _ rfl) Try.underlying3 rfl) ?_
            refine vm (i := 9) (v := .pointer (some ⟨g1, 8, none⟩)) rfl rfl rfl ?_
            refine vv (i := 10) (v := .slice c.pp c.plugs.length c.pc) rfl rfl rfl (yb_cell (off := 8) rfl (by kernel_rfl) (.head _) Try.underlying39 rfl (by kernel_rfl)) ?_
            refine vm (i := 11) (v := .int .i64 ((k : Nat) : Int)) rfl rfl rfl ?_
            refine vp (i := 12) (v := .pointer (some ⟨g2_, f2_ + k * 1, none⟩)) rfl rfl rfl (run_idxQ (p := c.pp) (cap := c.pc) (n := c.plugs.length) (j := .i64) (k := k) (sz := 1) rfl Try.underlying39 (by kernel_rfl) (by kernel_rfl) hp2 (by kernel_rfl) (by omega)) ?_
            refine vb (i := 13) (v := .int .i64 y2) rfl rfl rfl (yb_rf (v := .int .i64 y2) rfl (by kernel_rfl) (fun W hW => hc2 W (hW.sub (fun _ h => by cases h)) 0 _ rfl) Try.underlying3 rfl) ?_
            refine vp (i := 14) (v := .bool (!(decide (y3 < y2)))) rfl rfl rfl (run_bin rfl (vx := (.int .i64 y3)) (vy := (.int .i64 y2)) (by kernel_rfl) (by kernel_rfl) fun w => bi_geq rfl w) ?_
            refine vm (i := 15) (v := .bool (!(decide (y3 < y2)))) rfl rfl rfl ?_
            refine wpV_done (by kernel_rfl) (fun W21 hW21 => ?_) _
            refine (show Code.wp _ _ _ _ _ from ?_)
            cases hd14 : (decide (y3 < y2)) with
            | false =>
              have h14 : ¬ (y3 < y2) := of_decide_eq_false hd14
              clear hd14
              refine wp_cond_true rfl ?_
              refine wp_seq ?_
              refine wp_region_L (W0 := w) [(g1, .cells (colC c).toArray 49 (0, 0))] (hW21) ?_
              refine lm (v := .bool false) rfl rfl ?_
              refine wpL_done (fun W22 hW22 => ?_)
              refine (show Code.wp _ _ _ _ _ from ?_)
              refine wp_ret ?_
              try simp only [inBlock_ret, then_ret]
              refine bodyPost_ret (v := .bool false) ?_ rfl ?_
              · kernel_rfl
              · exact ⟨(bool_is (by rw [colX_is, hR, inc_step hy2]; by_cases g1 : z < y2 <;> by_cases g2 : y2 ≤ c.tiers - 1 <;> simp [g1, g2] <;> omega)), hW22.1⟩
            | true =>
              have h14 : y3 < y2 := of_decide_eq_true hd14
              clear hd14
              refine wp_cond_false rfl ?_
              refine wp_skip ?_
              refine (show Code.wp _ _ _ _ _ from ?_)
              refine wp_region_L (W0 := w) [(g1, .cells (colC c).toArray 49 (0, 0))] (hW21) ?_
              refine lm (v := .int .i64 ((k : Nat) : Int)) rfl rfl ?_
              refine lp (v := .int .i64 (((k + 1) : Nat) : Int)) rfl rfl (run_bin rfl (vx := (.int .i64 ((k : Nat) : Int))) (vy := (.int .i64 ((1 : Nat) : Int))) (by kernel_rfl) (by kernel_rfl) fun w => bn_add (z := (k + 1)) rfl (wr_i64 (by omega)) w) ?_
              refine lm (v := .int .i64 (((k + 1) : Nat) : Int)) rfl rfl ?_
              refine wpL_done (fun W23 hW23 => ?_)
              go_roundw
              case rel =>
                repeat apply Exists.intro
                exact ⟨⟨k + 1, y2, (by omega), (by rw [hR, inc_step hy2, decide_eq_true (show z < y2 by omega), decide_eq_true (show y2 ≤ c.tiers - 1 by omega)]; rfl), (.inr ⟨by omega, by omega, by rw [Nat.add_sub_cancel]; exact hy2⟩), rfl, (hW23.sub (fun p hp => by first | exact hp | (simp only [List.mem_cons, List.mem_append, List.nil_append, List.not_mem_nil, or_assoc, or_false, false_or] at hp ⊢ <;> grind)))⟩, rfl⟩
              case measure => (show c.plugs.length - (intOf (.int .i64 (((k + 1) : Nat) : Int))).toNat < c.plugs.length - (intOf (.int .i64 ((k : Nat) : Int))).toNat); simp only [intOf]; omega
      | true =>
        have h11 : y2 < 0 := of_decide_eq_true hd11
        clear hd11
        refine vn (i := 7) rfl rfl ?_
        refine vn (i := 8) rfl rfl ?_
        refine vn (i := 9) rfl rfl ?_
        refine vn (i := 10) rfl rfl ?_
        refine vn (i := 11) rfl rfl ?_
        refine vn (i := 12) rfl rfl ?_
        refine vn (i := 13) rfl rfl ?_
        refine vn (i := 14) rfl rfl ?_
        refine vm (i := 15) (v := .bool true) rfl rfl rfl ?_
        refine wpV_done (by kernel_rfl) (fun W24 hW24 => ?_) _
        refine (show Code.wp _ _ _ _ _ from ?_)
        refine wp_cond_true rfl ?_
        refine wp_seq ?_
        refine wp_region_L (W0 := w) [(g1, .cells (colC c).toArray 49 (0, 0))] (hW24) ?_
        refine lm (v := .bool false) rfl rfl ?_
        refine wpL_done (fun W25 hW25 => ?_)
        refine (show Code.wp _ _ _ _ _ from ?_)
        refine wp_ret ?_
        try simp only [inBlock_ret, then_ret]
        refine bodyPost_ret (v := .bool false) ?_ rfl ?_
        · kernel_rfl
        · exact ⟨(bool_is (by rw [colX_is, hR, inc_step hy2]; by_cases g1 : z < y2 <;> by_cases g2 : y2 ≤ c.tiers - 1 <;> simp [g1, g2] <;> omega)), hW25.1⟩
set_option maxRecDepth 100000 in
set_option maxHeartbeats 4000000 in
theorem RFind_any (cs : List Col) (pc : Option Addr) (cc : Nat) (lc : cs.length ≤ 4000000000) (os : List Cov) (po : Option Addr) (co : Nat) (lo : os.length ≤ 4000000000) (t : Tl) (bay row : Int) (deck : Bool) (w : World) (hc : SLV w pc (cs.flatMap colC)) (ho : SLV w po (os.flatMap covC)) : Calls Try.prog 9 #[.agg (shC (.slice pc cs.length cc) (.slice po os.length co) t).toArray, .int .i64 bay, .int .i64 row, .bool deck] w fun e w' => e = .returned (.tuple #[.int .i64 (findN (fst (isAt bay row deck) cs)), .bool (fst (isAt bay row deck) cs).isSome]) ∧ Below w.heap.size w w' := by
  have HC := Lib.hid hc
  clear hc
  have HO := Lib.hid ho
  clear ho
  go_enter Try.func9, Try.ntmps9
  refine wp_seq ?_
  refine wp_region_L (W0 := w) [] (KS.start w) ?_
  refine wpL_new (fun g => .pointer (some ⟨g, 0, none⟩)) (obi := .cells (shC (.slice pc cs.length cc) (.slice po os.length co) t).toArray 32 (0, 0)) rfl rfl (fun _ => by kernel_rfl) (fun _ => by simp only [List.setIfInBounds_toArray, List.set_cons_succ, List.set_cons_zero] <;> rfl) fun g1 Bg1 Fg1 => ?_
  refine lm (v := .int .i64 0) rfl rfl ?_
  refine lm (v := .bool false) rfl rfl ?_
  refine wpL_done (fun W1 hW1 => ?_)
  refine (show Code.wp _ _ _ _ _ from ?_)
  refine wp_seq ?_
  refine wp_seq ?_
  refine wp_region_L (W0 := w) [(g1, .cells (shC (.slice pc cs.length cc) (.slice po os.length co) t).toArray 32 (0, 0))] (hW1) ?_
  refine lm (v := .int .i64 0) rfl rfl ?_
  refine wpL_done (fun W2 hW2 => ?_)
  refine (show Code.wp _ _ _ _ _ from ?_)
  refine wp_block ?_
  go_loopw [10] (fun u10 wr => ∃ (k : Nat), (k ≤ cs.length) ∧ (fstF (isAt bay row deck) 0 (cs.take k) = none) ∧ u10 = .int .i64 ((k : Nat) : Int) ∧ KS w [(g1, .cells (shC (.slice pc cs.length cc) (.slice po os.length co) t).toArray 32 (0, 0))] wr) (fun u10 _ => cs.length - (intOf u10).toNat)
  case atStart => exact ⟨0, (Nat.zero_le _), fst_zero, rfl, (hW2.sub (fun p hp => by first | exact hp | (simp only [List.mem_cons, List.mem_append, List.nil_append, List.not_mem_nil, or_assoc, or_false, false_or] at hp ⊢ <;> grind)))⟩
  case round =>
    obtain ⟨k, hk, hF, rfl, hL3⟩ := hrel
    refine wp_seq ?_
    refine wp_seq ?_
    refine wp_region_L (W0 := w) [(g1, .cells (shC (.slice pc cs.length cc) (.slice po os.length co) t).toArray 32 (0, 0))] (hL3) ?_
    refine lm (v := .int .i64 ((k : Nat) : Int)) rfl rfl ?_
    refine lm (v := .pointer (some ⟨g1, 0, none⟩)) rfl rfl ?_
    refine lv (v := .slice pc cs.length cc) rfl rfl (yb_cell (off := 0) rfl (by kernel_rfl) (.head _) Try.underlying22 rfl (by kernel_rfl)) ?_
    refine lp (v := .int .i64 ((cs.length : Nat) : Int)) rfl rfl (run_lenL (p := pc) (cap := cc) (n := cs.length) rfl Try.underlying22 (by kernel_rfl)) ?_
    refine lp (v := .bool (decide (k < cs.length))) rfl rfl (run_bin rfl (vx := (.int .i64 ((k : Nat) : Int))) (vy := (.int .i64 ((cs.length : Nat) : Int))) (by kernel_rfl) (by kernel_rfl) fun w => bn_lss rfl w) ?_
    refine wpL_done (fun W4 hW4 => ?_)
    refine (show Code.wp _ _ _ _ _ from ?_)
    cases hd1 : (decide (k < cs.length)) with
    | false =>
      have h1 : ¬ (k < cs.length) := of_decide_eq_false hd1
      clear hd1
      refine wp_cond_false rfl ?_
      refine wp_exit ?_
      refine (show Code.wp _ _ _ _ _ from ?_)
      refine wp_seq ?_
      refine wp_region_L (W0 := w) [(g1, .cells (shC (.slice pc cs.length cc) (.slice po os.length co) t).toArray 32 (0, 0))] (hW4) ?_
      refine lm (v := .int .i64 0) rfl rfl ?_
      refine lm (v := .bool false) rfl rfl ?_
      refine wpL_done (fun W5 hW5 => ?_)
      refine (show Code.wp _ _ _ _ _ from ?_)
      refine wp_ret ?_
      try simp only [inBlock_ret, then_ret]
      refine bodyPost_ret (v := .tuple #[.int .i64 0, .bool false]) ?_ rfl ?_
      · kernel_rfl
      · exact ⟨(by rw [fst_end hF h1]; rfl), hW5.1⟩
    | true =>
      have h1 : k < cs.length := of_decide_eq_true hd1
      clear hd1
      refine wp_cond_true rfl ?_
      refine wp_skip ?_
      refine (show Code.wp _ _ _ _ _ from ?_)
      refine wp_seq ?_
      refine wp_block ?_
      refine wp_seq ?_
      refine wp_region_L (W0 := w) [(g1, .cells (shC (.slice pc cs.length cc) (.slice po os.length co) t).toArray 32 (0, 0))] (hW4) ?_
      refine lm (v := .pointer (some ⟨g1, 0, none⟩)) rfl rfl ?_
      refine lv (v := .slice pc cs.length cc) rfl rfl (yb_cell (off := 0) rfl (by kernel_rfl) (.head _) Try.underlying22 rfl (by kernel_rfl)) ?_
      refine lm (v := .int .i64 ((k : Nat) : Int)) rfl rfl ?_
      obtain ⟨y2, g2_, f2_, hy2, hp2, hc2⟩ := RL.at (RL.base HC.out) colC_len (by decide) (hW4.sub (fun _ h => by cases h)) (k := k) (by omega)
      refine lp (v := .pointer (some ⟨g2_, f2_ + k * 12, none⟩)) rfl rfl (run_idxQ (p := pc) (cap := cc) (n := cs.length) (j := .i64) (k := k) (sz := 12) rfl Try.underlying22 (by kernel_rfl) (by kernel_rfl) hp2 (by kernel_rfl) (by omega)) ?_
      refine lm (v := .pointer (some ⟨g2_, f2_ + k * 12, none⟩)) rfl rfl ?_
      refine lv (v := .int .i64 y2.bay) rfl rfl (yb_rf (v := .int .i64 y2.bay) rfl (by kernel_rfl) (fun W hW => hc2 W (hW.sub (fun _ h => by cases h)) 0 _ rfl) Try.underlying3 rfl) ?_
      refine lm (v := .int .i64 bay) rfl rfl ?_
      refine lp (v := .bool (decide (y2.bay = bay))) rfl rfl (run_bin rfl (vx := (.int .i64 y2.bay)) (vy := (.int .i64 bay)) (by kernel_rfl) (by kernel_rfl) fun w => bi_eql rfl w) ?_
      refine lm (v := .bool (decide (y2.bay = bay))) rfl rfl ?_
      cases hd2 : (decide (y2.bay = bay)) with
      | false =>
        have h2 : ¬ (y2.bay = bay) := of_decide_eq_false hd2
        clear hd2
        refine ln rfl ?_
        refine ln rfl ?_
        refine ln rfl ?_
        refine ln rfl ?_
        refine ln rfl ?_
        refine ln rfl ?_
        refine ln rfl ?_
        refine ln rfl ?_
        refine lm (v := .bool false) rfl rfl ?_
        refine lm (v := .bool false) rfl rfl ?_
        refine ln rfl ?_
        refine ln rfl ?_
        refine ln rfl ?_
        refine ln rfl ?_
        refine ln rfl ?_
        refine ln rfl ?_
        refine ln rfl ?_
        refine ln rfl ?_
        refine lm (v := .bool false) rfl rfl ?_
        refine wpL_done (fun W6 hW6 => ?_)
        refine (show Code.wp _ _ _ _ _ from ?_)
        refine wp_cond_false rfl ?_
        refine wp_skip ?_
        refine (show Code.wp _ _ _ _ _ from ?_)
        refine wp_region_L (W0 := w) [(g1, .cells (shC (.slice pc cs.length cc) (.slice po os.length co) t).toArray 32 (0, 0))] (hW6) ?_
        refine lm (v := .int .i64 ((k : Nat) : Int)) rfl rfl ?_
        refine lp (v := .int .i64 (((k + 1) : Nat) : Int)) rfl rfl (run_bin rfl (vx := (.int .i64 ((k : Nat) : Int))) (vy := (.int .i64 ((1 : Nat) : Int))) (by kernel_rfl) (by kernel_rfl) fun w => bn_add (z := (k + 1)) rfl (wr_i64 (by omega)) w) ?_
        refine lm (v := .int .i64 (((k + 1) : Nat) : Int)) rfl rfl ?_
        refine wpL_done (fun W7 hW7 => ?_)
        go_roundw
        case rel =>
          repeat apply Exists.intro
          exact ⟨⟨k + 1, (by omega), (fst_next hF hy2 (by unfold isAt; simp [*])), rfl, (hW7.sub (fun p hp => by first | exact hp | (simp only [List.mem_cons, List.mem_append, List.nil_append, List.not_mem_nil, or_assoc, or_false, false_or] at hp ⊢ <;> grind)))⟩, rfl⟩
        case measure => (show cs.length - (intOf (.int .i64 (((k + 1) : Nat) : Int))).toNat < cs.length - (intOf (.int .i64 ((k : Nat) : Int))).toNat); simp only [intOf]; omega
      | true =>
        have h2 : y2.bay = bay := of_decide_eq_true hd2
        clear hd2
        refine lm (v := .pointer (some ⟨g1, 0, none⟩)) rfl rfl ?_
        refine lv (v := .slice pc cs.length cc) rfl rfl (yb_cell (off := 0) rfl (by kernel_rfl) (.head _) Try.underlying22 rfl (by kernel_rfl)) ?_
        refine lm (v := .int .i64 ((k : Nat) : Int)) rfl rfl ?_
        refine lp (v := .pointer (some ⟨g2_, f2_ + k * 12, none⟩)) rfl rfl (run_idxQ (p := pc) (cap := cc) (n := cs.length) (j := .i64) (k := k) (sz := 12) rfl Try.underlying22 (by kernel_rfl) (by kernel_rfl) hp2 (by kernel_rfl) (by omega)) ?_
        refine lm (v := .pointer (some ⟨g2_, f2_ + k * 12 + 1, none⟩)) rfl rfl ?_
        refine lv (v := .int .i64 y2.row) rfl rfl (yb_rf (v := .int .i64 y2.row) rfl (by kernel_rfl) (fun W hW => hc2 W (hW.sub (fun _ h => by cases h)) 1 _ rfl) Try.underlying3 rfl) ?_
        refine lm (v := .int .i64 row) rfl rfl ?_
        refine lp (v := .bool (decide (y2.row = row))) rfl rfl (run_bin rfl (vx := (.int .i64 y2.row)) (vy := (.int .i64 row)) (by kernel_rfl) (by kernel_rfl) fun w => bi_eql rfl w) ?_
        refine lm (v := .bool (decide (y2.row = row))) rfl rfl ?_
        refine lm (v := .bool (decide (y2.row = row))) rfl rfl ?_
        cases hd3 : (decide (y2.row = row)) with
        | false =>
          have h3 : ¬ (y2.row = row) := of_decide_eq_false hd3
          clear hd3
          refine ln rfl ?_
          refine ln rfl ?_
          refine ln rfl ?_
          refine ln rfl ?_
          refine ln rfl ?_
          refine ln rfl ?_
          refine ln rfl ?_
          refine ln rfl ?_
          refine lm (v := .bool false) rfl rfl ?_
          refine wpL_done (fun W8 hW8 => ?_)
          refine (show Code.wp _ _ _ _ _ from ?_)
          refine wp_cond_false rfl ?_
          refine wp_skip ?_
          refine (show Code.wp _ _ _ _ _ from ?_)
          refine wp_region_L (W0 := w) [(g1, .cells (shC (.slice pc cs.length cc) (.slice po os.length co) t).toArray 32 (0, 0))] (hW8) ?_
          refine lm (v := .int .i64 ((k : Nat) : Int)) rfl rfl ?_
          refine lp (v := .int .i64 (((k + 1) : Nat) : Int)) rfl rfl (run_bin rfl (vx := (.int .i64 ((k : Nat) : Int))) (vy := (.int .i64 ((1 : Nat) : Int))) (by kernel_rfl) (by kernel_rfl) fun w => bn_add (z := (k + 1)) rfl (wr_i64 (by omega)) w) ?_
          refine lm (v := .int .i64 (((k + 1) : Nat) : Int)) rfl rfl ?_
          refine wpL_done (fun W9 hW9 => ?_)
          go_roundw
          case rel =>
            repeat apply Exists.intro
            exact ⟨⟨k + 1, (by omega), (fst_next hF hy2 (by unfold isAt; simp [*])), rfl, (hW9.sub (fun p hp => by first | exact hp | (simp only [List.mem_cons, List.mem_append, List.nil_append, List.not_mem_nil, or_assoc, or_false, false_or] at hp ⊢ <;> grind)))⟩, rfl⟩
          case measure => (show cs.length - (intOf (.int .i64 (((k + 1) : Nat) : Int))).toNat < cs.length - (intOf (.int .i64 ((k : Nat) : Int))).toNat); simp only [intOf]; omega
        | true =>
          have h3 : y2.row = row := of_decide_eq_true hd3
          clear hd3
          refine lm (v := .pointer (some ⟨g1, 0, none⟩)) rfl rfl ?_
          refine lv (v := .slice pc cs.length cc) rfl rfl (yb_cell (off := 0) rfl (by kernel_rfl) (.head _) Try.underlying22 rfl (by kernel_rfl)) ?_
          refine lm (v := .int .i64 ((k : Nat) : Int)) rfl rfl ?_
          refine lp (v := .pointer (some ⟨g2_, f2_ + k * 12, none⟩)) rfl rfl (run_idxQ (p := pc) (cap := cc) (n := cs.length) (j := .i64) (k := k) (sz := 12) rfl Try.underlying22 (by kernel_rfl) (by kernel_rfl) hp2 (by kernel_rfl) (by omega)) ?_
          refine lm (v := .pointer (some ⟨g2_, f2_ + k * 12 + 2, none⟩)) rfl rfl ?_
          refine lv (v := .bool y2.deck) rfl rfl (yb_rf (v := .bool y2.deck) rfl (by kernel_rfl) (fun W hW => hc2 W (hW.sub (fun _ h => by cases h)) 2 _ rfl) Try.underlying4 rfl) ?_
          refine lm (v := .bool deck) rfl rfl ?_
          refine lp (v := .bool (y2.deck == deck)) rfl rfl (run_bin rfl (vx := .bool y2.deck) (vy := .bool deck) (by kernel_rfl) (by kernel_rfl) fun w => bn_bool_eql rfl Try.underlying4 w) ?_
          refine lm (v := .bool (y2.deck == deck)) rfl rfl ?_
          refine wpL_done (fun W10 hW10 => ?_)
          refine (show Code.wp _ _ _ _ _ from ?_)
          cases h4 : (y2.deck == deck) with
          | false =>
            refine wp_cond_false rfl ?_
            refine wp_skip ?_
            refine (show Code.wp _ _ _ _ _ from ?_)
            refine wp_region_L (W0 := w) [(g1, .cells (shC (.slice pc cs.length cc) (.slice po os.length co) t).toArray 32 (0, 0))] (hW10) ?_
            refine lm (v := .int .i64 ((k : Nat) : Int)) rfl rfl ?_
            refine lp (v := .int .i64 (((k + 1) : Nat) : Int)) rfl rfl (run_bin rfl (vx := (.int .i64 ((k : Nat) : Int))) (vy := (.int .i64 ((1 : Nat) : Int))) (by kernel_rfl) (by kernel_rfl) fun w => bn_add (z := (k + 1)) rfl (wr_i64 (by omega)) w) ?_
            refine lm (v := .int .i64 (((k + 1) : Nat) : Int)) rfl rfl ?_
            refine wpL_done (fun W11 hW11 => ?_)
            go_roundw
            case rel =>
              repeat apply Exists.intro
              exact ⟨⟨k + 1, (by omega), (fst_next hF hy2 (by unfold isAt; simp [*])), rfl, (hW11.sub (fun p hp => by first | exact hp | (simp only [List.mem_cons, List.mem_append, List.nil_append, List.not_mem_nil, or_assoc, or_false, false_or] at hp ⊢ <;> grind)))⟩, rfl⟩
            case measure => (show cs.length - (intOf (.int .i64 (((k + 1) : Nat) : Int))).toNat < cs.length - (intOf (.int .i64 ((k : Nat) : Int))).toNat); simp only [intOf]; omega
          | true =>
            refine wp_cond_true rfl ?_
            refine wp_seq ?_
            refine wp_region_L (W0 := w) [(g1, .cells (shC (.slice pc cs.length cc) (.slice po os.length co) t).toArray 32 (0, 0))] (hW10) ?_
            refine lm (v := .int .i64 ((k : Nat) : Int)) rfl rfl ?_
            refine lm (v := .int .i64 ((k : Nat) : Int)) rfl rfl ?_
            refine lm (v := .bool true) rfl rfl ?_
            refine wpL_done (fun W12 hW12 => ?_)
            refine (show Code.wp _ _ _ _ _ from ?_)
            refine wp_ret ?_
            try simp only [inBlock_ret, then_ret]
            refine bodyPost_ret (v := .tuple #[.int .i64 ((k : Nat) : Int), .bool true]) ?_ rfl ?_
            · kernel_rfl
            · exact ⟨(by rw [fst_here hF hy2 (by unfold isAt; simp [*])]; rfl), hW12.1⟩
end Go.Proofs.Ythpooalhibedpaa
