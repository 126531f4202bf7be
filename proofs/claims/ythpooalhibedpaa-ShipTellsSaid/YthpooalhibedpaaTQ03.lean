import Derived.Test.YthpooalhibedpaaTQ02
import Derived.Test.YthpooalhibedpaaTQ00
import Derived.Handed
import Derived.ChangeArms
/- Part of the proof: TW, TV, TX, TM0, TM, TY, TZ. -/
set_option linter.unusedVariables false
set_option linter.unusedSimpArgs false
set_option linter.unusedSectionVars false
namespace Go.Proofs.Ythpooalhibedpaa
open Go Go.RowKit Tw
theorem sw_SameCover (y : Cov) (q : Option Addr) (d : Nat) (hl : y.rows.length ≤ 4000000000) (w : World) (hp : SLV w y.rp (y.rows.flatMap inC)) (hq : SLV w q (y.rows.flatMap inC)) : Calls Try.prog 77 #[.agg (covC (y.re q d)).toArray, .agg (covC y).toArray] w fun e w' => e = .returned (.bool true) ∧ Below w.heap.size w w' := SameCover_any (y.re q d) y.rp y.rc hl w hq hp
theorem sw_SameColumn (y : Col) (q : Option Addr) (d : Nat) (hl : y.plugs.length ≤ 4000000000) (w : World) (hp : SLV w y.pp (y.plugs.flatMap inC)) (hq : SLV w q (y.plugs.flatMap inC)) : Calls Try.prog 75 #[.agg (colC (y.re q d)).toArray, .agg (colC y).toArray] w fun e w' => e = .returned (.bool true) ∧ Below w.heap.size w w' := SameColumn_any (y.re q d) y.pp y.pc hl w hq hp
set_option maxRecDepth 100000 in
set_option maxHeartbeats 4000000 in
theorem SameCovers_any (l X : List Cov) (p q : Option Addr) (c d : Nat) (hl : l.length ≤ 1000000) (lr : ∀ o ∈ l, o.rows.length ≤ 1000000) (hX : X.length = l.length) (w : World) (hp : SLV w p (X.flatMap covC)) (ha : LentOA w l X) (hq : SLV w q (l.flatMap covC)) (hr : RwR w l) : Calls Try.prog 70 #[.slice p X.length c, .slice q l.length d] w fun e w' => e = .returned (.bool true) ∧ Below w.heap.size w w' := by
  have HP := Lib.hid hp
  clear hp
  have HQ := Lib.hid hq
  clear hq
  have HA := Lib.hid ha
  clear ha
  have HR := Lib.hid hr
  clear hr
  go_enter Try.func70, Try.ntmps70
  refine wp_seq ?_
  refine wp_region_L (W0 := w) [] (KS.start w) ?_
  refine lm (v := .bool false) rfl rfl ?_
  refine wpL_done (fun W1 hW1 => ?_)
  refine (show Code.wp _ _ _ _ _ from ?_)
  refine wp_seq ?_
  refine wp_seq ?_
  refine wp_region_L (W0 := w) [] (hW1) ?_
  refine lm (v := .slice p X.length c) rfl rfl ?_
  refine lp (v := .int .i64 ((X.length : Nat) : Int)) rfl rfl (run_lenL (p := p) (cap := c) (n := X.length) rfl Try.underlying23 (by kernel_rfl)) ?_
  refine lm (v := .slice q l.length d) rfl rfl ?_
  refine lp (v := .int .i64 ((l.length : Nat) : Int)) rfl rfl (run_lenL (p := q) (cap := d) (n := l.length) rfl Try.underlying23 (by kernel_rfl)) ?_
  refine lp (v := .bool (!(decide (X.length = l.length)))) rfl rfl (run_bin rfl (vx := (.int .i64 ((X.length : Nat) : Int))) (vy := (.int .i64 ((l.length : Nat) : Int))) (by kernel_rfl) (by kernel_rfl) fun w => bn_neq rfl w) ?_
  refine wpL_done (fun W2 hW2 => ?_)
  refine (show Code.wp _ _ _ _ _ from ?_)
  cases hd1 : (decide (X.length = l.length)) with
  | false =>
    have h1 : ¬ (X.length = l.length) := of_decide_eq_false hd1
    clear hd1
    exact absurd hX h1
  | true =>
    have h1 : X.length = l.length := of_decide_eq_true hd1
    clear hd1
    refine wp_cond_false rfl ?_
    refine wp_skip ?_
    refine (show Code.wp _ _ _ _ _ from ?_)
    refine wp_seq ?_
    refine wp_seq ?_
    refine wp_region_L (W0 := w) [] (hW2) ?_
    refine lm (v := .int .i64 0) rfl rfl ?_
    refine wpL_done (fun W3 hW3 => ?_)
    refine (show Code.wp _ _ _ _ _ from ?_)
    refine wp_block ?_
    go_loopw [5] (fun u5 wr => ∃ (i : Nat), (i ≤ l.length) ∧ u5 = .int .i64 ((i : Nat) : Int) ∧ KS w [] wr) (fun u5 _ => l.length - (intOf u5).toNat)
    case atStart => exact ⟨0, (Nat.zero_le _), rfl, (hW3.sub (fun p hp => by first | exact hp | (simp only [List.mem_cons, List.mem_append, List.nil_append, List.not_mem_nil, or_assoc, or_false, false_or] at hp ⊢ <;> grind)))⟩
    case round =>
      obtain ⟨i, hi, rfl, hL4⟩ := hrel
      refine wp_seq ?_
      refine wp_seq ?_
      refine wp_region_L (W0 := w) [] (hL4) ?_
      refine lm (v := .int .i64 ((i : Nat) : Int)) rfl rfl ?_
      refine lm (v := .slice p X.length c) rfl rfl ?_
      refine lp (v := .int .i64 ((X.length : Nat) : Int)) rfl rfl (run_lenL (p := p) (cap := c) (n := X.length) rfl Try.underlying23 (by kernel_rfl)) ?_
      refine lp (v := .bool (decide (i < X.length))) rfl rfl (run_bin rfl (vx := (.int .i64 ((i : Nat) : Int))) (vy := (.int .i64 ((X.length : Nat) : Int))) (by kernel_rfl) (by kernel_rfl) fun w => bn_lss rfl w) ?_
      refine wpL_done (fun W5 hW5 => ?_)
      refine (show Code.wp _ _ _ _ _ from ?_)
      cases hd2 : (decide (i < X.length)) with
      | false =>
        have h2 : ¬ (i < X.length) := of_decide_eq_false hd2
        clear hd2
        refine wp_cond_false rfl ?_
        refine wp_exit ?_
        refine (show Code.wp _ _ _ _ _ from ?_)
        refine wp_seq ?_
        refine wp_region_L (W0 := w) [] (hW5) ?_
        refine lm (v := .bool true) rfl rfl ?_
        refine wpL_done (fun W6 hW6 => ?_)
        refine (show Code.wp _ _ _ _ _ from ?_)
        refine wp_ret ?_
        try simp only [inBlock_ret, then_ret]
        refine bodyPost_ret (v := .bool true) ?_ rfl ?_
        · kernel_rfl
        · exact ⟨rfl, hW6.1⟩
      | true =>
        have h2 : i < X.length := of_decide_eq_true hd2
        clear hd2
        refine wp_cond_true rfl ?_
        refine wp_skip ?_
        refine (show Code.wp _ _ _ _ _ from ?_)
        refine wp_seq ?_
        refine wp_block ?_
        refine wp_seq ?_
        refine wp_region_V (W0 := w) [] (by kernel_rfl) (hW5) ?_
        refine vm (i := 0) (v := .slice p X.length c) rfl rfl rfl ?_
        refine vm (i := 1) (v := .int .i64 ((i : Nat) : Int)) rfl rfl rfl ?_
        obtain ⟨y1, g1_, f1_, hy1, hp1, hc1⟩ := RL.at (RL.base HP.out) covC_len (by decide) (hW5.sub (fun _ h => by cases h)) (k := i) (by omega)
        refine vp (i := 2) (v := .pointer (some ⟨g1_, f1_ + i * 2, none⟩)) rfl rfl rfl (run_idxQ (p := p) (cap := c) (n := X.length) (j := .i64) (k := i) (sz := 2) rfl Try.underlying23 (by kernel_rfl) (by kernel_rfl) hp1 (by kernel_rfl) (by omega)) ?_
        refine vb (i := 3) (v := .agg (covC y1).toArray) rfl rfl rfl (yb_rs (off := f1_ + i * 2) (cs := covC y1) rfl (by kernel_rfl) (fun W hW => hc1 W (hW.sub (fun _ h => by cases h))) Try.underlying51 rfl (by kernel_rfl)) ?_
        refine vm (i := 4) (v := .slice q l.length d) rfl rfl rfl ?_
        refine vm (i := 5) (v := .int .i64 ((i : Nat) : Int)) rfl rfl rfl ?_
        obtain ⟨y2, g2_, f2_, hy2, hp2, hc2⟩ := RL.at (RL.base HQ.out) covC_len (by decide) (hW5.sub (fun _ h => by cases h)) (k := i) (by omega)
        refine vp (i := 6) (v := .pointer (some ⟨g2_, f2_ + i * 2, none⟩)) rfl rfl rfl (run_idxQ (p := q) (cap := d) (n := l.length) (j := .i64) (k := i) (sz := 2) rfl Try.underlying23 (by kernel_rfl) (by kernel_rfl) hp2 (by kernel_rfl) (by omega)) ?_
        refine vb (i := 7) (v := .agg (covC y2).toArray) rfl rfl rfl (yb_rs (off := f2_ + i * 2) (cs := covC y2) rfl (by kernel_rfl) (fun W hW => hc2 W (hW.sub (fun _ h => by cases h))) Try.underlying51 rfl (by kernel_rfl)) ?_
        refine vv (i := 8) (v := .bool true) rfl rfl rfl (yb_call (f := 77) (args := #[.agg (covC y1).toArray, .agg (covC y2).toArray]) (fun _ => by kernel_rfl) fun W hW => (by obtain ⟨q7, d7, e7, R7⟩ := lentOA_pre HA.out hy1 hy2; rw [e7]; exact sw_SameCover y2 q7 d7 (by have := lr y2 (List.mem_of_getElem? hy2); omega) W ((HR.out y2 (List.mem_of_getElem? hy2)).keep hW.1) (R7.keep hW.1))) ?_
        refine vm (i := 9) (v := .bool false) rfl rfl rfl ?_
        refine wpV_done (by kernel_rfl) (fun W7 hW7 => ?_) _
        refine (show Code.wp _ _ _ _ _ from ?_)
        refine wp_cond_false rfl ?_
        refine wp_skip ?_
        refine (show Code.wp _ _ _ _ _ from ?_)
        refine wp_region_L (W0 := w) [] (hW7) ?_
        refine lm (v := .int .i64 ((i : Nat) : Int)) rfl rfl ?_
        refine lp (v := .int .i64 (((i + 1) : Nat) : Int)) rfl rfl (run_bin rfl (vx := (.int .i64 ((i : Nat) : Int))) (vy := (.int .i64 ((1 : Nat) : Int))) (by kernel_rfl) (by kernel_rfl) fun w => bn_add (z := (i + 1)) rfl (wr_i64 (by omega)) w) ?_
        refine lm (v := .int .i64 (((i + 1) : Nat) : Int)) rfl rfl ?_
        refine wpL_done (fun W8 hW8 => ?_)
        go_roundw
        case rel =>
          repeat apply Exists.intro
          exact ⟨⟨i + 1, (by omega), rfl, (hW8.sub (fun p hp => by first | exact hp | (simp only [List.mem_cons, List.mem_append, List.nil_append, List.not_mem_nil, or_assoc, or_false, false_or] at hp ⊢ <;> grind)))⟩, rfl⟩
        case measure => (show l.length - (intOf (.int .i64 (((i + 1) : Nat) : Int))).toNat < l.length - (intOf (.int .i64 ((i : Nat) : Int))).toNat); simp only [intOf]; omega
set_option maxRecDepth 100000 in
set_option maxHeartbeats 4000000 in
theorem SameColumns_any (l X : List Col) (p q : Option Addr) (c d : Nat) (hl : l.length ≤ 1000000) (lr : ∀ o ∈ l, o.plugs.length ≤ 1000000) (hX : X.length = l.length) (w : World) (hp : SLV w p (X.flatMap colC)) (ha : LentCA w l X) (hq : SLV w q (l.flatMap colC)) (hr : PlR w l) : Calls Try.prog 69 #[.slice p X.length c, .slice q l.length d] w fun e w' => e = .returned (.bool true) ∧ Below w.heap.size w w' := by
  have HP := Lib.hid hp
  clear hp
  have HQ := Lib.hid hq
  clear hq
  have HA := Lib.hid ha
  clear ha
  have HR := Lib.hid hr
  clear hr
  go_enter Try.func69, Try.ntmps69
  refine wp_seq ?_
  refine wp_region_L (W0 := w) [] (KS.start w) ?_
  refine lm (v := .bool false) rfl rfl ?_
  refine wpL_done (fun W1 hW1 => ?_)
  refine (show Code.wp _ _ _ _ _ from ?_)
  refine wp_seq ?_
  refine wp_seq ?_
  refine wp_region_L (W0 := w) [] (hW1) ?_
  refine lm (v := .slice p X.length c) rfl rfl ?_
  refine lp (v := .int .i64 ((X.length : Nat) : Int)) rfl rfl (run_lenL (p := p) (cap := c) (n := X.length) rfl Try.underlying22 (by kernel_rfl)) ?_
  refine lm (v := .slice q l.length d) rfl rfl ?_
  refine lp (v := .int .i64 ((l.length : Nat) : Int)) rfl rfl (run_lenL (p := q) (cap := d) (n := l.length) rfl Try.underlying22 (by kernel_rfl)) ?_
  refine lp (v := .bool (!(decide (X.length = l.length)))) rfl rfl (run_bin rfl (vx := (.int .i64 ((X.length : Nat) : Int))) (vy := (.int .i64 ((l.length : Nat) : Int))) (by kernel_rfl) (by kernel_rfl) fun w => bn_neq rfl w) ?_
  refine wpL_done (fun W2 hW2 => ?_)
  refine (show Code.wp _ _ _ _ _ from ?_)
  cases hd1 : (decide (X.length = l.length)) with
  | false =>
    have h1 : ¬ (X.length = l.length) := of_decide_eq_false hd1
    clear hd1
    exact absurd hX h1
  | true =>
    have h1 : X.length = l.length := of_decide_eq_true hd1
    clear hd1
    refine wp_cond_false rfl ?_
    refine wp_skip ?_
    refine (show Code.wp _ _ _ _ _ from ?_)
    refine wp_seq ?_
    refine wp_seq ?_
    refine wp_region_L (W0 := w) [] (hW2) ?_
    refine lm (v := .int .i64 0) rfl rfl ?_
    refine wpL_done (fun W3 hW3 => ?_)
    refine (show Code.wp _ _ _ _ _ from ?_)
    refine wp_block ?_
    go_loopw [5] (fun u5 wr => ∃ (i : Nat), (i ≤ l.length) ∧ u5 = .int .i64 ((i : Nat) : Int) ∧ KS w [] wr) (fun u5 _ => l.length - (intOf u5).toNat)
    case atStart => exact ⟨0, (Nat.zero_le _), rfl, (hW3.sub (fun p hp => by first | exact hp | (simp only [List.mem_cons, List.mem_append, List.nil_append, List.not_mem_nil, or_assoc, or_false, false_or] at hp ⊢ <;> grind)))⟩
    case round =>
      obtain ⟨i, hi, rfl, hL4⟩ := hrel
      refine wp_seq ?_
      refine wp_seq ?_
      refine wp_region_L (W0 := w) [] (hL4) ?_
      refine lm (v := .int .i64 ((i : Nat) : Int)) rfl rfl ?_
      refine lm (v := .slice p X.length c) rfl rfl ?_
      refine lp (v := .int .i64 ((X.length : Nat) : Int)) rfl rfl (run_lenL (p := p) (cap := c) (n := X.length) rfl Try.underlying22 (by kernel_rfl)) ?_
      refine lp (v := .bool (decide (i < X.length))) rfl rfl (run_bin rfl (vx := (.int .i64 ((i : Nat) : Int))) (vy := (.int .i64 ((X.length : Nat) : Int))) (by kernel_rfl) (by kernel_rfl) fun w => bn_lss rfl w) ?_
      refine wpL_done (fun W5 hW5 => ?_)
      refine (show Code.wp _ _ _ _ _ from ?_)
      cases hd2 : (decide (i < X.length)) with
      | false =>
        have h2 : ¬ (i < X.length) := of_decide_eq_false hd2
        clear hd2
        refine wp_cond_false rfl ?_
        refine wp_exit ?_
        refine (show Code.wp _ _ _ _ _ from ?_)
        refine wp_seq ?_
        refine wp_region_L (W0 := w) [] (hW5) ?_
        refine lm (v := .bool true) rfl rfl ?_
        refine wpL_done (fun W6 hW6 => ?_)
        refine (show Code.wp _ _ _ _ _ from ?_)
        refine wp_ret ?_
        try simp only [inBlock_ret, then_ret]
        refine bodyPost_ret (v := .bool true) ?_ rfl ?_
        · kernel_rfl
        · exact ⟨rfl, hW6.1⟩
      | true =>
        have h2 : i < X.length := of_decide_eq_true hd2
        clear hd2
        refine wp_cond_true rfl ?_
        refine wp_skip ?_
        refine (show Code.wp _ _ _ _ _ from ?_)
        refine wp_seq ?_
        refine wp_block ?_
        refine wp_seq ?_
        refine wp_region_V (W0 := w) [] (by kernel_rfl) (hW5) ?_
        refine vm (i := 0) (v := .slice p X.length c) rfl rfl rfl ?_
        refine vm (i := 1) (v := .int .i64 ((i : Nat) : Int)) rfl rfl rfl ?_
        obtain ⟨y1, g1_, f1_, hy1, hp1, hc1⟩ := RL.at (RL.base HP.out) colC_len (by decide) (hW5.sub (fun _ h => by cases h)) (k := i) (by omega)
        refine vp (i := 2) (v := .pointer (some ⟨g1_, f1_ + i * 12, none⟩)) rfl rfl rfl (run_idxQ (p := p) (cap := c) (n := X.length) (j := .i64) (k := i) (sz := 12) rfl Try.underlying22 (by kernel_rfl) (by kernel_rfl) hp1 (by kernel_rfl) (by omega)) ?_
        refine vb (i := 3) (v := .agg (colC y1).toArray) rfl rfl rfl (yb_rs (off := f1_ + i * 12) (cs := colC y1) rfl (by kernel_rfl) (fun W hW => hc1 W (hW.sub (fun _ h => by cases h))) Try.underlying49 rfl (by kernel_rfl)) ?_
        refine vm (i := 4) (v := .slice q l.length d) rfl rfl rfl ?_
        refine vm (i := 5) (v := .int .i64 ((i : Nat) : Int)) rfl rfl rfl ?_
        obtain ⟨y2, g2_, f2_, hy2, hp2, hc2⟩ := RL.at (RL.base HQ.out) colC_len (by decide) (hW5.sub (fun _ h => by cases h)) (k := i) (by omega)
        refine vp (i := 6) (v := .pointer (some ⟨g2_, f2_ + i * 12, none⟩)) rfl rfl rfl (run_idxQ (p := q) (cap := d) (n := l.length) (j := .i64) (k := i) (sz := 12) rfl Try.underlying22 (by kernel_rfl) (by kernel_rfl) hp2 (by kernel_rfl) (by omega)) ?_
        refine vb (i := 7) (v := .agg (colC y2).toArray) rfl rfl rfl (yb_rs (off := f2_ + i * 12) (cs := colC y2) rfl (by kernel_rfl) (fun W hW => hc2 W (hW.sub (fun _ h => by cases h))) Try.underlying49 rfl (by kernel_rfl)) ?_
        refine vv (i := 8) (v := .bool true) rfl rfl rfl (yb_call (f := 75) (args := #[.agg (colC y1).toArray, .agg (colC y2).toArray]) (fun _ => by kernel_rfl) fun W hW => (by obtain ⟨q7, d7, e7, R7⟩ := lentCA_pre HA.out hy1 hy2; rw [e7]; exact sw_SameColumn y2 q7 d7 (by have := lr y2 (List.mem_of_getElem? hy2); omega) W ((HR.out y2 (List.mem_of_getElem? hy2)).keep hW.1) (R7.keep hW.1))) ?_
        refine vm (i := 9) (v := .bool false) rfl rfl rfl ?_
        refine wpV_done (by kernel_rfl) (fun W7 hW7 => ?_) _
        refine (show Code.wp _ _ _ _ _ from ?_)
        refine wp_cond_false rfl ?_
        refine wp_skip ?_
        refine (show Code.wp _ _ _ _ _ from ?_)
        refine wp_region_L (W0 := w) [] (hW7) ?_
        refine lm (v := .int .i64 ((i : Nat) : Int)) rfl rfl ?_
        refine lp (v := .int .i64 (((i + 1) : Nat) : Int)) rfl rfl (run_bin rfl (vx := (.int .i64 ((i : Nat) : Int))) (vy := (.int .i64 ((1 : Nat) : Int))) (by kernel_rfl) (by kernel_rfl) fun w => bn_add (z := (i + 1)) rfl (wr_i64 (by omega)) w) ?_
        refine lm (v := .int .i64 (((i + 1) : Nat) : Int)) rfl rfl ?_
        refine wpL_done (fun W8 hW8 => ?_)
        go_roundw
        case rel =>
          repeat apply Exists.intro
          exact ⟨⟨i + 1, (by omega), rfl, (hW8.sub (fun p hp => by first | exact hp | (simp only [List.mem_cons, List.mem_append, List.nil_append, List.not_mem_nil, or_assoc, or_false, false_or] at hp ⊢ <;> grind)))⟩, rfl⟩
        case measure => (show l.length - (intOf (.int .i64 (((i + 1) : Nat) : Int))).toNat < l.length - (intOf (.int .i64 ((i : Nat) : Int))).toNat); simp only [intOf]; omega
end Go.Proofs.Ythpooalhibedpaa
namespace Go.Proofs.Ythpooalhibedpaa
open Go Go.RowKit Tw
set_option maxRecDepth 100000 in
set_option maxHeartbeats 4000000 in
theorem KeptCovers_any (l X : List Cov) (p q : Option Addr) (c d : Nat) (hl : l.length ≤ 1000000) (lr : ∀ o ∈ l, o.rows.length ≤ 1000000) (hX : X.length = l.length) (hc : l.length + 12 ≤ c) (w : World) (hp : SLV w p ((X ++ mkCovL 12).flatMap covC)) (ha : LentOA w l X) (hq : SLV w q (l.flatMap covC)) (hr : RwR w l) : Calls Try.prog 47 #[.slice p l.length c, .slice q l.length d] w fun e w' => e = .returned (.bool true) ∧ Below w.heap.size w w' := by
  have HP := Lib.hid hp
  clear hp
  have HQ := Lib.hid hq
  clear hq
  have HA := Lib.hid ha
  clear ha
  have HR := Lib.hid hr
  clear hr
  have hlen : (X ++ mkCovL 12).length = l.length + 12 := by rw [List.length_append, mkCovL_len, hX]
  go_enter Try.func47, Try.ntmps47
  refine wp_seq ?_
  refine wp_region_L (W0 := w) [] (KS.start w) ?_
  refine lm (v := .bool false) rfl rfl ?_
  refine wpL_done (fun W1 hW1 => ?_)
  refine (show Code.wp _ _ _ _ _ from ?_)
  refine wp_seq ?_
  refine wp_seq ?_
  refine wp_region_L (W0 := w) [] (hW1) ?_
  refine lm (v := .slice p l.length c) rfl rfl ?_
  refine lp (v := .int .i64 ((l.length : Nat) : Int)) rfl rfl (run_lenL (p := p) (cap := c) (n := l.length) rfl Try.underlying23 (by kernel_rfl)) ?_
  refine lm (v := .slice q l.length d) rfl rfl ?_
  refine lp (v := .int .i64 ((l.length : Nat) : Int)) rfl rfl (run_lenL (p := q) (cap := d) (n := l.length) rfl Try.underlying23 (by kernel_rfl)) ?_
  refine lp (v := .bool false) rfl rfl (run_bin rfl (vx := (.int .i64 ((l.length : Nat) : Int))) (vy := (.int .i64 ((l.length : Nat) : Int))) (by kernel_rfl) (by kernel_rfl) fun w => bn_neq (decide_eq_true rfl) w) ?_
  refine wpL_done (fun W2 hW2 => ?_)
  refine (show Code.wp _ _ _ _ _ from ?_)
  refine wp_cond_false rfl ?_
  refine wp_skip ?_
  refine (show Code.wp _ _ _ _ _ from ?_)
  refine wp_seq ?_
  refine wp_region_L (W0 := w) [] (hW2) ?_
  refine lm (v := .slice p l.length c) rfl rfl ?_
  refine lm (v := .slice q l.length d) rfl rfl ?_
  refine lp (v := .int .i64 ((l.length : Nat) : Int)) rfl rfl (run_lenL (p := q) (cap := d) (n := l.length) rfl Try.underlying23 (by kernel_rfl)) ?_
  refine lp (v := .int .i64 (((l.length + 12) : Nat) : Int)) rfl rfl (run_bin rfl (vx := (.int .i64 ((l.length : Nat) : Int))) (vy := (.int .i64 ((12 : Nat) : Int))) (by kernel_rfl) (by kernel_rfl) fun w => bn_add (z := (l.length + 12)) rfl (wr_i64 (by omega)) w) ?_
  refine lp (v := .slice p (l.length + 12) c) rfl rfl (run_slt (kd := .i64) (j := (l.length + 12)) (n := l.length) (c := c) (sz := 2) rfl Try.underlying23 (by kernel_rfl) (by kernel_rfl) (by kernel_rfl) (by omega)) ?_
  refine lm (v := .slice p (l.length + 12) c) rfl rfl ?_
  refine wpL_done (fun W3 hW3 => ?_)
  refine (show Code.wp _ _ _ _ _ from ?_)
  refine wp_seq ?_
  refine wp_seq ?_
  refine wp_region_L (W0 := w) [] (hW3) ?_
  refine lm (v := .int .i64 0) rfl rfl ?_
  refine wpL_done (fun W4 hW4 => ?_)
  refine (show Code.wp _ _ _ _ _ from ?_)
  refine wp_block ?_
  go_loopw [6] (fun u6 wr => ∃ (i : Nat), (i ≤ l.length + 12) ∧ u6 = .int .i64 ((i : Nat) : Int) ∧ KS w [] wr) (fun u6 _ => l.length + 12 - (intOf u6).toNat)
  case atStart => exact ⟨0, (Nat.zero_le _), rfl, (hW4.sub (fun p hp => by first | exact hp | (simp only [List.mem_cons, List.mem_append, List.nil_append, List.not_mem_nil, or_assoc, or_false, false_or] at hp ⊢ <;> grind)))⟩
  case round =>
    obtain ⟨i, hi, rfl, hL5⟩ := hrel
    refine wp_seq ?_
    refine wp_seq ?_
    refine wp_region_L (W0 := w) [] (hL5) ?_
    refine lm (v := .int .i64 ((i : Nat) : Int)) rfl rfl ?_
    refine lm (v := .slice p (l.length + 12) c) rfl rfl ?_
    refine lp (v := .int .i64 (((l.length + 12) : Nat) : Int)) rfl rfl (run_lenL (p := p) (cap := c) (n := (l.length + 12)) rfl Try.underlying23 (by kernel_rfl)) ?_
    refine lp (v := .bool (decide (i < (l.length + 12)))) rfl rfl (run_bin rfl (vx := (.int .i64 ((i : Nat) : Int))) (vy := (.int .i64 (((l.length + 12) : Nat) : Int))) (by kernel_rfl) (by kernel_rfl) fun w => bn_lss rfl w) ?_
    refine wpL_done (fun W6 hW6 => ?_)
    refine (show Code.wp _ _ _ _ _ from ?_)
    cases hd1 : (decide (i < (l.length + 12))) with
    | false =>
      have h1 : ¬ (i < (l.length + 12)) := of_decide_eq_false hd1
      clear hd1
      refine wp_cond_false rfl ?_
      refine wp_exit ?_
      refine (show Code.wp _ _ _ _ _ from ?_)
      refine wp_seq ?_
      refine wp_region_L (W0 := w) [] (hW6) ?_
      refine lm (v := .bool true) rfl rfl ?_
      refine wpL_done (fun W7 hW7 => ?_)
      refine (show Code.wp _ _ _ _ _ from ?_)
      refine wp_ret ?_
      try simp only [inBlock_ret, then_ret]
      refine bodyPost_ret (v := .bool true) ?_ rfl ?_
      · kernel_rfl
      · exact ⟨rfl, hW7.1⟩
    | true =>
      have h1 : i < (l.length + 12) := of_decide_eq_true hd1
      clear hd1
      refine wp_cond_true rfl ?_
      refine wp_skip ?_
      refine (show Code.wp _ _ _ _ _ from ?_)
      refine wp_seq ?_
      refine wp_block ?_
      refine wp_seq ?_
      refine wp_region_V (W0 := w) [] (by kernel_rfl) (hW6) ?_
      refine vm (i := 0) (v := .int .i64 ((i : Nat) : Int)) rfl rfl rfl ?_
      refine vm (i := 1) (v := .slice q l.length d) rfl rfl rfl ?_
      refine vp (i := 2) (v := .int .i64 ((l.length : Nat) : Int)) rfl rfl rfl (run_lenL (p := q) (cap := d) (n := l.length) rfl Try.underlying23 (by kernel_rfl)) ?_
      refine vp (i := 3) (v := .bool (decide (i < l.length))) rfl rfl rfl (run_bin rfl (vx := (.int .i64 ((i : Nat) : Int))) (vy := (.int .i64 ((l.length : Nat) : Int))) (by kernel_rfl) (by kernel_rfl) fun w => bn_lss rfl w) ?_
      refine vm (i := 4) (v := .bool (decide (i < l.length))) rfl rfl rfl ?_
      cases hd2 : (decide (i < l.length)) with
      | false =>
        have h2 : ¬ (i < l.length) := of_decide_eq_false hd2
        clear hd2
        refine vn (i := 5) rfl rfl ?_
        refine vn (i := 6) rfl rfl ?_
        refine vn (i := 7) rfl rfl ?_
        refine vn (i := 8) rfl rfl ?_
        refine vn (i := 9) rfl rfl ?_
        refine vn (i := 10) rfl rfl ?_
        refine vn (i := 11) rfl rfl ?_
        refine vn (i := 12) rfl rfl ?_
        refine vn (i := 13) rfl rfl ?_
        refine vn (i := 14) rfl rfl ?_
        refine vm (i := 15) (v := .bool false) rfl rfl rfl ?_
        refine vm (i := 16) (v := .bool false) rfl rfl rfl ?_
        refine vm (i := 17) (v := .int .i64 ((i : Nat) : Int)) rfl rfl rfl ?_
        refine vm (i := 18) (v := .slice q l.length d) rfl rfl rfl ?_
        refine vp (i := 19) (v := .int .i64 ((l.length : Nat) : Int)) rfl rfl rfl (run_lenL (p := q) (cap := d) (n := l.length) rfl Try.underlying23 (by kernel_rfl)) ?_
        refine vp (i := 20) (v := .bool true) rfl rfl rfl (run_bin rfl (vx := (.int .i64 ((i : Nat) : Int))) (vy := (.int .i64 ((l.length : Nat) : Int))) (by kernel_rfl) (by kernel_rfl) fun w => bn_geq (decide_eq_false (by assumption)) w) ?_
        refine vm (i := 21) (v := .bool true) rfl rfl rfl ?_
        refine vm (i := 22) (v := .slice p (l.length + 12) c) rfl rfl rfl ?_
        refine vm (i := 23) (v := .int .i64 ((i : Nat) : Int)) rfl rfl rfl ?_
        obtain ⟨y1, g1_, f1_, hy1, hp1, hc1⟩ := RL.at (RL.base HP.out) covC_len (by decide) (hW6.sub (fun _ h => by cases h)) (k := i) (by omega)
        refine vp (i := 24) (v := .pointer (some ⟨g1_, f1_ + i * 2, none⟩)) rfl rfl rfl (run_idxQ (p := p) (cap := c) (n := (l.length + 12)) (j := .i64) (k := i) (sz := 2) rfl Try.underlying23 (by kernel_rfl) (by kernel_rfl) hp1 (by kernel_rfl) (by omega)) ?_
        refine vb (i := 25) (v := .agg (covC y1).toArray) rfl rfl rfl (yb_rs (off := f1_ + i * 2) (cs := covC y1) rfl (by kernel_rfl) (fun W hW => hc1 W (hW.sub (fun _ h => by cases h))) Try.underlying51 rfl (by kernel_rfl)) ?_
        refine vm (i := 26) (v := .int .i64 ((i : Nat) : Int)) rfl rfl rfl ?_
        refine vm (i := 27) (v := .slice q l.length d) rfl rfl rfl ?_
        refine vp (i := 28) (v := .int .i64 ((l.length : Nat) : Int)) rfl rfl rfl (run_lenL (p := q) (cap := d) (n := l.length) rfl Try.underlying23 (by kernel_rfl)) ?_
        refine vp (i := 29) (v := .int .i64 (((i - l.length) : Nat) : Int)) rfl rfl rfl (run_bin rfl (vx := (.int .i64 ((i : Nat) : Int))) (vy := (.int .i64 ((l.length : Nat) : Int))) (by kernel_rfl) (by kernel_rfl) fun w => bn_sub (z := (i - l.length)) rfl (by omega) (wr_i64 (by omega)) w) ?_
        refine vv (i := 30) (v := .agg (covC (mkCov (i - l.length))).toArray) rfl rfl rfl (yb_call (f := 58) (args := #[.int .i64 1, .int .i64 (((i - l.length) : Nat) : Int)]) (fun _ => by kernel_rfl) fun W hW => markCover_any (i - l.length) (by omega) W) ?_
        refine vv (i := 31) (v := .bool true) rfl rfl rfl (yb_call (f := 77) (args := #[.agg (covC y1).toArray, .agg (covC (mkCov (i - l.length))).toArray]) (fun _ => by kernel_rfl) fun W hW => (by rw [markOA_at hy1 hX h2]; exact SameCover_any (mkCov (i - l.length)) none 0 (Nat.zero_le _) W (.inl rfl) (.inl rfl))) ?_
        refine vm (i := 32) (v := .bool false) rfl rfl rfl ?_
        refine vm (i := 33) (v := .bool false) rfl rfl rfl ?_
        refine vm (i := 34) (v := .bool false) rfl rfl rfl ?_
        refine wpV_done (by kernel_rfl) (fun W8 hW8 => ?_) _
        refine (show Code.wp _ _ _ _ _ from ?_)
        refine wp_cond_false rfl ?_
        refine wp_skip ?_
        refine (show Code.wp _ _ _ _ _ from ?_)
        refine wp_region_L (W0 := w) [] (hW8) ?_
        refine lm (v := .int .i64 ((i : Nat) : Int)) rfl rfl ?_
        refine lp (v := .int .i64 (((i + 1) : Nat) : Int)) rfl rfl (run_bin rfl (vx := (.int .i64 ((i : Nat) : Int))) (vy := (.int .i64 ((1 : Nat) : Int))) (by kernel_rfl) (by kernel_rfl) fun w => bn_add (z := (i + 1)) rfl (wr_i64 (by omega)) w) ?_
        refine lm (v := .int .i64 (((i + 1) : Nat) : Int)) rfl rfl ?_
        refine wpL_done (fun W9 hW9 => ?_)
        go_roundw
        case rel =>
          repeat apply Exists.intro
          exact ⟨⟨i + 1, (by omega), rfl, (hW9.sub (fun p hp => by first | exact hp | (simp only [List.mem_cons, List.mem_append, List.nil_append, List.not_mem_nil, or_assoc, or_false, false_or] at hp ⊢ <;> grind)))⟩, rfl⟩
        case measure => (show l.length + 12 - (intOf (.int .i64 (((i + 1) : Nat) : Int))).toNat < l.length + 12 - (intOf (.int .i64 ((i : Nat) : Int))).toNat); simp only [intOf]; omega
      | true =>
        have h2 : i < l.length := of_decide_eq_true hd2
        clear hd2
        refine vm (i := 5) (v := .slice p (l.length + 12) c) rfl rfl rfl ?_
        refine vm (i := 6) (v := .int .i64 ((i : Nat) : Int)) rfl rfl rfl ?_
        obtain ⟨y2, g2_, f2_, hy2, hp2, hc2⟩ := RL.at (RL.base HP.out) covC_len (by decide) (hW6.sub (fun _ h => by cases h)) (k := i) (by omega)
        refine vp (i := 7) (v := .pointer (some ⟨g2_, f2_ + i * 2, none⟩)) rfl rfl rfl (run_idxQ (p := p) (cap := c) (n := (l.length + 12)) (j := .i64) (k := i) (sz := 2) rfl Try.underlying23 (by kernel_rfl) (by kernel_rfl) hp2 (by kernel_rfl) (by omega)) ?_
        refine vb (i := 8) (v := .agg (covC y2).toArray) rfl rfl rfl (yb_rs (off := f2_ + i * 2) (cs := covC y2) rfl (by kernel_rfl) (fun W hW => hc2 W (hW.sub (fun _ h => by cases h))) Try.underlying51 rfl (by kernel_rfl)) ?_
        refine vm (i := 9) (v := .slice q l.length d) rfl rfl rfl ?_
        refine vm (i := 10) (v := .int .i64 ((i : Nat) : Int)) rfl rfl rfl ?_
        obtain ⟨y3, g3_, f3_, hy3, hp3, hc3⟩ := RL.at (RL.base HQ.out) covC_len (by decide) (hW6.sub (fun _ h => by cases h)) (k := i) (by omega)
        refine vp (i := 11) (v := .pointer (some ⟨g3_, f3_ + i * 2, none⟩)) rfl rfl rfl (run_idxQ (p := q) (cap := d) (n := l.length) (j := .i64) (k := i) (sz := 2) rfl Try.underlying23 (by kernel_rfl) (by kernel_rfl) hp3 (by kernel_rfl) (by omega)) ?_
        refine vb (i := 12) (v := .agg (covC y3).toArray) rfl rfl rfl (yb_rs (off := f3_ + i * 2) (cs := covC y3) rfl (by kernel_rfl) (fun W hW => hc3 W (hW.sub (fun _ h => by cases h))) Try.underlying51 rfl (by kernel_rfl)) ?_
        refine vv (i := 13) (v := .bool true) rfl rfl rfl (yb_call (f := 76) (args := #[.agg (covC y2).toArray, .agg (covC y3).toArray]) (fun _ => by kernel_rfl) fun W hW => (by obtain ⟨q7, d7, e7, n7, R7⟩ := lentOA_at HA.out hy2 hX hy3; rw [e7]; exact KeptCover_any y3 q7 d7 (lr y3 (List.mem_of_getElem? hy3)) n7 W ((HR.out y3 (List.mem_of_getElem? hy3)).keep hW.1) (R7.keep hW.1))) ?_
        refine vm (i := 14) (v := .bool false) rfl rfl rfl ?_
        refine vm (i := 15) (v := .bool false) rfl rfl rfl ?_
        refine vm (i := 16) (v := .bool false) rfl rfl rfl ?_
        refine vm (i := 17) (v := .int .i64 ((i : Nat) : Int)) rfl rfl rfl ?_
        refine vm (i := 18) (v := .slice q l.length d) rfl rfl rfl ?_
        refine vp (i := 19) (v := .int .i64 ((l.length : Nat) : Int)) rfl rfl rfl (run_lenL (p := q) (cap := d) (n := l.length) rfl Try.underlying23 (by kernel_rfl)) ?_
        refine vp (i := 20) (v := .bool false) rfl rfl rfl (run_bin rfl (vx := (.int .i64 ((i : Nat) : Int))) (vy := (.int .i64 ((l.length : Nat) : Int))) (by kernel_rfl) (by kernel_rfl) fun w => bn_geq (decide_eq_true (by assumption)) w) ?_
        refine vm (i := 21) (v := .bool false) rfl rfl rfl ?_
        refine vn (i := 22) rfl rfl ?_
        refine vn (i := 23) rfl rfl ?_
        refine vn (i := 24) rfl rfl ?_
        refine vn (i := 25) rfl rfl ?_
        refine vn (i := 26) rfl rfl ?_
        refine vn (i := 27) rfl rfl ?_
        refine vn (i := 28) rfl rfl ?_
        refine vn (i := 29) rfl rfl ?_
        refine vn (i := 30) rfl rfl ?_
        refine vn (i := 31) rfl rfl ?_
        refine vn (i := 32) rfl rfl ?_
        refine vm (i := 33) (v := .bool false) rfl rfl rfl ?_
        refine vm (i := 34) (v := .bool false) rfl rfl rfl ?_
        refine wpV_done (by kernel_rfl) (fun W10 hW10 => ?_) _
        refine (show Code.wp _ _ _ _ _ from ?_)
        refine wp_cond_false rfl ?_
        refine wp_skip ?_
        refine (show Code.wp _ _ _ _ _ from ?_)
        refine wp_region_L (W0 := w) [] (hW10) ?_
        refine lm (v := .int .i64 ((i : Nat) : Int)) rfl rfl ?_
        refine lp (v := .int .i64 (((i + 1) : Nat) : Int)) rfl rfl (run_bin rfl (vx := (.int .i64 ((i : Nat) : Int))) (vy := (.int .i64 ((1 : Nat) : Int))) (by kernel_rfl) (by kernel_rfl) fun w => bn_add (z := (i + 1)) rfl (wr_i64 (by omega)) w) ?_
        refine lm (v := .int .i64 (((i + 1) : Nat) : Int)) rfl rfl ?_
        refine wpL_done (fun W11 hW11 => ?_)
        go_roundw
        case rel =>
          repeat apply Exists.intro
          exact ⟨⟨i + 1, (by omega), rfl, (hW11.sub (fun p hp => by first | exact hp | (simp only [List.mem_cons, List.mem_append, List.nil_append, List.not_mem_nil, or_assoc, or_false, false_or] at hp ⊢ <;> grind)))⟩, rfl⟩
        case measure => (show l.length + 12 - (intOf (.int .i64 (((i + 1) : Nat) : Int))).toNat < l.length + 12 - (intOf (.int .i64 ((i : Nat) : Int))).toNat); simp only [intOf]; omega
set_option maxRecDepth 100000 in
set_option maxHeartbeats 4000000 in
theorem KeptColumns_any (l X : List Col) (p q : Option Addr) (c d : Nat) (hl : l.length ≤ 1000000) (lr : ∀ o ∈ l, o.plugs.length ≤ 1000000) (hX : X.length = l.length) (hc : l.length + 12 ≤ c) (w : World) (hp : SLV w p ((X ++ mkColL 12).flatMap colC)) (ha : LentCA w l X) (hq : SLV w q (l.flatMap colC)) (hr : PlR w l) : Calls Try.prog 46 #[.slice p l.length c, .slice q l.length d] w fun e w' => e = .returned (.bool true) ∧ Below w.heap.size w w' := by
  have HP := Lib.hid hp
  clear hp
  have HQ := Lib.hid hq
  clear hq
  have HA := Lib.hid ha
  clear ha
  have HR := Lib.hid hr
  clear hr
  have hlen : (X ++ mkColL 12).length = l.length + 12 := by rw [List.length_append, mkColL_len, hX]
  go_enter Try.func46, Try.ntmps46
  refine wp_seq ?_
  refine wp_region_L (W0 := w) [] (KS.start w) ?_
  refine lm (v := .bool false) rfl rfl ?_
  refine wpL_done (fun W1 hW1 => ?_)
  refine (show Code.wp _ _ _ _ _ from ?_)
  refine wp_seq ?_
  refine wp_seq ?_
  refine wp_region_L (W0 := w) [] (hW1) ?_
  refine lm (v := .slice p l.length c) rfl rfl ?_
  refine lp (v := .int .i64 ((l.length : Nat) : Int)) rfl rfl (run_lenL (p := p) (cap := c) (n := l.length) rfl Try.underlying22 (by kernel_rfl)) ?_
  refine lm (v := .slice q l.length d) rfl rfl ?_
  refine lp (v := .int .i64 ((l.length : Nat) : Int)) rfl rfl (run_lenL (p := q) (cap := d) (n := l.length) rfl Try.underlying22 (by kernel_rfl)) ?_
  refine lp (v := .bool false) rfl rfl (run_bin rfl (vx := (.int .i64 ((l.length : Nat) : Int))) (vy := (.int .i64 ((l.length : Nat) : Int))) (by kernel_rfl) (by kernel_rfl) fun w => bn_neq (decide_eq_true rfl) w) ?_
  refine wpL_done (fun W2 hW2 => ?_)
  refine (show Code.wp _ _ _ _ _ from ?_)
  refine wp_cond_false rfl ?_
  refine wp_skip ?_
  refine (show Code.wp _ _ _ _ _ from ?_)
  refine wp_seq ?_
  refine wp_region_L (W0 := w) [] (hW2) ?_
  refine lm (v := .slice p l.length c) rfl rfl ?_
  refine lm (v := .slice q l.length d) rfl rfl ?_
  refine lp (v := .int .i64 ((l.length : Nat) : Int)) rfl rfl (run_lenL (p := q) (cap := d) (n := l.length) rfl Try.underlying22 (by kernel_rfl)) ?_
  refine lp (v := .int .i64 (((l.length + 12) : Nat) : Int)) rfl rfl (run_bin rfl (vx := (.int .i64 ((l.length : Nat) : Int))) (vy := (.int .i64 ((12 : Nat) : Int))) (by kernel_rfl) (by kernel_rfl) fun w => bn_add (z := (l.length + 12)) rfl (wr_i64 (by omega)) w) ?_
  refine lp (v := .slice p (l.length + 12) c) rfl rfl (run_slt (kd := .i64) (j := (l.length + 12)) (n := l.length) (c := c) (sz := 12) rfl Try.underlying22 (by kernel_rfl) (by kernel_rfl) (by kernel_rfl) (by omega)) ?_
  refine lm (v := .slice p (l.length + 12) c) rfl rfl ?_
  refine wpL_done (fun W3 hW3 => ?_)
  refine (show Code.wp _ _ _ _ _ from ?_)
  refine wp_seq ?_
  refine wp_seq ?_
  refine wp_region_L (W0 := w) [] (hW3) ?_
  refine lm (v := .int .i64 0) rfl rfl ?_
  refine wpL_done (fun W4 hW4 => ?_)
  refine (show Code.wp _ _ _ _ _ from ?_)
  refine wp_block ?_
  go_loopw [6] (fun u6 wr => ∃ (i : Nat), (i ≤ l.length + 12) ∧ u6 = .int .i64 ((i : Nat) : Int) ∧ KS w [] wr) (fun u6 _ => l.length + 12 - (intOf u6).toNat)
  case atStart => exact ⟨0, (Nat.zero_le _), rfl, (hW4.sub (fun p hp => by first | exact hp | (simp only [List.mem_cons, List.mem_append, List.nil_append, List.not_mem_nil, or_assoc, or_false, false_or] at hp ⊢ <;> grind)))⟩
  case round =>
    obtain ⟨i, hi, rfl, hL5⟩ := hrel
    refine wp_seq ?_
    refine wp_seq ?_
    refine wp_region_L (W0 := w) [] (hL5) ?_
    refine lm (v := .int .i64 ((i : Nat) : Int)) rfl rfl ?_
    refine lm (v := .slice p (l.length + 12) c) rfl rfl ?_
    refine lp (v := .int .i64 (((l.length + 12) : Nat) : Int)) rfl rfl (run_lenL (p := p) (cap := c) (n := (l.length + 12)) rfl Try.underlying22 (by kernel_rfl)) ?_
    refine lp (v := .bool (decide (i < (l.length + 12)))) rfl rfl (run_bin rfl (vx := (.int .i64 ((i : Nat) : Int))) (vy := (.int .i64 (((l.length + 12) : Nat) : Int))) (by kernel_rfl) (by kernel_rfl) fun w => bn_lss rfl w) ?_
    refine wpL_done (fun W6 hW6 => ?_)
    refine (show Code.wp _ _ _ _ _ from ?_)
    cases hd1 : (decide (i < (l.length + 12))) with
    | false =>
      have h1 : ¬ (i < (l.length + 12)) := of_decide_eq_false hd1
      clear hd1
      refine wp_cond_false rfl ?_
      refine wp_exit ?_
      refine (show Code.wp _ _ _ _ _ from ?_)
      refine wp_seq ?_
      refine wp_region_L (W0 := w) [] (hW6) ?_
      refine lm (v := .bool true) rfl rfl ?_
      refine wpL_done (fun W7 hW7 => ?_)
      refine (show Code.wp _ _ _ _ _ from ?_)
      refine wp_ret ?_
      try simp only [inBlock_ret, then_ret]
      refine bodyPost_ret (v := .bool true) ?_ rfl ?_
      · kernel_rfl
      · exact ⟨rfl, hW7.1⟩
    | true =>
      have h1 : i < (l.length + 12) := of_decide_eq_true hd1
      clear hd1
      refine wp_cond_true rfl ?_
      refine wp_skip ?_
      refine (show Code.wp _ _ _ _ _ from ?_)
      refine wp_seq ?_
      refine wp_block ?_
      refine wp_seq ?_
      refine wp_region_V (W0 := w) [] (by kernel_rfl) (hW6) ?_
      refine vm (i := 0) (v := .int .i64 ((i : Nat) : Int)) rfl rfl rfl ?_
      refine vm (i := 1) (v := .slice q l.length d) rfl rfl rfl ?_
      refine vp (i := 2) (v := .int .i64 ((l.length : Nat) : Int)) rfl rfl rfl (run_lenL (p := q) (cap := d) (n := l.length) rfl Try.underlying22 (by kernel_rfl)) ?_
      refine vp (i := 3) (v := .bool (decide (i < l.length))) rfl rfl rfl (run_bin rfl (vx := (.int .i64 ((i : Nat) : Int))) (vy := (.int .i64 ((l.length : Nat) : Int))) (by kernel_rfl) (by kernel_rfl) fun w => bn_lss rfl w) ?_
      refine vm (i := 4) (v := .bool (decide (i < l.length))) rfl rfl rfl ?_
      cases hd2 : (decide (i < l.length)) with
      | false =>
        have h2 : ¬ (i < l.length) := of_decide_eq_false hd2
        clear hd2
        refine vn (i := 5) rfl rfl ?_
        refine vn (i := 6) rfl rfl ?_
        refine vn (i := 7) rfl rfl ?_
        refine vn (i := 8) rfl rfl ?_
        refine vn (i := 9) rfl rfl ?_
        refine vn (i := 10) rfl rfl ?_
        refine vn (i := 11) rfl rfl ?_
        refine vn (i := 12) rfl rfl ?_
        refine vn (i := 13) rfl rfl ?_
        refine vn (i := 14) rfl rfl ?_
        refine vm (i := 15) (v := .bool false) rfl rfl rfl ?_
        refine vm (i := 16) (v := .bool false) rfl rfl rfl ?_
        refine vm (i := 17) (v := .int .i64 ((i : Nat) : Int)) rfl rfl rfl ?_
        refine vm (i := 18) (v := .slice q l.length d) rfl rfl rfl ?_
        refine vp (i := 19) (v := .int .i64 ((l.length : Nat) : Int)) rfl rfl rfl (run_lenL (p := q) (cap := d) (n := l.length) rfl Try.underlying22 (by kernel_rfl)) ?_
        refine vp (i := 20) (v := .bool true) rfl rfl rfl (run_bin rfl (vx := (.int .i64 ((i : Nat) : Int))) (vy := (.int .i64 ((l.length : Nat) : Int))) (by kernel_rfl) (by kernel_rfl) fun w => bn_geq (decide_eq_false (by assumption)) w) ?_
        refine vm (i := 21) (v := .bool true) rfl rfl rfl ?_
        refine vm (i := 22) (v := .slice p (l.length + 12) c) rfl rfl rfl ?_
        refine vm (i := 23) (v := .int .i64 ((i : Nat) : Int)) rfl rfl rfl ?_
        obtain ⟨y1, g1_, f1_, hy1, hp1, hc1⟩ := RL.at (RL.base HP.out) colC_len (by decide) (hW6.sub (fun _ h => by cases h)) (k := i) (by omega)
        refine vp (i := 24) (v := .pointer (some ⟨g1_, f1_ + i * 12, none⟩)) rfl rfl rfl (run_idxQ (p := p) (cap := c) (n := (l.length + 12)) (j := .i64) (k := i) (sz := 12) rfl Try.underlying22 (by kernel_rfl) (by kernel_rfl) hp1 (by kernel_rfl) (by omega)) ?_
        refine vb (i := 25) (v := .agg (colC y1).toArray) rfl rfl rfl (yb_rs (off := f1_ + i * 12) (cs := colC y1) rfl (by kernel_rfl) (fun W hW => hc1 W (hW.sub (fun _ h => by cases h))) Try.underlying49 rfl (by kernel_rfl)) ?_
        refine vm (i := 26) (v := .int .i64 ((i : Nat) : Int)) rfl rfl rfl ?_
        refine vm (i := 27) (v := .slice q l.length d) rfl rfl rfl ?_
        refine vp (i := 28) (v := .int .i64 ((l.length : Nat) : Int)) rfl rfl rfl (run_lenL (p := q) (cap := d) (n := l.length) rfl Try.underlying22 (by kernel_rfl)) ?_
        refine vp (i := 29) (v := .int .i64 (((i - l.length) : Nat) : Int)) rfl rfl rfl (run_bin rfl (vx := (.int .i64 ((i : Nat) : Int))) (vy := (.int .i64 ((l.length : Nat) : Int))) (by kernel_rfl) (by kernel_rfl) fun w => bn_sub (z := (i - l.length)) rfl (by omega) (wr_i64 (by omega)) w) ?_
        refine vv (i := 30) (v := .agg (colC (mkCol (i - l.length))).toArray) rfl rfl rfl (yb_call (f := 56) (args := #[.int .i64 1, .int .i64 (((i - l.length) : Nat) : Int)]) (fun _ => by kernel_rfl) fun W hW => markColumn_any (i - l.length) (by omega) W) ?_
        refine vv (i := 31) (v := .bool true) rfl rfl rfl (yb_call (f := 75) (args := #[.agg (colC y1).toArray, .agg (colC (mkCol (i - l.length))).toArray]) (fun _ => by kernel_rfl) fun W hW => (by rw [markCA_at hy1 hX h2]; exact SameColumn_any (mkCol (i - l.length)) none 0 (Nat.zero_le _) W (.inl rfl) (.inl rfl))) ?_
        refine vm (i := 32) (v := .bool false) rfl rfl rfl ?_
        refine vm (i := 33) (v := .bool false) rfl rfl rfl ?_
        refine vm (i := 34) (v := .bool false) rfl rfl rfl ?_
        refine wpV_done (by kernel_rfl) (fun W8 hW8 => ?_) _
        refine (show Code.wp _ _ _ _ _ from ?_)
        refine wp_cond_false rfl ?_
        refine wp_skip ?_
        refine (show Code.wp _ _ _ _ _ from ?_)
        refine wp_region_L (W0 := w) [] (hW8) ?_
        refine lm (v := .int .i64 ((i : Nat) : Int)) rfl rfl ?_
        refine lp (v := .int .i64 (((i + 1) : Nat) : Int)) rfl rfl (run_bin rfl (vx := (.int .i64 ((i : Nat) : Int))) (vy := (.int .i64 ((1 : Nat) : Int))) (by kernel_rfl) (by kernel_rfl) fun w => bn_add (z := (i + 1)) rfl (wr_i64 (by omega)) w) ?_
        refine lm (v := .int .i64 (((i + 1) : Nat) : Int)) rfl rfl ?_
        refine wpL_done (fun W9 hW9 => ?_)
        go_roundw
        case rel =>
          repeat apply Exists.intro
          exact ⟨⟨i + 1, (by omega), rfl, (hW9.sub (fun p hp => by first | exact hp | (simp only [List.mem_cons, List.mem_append, List.nil_append, List.not_mem_nil, or_assoc, or_false, false_or] at hp ⊢ <;> grind)))⟩, rfl⟩
        case measure => (show l.length + 12 - (intOf (.int .i64 (((i + 1) : Nat) : Int))).toNat < l.length + 12 - (intOf (.int .i64 ((i : Nat) : Int))).toNat); simp only [intOf]; omega
      | true =>
        have h2 : i < l.length := of_decide_eq_true hd2
        clear hd2
        refine vm (i := 5) (v := .slice p (l.length + 12) c) rfl rfl rfl ?_
        refine vm (i := 6) (v := .int .i64 ((i : Nat) : Int)) rfl rfl rfl ?_
        obtain ⟨y2, g2_, f2_, hy2, hp2, hc2⟩ := RL.at (RL.base HP.out) colC_len (by decide) (hW6.sub (fun _ h => by cases h)) (k := i) (by omega)
        refine vp (i := 7) (v := .pointer (some ⟨g2_, f2_ + i * 12, none⟩)) rfl rfl rfl (run_idxQ (p := p) (cap := c) (n := (l.length + 12)) (j := .i64) (k := i) (sz := 12) rfl Try.underlying22 (by kernel_rfl) (by kernel_rfl) hp2 (by kernel_rfl) (by omega)) ?_
        refine vb (i := 8) (v := .agg (colC y2).toArray) rfl rfl rfl (yb_rs (off := f2_ + i * 12) (cs := colC y2) rfl (by kernel_rfl) (fun W hW => hc2 W (hW.sub (fun _ h => by cases h))) Try.underlying49 rfl (by kernel_rfl)) ?_
        refine vm (i := 9) (v := .slice q l.length d) rfl rfl rfl ?_
        refine vm (i := 10) (v := .int .i64 ((i : Nat) : Int)) rfl rfl rfl ?_
        obtain ⟨y3, g3_, f3_, hy3, hp3, hc3⟩ := RL.at (RL.base HQ.out) colC_len (by decide) (hW6.sub (fun _ h => by cases h)) (k := i) (by omega)
        refine vp (i := 11) (v := .pointer (some ⟨g3_, f3_ + i * 12, none⟩)) rfl rfl rfl (run_idxQ (p := q) (cap := d) (n := l.length) (j := .i64) (k := i) (sz := 12) rfl Try.underlying22 (by kernel_rfl) (by kernel_rfl) hp3 (by kernel_rfl) (by omega)) ?_
        refine vb (i := 12) (v := .agg (colC y3).toArray) rfl rfl rfl (yb_rs (off := f3_ + i * 12) (cs := colC y3) rfl (by kernel_rfl) (fun W hW => hc3 W (hW.sub (fun _ h => by cases h))) Try.underlying49 rfl (by kernel_rfl)) ?_
        refine vv (i := 13) (v := .bool true) rfl rfl rfl (yb_call (f := 74) (args := #[.agg (colC y2).toArray, .agg (colC y3).toArray]) (fun _ => by kernel_rfl) fun W hW => (by obtain ⟨q7, d7, e7, n7, R7⟩ := lentCA_at HA.out hy2 hX hy3; rw [e7]; exact KeptColumn_any y3 q7 d7 (lr y3 (List.mem_of_getElem? hy3)) n7 W ((HR.out y3 (List.mem_of_getElem? hy3)).keep hW.1) (R7.keep hW.1))) ?_
        refine vm (i := 14) (v := .bool false) rfl rfl rfl ?_
        refine vm (i := 15) (v := .bool false) rfl rfl rfl ?_
        refine vm (i := 16) (v := .bool false) rfl rfl rfl ?_
        refine vm (i := 17) (v := .int .i64 ((i : Nat) : Int)) rfl rfl rfl ?_
        refine vm (i := 18) (v := .slice q l.length d) rfl rfl rfl ?_
        refine vp (i := 19) (v := .int .i64 ((l.length : Nat) : Int)) rfl rfl rfl (run_lenL (p := q) (cap := d) (n := l.length) rfl Try.underlying22 (by kernel_rfl)) ?_
        refine vp (i := 20) (v := .bool false) rfl rfl rfl (run_bin rfl (vx := (.int .i64 ((i : Nat) : Int))) (vy := (.int .i64 ((l.length : Nat) : Int))) (by kernel_rfl) (by kernel_rfl) fun w => bn_geq (decide_eq_true (by assumption)) w) ?_
        refine vm (i := 21) (v := .bool false) rfl rfl rfl ?_
        refine vn (i := 22) rfl rfl ?_
        refine vn (i := 23) rfl rfl ?_
        refine vn (i := 24) rfl rfl ?_
        refine vn (i := 25) rfl rfl ?_
        refine vn (i := 26) rfl rfl ?_
        refine vn (i := 27) rfl rfl ?_
        refine vn (i := 28) rfl rfl ?_
        refine vn (i := 29) rfl rfl ?_
        refine vn (i := 30) rfl rfl ?_
        refine vn (i := 31) rfl rfl ?_
        refine vn (i := 32) rfl rfl ?_
        refine vm (i := 33) (v := .bool false) rfl rfl rfl ?_
        refine vm (i := 34) (v := .bool false) rfl rfl rfl ?_
        refine wpV_done (by kernel_rfl) (fun W10 hW10 => ?_) _
        refine (show Code.wp _ _ _ _ _ from ?_)
        refine wp_cond_false rfl ?_
        refine wp_skip ?_
        refine (show Code.wp _ _ _ _ _ from ?_)
        refine wp_region_L (W0 := w) [] (hW10) ?_
        refine lm (v := .int .i64 ((i : Nat) : Int)) rfl rfl ?_
        refine lp (v := .int .i64 (((i + 1) : Nat) : Int)) rfl rfl (run_bin rfl (vx := (.int .i64 ((i : Nat) : Int))) (vy := (.int .i64 ((1 : Nat) : Int))) (by kernel_rfl) (by kernel_rfl) fun w => bn_add (z := (i + 1)) rfl (wr_i64 (by omega)) w) ?_
        refine lm (v := .int .i64 (((i + 1) : Nat) : Int)) rfl rfl ?_
        refine wpL_done (fun W11 hW11 => ?_)
        go_roundw
        case rel =>
          repeat apply Exists.intro
          exact ⟨⟨i + 1, (by omega), rfl, (hW11.sub (fun p hp => by first | exact hp | (simp only [List.mem_cons, List.mem_append, List.nil_append, List.not_mem_nil, or_assoc, or_false, false_or] at hp ⊢ <;> grind)))⟩, rfl⟩
        case measure => (show l.length + 12 - (intOf (.int .i64 (((i + 1) : Nat) : Int))).toNat < l.length + 12 - (intOf (.int .i64 ((i : Nat) : Int))).toNat); simp only [intOf]; omega
end Go.Proofs.Ythpooalhibedpaa
namespace Go.Proofs.Ythpooalhibedpaa
open Go Go.RowKit Tw
set_option maxRecDepth 100000 in
set_option maxHeartbeats 4000000 in
theorem LentIntsL_any (l : List Int) (p : Option Addr) (c : Nat) (hl : l.length ≤ 17592186044403) (w : World) (hp : SLV w p (l.flatMap inC)) : Calls Try.prog 80 #[.slice p l.length c] w fun e w' => ∃ q d, e = .returned (.slice q l.length d) ∧ l.length + 12 ≤ d ∧ OutV w w' 3 1 (.slice q (l ++ mkL 12).length d) (l ++ mkL 12).length ((l ++ mkL 12).flatMap inC) ∧ Below w.heap.size w w' := by
  have HP := Lib.hid hp
  clear hp
  go_enter Try.func80, Try.ntmps80
  refine wp_seq ?_
  refine wp_region_L (W0 := w) [] (KS.start w) ?_
  refine lm (v := .slice none 0 0) rfl rfl ?_
  refine wpL_done (fun W1 hW1 => ?_)
  refine (show Code.wp _ _ _ _ _ from ?_)
  refine wp_seq ?_
  refine wp_region_L (W0 := w) [] (hW1) ?_
  refine lm (v := .slice p l.length c) rfl rfl ?_
  refine lp (v := .int .i64 ((l.length : Nat) : Int)) rfl rfl (run_lenL (p := p) (cap := c) (n := l.length) rfl Try.underlying39 (by kernel_rfl)) ?_
  refine lp (v := .int .i64 (((l.length + 12) : Nat) : Int)) rfl rfl (run_bin rfl (vx := (.int .i64 ((l.length : Nat) : Int))) (vy := (.int .i64 ((12 : Nat) : Int))) (by kernel_rfl) (by kernel_rfl) fun w => bn_add (z := (l.length + 12)) rfl (wr_i64 (by omega)) w) ?_
  refine wpL_new (fun g => .slice (some ⟨g, 0, none⟩) 0 (l.length + 12)) (obi := .cells (madeCells (Value.cells (.int .i64 0)) ((l.length + 12) * 1)) 3 (0, 0)) rfl rfl (run_mk0L (c := (l.length + 12)) (z := (.int .i64 0)) (sz := 1) (b := 8) rfl Try.underlying39 (by kernel_rfl) (by decide) (by kernel_rfl) (by kernel_rfl) (by omega)) (fun _ => by simp only [List.setIfInBounds_toArray, List.set_cons_succ, List.set_cons_zero] <;> rfl) fun g1 Bg1 Fg1 => ?_
  refine lm (v := .slice (some ⟨g1, 0, none⟩) 0 (l.length + 12)) rfl rfl ?_
  refine wpL_done (fun W2 hW2 => ?_)
  refine (show Code.wp _ _ _ _ _ from ?_)
  refine wp_seq ?_
  refine wp_region_L (W0 := w) [(g1, .cells (madeCells (Value.cells (.int .i64 0)) ((l.length + 12) * 1)) 3 (0, 0))] (hW2) ?_
  refine lm (v := .slice (some ⟨g1, 0, none⟩) 0 (l.length + 12)) rfl rfl ?_
  refine lm (v := .slice p l.length c) rfl rfl ?_
  have Om2 := (own_madeL (cells := inC) (c := (l.length + 12)) (E := 3) (z := (.int .i64 0)) Bg1 rfl (by omega))
  refine wpL_g (AppO w 3 1 [] (0 + l.length) ((([] : List Int).flatMap inC) ++ (l.flatMap inC))) rfl rfl (app_anyL el_int (m := l.length) (news := (l.flatMap inC)) (y := .slice p l.length c) rfl (by kernel_rfl) (by kernel_rfl) (src_rl (c := c) Try.underlying39 inC_len inC_one (by decide) ((RL.base HP.out).mono (fun _ h => by cases h)) rfl) Om2 (fun p hp => by cases List.mem_singleton.1 hp; exact (.head _)) (fun _ h => by cases h) (by omega) (by omega)) (fun _ => by simp only [List.setIfInBounds_toArray, List.set_cons_succ, List.set_cons_zero] <;> rfl) ?_
  rintro v3 Kl3 ⟨_, O3, N3, rfl⟩
  refine lm (v := v3) rfl rfl ?_
  refine wpL_done (fun W3 hW3 => ?_)
  refine (show Code.wp _ _ _ _ _ from ?_)
  refine wp_seq ?_
  refine wp_seq ?_
  refine wp_region_L (W0 := w) Kl3 (hW3) ?_
  refine lm (v := .int .i64 0) rfl rfl ?_
  refine wpL_done (fun W4 hW4 => ?_)
  refine (show Code.wp _ _ _ _ _ from ?_)
  refine wp_block ?_
  go_loopw [4, 3] (fun u4 u3 wr => ∃ (i : Nat) (vo : Value) (Ko : List (Nat × Obj)), (i ≤ 12) ∧ (OwnL w 3 1 vo (l.length + i) ((l ++ mkL i).flatMap inC) Ko) ∧ u4 = .int .i64 ((i : Nat) : Int) ∧ vo = u3 ∧ KS w Ko wr) (fun u4 _ _ => 12 - (intOf u4).toNat)
  case atStart => exact ⟨0, v3, Kl3, (Nat.zero_le _), (by have h9 := O3; rw [List.flatMap_nil, List.nil_append, Nat.zero_add] at h9; rw [show l ++ mkL 0 = l from by simp [mkL]]; exact h9), rfl, rfl, (hW4.sub (fun p hp => by first | exact hp | (simp only [List.mem_cons, List.mem_append, List.nil_append, List.not_mem_nil, or_assoc, or_false, false_or] at hp ⊢ <;> grind)))⟩
  case round =>
    obtain ⟨i, vo, Ko, hi, hO, rfl, rfl, hL5⟩ := hrel
    refine wp_seq ?_
    refine wp_seq ?_
    refine wp_region_L (W0 := w) Ko (hL5) ?_
    refine lm (v := .int .i64 ((i : Nat) : Int)) rfl rfl ?_
    refine lp (v := .bool (decide (i < 12))) rfl rfl (run_bin rfl (vx := (.int .i64 ((i : Nat) : Int))) (vy := (.int .i64 ((12 : Nat) : Int))) (by kernel_rfl) (by kernel_rfl) fun w => bn_lss rfl w) ?_
    refine wpL_done (fun W6 hW6 => ?_)
    refine (show Code.wp _ _ _ _ _ from ?_)
    cases hd1 : (decide (i < 12)) with
    | false =>
      have h1 : ¬ (i < 12) := of_decide_eq_false hd1
      clear hd1
      refine wp_cond_false rfl ?_
      refine wp_exit ?_
      refine (show Code.wp _ _ _ _ _ from ?_)
      refine wp_seq ?_
      refine wp_region_L (W0 := w) Ko (hW6) ?_
      refine lm (v := vo) rfl rfl ?_
      refine lm (v := .slice p l.length c) rfl rfl ?_
      refine lp (v := .int .i64 ((l.length : Nat) : Int)) rfl rfl (run_lenL (p := p) (cap := c) (n := l.length) rfl Try.underlying39 (by kernel_rfl)) ?_
      have hi12 : i = 12 := by omega
      subst hi12
      have hO2 := own_app (cells := inC) (l' := l ++ mkL 12) hO rfl (by rw [List.length_append, mkL_len])
      obtain ⟨q9, d9, rfl, hd9, R9⟩ := own_rl hO2
      have hlen : (l ++ mkL 12).length = l.length + 12 := by rw [List.length_append, mkL_len]
      refine lp (v := .slice q9 l.length d9) rfl rfl (run_slt (kd := .i64) (j := l.length) (n := (l ++ mkL 12).length) (c := d9) (sz := 1) rfl Try.underlying39 (by kernel_rfl) (by kernel_rfl) (by kernel_rfl) (by omega)) ?_
      refine lm (v := .slice q9 l.length d9) rfl rfl ?_
      refine wpL_done (fun W7 hW7 => ?_)
      refine (show Code.wp _ _ _ _ _ from ?_)
      refine wp_ret ?_
      try simp only [inBlock_ret, then_ret]
      refine bodyPost_ret (v := .slice q9 l.length d9) ?_ rfl ?_
      · kernel_rfl
      · exact ⟨q9, d9, rfl, by omega, hO2.out (fun p hp => by simp only [List.mem_cons, List.mem_append, List.nil_append, List.not_mem_nil, or_assoc, or_false, false_or, hp, true_or, or_true]) hW7, hW7.1⟩
    | true =>
      have h1 : i < 12 := of_decide_eq_true hd1
      clear hd1
      refine wp_cond_true rfl ?_
      refine wp_skip ?_
      refine (show Code.wp _ _ _ _ _ from ?_)
      refine wp_seq ?_
      refine wp_block ?_
      refine wp_region_L (W0 := w) Ko (hW6) ?_
      refine lm (v := vo) rfl rfl ?_
      refine lm (v := .int .i64 ((i : Nat) : Int)) rfl rfl ?_
      refine lv (v := .int .i64 (mkI i)) rfl rfl (yb_call (f := 81) (args := #[.int .i64 1, .int .i64 ((i : Nat) : Int)]) (fun _ => by kernel_rfl) fun W hW => mark_any 1 ((i : Nat) : Int) (by omega) (by omega) W) ?_
      refine wpL_new (fun g => .slice (some ⟨g, 0, none⟩) 1 1) (obi := .cells #[.int .i64 (mkI i)] 3 (0, 0)) rfl rfl (fun _ => by kernel_rfl) (fun _ => by simp only [List.setIfInBounds_toArray, List.set_cons_succ, List.set_cons_zero] <;> rfl) fun g5 Bg5 Fg5 => ?_
      obtain dj6_0 : Dk g5 Ko := by simpa only [dj_app_l, dj_app_r, dj_cons_l, dj_cons_r, dj_nil_l, dj_nil_r, dk_app, dk_cons, dk_nil, and_true, true_and, and_assoc] using (show Dk g5 Ko from Fg5)
      refine wpL_g (AppO w 3 1 [] ((l.length + i) + 1) (((l ++ mkL i).flatMap inC) ++ [.int .i64 (mkI i)])) rfl rfl (app_ownL el_int (m := 1) (c := 1) (news := [.int .i64 (mkI i)]) rfl (by kernel_rfl) (by kernel_rfl) (.head _) hO (fun p hp => by simp only [List.mem_cons, List.mem_append, List.nil_append, List.not_mem_nil, or_assoc, or_false, false_or, hp, or_true, true_or]) (fun _ h => by cases h) rfl (by simp [strV, Value.oneCell']) (by omega) (by omega) (by omega)) (fun _ => by simp only [List.setIfInBounds_toArray, List.set_cons_succ, List.set_cons_zero] <;> rfl) ?_
      rintro v7 Kl7 ⟨_, O7, N7, rfl⟩
      refine lm (v := v7) rfl rfl ?_
      refine wpL_done (fun W8 hW8 => ?_)
      refine (show Code.wp _ _ _ _ _ from ?_)
      refine wp_region_L (W0 := w) Kl7 (hW8) ?_
      refine lm (v := .int .i64 ((i : Nat) : Int)) rfl rfl ?_
      refine lp (v := .int .i64 (((i + 1) : Nat) : Int)) rfl rfl (run_bin rfl (vx := (.int .i64 ((i : Nat) : Int))) (vy := (.int .i64 ((1 : Nat) : Int))) (by kernel_rfl) (by kernel_rfl) fun w => bn_add (z := (i + 1)) rfl (wr_i64 (by omega)) w) ?_
      refine lm (v := .int .i64 (((i + 1) : Nat) : Int)) rfl rfl ?_
      refine wpL_done (fun W9 hW9 => ?_)
      go_roundw
      case rel =>
        repeat apply Exists.intro
        exact ⟨⟨i + 1, v7, Kl7, (by omega), (by have h9 := own_snoc (l' := l ++ mkL (i + 1)) O7 (by rw [mkL_s, List.append_assoc]); exact h9), rfl, rfl, (hW9.sub (fun p hp => by first | exact hp | (simp only [List.mem_cons, List.mem_append, List.nil_append, List.not_mem_nil, or_assoc, or_false, false_or] at hp ⊢ <;> grind)))⟩, rfl⟩
      case measure => (show 12 - (intOf (.int .i64 (((i + 1) : Nat) : Int))).toNat < 12 - (intOf (.int .i64 ((i : Nat) : Int))).toNat); simp only [intOf]; omega
set_option maxRecDepth 100000 in
set_option maxHeartbeats 4000000 in
theorem KeptIntsL_any (l : List Int) (p q : Option Addr) (c d : Nat) (hl : l.length ≤ 17592186044403) (hc : l.length + 12 ≤ c) (w : World) (hp : SLV w p ((l ++ mkL 12).flatMap inC)) (hq : SLV w q (l.flatMap inC)) : Calls Try.prog 85 #[.slice p l.length c, .slice q l.length d] w fun e w' => e = .returned (.bool true) ∧ Below w.heap.size w w' := by
  have HP := Lib.hid hp
  clear hp
  have HQ := Lib.hid hq
  clear hq
  have hlen : (l ++ mkL 12).length = l.length + 12 := by rw [List.length_append, mkL_len]
  go_enter Try.func85, Try.ntmps85
  refine wp_seq ?_
  refine wp_region_L (W0 := w) [] (KS.start w) ?_
  refine lm (v := .bool false) rfl rfl ?_
  refine wpL_done (fun W1 hW1 => ?_)
  refine (show Code.wp _ _ _ _ _ from ?_)
  refine wp_seq ?_
  refine wp_seq ?_
  refine wp_region_L (W0 := w) [] (hW1) ?_
  refine lm (v := .slice p l.length c) rfl rfl ?_
  refine lp (v := .int .i64 ((l.length : Nat) : Int)) rfl rfl (run_lenL (p := p) (cap := c) (n := l.length) rfl Try.underlying39 (by kernel_rfl)) ?_
  refine lm (v := .slice q l.length d) rfl rfl ?_
  refine lp (v := .int .i64 ((l.length : Nat) : Int)) rfl rfl (run_lenL (p := q) (cap := d) (n := l.length) rfl Try.underlying39 (by kernel_rfl)) ?_
  refine lp (v := .bool false) rfl rfl (run_bin rfl (vx := (.int .i64 ((l.length : Nat) : Int))) (vy := (.int .i64 ((l.length : Nat) : Int))) (by kernel_rfl) (by kernel_rfl) fun w => bn_neq (decide_eq_true rfl) w) ?_
  refine wpL_done (fun W2 hW2 => ?_)
  refine (show Code.wp _ _ _ _ _ from ?_)
  refine wp_cond_false rfl ?_
  refine wp_skip ?_
  refine (show Code.wp _ _ _ _ _ from ?_)
  refine wp_seq ?_
  refine wp_region_L (W0 := w) [] (hW2) ?_
  refine lm (v := .slice p l.length c) rfl rfl ?_
  refine lm (v := .slice q l.length d) rfl rfl ?_
  refine lp (v := .int .i64 ((l.length : Nat) : Int)) rfl rfl (run_lenL (p := q) (cap := d) (n := l.length) rfl Try.underlying39 (by kernel_rfl)) ?_
  refine lp (v := .int .i64 (((l.length + 12) : Nat) : Int)) rfl rfl (run_bin rfl (vx := (.int .i64 ((l.length : Nat) : Int))) (vy := (.int .i64 ((12 : Nat) : Int))) (by kernel_rfl) (by kernel_rfl) fun w => bn_add (z := (l.length + 12)) rfl (wr_i64 (by omega)) w) ?_
  refine lp (v := .slice p (l.length + 12) c) rfl rfl (run_slt (kd := .i64) (j := (l.length + 12)) (n := l.length) (c := c) (sz := 1) rfl Try.underlying39 (by kernel_rfl) (by kernel_rfl) (by kernel_rfl) (by omega)) ?_
  refine lm (v := .slice p (l.length + 12) c) rfl rfl ?_
  refine wpL_done (fun W3 hW3 => ?_)
  refine (show Code.wp _ _ _ _ _ from ?_)
  refine wp_seq ?_
  refine wp_seq ?_
  refine wp_region_L (W0 := w) [] (hW3) ?_
  refine lm (v := .int .i64 0) rfl rfl ?_
  refine wpL_done (fun W4 hW4 => ?_)
  refine (show Code.wp _ _ _ _ _ from ?_)
  refine wp_block ?_
  go_loopw [6] (fun u6 wr => ∃ (i : Nat), (i ≤ l.length + 12) ∧ u6 = .int .i64 ((i : Nat) : Int) ∧ KS w [] wr) (fun u6 _ => l.length + 12 - (intOf u6).toNat)
  case atStart => exact ⟨0, (Nat.zero_le _), rfl, (hW4.sub (fun p hp => by first | exact hp | (simp only [List.mem_cons, List.mem_append, List.nil_append, List.not_mem_nil, or_assoc, or_false, false_or] at hp ⊢ <;> grind)))⟩
  case round =>
    obtain ⟨i, hi, rfl, hL5⟩ := hrel
    refine wp_seq ?_
    refine wp_seq ?_
    refine wp_region_L (W0 := w) [] (hL5) ?_
    refine lm (v := .int .i64 ((i : Nat) : Int)) rfl rfl ?_
    refine lm (v := .slice p (l.length + 12) c) rfl rfl ?_
    refine lp (v := .int .i64 (((l.length + 12) : Nat) : Int)) rfl rfl (run_lenL (p := p) (cap := c) (n := (l.length + 12)) rfl Try.underlying39 (by kernel_rfl)) ?_
    refine lp (v := .bool (decide (i < (l.length + 12)))) rfl rfl (run_bin rfl (vx := (.int .i64 ((i : Nat) : Int))) (vy := (.int .i64 (((l.length + 12) : Nat) : Int))) (by kernel_rfl) (by kernel_rfl) fun w => bn_lss rfl w) ?_
    refine wpL_done (fun W6 hW6 => ?_)
    refine (show Code.wp _ _ _ _ _ from ?_)
    cases hd1 : (decide (i < (l.length + 12))) with
    | false =>
      have h1 : ¬ (i < (l.length + 12)) := of_decide_eq_false hd1
      clear hd1
      refine wp_cond_false rfl ?_
      refine wp_exit ?_
      refine (show Code.wp _ _ _ _ _ from ?_)
      refine wp_seq ?_
      refine wp_region_L (W0 := w) [] (hW6) ?_
      refine lm (v := .bool true) rfl rfl ?_
      refine wpL_done (fun W7 hW7 => ?_)
      refine (show Code.wp _ _ _ _ _ from ?_)
      refine wp_ret ?_
      try simp only [inBlock_ret, then_ret]
      refine bodyPost_ret (v := .bool true) ?_ rfl ?_
      · kernel_rfl
      · exact ⟨rfl, hW7.1⟩
    | true =>
      have h1 : i < (l.length + 12) := of_decide_eq_true hd1
      clear hd1
      refine wp_cond_true rfl ?_
      refine wp_skip ?_
      refine (show Code.wp _ _ _ _ _ from ?_)
      refine wp_seq ?_
      refine wp_block ?_
      refine wp_seq ?_
      refine wp_region_V (W0 := w) [] (by kernel_rfl) (hW6) ?_
      refine vm (i := 0) (v := .int .i64 ((i : Nat) : Int)) rfl rfl rfl ?_
      refine vm (i := 1) (v := .slice q l.length d) rfl rfl rfl ?_
      refine vp (i := 2) (v := .int .i64 ((l.length : Nat) : Int)) rfl rfl rfl (run_lenL (p := q) (cap := d) (n := l.length) rfl Try.underlying39 (by kernel_rfl)) ?_
      refine vp (i := 3) (v := .bool (decide (i < l.length))) rfl rfl rfl (run_bin rfl (vx := (.int .i64 ((i : Nat) : Int))) (vy := (.int .i64 ((l.length : Nat) : Int))) (by kernel_rfl) (by kernel_rfl) fun w => bn_lss rfl w) ?_
      refine vm (i := 4) (v := .bool (decide (i < l.length))) rfl rfl rfl ?_
      cases hd2 : (decide (i < l.length)) with
      | false =>
        have h2 : ¬ (i < l.length) := of_decide_eq_false hd2
        clear hd2
        refine vn (i := 5) rfl rfl ?_
        refine vn (i := 6) rfl rfl ?_
        refine vn (i := 7) rfl rfl ?_
        refine vn (i := 8) rfl rfl ?_
        refine vn (i := 9) rfl rfl ?_
        refine vn (i := 10) rfl rfl ?_
        refine vn (i := 11) rfl rfl ?_
        refine vn (i := 12) rfl rfl ?_
        refine vn (i := 13) rfl rfl ?_
        refine vn (i := 14) rfl rfl ?_
        refine vm (i := 15) (v := .bool false) rfl rfl rfl ?_
        refine vm (i := 16) (v := .bool false) rfl rfl rfl ?_
        refine vm (i := 17) (v := .int .i64 ((i : Nat) : Int)) rfl rfl rfl ?_
        refine vm (i := 18) (v := .slice q l.length d) rfl rfl rfl ?_
        refine vp (i := 19) (v := .int .i64 ((l.length : Nat) : Int)) rfl rfl rfl (run_lenL (p := q) (cap := d) (n := l.length) rfl Try.underlying39 (by kernel_rfl)) ?_
        refine vp (i := 20) (v := .bool true) rfl rfl rfl (run_bin rfl (vx := (.int .i64 ((i : Nat) : Int))) (vy := (.int .i64 ((l.length : Nat) : Int))) (by kernel_rfl) (by kernel_rfl) fun w => bn_geq (decide_eq_false (by assumption)) w) ?_
        refine vm (i := 21) (v := .bool true) rfl rfl rfl ?_
        refine vm (i := 22) (v := .slice p (l.length + 12) c) rfl rfl rfl ?_
        refine vm (i := 23) (v := .int .i64 ((i : Nat) : Int)) rfl rfl rfl ?_
        obtain ⟨y1, g1_, f1_, hy1, hp1, hc1⟩ := RL.at (RL.base HP.out) inC_len (by decide) (hW6.sub (fun _ h => by cases h)) (k := i) (by omega)
        refine vp (i := 24) (v := .pointer (some ⟨g1_, f1_ + i * 1, none⟩)) rfl rfl rfl (run_idxQ (p := p) (cap := c) (n := (l.length + 12)) (j := .i64) (k := i) (sz := 1) rfl Try.underlying39 (by kernel_rfl) (by kernel_rfl) hp1 (by kernel_rfl) (by omega)) ?_
        refine vb (i := 25) (v := .int .i64 y1) rfl rfl rfl (yb_rf (v := .int .i64 y1) rfl (by kernel_rfl) (fun W hW => hc1 W (hW.sub (fun _ h => by cases h)) 0 _ rfl) Try.underlying3 rfl) ?_
        refine vm (i := 26) (v := .int .i64 ((i : Nat) : Int)) rfl rfl rfl ?_
        refine vm (i := 27) (v := .slice q l.length d) rfl rfl rfl ?_
        refine vp (i := 28) (v := .int .i64 ((l.length : Nat) : Int)) rfl rfl rfl (run_lenL (p := q) (cap := d) (n := l.length) rfl Try.underlying39 (by kernel_rfl)) ?_
        refine vp (i := 29) (v := .int .i64 (((i - l.length) : Nat) : Int)) rfl rfl rfl (run_bin rfl (vx := (.int .i64 ((i : Nat) : Int))) (vy := (.int .i64 ((l.length : Nat) : Int))) (by kernel_rfl) (by kernel_rfl) fun w => bn_sub (z := (i - l.length)) rfl (by omega) (wr_i64 (by omega)) w) ?_
        refine vv (i := 30) (v := .int .i64 (mkI (i - l.length))) rfl rfl rfl (yb_call (f := 81) (args := #[.int .i64 1, .int .i64 (((i - l.length) : Nat) : Int)]) (fun _ => by kernel_rfl) fun W hW => mark_any 1 (((i - l.length) : Nat) : Int) (by omega) (by omega) W) ?_
        refine vp (i := 31) (v := .bool (decide (y1 = (mkI (i - l.length))))) rfl rfl rfl (run_bin rfl (vx := (.int .i64 y1)) (vy := (.int .i64 (mkI (i - l.length)))) (by kernel_rfl) (by kernel_rfl) fun w => bi_eql rfl w) ?_
        refine vp (i := 32) (v := .bool (!(decide (y1 = (mkI (i - l.length)))))) rfl rfl rfl (run_un rfl (by kernel_rfl) fun w => un_not w) ?_
        refine vm (i := 33) (v := .bool (!(decide (y1 = (mkI (i - l.length)))))) rfl rfl rfl ?_
        refine vm (i := 34) (v := .bool (!(decide (y1 = (mkI (i - l.length)))))) rfl rfl rfl ?_
        refine wpV_done (by kernel_rfl) (fun W8 hW8 => ?_) _
        refine (show Code.wp _ _ _ _ _ from ?_)
        cases hd3 : (decide (y1 = (mkI (i - l.length)))) with
        | false =>
          have h3 : ¬ (y1 = (mkI (i - l.length))) := of_decide_eq_false hd3
          clear hd3
          exact absurd (by rw [List.getElem?_append_right (by omega), mkL_at (by omega)] at hy1; exact (Option.some.inj hy1).symm) h3
        | true =>
          have h3 : y1 = (mkI (i - l.length)) := of_decide_eq_true hd3
          clear hd3
          refine wp_cond_false rfl ?_
          refine wp_skip ?_
          refine (show Code.wp _ _ _ _ _ from ?_)
          refine wp_region_L (W0 := w) [] (hW8) ?_
          refine lm (v := .int .i64 ((i : Nat) : Int)) rfl rfl ?_
          refine lp (v := .int .i64 (((i + 1) : Nat) : Int)) rfl rfl (run_bin rfl (vx := (.int .i64 ((i : Nat) : Int))) (vy := (.int .i64 ((1 : Nat) : Int))) (by kernel_rfl) (by kernel_rfl) fun w => bn_add (z := (i + 1)) rfl (wr_i64 (by omega)) w) ?_
          refine lm (v := .int .i64 (((i + 1) : Nat) : Int)) rfl rfl ?_
          refine wpL_done (fun W9 hW9 => ?_)
          go_roundw
          case rel =>
            repeat apply Exists.intro
            exact ⟨⟨i + 1, (by omega), rfl, (hW9.sub (fun p hp => by first | exact hp | (simp only [List.mem_cons, List.mem_append, List.nil_append, List.not_mem_nil, or_assoc, or_false, false_or] at hp ⊢ <;> grind)))⟩, rfl⟩
          case measure => (show l.length + 12 - (intOf (.int .i64 (((i + 1) : Nat) : Int))).toNat < l.length + 12 - (intOf (.int .i64 ((i : Nat) : Int))).toNat); simp only [intOf]; omega
      | true =>
        have h2 : i < l.length := of_decide_eq_true hd2
        clear hd2
        refine vm (i := 5) (v := .slice p (l.length + 12) c) rfl rfl rfl ?_
        refine vm (i := 6) (v := .int .i64 ((i : Nat) : Int)) rfl rfl rfl ?_
        obtain ⟨y2, g2_, f2_, hy2, hp2, hc2⟩ := RL.at (RL.base HP.out) inC_len (by decide) (hW6.sub (fun _ h => by cases h)) (k := i) (by omega)
        refine vp (i := 7) (v := .pointer (some ⟨g2_, f2_ + i * 1, none⟩)) rfl rfl rfl (run_idxQ (p := p) (cap := c) (n := (l.length + 12)) (j := .i64) (k := i) (sz := 1) rfl Try.underlying39 (by kernel_rfl) (by kernel_rfl) hp2 (by kernel_rfl) (by omega)) ?_
        refine vb (i := 8) (v := .int .i64 y2) rfl rfl rfl (yb_rf (v := .int .i64 y2) rfl (by kernel_rfl) (fun W hW => hc2 W (hW.sub (fun _ h => by cases h)) 0 _ rfl) Try.underlying3 rfl) ?_
        refine vm (i := 9) (v := .slice q l.length d) rfl rfl rfl ?_
        refine vm (i := 10) (v := .int .i64 ((i : Nat) : Int)) rfl rfl rfl ?_
        obtain ⟨y3, g3_, f3_, hy3, hp3, hc3⟩ := RL.at (RL.base HQ.out) inC_len (by decide) (hW6.sub (fun _ h => by cases h)) (k := i) (by omega)
        refine vp (i := 11) (v := .pointer (some ⟨g3_, f3_ + i * 1, none⟩)) rfl rfl rfl (run_idxQ (p := q) (cap := d) (n := l.length) (j := .i64) (k := i) (sz := 1) rfl Try.underlying39 (by kernel_rfl) (by kernel_rfl) hp3 (by kernel_rfl) (by omega)) ?_
        refine vb (i := 12) (v := .int .i64 y3) rfl rfl rfl (yb_rf (v := .int .i64 y3) rfl (by kernel_rfl) (fun W hW => hc3 W (hW.sub (fun _ h => by cases h)) 0 _ rfl) Try.underlying3 rfl) ?_
        refine vp (i := 13) (v := .bool (decide (y2 = y3))) rfl rfl rfl (run_bin rfl (vx := (.int .i64 y2)) (vy := (.int .i64 y3)) (by kernel_rfl) (by kernel_rfl) fun w => bi_eql rfl w) ?_
        refine vp (i := 14) (v := .bool (!(decide (y2 = y3)))) rfl rfl rfl (run_un rfl (by kernel_rfl) fun w => un_not w) ?_
        refine vm (i := 15) (v := .bool (!(decide (y2 = y3)))) rfl rfl rfl ?_
        refine vm (i := 16) (v := .bool (!(decide (y2 = y3)))) rfl rfl rfl ?_
        cases hd4 : (decide (y2 = y3)) with
        | false =>
          have h4 : ¬ (y2 = y3) := of_decide_eq_false hd4
          clear hd4
          exact absurd (by rw [List.getElem?_append_left (by omega)] at hy2; rw [hy2] at hy3; exact Option.some.inj hy3) h4
        | true =>
          have h4 : y2 = y3 := of_decide_eq_true hd4
          clear hd4
          refine vm (i := 17) (v := .int .i64 ((i : Nat) : Int)) rfl rfl rfl ?_
          refine vm (i := 18) (v := .slice q l.length d) rfl rfl rfl ?_
          refine vp (i := 19) (v := .int .i64 ((l.length : Nat) : Int)) rfl rfl rfl (run_lenL (p := q) (cap := d) (n := l.length) rfl Try.underlying39 (by kernel_rfl)) ?_
          refine vp (i := 20) (v := .bool false) rfl rfl rfl (run_bin rfl (vx := (.int .i64 ((i : Nat) : Int))) (vy := (.int .i64 ((l.length : Nat) : Int))) (by kernel_rfl) (by kernel_rfl) fun w => bn_geq (decide_eq_true (by assumption)) w) ?_
          refine vm (i := 21) (v := .bool false) rfl rfl rfl ?_
          refine vn (i := 22) rfl rfl ?_
          refine vn (i := 23) rfl rfl ?_
          refine vn (i := 24) rfl rfl ?_
          refine vn (i := 25) rfl rfl ?_
          refine vn (i := 26) rfl rfl ?_
          refine vn (i := 27) rfl rfl ?_
          refine vn (i := 28) rfl rfl ?_
          refine vn (i := 29) rfl rfl ?_
          refine vn (i := 30) rfl rfl ?_
          refine vn (i := 31) rfl rfl ?_
          refine vn (i := 32) rfl rfl ?_
          refine vm (i := 33) (v := .bool false) rfl rfl rfl ?_
          refine vm (i := 34) (v := .bool false) rfl rfl rfl ?_
          refine wpV_done (by kernel_rfl) (fun W10 hW10 => ?_) _
          refine (show Code.wp _ _ _ _ _ from ?_)
          refine wp_cond_false rfl ?_
          refine wp_skip ?_
          refine (show Code.wp _ _ _ _ _ from ?_)
          refine wp_region_L (W0 := w) [] (hW10) ?_
          refine lm (v := .int .i64 ((i : Nat) : Int)) rfl rfl ?_
          refine lp (v := .int .i64 (((i + 1) : Nat) : Int)) rfl rfl (run_bin rfl (vx := (.int .i64 ((i : Nat) : Int))) (vy := (.int .i64 ((1 : Nat) : Int))) (by kernel_rfl) (by kernel_rfl) fun w => bn_add (z := (i + 1)) rfl (wr_i64 (by omega)) w) ?_
          refine lm (v := .int .i64 (((i + 1) : Nat) : Int)) rfl rfl ?_
          refine wpL_done (fun W11 hW11 => ?_)
          go_roundw
          case rel =>
            repeat apply Exists.intro
            exact ⟨⟨i + 1, (by omega), rfl, (hW11.sub (fun p hp => by first | exact hp | (simp only [List.mem_cons, List.mem_append, List.nil_append, List.not_mem_nil, or_assoc, or_false, false_or] at hp ⊢ <;> grind)))⟩, rfl⟩
          case measure => (show l.length + 12 - (intOf (.int .i64 (((i + 1) : Nat) : Int))).toNat < l.length + 12 - (intOf (.int .i64 ((i : Nat) : Int))).toNat); simp only [intOf]; omega
set_option maxRecDepth 100000 in
set_option maxHeartbeats 4000000 in
theorem SameIntsL_any (l m : List Int) (p q : Option Addr) (c d : Nat) (hl : l.length ≤ 17592186044403) (w : World) (hp : SLV w p (l.flatMap inC)) (hq : SLV w q (m.flatMap inC)) : Calls Try.prog 16 #[.slice p l.length c, .slice q m.length d] w fun e w' => e = .returned (.bool (decide (l = m))) ∧ Below w.heap.size w w' := by
  have HP := Lib.hid hp
  clear hp
  have HQ := Lib.hid hq
  clear hq
  go_enter Try.func16, Try.ntmps16
  refine wp_seq ?_
  refine wp_region_L (W0 := w) [] (KS.start w) ?_
  refine lm (v := .bool false) rfl rfl ?_
  refine wpL_done (fun W1 hW1 => ?_)
  refine (show Code.wp _ _ _ _ _ from ?_)
  refine wp_seq ?_
  refine wp_seq ?_
  refine wp_region_L (W0 := w) [] (hW1) ?_
  refine lm (v := .slice p l.length c) rfl rfl ?_
  refine lp (v := .int .i64 ((l.length : Nat) : Int)) rfl rfl (run_lenL (p := p) (cap := c) (n := l.length) rfl Try.underlying39 (by kernel_rfl)) ?_
  refine lm (v := .slice q m.length d) rfl rfl ?_
  refine lp (v := .int .i64 ((m.length : Nat) : Int)) rfl rfl (run_lenL (p := q) (cap := d) (n := m.length) rfl Try.underlying39 (by kernel_rfl)) ?_
  refine lp (v := .bool (!(decide (l.length = m.length)))) rfl rfl (run_bin rfl (vx := (.int .i64 ((l.length : Nat) : Int))) (vy := (.int .i64 ((m.length : Nat) : Int))) (by kernel_rfl) (by kernel_rfl) fun w => bn_neq rfl w) ?_
  refine wpL_done (fun W2 hW2 => ?_)
  refine (show Code.wp _ _ _ _ _ from ?_)
  cases hd1 : (decide (l.length = m.length)) with
  | false =>
    have h1 : ¬ (l.length = m.length) := of_decide_eq_false hd1
    clear hd1
    refine wp_cond_true rfl ?_
    refine wp_seq ?_
    refine wp_region_L (W0 := w) [] (hW2) ?_
    refine lm (v := .bool false) rfl rfl ?_
    refine wpL_done (fun W3 hW3 => ?_)
    refine (show Code.wp _ _ _ _ _ from ?_)
    refine wp_ret ?_
    try simp only [inBlock_ret, then_ret]
    refine bodyPost_ret (v := .bool false) ?_ rfl ?_
    · kernel_rfl
    · exact ⟨(bool_is (by rw [eq_comm, decide_eq_false_iff_not]; exact ne_len h1)), hW3.1⟩
  | true =>
    have h1 : l.length = m.length := of_decide_eq_true hd1
    clear hd1
    refine wp_cond_false rfl ?_
    refine wp_skip ?_
    refine (show Code.wp _ _ _ _ _ from ?_)
    refine wp_seq ?_
    refine wp_seq ?_
    refine wp_region_L (W0 := w) [] (hW2) ?_
    refine lm (v := .int .i64 0) rfl rfl ?_
    refine wpL_done (fun W4 hW4 => ?_)
    refine (show Code.wp _ _ _ _ _ from ?_)
    refine wp_block ?_
    go_loopw [5] (fun u5 wr => ∃ (k : Nat), (k ≤ l.length) ∧ (l.take k = m.take k) ∧ u5 = .int .i64 ((k : Nat) : Int) ∧ KS w [] wr) (fun u5 _ => l.length - (intOf u5).toNat)
    case atStart => exact ⟨0, (Nat.zero_le _), rfl, rfl, (hW4.sub (fun p hp => by first | exact hp | (simp only [List.mem_cons, List.mem_append, List.nil_append, List.not_mem_nil, or_assoc, or_false, false_or] at hp ⊢ <;> grind)))⟩
    case round =>
      obtain ⟨k, hk, hT, rfl, hL5⟩ := hrel
      refine wp_seq ?_
      refine wp_seq ?_
      refine wp_region_L (W0 := w) [] (hL5) ?_
      refine lm (v := .int .i64 ((k : Nat) : Int)) rfl rfl ?_
      refine lm (v := .slice p l.length c) rfl rfl ?_
      refine lp (v := .int .i64 ((l.length : Nat) : Int)) rfl rfl (run_lenL (p := p) (cap := c) (n := l.length) rfl Try.underlying39 (by kernel_rfl)) ?_
      refine lp (v := .bool (decide (k < l.length))) rfl rfl (run_bin rfl (vx := (.int .i64 ((k : Nat) : Int))) (vy := (.int .i64 ((l.length : Nat) : Int))) (by kernel_rfl) (by kernel_rfl) fun w => bn_lss rfl w) ?_
      refine wpL_done (fun W6 hW6 => ?_)
      refine (show Code.wp _ _ _ _ _ from ?_)
      cases hd2 : (decide (k < l.length)) with
      | false =>
        have h2 : ¬ (k < l.length) := of_decide_eq_false hd2
        clear hd2
        refine wp_cond_false rfl ?_
        refine wp_exit ?_
        refine (show Code.wp _ _ _ _ _ from ?_)
        refine wp_seq ?_
        refine wp_region_L (W0 := w) [] (hW6) ?_
        refine lm (v := .bool true) rfl rfl ?_
        refine wpL_done (fun W7 hW7 => ?_)
        refine (show Code.wp _ _ _ _ _ from ?_)
        refine wp_ret ?_
        try simp only [inBlock_ret, then_ret]
        refine bodyPost_ret (v := .bool true) ?_ rfl ?_
        · kernel_rfl
        · exact ⟨(bool_is (by rw [eq_comm, decide_eq_true_iff]; exact eq_of_take hT h2 h1)), hW7.1⟩
      | true =>
        have h2 : k < l.length := of_decide_eq_true hd2
        clear hd2
        refine wp_cond_true rfl ?_
        refine wp_skip ?_
        refine (show Code.wp _ _ _ _ _ from ?_)
        refine wp_seq ?_
        refine wp_block ?_
        refine wp_seq ?_
        refine wp_region_V (W0 := w) [] (by kernel_rfl) (hW6) ?_
        refine vm (i := 0) (v := .slice p l.length c) rfl rfl rfl ?_
        refine vm (i := 1) (v := .int .i64 ((k : Nat) : Int)) rfl rfl rfl ?_
        obtain ⟨y1, g1_, f1_, hy1, hp1, hc1⟩ := RL.at (RL.base HP.out) inC_len (by decide) (hW6.sub (fun _ h => by cases h)) (k := k) (by omega)
        refine vp (i := 2) (v := .pointer (some ⟨g1_, f1_ + k * 1, none⟩)) rfl rfl rfl (run_idxQ (p := p) (cap := c) (n := l.length) (j := .i64) (k := k) (sz := 1) rfl Try.underlying39 (by kernel_rfl) (by kernel_rfl) hp1 (by kernel_rfl) (by omega)) ?_
        refine vb (i := 3) (v := .int .i64 y1) rfl rfl rfl (yb_rf (v := .int .i64 y1) rfl (by kernel_rfl) (fun W hW => hc1 W (hW.sub (fun _ h => by cases h)) 0 _ rfl) Try.underlying3 rfl) ?_
        refine vm (i := 4) (v := .slice q m.length d) rfl rfl rfl ?_
        refine vm (i := 5) (v := .int .i64 ((k : Nat) : Int)) rfl rfl rfl ?_
        obtain ⟨y2, g2_, f2_, hy2, hp2, hc2⟩ := RL.at (RL.base HQ.out) inC_len (by decide) (hW6.sub (fun _ h => by cases h)) (k := k) (by omega)
        refine vp (i := 6) (v := .pointer (some ⟨g2_, f2_ + k * 1, none⟩)) rfl rfl rfl (run_idxQ (p := q) (cap := d) (n := m.length) (j := .i64) (k := k) (sz := 1) rfl Try.underlying39 (by kernel_rfl) (by kernel_rfl) hp2 (by kernel_rfl) (by omega)) ?_
        refine vb (i := 7) (v := .int .i64 y2) rfl rfl rfl (yb_rf (v := .int .i64 y2) rfl (by kernel_rfl) (fun W hW => hc2 W (hW.sub (fun _ h => by cases h)) 0 _ rfl) Try.underlying3 rfl) ?_
        refine vp (i := 8) (v := .bool (!(decide (y1 = y2)))) rfl rfl rfl (run_bin rfl (vx := (.int .i64 y1)) (vy := (.int .i64 y2)) (by kernel_rfl) (by kernel_rfl) fun w => bi_neq rfl w) ?_
        refine wpV_done (by kernel_rfl) (fun W8 hW8 => ?_) _
        refine (show Code.wp _ _ _ _ _ from ?_)
        cases hd3 : (decide (y1 = y2)) with
        | false =>
          have h3 : ¬ (y1 = y2) := of_decide_eq_false hd3
          clear hd3
          refine wp_cond_true rfl ?_
          refine wp_seq ?_
          refine wp_region_L (W0 := w) [] (hW8) ?_
          refine lm (v := .bool false) rfl rfl ?_
          refine wpL_done (fun W9 hW9 => ?_)
          refine (show Code.wp _ _ _ _ _ from ?_)
          refine wp_ret ?_
          try simp only [inBlock_ret, then_ret]
          refine bodyPost_ret (v := .bool false) ?_ rfl ?_
          · kernel_rfl
          · exact ⟨(bool_is (by rw [eq_comm, decide_eq_false_iff_not]; exact ne_at hy1 hy2 h3)), hW9.1⟩
        | true =>
          have h3 : y1 = y2 := of_decide_eq_true hd3
          clear hd3
          refine wp_cond_false rfl ?_
          refine wp_skip ?_
          refine (show Code.wp _ _ _ _ _ from ?_)
          refine wp_region_L (W0 := w) [] (hW8) ?_
          refine lm (v := .int .i64 ((k : Nat) : Int)) rfl rfl ?_
          refine lp (v := .int .i64 (((k + 1) : Nat) : Int)) rfl rfl (run_bin rfl (vx := (.int .i64 ((k : Nat) : Int))) (vy := (.int .i64 ((1 : Nat) : Int))) (by kernel_rfl) (by kernel_rfl) fun w => bn_add (z := (k + 1)) rfl (wr_i64 (by omega)) w) ?_
          refine lm (v := .int .i64 (((k + 1) : Nat) : Int)) rfl rfl ?_
          refine wpL_done (fun W10 hW10 => ?_)
          go_roundw
          case rel =>
            repeat apply Exists.intro
            exact ⟨⟨k + 1, (by omega), (take_snoc_eq hT hy1 hy2 h3), rfl, (hW10.sub (fun p hp => by first | exact hp | (simp only [List.mem_cons, List.mem_append, List.nil_append, List.not_mem_nil, or_assoc, or_false, false_or] at hp ⊢ <;> grind)))⟩, rfl⟩
          case measure => (show l.length - (intOf (.int .i64 (((k + 1) : Nat) : Int))).toNat < l.length - (intOf (.int .i64 ((k : Nat) : Int))).toNat); simp only [intOf]; omega
end Go.Proofs.Ythpooalhibedpaa
/- What came in: records that hold lists of records. Over any program. -/
namespace Tw
open Go Go.RowKit Go.Proofs.Ythpooalhibedpaa Go.ChangeShapes Go.WideShapes
section
variable {P : Program} {α : Type}
def OpensW (P : Program) (t : TypeId) (cells : α → List Value) (ok : World → α → Prop) : Prop := ∀ (H : Type) (enc : TypeId × Value → H) (w : World) (base : Nat) (sp : Nat → Bool) (held : Bool) (fuel : Nat) (cs : List Value) (x : DataW H × List MemPlace),
  DataW.trod enc P w base sp held fuel t cs = some x → ∃ y : α, cs = cells y ∧ ok w y
def ListOk (cells : α → List Value) (ok : World → α → Prop) (w : World) (p : Option Addr) (c : Nat) (l : List α) : Prop := SLV w p (l.flatMap cells) ∧ (∀ y ∈ l, ok w y) ∧ l.length ≤ maxLen ∧ l.length ≤ c
end
end Tw
/- What came in: columns, covers, rows, frames, tanks. -/
namespace Go.Proofs.Ythpooalhibedpaa
open Go Go.RowKit Tw Go.ChangeShapes Go.WideShapes
theorem opens_in : OpensW Try.prog 3 inC (fun _ n => -9223372036854775808 ≤ n ∧ n ≤ 9223372036854775807) := by
  intro H enc w base sp held fuel cs x h
  obtain ⟨n, rfl, h1, h2⟩ := fld_int Try.underlying3 h
  exact ⟨n, rfl, h1, h2⟩
abbrev intOk (_ : World) (n : Int) : Prop := -9223372036854775808 ≤ n ∧ n ≤ 9223372036854775807
structure Tk where
  kilos : Int
  x : Int
  y : Int
  z : Int
  surface : Int
  steps : List Int
  sp : Option Addr
  sc : Nat
structure N5 where
  a : Int
  b : Int
  c : Int
  d : Int
  e : Int
def tkC (t : Tk) : List Value := [.int .i64 t.kilos, .int .i64 t.x, .int .i64 t.y, .int .i64 t.z, .int .i64 t.surface, .slice t.sp t.steps.length t.sc]
def n5C (r : N5) : List Value := [.int .i64 r.a, .int .i64 r.b, .int .i64 r.c, .int .i64 r.d, .int .i64 r.e]
theorem tkC_len (t : Tk) : (tkC t).length = 6 := rfl
theorem n5C_len (r : N5) : (n5C r).length = 5 := rfl
def n5Ok (w : World) (r : N5) : Prop := intOk w r.a ∧ intOk w r.b ∧ intOk w r.c ∧ intOk w r.d ∧ intOk w r.e
set_option maxHeartbeats 1000000 in
theorem opens_row : OpensW Try.prog 82 n5C n5Ok := by
  intro H enc w base sp held fuel cs x h
  obtain ⟨hl, hf⟩ := trod_fld Try.underlying82 h
  have ci : Try.prog.cellsOf 3 = 1 := by kernel_rfl
  have cn : Try.prog.cellsOf 82 = 5 := by kernel_rfl
  rw [cn] at hl
  obtain ⟨v0, v1, v2, v3, v4, rfl⟩ : ∃ v0 v1 v2 v3 v4, cs = [v0, v1, v2, v3, v4] := by
    rcases cs with _ | ⟨v0, _ | ⟨v1, _ | ⟨v2, _ | ⟨v3, _ | ⟨v4, _ | ⟨vx, cs⟩⟩⟩⟩⟩⟩ <;> simp at hl
    exact ⟨v0, v1, v2, v3, v4, rfl⟩
  have key : ∀ (i : Nat) (f : Field) (v : Value), (#[v0, v1, v2, v3, v4] : Array Value)[i]? = some v → f.type = 3 → f.offset = i → (∃ n y, DataW.trod enc Try.prog w base sp held n f.type ((([v0, v1, v2, v3, v4] : List Value).drop f.offset).take (Try.prog.cellsOf f.type)) = some y) → ∃ n : Int, v = .int .i64 n ∧ -9223372036854775808 ≤ n ∧ n ≤ 9223372036854775807 := by
    intro i f v hv ht ho ⟨n, y, hy⟩
    rw [ht, ci, ho] at hy
    obtain ⟨z, hz, hz1, hz2⟩ := fld_int (P := Try.prog) Try.underlying3 hy
    have hv2 : ([v0, v1, v2, v3, v4] : List Value)[i]? = some v := by simpa using hv
    obtain ⟨hi, hvi⟩ := List.getElem?_eq_some_iff.1 hv2
    rw [List.drop_eq_getElem_cons hi, hvi] at hz
    have hz0 : v = .int .i64 z := by simpa using hz
    have m1 : IntKind.i64.min = -9223372036854775808 := by decide
    have m2 : IntKind.i64.max = 9223372036854775807 := by decide
    rw [m1] at hz1; rw [m2] at hz2
    exact ⟨z, hz0, hz1, hz2⟩
  obtain ⟨n0, e0, a0, b0⟩ := key 0 _ v0 rfl rfl rfl (hf 0 _ rfl)
  subst e0
  obtain ⟨n1, e1, a1, b1⟩ := key 1 _ v1 rfl rfl rfl (hf 1 _ rfl)
  subst e1
  obtain ⟨n2, e2, a2, b2⟩ := key 2 _ v2 rfl rfl rfl (hf 2 _ rfl)
  subst e2
  obtain ⟨n3, e3, a3, b3⟩ := key 3 _ v3 rfl rfl rfl (hf 3 _ rfl)
  subst e3
  obtain ⟨n4, e4, a4, b4⟩ := key 4 _ v4 rfl rfl rfl (hf 4 _ rfl)
  subst e4
  exact ⟨⟨n0, n1, n2, n3, n4⟩, rfl, ⟨a0, b0⟩, ⟨a1, b1⟩, ⟨a2, b2⟩, ⟨a3, b3⟩, ⟨a4, b4⟩⟩
set_option maxHeartbeats 1000000 in
theorem opens_frame : OpensW Try.prog 85 n5C n5Ok := by
  intro H enc w base sp held fuel cs x h
  obtain ⟨hl, hf⟩ := trod_fld Try.underlying85 h
  have ci : Try.prog.cellsOf 3 = 1 := by kernel_rfl
  have cn : Try.prog.cellsOf 85 = 5 := by kernel_rfl
  rw [cn] at hl
  obtain ⟨v0, v1, v2, v3, v4, rfl⟩ : ∃ v0 v1 v2 v3 v4, cs = [v0, v1, v2, v3, v4] := by
    rcases cs with _ | ⟨v0, _ | ⟨v1, _ | ⟨v2, _ | ⟨v3, _ | ⟨v4, _ | ⟨vx, cs⟩⟩⟩⟩⟩⟩ <;> simp at hl
    exact ⟨v0, v1, v2, v3, v4, rfl⟩
  have key : ∀ (i : Nat) (f : Field) (v : Value), (#[v0, v1, v2, v3, v4] : Array Value)[i]? = some v → f.type = 3 → f.offset = i → (∃ n y, DataW.trod enc Try.prog w base sp held n f.type ((([v0, v1, v2, v3, v4] : List Value).drop f.offset).take (Try.prog.cellsOf f.type)) = some y) → ∃ n : Int, v = .int .i64 n ∧ -9223372036854775808 ≤ n ∧ n ≤ 9223372036854775807 := by
    intro i f v hv ht ho ⟨n, y, hy⟩
    rw [ht, ci, ho] at hy
    obtain ⟨z, hz, hz1, hz2⟩ := fld_int (P := Try.prog) Try.underlying3 hy
    have hv2 : ([v0, v1, v2, v3, v4] : List Value)[i]? = some v := by simpa using hv
    obtain ⟨hi, hvi⟩ := List.getElem?_eq_some_iff.1 hv2
    rw [List.drop_eq_getElem_cons hi, hvi] at hz
    have hz0 : v = .int .i64 z := by simpa using hz
    have m1 : IntKind.i64.min = -9223372036854775808 := by decide
    have m2 : IntKind.i64.max = 9223372036854775807 := by decide
    rw [m1] at hz1; rw [m2] at hz2
    exact ⟨z, hz0, hz1, hz2⟩
  obtain ⟨n0, e0, a0, b0⟩ := key 0 _ v0 rfl rfl rfl (hf 0 _ rfl)
  subst e0
  obtain ⟨n1, e1, a1, b1⟩ := key 1 _ v1 rfl rfl rfl (hf 1 _ rfl)
  subst e1
  obtain ⟨n2, e2, a2, b2⟩ := key 2 _ v2 rfl rfl rfl (hf 2 _ rfl)
  subst e2
  obtain ⟨n3, e3, a3, b3⟩ := key 3 _ v3 rfl rfl rfl (hf 3 _ rfl)
  subst e3
  obtain ⟨n4, e4, a4, b4⟩ := key 4 _ v4 rfl rfl rfl (hf 4 _ rfl)
  subst e4
  exact ⟨⟨n0, n1, n2, n3, n4⟩, rfl, ⟨a0, b0⟩, ⟨a1, b1⟩, ⟨a2, b2⟩, ⟨a3, b3⟩, ⟨a4, b4⟩⟩
structure N4 where
  a : Int
  b : Int
  c : Int
  d : Int
def n4C (r : N4) : List Value := [.int .i64 r.a, .int .i64 r.b, .int .i64 r.c, .int .i64 r.d]
def n4Ok (w : World) (r : N4) : Prop := intOk w r.a ∧ intOk w r.b ∧ intOk w r.c ∧ intOk w r.d
set_option maxHeartbeats 1000000 in
theorem opens_light : OpensW Try.prog 25 n4C n4Ok := by
  intro H enc w base sp held fuel cs x h
  obtain ⟨hl, hf⟩ := trod_fld Try.underlying25 h
  have ci : Try.prog.cellsOf 3 = 1 := by kernel_rfl
  have cn : Try.prog.cellsOf 25 = 4 := by kernel_rfl
  rw [cn] at hl
  obtain ⟨v0, v1, v2, v3, rfl⟩ : ∃ v0 v1 v2 v3, cs = [v0, v1, v2, v3] := by
    rcases cs with _ | ⟨v0, _ | ⟨v1, _ | ⟨v2, _ | ⟨v3, _ | ⟨vx, cs⟩⟩⟩⟩⟩ <;> simp at hl
    exact ⟨v0, v1, v2, v3, rfl⟩
  have key : ∀ (i : Nat) (f : Field) (v : Value), (#[v0, v1, v2, v3] : Array Value)[i]? = some v → f.type = 3 → f.offset = i → (∃ n y, DataW.trod enc Try.prog w base sp held n f.type ((([v0, v1, v2, v3] : List Value).drop f.offset).take (Try.prog.cellsOf f.type)) = some y) → ∃ n : Int, v = .int .i64 n ∧ -9223372036854775808 ≤ n ∧ n ≤ 9223372036854775807 := by
    intro i f v hv ht ho ⟨n, y, hy⟩
    rw [ht, ci, ho] at hy
    obtain ⟨z, hz, hz1, hz2⟩ := fld_int (P := Try.prog) Try.underlying3 hy
    have hv2 : ([v0, v1, v2, v3] : List Value)[i]? = some v := by simpa using hv
    obtain ⟨hi, hvi⟩ := List.getElem?_eq_some_iff.1 hv2
    rw [List.drop_eq_getElem_cons hi, hvi] at hz
    have hz0 : v = .int .i64 z := by simpa using hz
    have m1 : IntKind.i64.min = -9223372036854775808 := by decide
    have m2 : IntKind.i64.max = 9223372036854775807 := by decide
    rw [m1] at hz1; rw [m2] at hz2
    exact ⟨z, hz0, hz1, hz2⟩
  obtain ⟨n0, e0, a0, b0⟩ := key 0 _ v0 rfl rfl rfl (hf 0 _ rfl)
  subst e0
  obtain ⟨n1, e1, a1, b1⟩ := key 1 _ v1 rfl rfl rfl (hf 1 _ rfl)
  subst e1
  obtain ⟨n2, e2, a2, b2⟩ := key 2 _ v2 rfl rfl rfl (hf 2 _ rfl)
  subst e2
  obtain ⟨n3, e3, a3, b3⟩ := key 3 _ v3 rfl rfl rfl (hf 3 _ rfl)
  subst e3
  exact ⟨⟨n0, n1, n2, n3⟩, rfl, ⟨a0, b0⟩, ⟨a1, b1⟩, ⟨a2, b2⟩, ⟨a3, b3⟩⟩
set_option maxHeartbeats 1000000 in
theorem opens_limits : OpensW Try.prog 30 n4C n4Ok := by
  intro H enc w base sp held fuel cs x h
  obtain ⟨hl, hf⟩ := trod_fld Try.underlying30 h
  have ci : Try.prog.cellsOf 3 = 1 := by kernel_rfl
  have cn : Try.prog.cellsOf 30 = 4 := by kernel_rfl
  rw [cn] at hl
  obtain ⟨v0, v1, v2, v3, rfl⟩ : ∃ v0 v1 v2 v3, cs = [v0, v1, v2, v3] := by
    rcases cs with _ | ⟨v0, _ | ⟨v1, _ | ⟨v2, _ | ⟨v3, _ | ⟨vx, cs⟩⟩⟩⟩⟩ <;> simp at hl
    exact ⟨v0, v1, v2, v3, rfl⟩
  have key : ∀ (i : Nat) (f : Field) (v : Value), (#[v0, v1, v2, v3] : Array Value)[i]? = some v → f.type = 3 → f.offset = i → (∃ n y, DataW.trod enc Try.prog w base sp held n f.type ((([v0, v1, v2, v3] : List Value).drop f.offset).take (Try.prog.cellsOf f.type)) = some y) → ∃ n : Int, v = .int .i64 n ∧ -9223372036854775808 ≤ n ∧ n ≤ 9223372036854775807 := by
    intro i f v hv ht ho ⟨n, y, hy⟩
    rw [ht, ci, ho] at hy
    obtain ⟨z, hz, hz1, hz2⟩ := fld_int (P := Try.prog) Try.underlying3 hy
    have hv2 : ([v0, v1, v2, v3] : List Value)[i]? = some v := by simpa using hv
    obtain ⟨hi, hvi⟩ := List.getElem?_eq_some_iff.1 hv2
    rw [List.drop_eq_getElem_cons hi, hvi] at hz
    have hz0 : v = .int .i64 z := by simpa using hz
    have m1 : IntKind.i64.min = -9223372036854775808 := by decide
    have m2 : IntKind.i64.max = 9223372036854775807 := by decide
    rw [m1] at hz1; rw [m2] at hz2
    exact ⟨z, hz0, hz1, hz2⟩
  obtain ⟨n0, e0, a0, b0⟩ := key 0 _ v0 rfl rfl rfl (hf 0 _ rfl)
  subst e0
  obtain ⟨n1, e1, a1, b1⟩ := key 1 _ v1 rfl rfl rfl (hf 1 _ rfl)
  subst e1
  obtain ⟨n2, e2, a2, b2⟩ := key 2 _ v2 rfl rfl rfl (hf 2 _ rfl)
  subst e2
  obtain ⟨n3, e3, a3, b3⟩ := key 3 _ v3 rfl rfl rfl (hf 3 _ rfl)
  subst e3
  exact ⟨⟨n0, n1, n2, n3⟩, rfl, ⟨a0, b0⟩, ⟨a1, b1⟩, ⟨a2, b2⟩, ⟨a3, b3⟩⟩
structure Sp where
  cs : List Col
  pc : Option Addr
  cc : Nat
  os : List Cov
  po : Option Addr
  co : Nat
  li : N4
  rs : List N5
  pr : Option Addr
  cr : Nat
  fs : List N5
  pf : Option Addr
  cf : Nat
  ts : List Tk
  pt : Option Addr
  ct : Nat
  lm : N4
def spT (s : Sp) : Tl := ⟨.int .i64 s.li.a, .int .i64 s.li.b, .int .i64 s.li.c, .int .i64 s.li.d, .slice s.pr s.rs.length s.cr, .slice s.pf s.fs.length s.cf, .slice s.pt s.ts.length s.ct, .int .i64 s.lm.a, .int .i64 s.lm.b, .int .i64 s.lm.c, .int .i64 s.lm.d⟩
def spC (s : Sp) : List Value := shC (.slice s.pc s.cs.length s.cc) (.slice s.po s.os.length s.co) (spT s)
end Go.Proofs.Ythpooalhibedpaa
namespace Go.Proofs.Ythpooalhibedpaa
open Go Go.RowKit Tw
theorem n5C_one (r : N5) : ∀ v ∈ n5C r, v.oneCell' = true := fun v hv => by
  simp only [n5C, List.mem_cons, List.not_mem_nil, or_false] at hv
  rcases hv with rfl | rfl | rfl | rfl | rfl <;> rfl
theorem tkC_one (r : Tk) : ∀ v ∈ tkC r, v.oneCell' = true := fun v hv => by
  simp only [tkC, List.mem_cons, List.not_mem_nil, or_false] at hv
  rcases hv with rfl | rfl | rfl | rfl | rfl | rfl <;> rfl
theorem el_row : Elem Try.prog 26 82 5 40 (.agg #[.int .i64 0, .int .i64 0, .int .i64 0, .int .i64 0, .int .i64 0]) := Elem.mk' Try.underlying26 (by kernel_rfl) rfl
theorem el_fra : Elem Try.prog 27 85 5 40 (.agg #[.int .i64 0, .int .i64 0, .int .i64 0, .int .i64 0, .int .i64 0]) := Elem.mk' Try.underlying27 (by kernel_rfl) rfl
theorem el_tnk : Elem Try.prog 28 88 6 64 (.agg #[.int .i64 0, .int .i64 0, .int .i64 0, .int .i64 0, .int .i64 0, .slice none 0 0]) := Elem.mk' Try.underlying28 (by kernel_rfl) rfl
def mkRow (i : Nat) : N5 := ⟨0, mkI i, 0, 0, 0⟩
def mkFra (i : Nat) : N5 := ⟨mkI i, 0, 0, 0, 0⟩
def mkRowL (i : Nat) : List N5 := (List.range i).map mkRow
theorem mkRowL_len (i : Nat) : (mkRowL i).length = i := by simp [mkRowL]
theorem mkRowL_s (i : Nat) : mkRowL (i + 1) = mkRowL i ++ [mkRow i] := by simp [mkRowL, List.range_succ]
theorem mkRowL_at {i n : Nat} (h : i < n) : (mkRowL n)[i]? = some (mkRow i) := by simp [mkRowL, h]
def mkFraL (i : Nat) : List N5 := (List.range i).map mkFra
theorem mkFraL_len (i : Nat) : (mkFraL i).length = i := by simp [mkFraL]
theorem mkFraL_s (i : Nat) : mkFraL (i + 1) = mkFraL i ++ [mkFra i] := by simp [mkFraL, List.range_succ]
theorem mkFraL_at {i n : Nat} (h : i < n) : (mkFraL n)[i]? = some (mkFra i) := by simp [mkFraL, h]
set_option maxRecDepth 100000 in
set_option maxHeartbeats 4000000 in
theorem markRow_any (i : Nat) (hi : i ≤ 4000000000) (w : World) : Calls Try.prog 59 #[.int .i64 1, .int .i64 i] w fun e w' => e = .returned (.agg (n5C (mkRow i)).toArray) ∧ Below w.heap.size w w' := by
  go_enter Try.func59, Try.ntmps59
  refine wp_seq ?_
  refine wp_region_L (W0 := w) [] (KS.start w) ?_
  refine wpL_new (fun g => .pointer (some ⟨g, 0, none⟩)) (obi := .cells #[.int .i64 0, .int .i64 0, .int .i64 0, .int .i64 0, .int .i64 0] 82 (0, 0)) rfl rfl (fun _ => by kernel_rfl) (fun _ => by simp only [List.setIfInBounds_toArray, List.set_cons_succ, List.set_cons_zero] <;> rfl) fun g1 Bg1 Fg1 => ?_
  refine wpL_done (fun W1 hW1 => ?_)
  refine (show Code.wp _ _ _ _ _ from ?_)
  refine wp_seq ?_
  refine wp_region_L (W0 := w) [(g1, .cells #[.int .i64 0, .int .i64 0, .int .i64 0, .int .i64 0, .int .i64 0] 82 (0, 0))] (hW1) ?_
  refine lm (v := .int .i64 1) rfl rfl ?_
  refine lm (v := .int .i64 ((i : Nat) : Int)) rfl rfl ?_
  refine lv (v := .int .i64 (mkI i)) rfl rfl (yb_call (f := 81) (args := #[.int .i64 1, .int .i64 ((i : Nat) : Int)]) (fun _ => by kernel_rfl) fun W hW => mark_any 1 ((i : Nat) : Int) (by omega) (by omega) W) ?_
  refine lm (v := .agg #[.int .i64 0, .int .i64 (mkI i), .int .i64 0, .int .i64 0, .int .i64 0]) rfl rfl ?_
  refine wpL_s [(g1, .cells #[.int .i64 0, .int .i64 (mkI i), .int .i64 0, .int .i64 0, .int .i64 0] 82 (0, 0))] rfl rfl (st_row (off := 0) (v := .agg #[.int .i64 0, .int .i64 (mkI i), .int .i64 0, .int .i64 0, .int .i64 0]) rfl (by kernel_rfl) (by kernel_rfl) (.head _) Bg1 (by kernel_rfl) (by first | (simp [Value.cells]; done) | exact Nat.le_of_ble_eq_true rfl) (by intro v hv; simp [Value.cells] at hv; first | (subst hv; rfl) | (rcases hv with rfl | rfl | rfl | rfl | rfl <;> rfl)) (by kernel_rfl) (List.forall_mem_cons.2 ⟨.inl rfl, (List.forall_mem_nil _)⟩)) ?_
  refine wpL_done (fun W2 hW2 => ?_)
  refine (show Code.wp _ _ _ _ _ from ?_)
  refine wp_ret ?_
  try simp only [inBlock_ret, then_ret]
  refine bodyPost_ret (v := .agg #[.int .i64 0, .int .i64 (mkI i), .int .i64 0, .int .i64 0, .int .i64 0]) ?_ rfl ?_
  · exact (res_cell (p := 4) rfl rfl (hW2.2 _ (.head _)) Try.underlying82 rfl (by kernel_rfl))
  · exact ⟨rfl, hW2.1⟩
set_option maxRecDepth 100000 in
set_option maxHeartbeats 4000000 in
theorem markFrame_any (i : Nat) (hi : i ≤ 4000000000) (w : World) : Calls Try.prog 60 #[.int .i64 1, .int .i64 i] w fun e w' => e = .returned (.agg (n5C (mkFra i)).toArray) ∧ Below w.heap.size w w' := by
  go_enter Try.func60, Try.ntmps60
  refine wp_seq ?_
  refine wp_region_L (W0 := w) [] (KS.start w) ?_
  refine wpL_new (fun g => .pointer (some ⟨g, 0, none⟩)) (obi := .cells #[.int .i64 0, .int .i64 0, .int .i64 0, .int .i64 0, .int .i64 0] 85 (0, 0)) rfl rfl (fun _ => by kernel_rfl) (fun _ => by simp only [List.setIfInBounds_toArray, List.set_cons_succ, List.set_cons_zero] <;> rfl) fun g1 Bg1 Fg1 => ?_
  refine wpL_done (fun W1 hW1 => ?_)
  refine (show Code.wp _ _ _ _ _ from ?_)
  refine wp_seq ?_
  refine wp_region_L (W0 := w) [(g1, .cells #[.int .i64 0, .int .i64 0, .int .i64 0, .int .i64 0, .int .i64 0] 85 (0, 0))] (hW1) ?_
  refine lm (v := .int .i64 1) rfl rfl ?_
  refine lm (v := .int .i64 ((i : Nat) : Int)) rfl rfl ?_
  refine lv (v := .int .i64 (mkI i)) rfl rfl (yb_call (f := 81) (args := #[.int .i64 1, .int .i64 ((i : Nat) : Int)]) (fun _ => by kernel_rfl) fun W hW => mark_any 1 ((i : Nat) : Int) (by omega) (by omega) W) ?_
  refine lm (v := .agg #[.int .i64 (mkI i), .int .i64 0, .int .i64 0, .int .i64 0, .int .i64 0]) rfl rfl ?_
  refine wpL_s [(g1, .cells #[.int .i64 (mkI i), .int .i64 0, .int .i64 0, .int .i64 0, .int .i64 0] 85 (0, 0))] rfl rfl (st_row (off := 0) (v := .agg #[.int .i64 (mkI i), .int .i64 0, .int .i64 0, .int .i64 0, .int .i64 0]) rfl (by kernel_rfl) (by kernel_rfl) (.head _) Bg1 (by kernel_rfl) (by first | (simp [Value.cells]; done) | exact Nat.le_of_ble_eq_true rfl) (by intro v hv; simp [Value.cells] at hv; first | (subst hv; rfl) | (rcases hv with rfl | rfl | rfl | rfl | rfl <;> rfl)) (by kernel_rfl) (List.forall_mem_cons.2 ⟨.inl rfl, (List.forall_mem_nil _)⟩)) ?_
  refine wpL_done (fun W2 hW2 => ?_)
  refine (show Code.wp _ _ _ _ _ from ?_)
  refine wp_ret ?_
  try simp only [inBlock_ret, then_ret]
  refine bodyPost_ret (v := .agg #[.int .i64 (mkI i), .int .i64 0, .int .i64 0, .int .i64 0, .int .i64 0]) ?_ rfl ?_
  · exact (res_cell (p := 4) rfl rfl (hW2.2 _ (.head _)) Try.underlying85 rfl (by kernel_rfl))
  · exact ⟨rfl, hW2.1⟩
set_option maxRecDepth 100000 in
set_option maxHeartbeats 4000000 in
theorem LentRows_any (l : List N5) (p : Option Addr) (c : Nat) (hl : l.length ≤ 3518437208780) (w : World) (hp : SLV w p (l.flatMap n5C)) : Calls Try.prog 30 #[.slice p l.length c] w fun e w' => ∃ q d, e = .returned (.slice q l.length d) ∧ l.length + 12 ≤ d ∧ OutV w w' 82 5 (.slice q (l ++ mkRowL 12).length d) (l ++ mkRowL 12).length ((l ++ mkRowL 12).flatMap n5C) ∧ Below w.heap.size w w' := by
  have HP := Lib.hid hp
  clear hp
  go_enter Try.func30, Try.ntmps30
  refine wp_seq ?_
  refine wp_region_L (W0 := w) [] (KS.start w) ?_
  refine lm (v := .slice none 0 0) rfl rfl ?_
  refine wpL_done (fun W1 hW1 => ?_)
  refine (show Code.wp _ _ _ _ _ from ?_)
  refine wp_seq ?_
  refine wp_region_L (W0 := w) [] (hW1) ?_
  refine lm (v := .slice p l.length c) rfl rfl ?_
  refine lp (v := .int .i64 ((l.length : Nat) : Int)) rfl rfl (run_lenL (p := p) (cap := c) (n := l.length) rfl Try.underlying26 (by kernel_rfl)) ?_
  refine lp (v := .int .i64 (((l.length + 12) : Nat) : Int)) rfl rfl (run_bin rfl (vx := (.int .i64 ((l.length : Nat) : Int))) (vy := (.int .i64 ((12 : Nat) : Int))) (by kernel_rfl) (by kernel_rfl) fun w => bn_add (z := (l.length + 12)) rfl (wr_i64 (by omega)) w) ?_
  refine wpL_new (fun g => .slice (some ⟨g, 0, none⟩) 0 (l.length + 12)) (obi := .cells (madeCells (Value.cells (.agg #[.int .i64 0, .int .i64 0, .int .i64 0, .int .i64 0, .int .i64 0])) ((l.length + 12) * 5)) 82 (0, 0)) rfl rfl (run_mk0L (c := (l.length + 12)) (z := (.agg #[.int .i64 0, .int .i64 0, .int .i64 0, .int .i64 0, .int .i64 0])) (sz := 5) (b := 40) rfl Try.underlying26 (by kernel_rfl) (by decide) (by kernel_rfl) (by kernel_rfl) (by omega)) (fun _ => by simp only [List.setIfInBounds_toArray, List.set_cons_succ, List.set_cons_zero] <;> rfl) fun g1 Bg1 Fg1 => ?_
  refine lm (v := .slice (some ⟨g1, 0, none⟩) 0 (l.length + 12)) rfl rfl ?_
  refine wpL_done (fun W2 hW2 => ?_)
  refine (show Code.wp _ _ _ _ _ from ?_)
  refine wp_seq ?_
  refine wp_region_L (W0 := w) [(g1, .cells (madeCells (Value.cells (.agg #[.int .i64 0, .int .i64 0, .int .i64 0, .int .i64 0, .int .i64 0])) ((l.length + 12) * 5)) 82 (0, 0))] (hW2) ?_
  refine lm (v := .slice (some ⟨g1, 0, none⟩) 0 (l.length + 12)) rfl rfl ?_
  refine lm (v := .slice p l.length c) rfl rfl ?_
  have Om2 := (own_madeL (cells := n5C) (c := (l.length + 12)) (E := 82) (z := (.agg #[.int .i64 0, .int .i64 0, .int .i64 0, .int .i64 0, .int .i64 0])) Bg1 rfl (by omega))
  refine wpL_g (AppO w 82 5 [] (0 + l.length) ((([] : List N5).flatMap n5C) ++ (l.flatMap n5C))) rfl rfl (app_anyL el_row (m := l.length) (news := (l.flatMap n5C)) (y := .slice p l.length c) rfl (by kernel_rfl) (by kernel_rfl) (src_rl (c := c) Try.underlying26 n5C_len n5C_one (by decide) ((RL.base HP.out).mono (fun _ h => by cases h)) rfl) Om2 (fun p hp => by cases List.mem_singleton.1 hp; exact (.head _)) (fun _ h => by cases h) (by omega) (by omega)) (fun _ => by simp only [List.setIfInBounds_toArray, List.set_cons_succ, List.set_cons_zero] <;> rfl) ?_
  rintro v3 Kl3 ⟨_, O3, N3, rfl⟩
  refine lm (v := v3) rfl rfl ?_
  refine wpL_done (fun W3 hW3 => ?_)
  refine (show Code.wp _ _ _ _ _ from ?_)
  refine wp_seq ?_
  refine wp_seq ?_
  refine wp_region_L (W0 := w) Kl3 (hW3) ?_
  refine lm (v := .int .i64 0) rfl rfl ?_
  refine wpL_done (fun W4 hW4 => ?_)
  refine (show Code.wp _ _ _ _ _ from ?_)
  refine wp_block ?_
  go_loopw [4, 3] (fun u4 u3 wr => ∃ (i : Nat) (vo : Value) (Ko : List (Nat × Obj)), (i ≤ 12) ∧ (OwnL w 82 5 vo (l.length + i) ((l ++ mkRowL i).flatMap n5C) Ko) ∧ u4 = .int .i64 ((i : Nat) : Int) ∧ vo = u3 ∧ KS w Ko wr) (fun u4 _ _ => 12 - (intOf u4).toNat)
  case atStart => exact ⟨0, v3, Kl3, (Nat.zero_le _), (by have h9 := O3; rw [List.flatMap_nil, List.nil_append, Nat.zero_add] at h9; rw [show l ++ mkRowL 0 = l from by simp [mkRowL]]; exact h9), rfl, rfl, (hW4.sub (fun p hp => by first | exact hp | (simp only [List.mem_cons, List.mem_append, List.nil_append, List.not_mem_nil, or_assoc, or_false, false_or] at hp ⊢ <;> grind)))⟩
  case round =>
    obtain ⟨i, vo, Ko, hi, hO, rfl, rfl, hL5⟩ := hrel
    refine wp_seq ?_
    refine wp_seq ?_
    refine wp_region_L (W0 := w) Ko (hL5) ?_
    refine lm (v := .int .i64 ((i : Nat) : Int)) rfl rfl ?_
    refine lp (v := .bool (decide (i < 12))) rfl rfl (run_bin rfl (vx := (.int .i64 ((i : Nat) : Int))) (vy := (.int .i64 ((12 : Nat) : Int))) (by kernel_rfl) (by kernel_rfl) fun w => bn_lss rfl w) ?_
    refine wpL_done (fun W6 hW6 => ?_)
    refine (show Code.wp _ _ _ _ _ from ?_)
    cases hd1 : (decide (i < 12)) with
    | false =>
      have h1 : ¬ (i < 12) := of_decide_eq_false hd1
      clear hd1
      refine wp_cond_false rfl ?_
      refine wp_exit ?_
      refine (show Code.wp _ _ _ _ _ from ?_)
      refine wp_seq ?_
      refine wp_region_L (W0 := w) Ko (hW6) ?_
      refine lm (v := vo) rfl rfl ?_
      refine lm (v := .slice p l.length c) rfl rfl ?_
      refine lp (v := .int .i64 ((l.length : Nat) : Int)) rfl rfl (run_lenL (p := p) (cap := c) (n := l.length) rfl Try.underlying26 (by kernel_rfl)) ?_
      have hi12 : i = 12 := by omega
      subst hi12
      have hO2 := own_app (cells := n5C) (l' := l ++ mkRowL 12) hO rfl (by rw [List.length_append, mkRowL_len])
      obtain ⟨q9, d9, rfl, hd9, R9⟩ := own_rl hO2
      have hlen : (l ++ mkRowL 12).length = l.length + 12 := by rw [List.length_append, mkRowL_len]
      refine lp (v := .slice q9 l.length d9) rfl rfl (run_slt (kd := .i64) (j := l.length) (n := (l ++ mkRowL 12).length) (c := d9) (sz := 5) rfl Try.underlying26 (by kernel_rfl) (by kernel_rfl) (by kernel_rfl) (by omega)) ?_
      refine lm (v := .slice q9 l.length d9) rfl rfl ?_
      refine wpL_done (fun W7 hW7 => ?_)
      refine (show Code.wp _ _ _ _ _ from ?_)
      refine wp_ret ?_
      try simp only [inBlock_ret, then_ret]
      refine bodyPost_ret (v := .slice q9 l.length d9) ?_ rfl ?_
      · kernel_rfl
      · exact ⟨q9, d9, rfl, by omega, hO2.out (fun p hp => by simp only [List.mem_cons, List.mem_append, List.nil_append, List.not_mem_nil, or_assoc, or_false, false_or, hp, true_or, or_true]) hW7, hW7.1⟩
    | true =>
      have h1 : i < 12 := of_decide_eq_true hd1
      clear hd1
      refine wp_cond_true rfl ?_
      refine wp_skip ?_
      refine (show Code.wp _ _ _ _ _ from ?_)
      refine wp_seq ?_
      refine wp_block ?_
      refine wp_region_L (W0 := w) Ko (hW6) ?_
      refine lm (v := vo) rfl rfl ?_
      refine lm (v := .int .i64 ((i : Nat) : Int)) rfl rfl ?_
      refine lv (v := .agg (n5C (mkRow i)).toArray) rfl rfl (yb_call (f := 59) (args := #[.int .i64 1, .int .i64 ((i : Nat) : Int)]) (fun _ => by kernel_rfl) fun W hW => markRow_any i (by omega) W) ?_
      refine wpL_new (fun g => .slice (some ⟨g, 0, none⟩) 1 1) (obi := .cells (n5C (mkRow i)).toArray 82 (0, 0)) rfl rfl (fun _ => by kernel_rfl) (fun _ => by simp only [List.setIfInBounds_toArray, List.set_cons_succ, List.set_cons_zero] <;> rfl) fun g5 Bg5 Fg5 => ?_
      obtain dj6_0 : Dk g5 Ko := by simpa only [dj_app_l, dj_app_r, dj_cons_l, dj_cons_r, dj_nil_l, dj_nil_r, dk_app, dk_cons, dk_nil, and_true, true_and, and_assoc] using (show Dk g5 Ko from Fg5)
      refine wpL_g (AppO w 82 5 [] ((l.length + i) + 1) (((l ++ mkRowL i).flatMap n5C) ++ [.int .i64 ((mkRow i).a), .int .i64 ((mkRow i).b), .int .i64 ((mkRow i).c), .int .i64 ((mkRow i).d), .int .i64 ((mkRow i).e)])) rfl rfl (app_ownL el_row (m := 1) (c := 1) (news := [.int .i64 ((mkRow i).a), .int .i64 ((mkRow i).b), .int .i64 ((mkRow i).c), .int .i64 ((mkRow i).d), .int .i64 ((mkRow i).e)]) rfl (by kernel_rfl) (by kernel_rfl) (.head _) hO (fun p hp => by simp only [List.mem_cons, List.mem_append, List.nil_append, List.not_mem_nil, or_assoc, or_false, false_or, hp, or_true, true_or]) (fun _ h => by cases h) rfl (by simp [strV, Value.oneCell']) (by omega) (by omega) (by omega)) (fun _ => by simp only [List.setIfInBounds_toArray, List.set_cons_succ, List.set_cons_zero] <;> rfl) ?_
      rintro v7 Kl7 ⟨_, O7, N7, rfl⟩
      refine lm (v := v7) rfl rfl ?_
      refine wpL_done (fun W8 hW8 => ?_)
      refine (show Code.wp _ _ _ _ _ from ?_)
      refine wp_region_L (W0 := w) Kl7 (hW8) ?_
      refine lm (v := .int .i64 ((i : Nat) : Int)) rfl rfl ?_
      refine lp (v := .int .i64 (((i + 1) : Nat) : Int)) rfl rfl (run_bin rfl (vx := (.int .i64 ((i : Nat) : Int))) (vy := (.int .i64 ((1 : Nat) : Int))) (by kernel_rfl) (by kernel_rfl) fun w => bn_add (z := (i + 1)) rfl (wr_i64 (by omega)) w) ?_
      refine lm (v := .int .i64 (((i + 1) : Nat) : Int)) rfl rfl ?_
      refine wpL_done (fun W9 hW9 => ?_)
      go_roundw
      case rel =>
        repeat apply Exists.intro
        exact ⟨⟨i + 1, v7, Kl7, (by omega), (by have h9 := own_app (cells := n5C) (l' := l ++ mkRowL (i + 1)) O7 (by rw [mkRowL_s, ← List.append_assoc, List.flatMap_append (ys := [mkRow i])]; rfl) (by rw [mkRowL_s, List.length_append, List.length_append, mkRowL_len]; rfl); rw [List.length_append, mkRowL_len] at h9; exact h9), rfl, rfl, (hW9.sub (fun p hp => by first | exact hp | (simp only [List.mem_cons, List.mem_append, List.nil_append, List.not_mem_nil, or_assoc, or_false, false_or] at hp ⊢ <;> grind)))⟩, rfl⟩
      case measure => (show 12 - (intOf (.int .i64 (((i + 1) : Nat) : Int))).toNat < 12 - (intOf (.int .i64 ((i : Nat) : Int))).toNat); simp only [intOf]; omega
set_option maxRecDepth 100000 in
set_option maxHeartbeats 4000000 in
theorem LentFrames_any (l : List N5) (p : Option Addr) (c : Nat) (hl : l.length ≤ 3518437208780) (w : World) (hp : SLV w p (l.flatMap n5C)) : Calls Try.prog 31 #[.slice p l.length c] w fun e w' => ∃ q d, e = .returned (.slice q l.length d) ∧ l.length + 12 ≤ d ∧ OutV w w' 85 5 (.slice q (l ++ mkFraL 12).length d) (l ++ mkFraL 12).length ((l ++ mkFraL 12).flatMap n5C) ∧ Below w.heap.size w w' := by
  have HP := Lib.hid hp
  clear hp
  go_enter Try.func31, Try.ntmps31
  refine wp_seq ?_
  refine wp_region_L (W0 := w) [] (KS.start w) ?_
  refine lm (v := .slice none 0 0) rfl rfl ?_
  refine wpL_done (fun W1 hW1 => ?_)
  refine (show Code.wp _ _ _ _ _ from ?_)
  refine wp_seq ?_
  refine wp_region_L (W0 := w) [] (hW1) ?_
  refine lm (v := .slice p l.length c) rfl rfl ?_
  refine lp (v := .int .i64 ((l.length : Nat) : Int)) rfl rfl (run_lenL (p := p) (cap := c) (n := l.length) rfl Try.underlying27 (by kernel_rfl)) ?_
  refine lp (v := .int .i64 (((l.length + 12) : Nat) : Int)) rfl rfl (run_bin rfl (vx := (.int .i64 ((l.length : Nat) : Int))) (vy := (.int .i64 ((12 : Nat) : Int))) (by kernel_rfl) (by kernel_rfl) fun w => bn_add (z := (l.length + 12)) rfl (wr_i64 (by omega)) w) ?_
  refine wpL_new (fun g => .slice (some ⟨g, 0, none⟩) 0 (l.length + 12)) (obi := .cells (madeCells (Value.cells (.agg #[.int .i64 0, .int .i64 0, .int .i64 0, .int .i64 0, .int .i64 0])) ((l.length + 12) * 5)) 85 (0, 0)) rfl rfl (run_mk0L (c := (l.length + 12)) (z := (.agg #[.int .i64 0, .int .i64 0, .int .i64 0, .int .i64 0, .int .i64 0])) (sz := 5) (b := 40) rfl Try.underlying27 (by kernel_rfl) (by decide) (by kernel_rfl) (by kernel_rfl) (by omega)) (fun _ => by simp only [List.setIfInBounds_toArray, List.set_cons_succ, List.set_cons_zero] <;> rfl) fun g1 Bg1 Fg1 => ?_
  refine lm (v := .slice (some ⟨g1, 0, none⟩) 0 (l.length + 12)) rfl rfl ?_
  refine wpL_done (fun W2 hW2 => ?_)
  refine (show Code.wp _ _ _ _ _ from ?_)
  refine wp_seq ?_
  refine wp_region_L (W0 := w) [(g1, .cells (madeCells (Value.cells (.agg #[.int .i64 0, .int .i64 0, .int .i64 0, .int .i64 0, .int .i64 0])) ((l.length + 12) * 5)) 85 (0, 0))] (hW2) ?_
  refine lm (v := .slice (some ⟨g1, 0, none⟩) 0 (l.length + 12)) rfl rfl ?_
  refine lm (v := .slice p l.length c) rfl rfl ?_
  have Om2 := (own_madeL (cells := n5C) (c := (l.length + 12)) (E := 85) (z := (.agg #[.int .i64 0, .int .i64 0, .int .i64 0, .int .i64 0, .int .i64 0])) Bg1 rfl (by omega))
  refine wpL_g (AppO w 85 5 [] (0 + l.length) ((([] : List N5).flatMap n5C) ++ (l.flatMap n5C))) rfl rfl (app_anyL el_fra (m := l.length) (news := (l.flatMap n5C)) (y := .slice p l.length c) rfl (by kernel_rfl) (by kernel_rfl) (src_rl (c := c) Try.underlying27 n5C_len n5C_one (by decide) ((RL.base HP.out).mono (fun _ h => by cases h)) rfl) Om2 (fun p hp => by cases List.mem_singleton.1 hp; exact (.head _)) (fun _ h => by cases h) (by omega) (by omega)) (fun _ => by simp only [List.setIfInBounds_toArray, List.set_cons_succ, List.set_cons_zero] <;> rfl) ?_
  rintro v3 Kl3 ⟨_, O3, N3, rfl⟩
  refine lm (v := v3) rfl rfl ?_
  refine wpL_done (fun W3 hW3 => ?_)
  refine (show Code.wp _ _ _ _ _ from ?_)
  refine wp_seq ?_
  refine wp_seq ?_
  refine wp_region_L (W0 := w) Kl3 (hW3) ?_
  refine lm (v := .int .i64 0) rfl rfl ?_
  refine wpL_done (fun W4 hW4 => ?_)
  refine (show Code.wp _ _ _ _ _ from ?_)
  refine wp_block ?_
  go_loopw [4, 3] (fun u4 u3 wr => ∃ (i : Nat) (vo : Value) (Ko : List (Nat × Obj)), (i ≤ 12) ∧ (OwnL w 85 5 vo (l.length + i) ((l ++ mkFraL i).flatMap n5C) Ko) ∧ u4 = .int .i64 ((i : Nat) : Int) ∧ vo = u3 ∧ KS w Ko wr) (fun u4 _ _ => 12 - (intOf u4).toNat)
  case atStart => exact ⟨0, v3, Kl3, (Nat.zero_le _), (by have h9 := O3; rw [List.flatMap_nil, List.nil_append, Nat.zero_add] at h9; rw [show l ++ mkFraL 0 = l from by simp [mkFraL]]; exact h9), rfl, rfl, (hW4.sub (fun p hp => by first | exact hp | (simp only [List.mem_cons, List.mem_append, List.nil_append, List.not_mem_nil, or_assoc, or_false, false_or] at hp ⊢ <;> grind)))⟩
  case round =>
    obtain ⟨i, vo, Ko, hi, hO, rfl, rfl, hL5⟩ := hrel
    refine wp_seq ?_
    refine wp_seq ?_
    refine wp_region_L (W0 := w) Ko (hL5) ?_
    refine lm (v := .int .i64 ((i : Nat) : Int)) rfl rfl ?_
    refine lp (v := .bool (decide (i < 12))) rfl rfl (run_bin rfl (vx := (.int .i64 ((i : Nat) : Int))) (vy := (.int .i64 ((12 : Nat) : Int))) (by kernel_rfl) (by kernel_rfl) fun w => bn_lss rfl w) ?_
    refine wpL_done (fun W6 hW6 => ?_)
    refine (show Code.wp _ _ _ _ _ from ?_)
    cases hd1 : (decide (i < 12)) with
    | false =>
      have h1 : ¬ (i < 12) := of_decide_eq_false hd1
      clear hd1
      refine wp_cond_false rfl ?_
      refine wp_exit ?_
      refine (show Code.wp _ _ _ _ _ from ?_)
      refine wp_seq ?_
      refine wp_region_L (W0 := w) Ko (hW6) ?_
      refine lm (v := vo) rfl rfl ?_
      refine lm (v := .slice p l.length c) rfl rfl ?_
      refine lp (v := .int .i64 ((l.length : Nat) : Int)) rfl rfl (run_lenL (p := p) (cap := c) (n := l.length) rfl Try.underlying27 (by kernel_rfl)) ?_
      have hi12 : i = 12 := by omega
      subst hi12
      have hO2 := own_app (cells := n5C) (l' := l ++ mkFraL 12) hO rfl (by rw [List.length_append, mkFraL_len])
      obtain ⟨q9, d9, rfl, hd9, R9⟩ := own_rl hO2
      have hlen : (l ++ mkFraL 12).length = l.length + 12 := by rw [List.length_append, mkFraL_len]
      refine lp (v := .slice q9 l.length d9) rfl rfl (run_slt (kd := .i64) (j := l.length) (n := (l ++ mkFraL 12).length) (c := d9) (sz := 5) rfl Try.underlying27 (by kernel_rfl) (by kernel_rfl) (by kernel_rfl) (by omega)) ?_
      refine lm (v := .slice q9 l.length d9) rfl rfl ?_
      refine wpL_done (fun W7 hW7 => ?_)
      refine (show Code.wp _ _ _ _ _ from ?_)
      refine wp_ret ?_
      try simp only [inBlock_ret, then_ret]
      refine bodyPost_ret (v := .slice q9 l.length d9) ?_ rfl ?_
      · kernel_rfl
      · exact ⟨q9, d9, rfl, by omega, hO2.out (fun p hp => by simp only [List.mem_cons, List.mem_append, List.nil_append, List.not_mem_nil, or_assoc, or_false, false_or, hp, true_or, or_true]) hW7, hW7.1⟩
    | true =>
      have h1 : i < 12 := of_decide_eq_true hd1
      clear hd1
      refine wp_cond_true rfl ?_
      refine wp_skip ?_
      refine (show Code.wp _ _ _ _ _ from ?_)
      refine wp_seq ?_
      refine wp_block ?_
      refine wp_region_L (W0 := w) Ko (hW6) ?_
      refine lm (v := vo) rfl rfl ?_
      refine lm (v := .int .i64 ((i : Nat) : Int)) rfl rfl ?_
      refine lv (v := .agg (n5C (mkFra i)).toArray) rfl rfl (yb_call (f := 60) (args := #[.int .i64 1, .int .i64 ((i : Nat) : Int)]) (fun _ => by kernel_rfl) fun W hW => markFrame_any i (by omega) W) ?_
      refine wpL_new (fun g => .slice (some ⟨g, 0, none⟩) 1 1) (obi := .cells (n5C (mkFra i)).toArray 85 (0, 0)) rfl rfl (fun _ => by kernel_rfl) (fun _ => by simp only [List.setIfInBounds_toArray, List.set_cons_succ, List.set_cons_zero] <;> rfl) fun g5 Bg5 Fg5 => ?_
      obtain dj6_0 : Dk g5 Ko := by simpa only [dj_app_l, dj_app_r, dj_cons_l, dj_cons_r, dj_nil_l, dj_nil_r, dk_app, dk_cons, dk_nil, and_true, true_and, and_assoc] using (show Dk g5 Ko from Fg5)
      refine wpL_g (AppO w 85 5 [] ((l.length + i) + 1) (((l ++ mkFraL i).flatMap n5C) ++ [.int .i64 ((mkFra i).a), .int .i64 ((mkFra i).b), .int .i64 ((mkFra i).c), .int .i64 ((mkFra i).d), .int .i64 ((mkFra i).e)])) rfl rfl (app_ownL el_fra (m := 1) (c := 1) (news := [.int .i64 ((mkFra i).a), .int .i64 ((mkFra i).b), .int .i64 ((mkFra i).c), .int .i64 ((mkFra i).d), .int .i64 ((mkFra i).e)]) rfl (by kernel_rfl) (by kernel_rfl) (.head _) hO (fun p hp => by simp only [List.mem_cons, List.mem_append, List.nil_append, List.not_mem_nil, or_assoc, or_false, false_or, hp, or_true, true_or]) (fun _ h => by cases h) rfl (by simp [strV, Value.oneCell']) (by omega) (by omega) (by omega)) (fun _ => by simp only [List.setIfInBounds_toArray, List.set_cons_succ, List.set_cons_zero] <;> rfl) ?_
      rintro v7 Kl7 ⟨_, O7, N7, rfl⟩
      refine lm (v := v7) rfl rfl ?_
      refine wpL_done (fun W8 hW8 => ?_)
      refine (show Code.wp _ _ _ _ _ from ?_)
      refine wp_region_L (W0 := w) Kl7 (hW8) ?_
      refine lm (v := .int .i64 ((i : Nat) : Int)) rfl rfl ?_
      refine lp (v := .int .i64 (((i + 1) : Nat) : Int)) rfl rfl (run_bin rfl (vx := (.int .i64 ((i : Nat) : Int))) (vy := (.int .i64 ((1 : Nat) : Int))) (by kernel_rfl) (by kernel_rfl) fun w => bn_add (z := (i + 1)) rfl (wr_i64 (by omega)) w) ?_
      refine lm (v := .int .i64 (((i + 1) : Nat) : Int)) rfl rfl ?_
      refine wpL_done (fun W9 hW9 => ?_)
      go_roundw
      case rel =>
        repeat apply Exists.intro
        exact ⟨⟨i + 1, v7, Kl7, (by omega), (by have h9 := own_app (cells := n5C) (l' := l ++ mkFraL (i + 1)) O7 (by rw [mkFraL_s, ← List.append_assoc, List.flatMap_append (ys := [mkFra i])]; rfl) (by rw [mkFraL_s, List.length_append, List.length_append, mkFraL_len]; rfl); rw [List.length_append, mkFraL_len] at h9; exact h9), rfl, rfl, (hW9.sub (fun p hp => by first | exact hp | (simp only [List.mem_cons, List.mem_append, List.nil_append, List.not_mem_nil, or_assoc, or_false, false_or] at hp ⊢ <;> grind)))⟩, rfl⟩
      case measure => (show 12 - (intOf (.int .i64 (((i + 1) : Nat) : Int))).toNat < 12 - (intOf (.int .i64 ((i : Nat) : Int))).toNat); simp only [intOf]; omega
end Go.Proofs.Ythpooalhibedpaa
namespace Go.Proofs.Ythpooalhibedpaa
open Go Go.RowKit Tw
def Tk.re (y : Tk) (q : Option Addr) (d : Nat) : Tk := { y with sp := q, sc := d }
def mkTnk (i : Nat) : Tk := ⟨mkI i, 0, 0, 0, 0, [], none, 0⟩
def StR (W : World) (ts : List Tk) : Prop := ∀ c ∈ ts, SLV W c.sp (c.steps.flatMap inC)
def mkTnkL (i : Nat) : List Tk := (List.range i).map mkTnk
theorem mkTnkL_len (i : Nat) : (mkTnkL i).length = i := by simp [mkTnkL]
theorem mkTnkL_s (i : Nat) : mkTnkL (i + 1) = mkTnkL i ++ [mkTnk i] := by simp [mkTnkL, List.range_succ]
theorem mkTnkL_at {i n : Nat} (h : i < n) : (mkTnkL n)[i]? = some (mkTnk i) := by simp [mkTnkL, h]
def LentT (l X : List Tk) (T : List (Nat × Obj)) : Prop := ∀ (j : Nat) (x : Tk), X[j]? = some x → ∃ y q d, l[j]? = some y ∧ x = y.re q d ∧ y.steps.length + 12 ≤ d ∧ HL inC q (y.steps ++ mkL 12) T
theorem LentT.nil (l : List Tk) : LentT l [] [] := fun _ _ h => by cases h
theorem LentT.mono {l X : List Tk} {T T' : List (Nat × Obj)} (h : LentT l X T) (hs : ∀ b ∈ T, b ∈ T') : LentT l X T' := fun j x hx => by
  obtain ⟨y, q, d, h1, h2, h3, h4⟩ := h j x hx
  exact ⟨y, q, d, h1, h2, h3, h4.mono hs⟩
theorem LentT.s {l X : List Tk} {T K : List (Nat × Obj)} {i d : Nat} {y : Tk} {q : Option Addr} (h : LentT l X T) (hi : X.length = i) (hy : l[i]? = some y) (hd : y.steps.length + 12 ≤ d) (hH : HL inC q (y.steps ++ mkL 12) K) : LentT l (X ++ [y.re q d]) (T ++ K) := fun j x hx => by
  by_cases e : j < X.length
  · rw [List.getElem?_append_left e] at hx
    exact h.mono (fun b hb => List.mem_append_left _ hb) j x hx
  · rw [List.getElem?_append_right (by omega)] at hx
    have e2 : j - X.length = 0 := by
      have := (List.getElem?_eq_some_iff.1 hx).1
      simp only [List.length_singleton] at this
      omega
    rw [e2] at hx
    cases hx
    have e3 : j = i := by omega
    subst e3
    exact ⟨y, q, d, hy, rfl, hd, hH.mono fun b hb => List.mem_append_right _ hb⟩
def LentTA (W : World) (l X : List Tk) : Prop := ∀ (j : Nat) (x : Tk), X[j]? = some x → ∃ y q d, l[j]? = some y ∧ x = y.re q d ∧ y.steps.length + 12 ≤ d ∧ SLV W q ((y.steps ++ mkL 12).flatMap inC)
theorem LentT.at {W : World} {l X : List Tk} {T : List (Nat × Obj)} (h : LentT l X T) (hT : ∀ b ∈ T, W.heap[b.1]? = some b.2) : LentTA W l X := fun j x hx => by
  obtain ⟨y, q, d, h1, h2, h3, h4⟩ := h j x hx
  exact ⟨y, q, d, h1, h2, h3, h4 W hT⟩
theorem lentTA_at {W : World} {l X : List Tk} {i : Nat} {x y : Tk} (h : LentTA W l X) (hx : (X ++ mkTnkL 12)[i]? = some x) (hl : X.length = l.length) (hy : l[i]? = some y) : ∃ q d, x = y.re q d ∧ y.steps.length + 12 ≤ d ∧ SLV W q ((y.steps ++ mkL 12).flatMap inC) := by
  have hi := (List.getElem?_eq_some_iff.1 hy).1
  rw [List.getElem?_append_left (by omega)] at hx
  obtain ⟨z, q, d, h1, h2, h3, h4⟩ := h i x hx
  rw [hy] at h1
  cases h1
  exact ⟨q, d, h2, h3, h4⟩
theorem markTA_at {l X : List Tk} {i : Nat} {x : Tk} (hx : (X ++ mkTnkL 12)[i]? = some x) (hl : X.length = l.length) (h : ¬ i < l.length) : x = mkTnk (i - l.length) := by
  have h2 := (List.getElem?_eq_some_iff.1 hx).1
  rw [List.length_append, mkTnkL_len] at h2
  rw [List.getElem?_append_right (by omega), mkTnkL_at (by omega), hl] at hx
  exact (Option.some.inj hx).symm
theorem lentTA_pre {W : World} {l X : List Tk} {i : Nat} {x y : Tk} (h : LentTA W l X) (hx : X[i]? = some x) (hy : l[i]? = some y) : ∃ q d, x = y.re q d ∧ SLV W q (y.steps.flatMap inC) := by
  obtain ⟨z, q, d, h1, h2, _, h4⟩ := h i x hx
  rw [hy] at h1
  cases h1
  exact ⟨q, d, h2, slv_pre0 h4⟩
theorem SameIntsL_yes (l : List Int) (p q : Option Addr) (c d : Nat) (hl : l.length ≤ 17592186044403) (w : World) (hp : SLV w p (l.flatMap inC)) (hq : SLV w q (l.flatMap inC)) : Calls Try.prog 16 #[.slice p l.length c, .slice q l.length d] w fun e w' => e = .returned (.bool true) ∧ Below w.heap.size w w' := by
  have h := SameIntsL_any l l p q c d hl w hp hq
  rwa [decide_eq_true (rfl : l = l)] at h
set_option maxRecDepth 100000 in
set_option maxHeartbeats 4000000 in
theorem SameTank_any (y : Tk) (q : Option Addr) (d : Nat) (hl : y.steps.length ≤ 17592186044403) (w : World) (hp : SLV w y.sp (y.steps.flatMap inC)) (hq : SLV w q (y.steps.flatMap inC)) : Calls Try.prog 79 #[.agg (tkC y).toArray, .agg (tkC (y.re q d)).toArray] w fun e w' => e = .returned (.bool true) ∧ Below w.heap.size w w' := by
  have HP := Lib.hid hp
  clear hp
  have HQ := Lib.hid hq
  clear hq
  go_enter Try.func79, Try.ntmps79
  refine wp_seq ?_
  refine wp_region_L (W0 := w) [] (KS.start w) ?_
  refine wpL_new (fun g => .pointer (some ⟨g, 0, none⟩)) (obi := .cells (tkC y).toArray 88 (0, 0)) rfl rfl (fun _ => by kernel_rfl) (fun _ => by simp only [List.setIfInBounds_toArray, List.set_cons_succ, List.set_cons_zero] <;> rfl) fun g1 Bg1 Fg1 => ?_
  refine wpL_new (fun g => .pointer (some ⟨g, 0, none⟩)) (obi := .cells (tkC (y.re q d)).toArray 88 (0, 0)) rfl rfl (fun _ => by kernel_rfl) (fun _ => by simp only [List.setIfInBounds_toArray, List.set_cons_succ, List.set_cons_zero] <;> rfl) fun g2 Bg2 Fg2 => ?_
  obtain dj3_0 : g1 ≠ g2 := by simpa only [dj_app_l, dj_app_r, dj_cons_l, dj_cons_r, dj_nil_l, dj_nil_r, dk_app, dk_cons, dk_nil, and_true, true_and, and_assoc] using (show Dk g2 [(g1, .cells (tkC y).toArray 88 (0, 0))] from Fg2)
  refine lm (v := .bool false) rfl rfl ?_
  refine wpL_done (fun W1 hW1 => ?_)
  refine (show Code.wp _ _ _ _ _ from ?_)
  refine wp_seq ?_
  refine wp_region_L (W0 := w) [(g2, .cells (tkC (y.re q d)).toArray 88 (0, 0)), (g1, .cells (tkC y).toArray 88 (0, 0))] (hW1) ?_
  refine lm (v := .pointer (some ⟨g1, 0, none⟩)) rfl rfl ?_
  refine lv (v := .int .i64 y.kilos) rfl rfl (yb_cell (off := 0) rfl (by kernel_rfl) (.tail _ (.head _)) Try.underlying3 rfl (by kernel_rfl)) ?_
  refine lm (v := .pointer (some ⟨g2, 0, none⟩)) rfl rfl ?_
  refine lv (v := .int .i64 ((y.re q d).kilos)) rfl rfl (yb_cell (off := 0) rfl (by kernel_rfl) (.head _) Try.underlying3 rfl (by kernel_rfl)) ?_
  refine lp (v := .bool (decide (y.kilos = ((y.re q d).kilos)))) rfl rfl (run_bin rfl (vx := (.int .i64 y.kilos)) (vy := (.int .i64 ((y.re q d).kilos))) (by kernel_rfl) (by kernel_rfl) fun w => bi_eql rfl w) ?_
  refine lm (v := .bool (decide (y.kilos = ((y.re q d).kilos)))) rfl rfl ?_
  cases hd1 : (decide (y.kilos = ((y.re q d).kilos))) with
  | false =>
    have h1 : ¬ (y.kilos = ((y.re q d).kilos)) := of_decide_eq_false hd1
    clear hd1
    exact absurd rfl h1
  | true =>
    have h1 : y.kilos = ((y.re q d).kilos) := of_decide_eq_true hd1
    clear hd1
    refine lm (v := .pointer (some ⟨g1, 1, none⟩)) rfl rfl ?_
    refine lv (v := .int .i64 y.x) rfl rfl (yb_cell (off := 1) rfl (by kernel_rfl) (.tail _ (.head _)) Try.underlying3 rfl (by kernel_rfl)) ?_
    refine lm (v := .pointer (some ⟨g2, 1, none⟩)) rfl rfl ?_
    refine lv (v := .int .i64 ((y.re q d).x)) rfl rfl (yb_cell (off := 1) rfl (by kernel_rfl) (.head _) Try.underlying3 rfl (by kernel_rfl)) ?_
    refine lp (v := .bool (decide (y.x = ((y.re q d).x)))) rfl rfl (run_bin rfl (vx := (.int .i64 y.x)) (vy := (.int .i64 ((y.re q d).x))) (by kernel_rfl) (by kernel_rfl) fun w => bi_eql rfl w) ?_
    refine lm (v := .bool (decide (y.x = ((y.re q d).x)))) rfl rfl ?_
    refine lm (v := .bool (decide (y.x = ((y.re q d).x)))) rfl rfl ?_
    cases hd2 : (decide (y.x = ((y.re q d).x))) with
    | false =>
      have h2 : ¬ (y.x = ((y.re q d).x)) := of_decide_eq_false hd2
      clear hd2
      exact absurd rfl h2
    | true =>
      have h2 : y.x = ((y.re q d).x) := of_decide_eq_true hd2
      clear hd2
      refine lm (v := .pointer (some ⟨g1, 2, none⟩)) rfl rfl ?_
      refine lv (v := .int .i64 y.y) rfl rfl (yb_cell (off := 2) rfl (by kernel_rfl) (.tail _ (.head _)) Try.underlying3 rfl (by kernel_rfl)) ?_
      refine lm (v := .pointer (some ⟨g2, 2, none⟩)) rfl rfl ?_
      refine lv (v := .int .i64 ((y.re q d).y)) rfl rfl (yb_cell (off := 2) rfl (by kernel_rfl) (.head _) Try.underlying3 rfl (by kernel_rfl)) ?_
      refine lp (v := .bool (decide (y.y = ((y.re q d).y)))) rfl rfl (run_bin rfl (vx := (.int .i64 y.y)) (vy := (.int .i64 ((y.re q d).y))) (by kernel_rfl) (by kernel_rfl) fun w => bi_eql rfl w) ?_
      refine lm (v := .bool (decide (y.y = ((y.re q d).y)))) rfl rfl ?_
      refine lm (v := .bool (decide (y.y = ((y.re q d).y)))) rfl rfl ?_
      cases hd3 : (decide (y.y = ((y.re q d).y))) with
      | false =>
        have h3 : ¬ (y.y = ((y.re q d).y)) := of_decide_eq_false hd3
        clear hd3
        exact absurd rfl h3
      | true =>
        have h3 : y.y = ((y.re q d).y) := of_decide_eq_true hd3
        clear hd3
        refine lm (v := .pointer (some ⟨g1, 3, none⟩)) rfl rfl ?_
        refine lv (v := .int .i64 y.z) rfl rfl (yb_cell (off := 3) rfl (by kernel_rfl) (.tail _ (.head _)) Try.underlying3 rfl (by kernel_rfl)) ?_
        refine lm (v := .pointer (some ⟨g2, 3, none⟩)) rfl rfl ?_
        refine lv (v := .int .i64 ((y.re q d).z)) rfl rfl (yb_cell (off := 3) rfl (by kernel_rfl) (.head _) Try.underlying3 rfl (by kernel_rfl)) ?_
        refine lp (v := .bool (decide (y.z = ((y.re q d).z)))) rfl rfl (run_bin rfl (vx := (.int .i64 y.z)) (vy := (.int .i64 ((y.re q d).z))) (by kernel_rfl) (by kernel_rfl) fun w => bi_eql rfl w) ?_
        refine lm (v := .bool (decide (y.z = ((y.re q d).z)))) rfl rfl ?_
        refine lm (v := .bool (decide (y.z = ((y.re q d).z)))) rfl rfl ?_
        cases hd4 : (decide (y.z = ((y.re q d).z))) with
        | false =>
          have h4 : ¬ (y.z = ((y.re q d).z)) := of_decide_eq_false hd4
          clear hd4
          exact absurd rfl h4
        | true =>
          have h4 : y.z = ((y.re q d).z) := of_decide_eq_true hd4
          clear hd4
          refine lm (v := .pointer (some ⟨g1, 4, none⟩)) rfl rfl ?_
          refine lv (v := .int .i64 y.surface) rfl rfl (yb_cell (off := 4) rfl (by kernel_rfl) (.tail _ (.head _)) Try.underlying3 rfl (by kernel_rfl)) ?_
          refine lm (v := .pointer (some ⟨g2, 4, none⟩)) rfl rfl ?_
          refine lv (v := .int .i64 ((y.re q d).surface)) rfl rfl (yb_cell (off := 4) rfl (by kernel_rfl) (.head _) Try.underlying3 rfl (by kernel_rfl)) ?_
          refine lp (v := .bool (decide (y.surface = ((y.re q d).surface)))) rfl rfl (run_bin rfl (vx := (.int .i64 y.surface)) (vy := (.int .i64 ((y.re q d).surface))) (by kernel_rfl) (by kernel_rfl) fun w => bi_eql rfl w) ?_
          refine lm (v := .bool (decide (y.surface = ((y.re q d).surface)))) rfl rfl ?_
          refine lm (v := .bool (decide (y.surface = ((y.re q d).surface)))) rfl rfl ?_
          cases hd5 : (decide (y.surface = ((y.re q d).surface))) with
          | false =>
            have h5 : ¬ (y.surface = ((y.re q d).surface)) := of_decide_eq_false hd5
            clear hd5
            exact absurd rfl h5
          | true =>
            have h5 : y.surface = ((y.re q d).surface) := of_decide_eq_true hd5
            clear hd5
            refine lm (v := .pointer (some ⟨g1, 5, none⟩)) rfl rfl ?_
            refine lv (v := .slice y.sp y.steps.length y.sc) rfl rfl (yb_cell (off := 5) rfl (by kernel_rfl) (.tail _ (.head _)) Try.underlying39 rfl (by kernel_rfl)) ?_
            refine lm (v := .pointer (some ⟨g2, 5, none⟩)) rfl rfl ?_
            refine lv (v := .slice ((y.re q d).sp) (((y.re q d).steps).length) ((y.re q d).sc)) rfl rfl (yb_cell (off := 5) rfl (by kernel_rfl) (.head _) Try.underlying39 rfl (by kernel_rfl)) ?_
            refine lv (v := .bool true) rfl rfl (yb_call (f := 16) (args := #[.slice y.sp y.steps.length y.sc, .slice ((y.re q d).sp) (((y.re q d).steps).length) ((y.re q d).sc)]) (fun _ => by kernel_rfl) fun W hW => SameIntsL_yes y.steps y.sp q y.sc d hl W ((RL.base HP.out) _ (hW.sub (fun _ h => by cases h))) ((RL.base HQ.out) _ (hW.sub (fun _ h => by cases h)))) ?_
            refine lm (v := .bool true) rfl rfl ?_
            refine lm (v := .bool true) rfl rfl ?_
            refine wpL_done (fun W2 hW2 => ?_)
            refine (show Code.wp _ _ _ _ _ from ?_)
            refine wp_ret ?_
            try simp only [inBlock_ret, then_ret]
            refine bodyPost_ret (v := .bool true) ?_ rfl ?_
            · kernel_rfl
            · exact ⟨rfl, hW2.1⟩
set_option maxRecDepth 100000 in
set_option maxHeartbeats 4000000 in
theorem KeptTank_any (y : Tk) (q : Option Addr) (d : Nat) (hl : y.steps.length ≤ 17592186044403) (hd : y.steps.length + 12 ≤ d) (w : World) (hp : SLV w y.sp (y.steps.flatMap inC)) (hq : SLV w q ((y.steps ++ mkL 12).flatMap inC)) : Calls Try.prog 78 #[.agg (tkC (y.re q d)).toArray, .agg (tkC y).toArray] w fun e w' => e = .returned (.bool true) ∧ Below w.heap.size w w' := by
  have HP := Lib.hid hp
  clear hp
  have HQ := Lib.hid hq
  clear hq
  go_enter Try.func78, Try.ntmps78
  refine wp_seq ?_
  refine wp_region_L (W0 := w) [] (KS.start w) ?_
  refine wpL_new (fun g => .pointer (some ⟨g, 0, none⟩)) (obi := .cells (tkC (y.re q d)).toArray 88 (0, 0)) rfl rfl (fun _ => by kernel_rfl) (fun _ => by simp only [List.setIfInBounds_toArray, List.set_cons_succ, List.set_cons_zero] <;> rfl) fun g1 Bg1 Fg1 => ?_
  refine wpL_new (fun g => .pointer (some ⟨g, 0, none⟩)) (obi := .cells (tkC y).toArray 88 (0, 0)) rfl rfl (fun _ => by kernel_rfl) (fun _ => by simp only [List.setIfInBounds_toArray, List.set_cons_succ, List.set_cons_zero] <;> rfl) fun g2 Bg2 Fg2 => ?_
  obtain dj3_0 : g1 ≠ g2 := by simpa only [dj_app_l, dj_app_r, dj_cons_l, dj_cons_r, dj_nil_l, dj_nil_r, dk_app, dk_cons, dk_nil, and_true, true_and, and_assoc] using (show Dk g2 [(g1, .cells (tkC (y.re q d)).toArray 88 (0, 0))] from Fg2)
  refine lm (v := .bool false) rfl rfl ?_
  refine wpL_done (fun W1 hW1 => ?_)
  refine (show Code.wp _ _ _ _ _ from ?_)
  refine wp_seq ?_
  refine wp_region_L (W0 := w) [(g2, .cells (tkC y).toArray 88 (0, 0)), (g1, .cells (tkC (y.re q d)).toArray 88 (0, 0))] (hW1) ?_
  refine lv (v := .agg (tkC (y.re q d)).toArray) rfl rfl (yb_load (n := 6) (off := 0) rfl (by kernel_rfl) (.tail _ (.head _)) Try.underlying88 rfl (by kernel_rfl) (by first | (simp [Value.cells]; done) | exact Nat.le_of_ble_eq_true rfl) (by kernel_rfl)) ?_
  refine lv (v := .agg (tkC y).toArray) rfl rfl (yb_load (n := 6) (off := 0) rfl (by kernel_rfl) (.head _) Try.underlying88 rfl (by kernel_rfl) (by first | (simp [Value.cells]; done) | exact Nat.le_of_ble_eq_true rfl) (by kernel_rfl)) ?_
  refine lv (v := .bool true) rfl rfl (yb_call (f := 79) (args := #[.agg (tkC (y.re q d)).toArray, .agg (tkC y).toArray]) (fun _ => by kernel_rfl) fun W hW => SameTank_any (y.re q d) y.sp y.sc (show y.steps.length ≤ 17592186044403 by omega) W (slv_pre0 (HQ.out.keep hW.1)) (HP.out.keep hW.1)) ?_
  refine lm (v := .bool true) rfl rfl ?_
  refine lm (v := .pointer (some ⟨g1, 5, none⟩)) rfl rfl ?_
  refine lv (v := .slice ((y.re q d).sp) (((y.re q d).steps).length) ((y.re q d).sc)) rfl rfl (yb_cell (off := 5) rfl (by kernel_rfl) (.tail _ (.head _)) Try.underlying39 rfl (by kernel_rfl)) ?_
  refine lm (v := .pointer (some ⟨g2, 5, none⟩)) rfl rfl ?_
  refine lv (v := .slice y.sp y.steps.length y.sc) rfl rfl (yb_cell (off := 5) rfl (by kernel_rfl) (.head _) Try.underlying39 rfl (by kernel_rfl)) ?_
  refine lv (v := .bool true) rfl rfl (yb_call (f := 85) (args := #[.slice ((y.re q d).sp) (((y.re q d).steps).length) ((y.re q d).sc), .slice y.sp y.steps.length y.sc]) (fun _ => by kernel_rfl) fun W hW => KeptIntsL_any y.steps q y.sp d y.sc hl hd W (HQ.out.keep hW.1) (HP.out.keep hW.1)) ?_
  refine lm (v := .bool true) rfl rfl ?_
  refine lm (v := .bool true) rfl rfl ?_
  refine wpL_done (fun W2 hW2 => ?_)
  refine (show Code.wp _ _ _ _ _ from ?_)
  refine wp_ret ?_
  try simp only [inBlock_ret, then_ret]
  refine bodyPost_ret (v := .bool true) ?_ rfl ?_
  · kernel_rfl
  · exact ⟨rfl, hW2.1⟩
set_option maxRecDepth 100000 in
set_option maxHeartbeats 4000000 in
theorem markTank_any (i : Nat) (hi : i ≤ 4000000000) (w : World) : Calls Try.prog 62 #[.int .i64 1, .int .i64 i] w fun e w' => e = .returned (.agg (tkC (mkTnk i)).toArray) ∧ Below w.heap.size w w' := by
  go_enter Try.func62, Try.ntmps62
  refine wp_seq ?_
  refine wp_region_L (W0 := w) [] (KS.start w) ?_
  refine wpL_new (fun g => .pointer (some ⟨g, 0, none⟩)) (obi := .cells #[.int .i64 0, .int .i64 0, .int .i64 0, .int .i64 0, .int .i64 0, .slice none 0 0] 88 (0, 0)) rfl rfl (fun _ => by kernel_rfl) (fun _ => by simp only [List.setIfInBounds_toArray, List.set_cons_succ, List.set_cons_zero] <;> rfl) fun g1 Bg1 Fg1 => ?_
  refine wpL_done (fun W1 hW1 => ?_)
  refine (show Code.wp _ _ _ _ _ from ?_)
  refine wp_seq ?_
  refine wp_region_L (W0 := w) [(g1, .cells #[.int .i64 0, .int .i64 0, .int .i64 0, .int .i64 0, .int .i64 0, .slice none 0 0] 88 (0, 0))] (hW1) ?_
  refine lm (v := .int .i64 1) rfl rfl ?_
  refine lm (v := .int .i64 ((i : Nat) : Int)) rfl rfl ?_
  refine lv (v := .int .i64 (mkI i)) rfl rfl (yb_call (f := 81) (args := #[.int .i64 1, .int .i64 ((i : Nat) : Int)]) (fun _ => by kernel_rfl) fun W hW => mark_any 1 ((i : Nat) : Int) (by omega) (by omega) W) ?_
  refine lm (v := .agg #[.int .i64 (mkI i), .int .i64 0, .int .i64 0, .int .i64 0, .int .i64 0, .slice none 0 0]) rfl rfl ?_
  refine wpL_s [(g1, .cells #[.int .i64 (mkI i), .int .i64 0, .int .i64 0, .int .i64 0, .int .i64 0, .slice none 0 0] 88 (0, 0))] rfl rfl (st_row (off := 0) (v := .agg #[.int .i64 (mkI i), .int .i64 0, .int .i64 0, .int .i64 0, .int .i64 0, .slice none 0 0]) rfl (by kernel_rfl) (by kernel_rfl) (.head _) Bg1 (by kernel_rfl) (by first | (simp [Value.cells]; done) | exact Nat.le_of_ble_eq_true rfl) (by intro v hv; simp [Value.cells] at hv; first | (subst hv; rfl) | (rcases hv with rfl | rfl | rfl | rfl | rfl | rfl <;> rfl)) (by kernel_rfl) (List.forall_mem_cons.2 ⟨.inl rfl, (List.forall_mem_nil _)⟩)) ?_
  refine wpL_done (fun W2 hW2 => ?_)
  refine (show Code.wp _ _ _ _ _ from ?_)
  refine wp_ret ?_
  try simp only [inBlock_ret, then_ret]
  refine bodyPost_ret (v := .agg #[.int .i64 (mkI i), .int .i64 0, .int .i64 0, .int .i64 0, .int .i64 0, .slice none 0 0]) ?_ rfl ?_
  · exact (res_cell (p := 4) rfl rfl (hW2.2 _ (.head _)) Try.underlying88 rfl (by kernel_rfl))
  · exact ⟨rfl, hW2.1⟩
set_option maxRecDepth 100000 in
set_option maxHeartbeats 4000000 in
theorem LentTank_any (y : Tk) (hl : y.steps.length ≤ 17592186044403) (w : World) (hp : SLV w y.sp (y.steps.flatMap inC)) : Calls Try.prog 61 #[.agg (tkC y).toArray] w fun e w' => ∃ q d, e = .returned (.agg (tkC (y.re q d)).toArray) ∧ y.steps.length + 12 ≤ d ∧ OutV w w' 3 1 (.slice q (y.steps ++ mkL 12).length d) (y.steps ++ mkL 12).length ((y.steps ++ mkL 12).flatMap inC) ∧ Below w.heap.size w w' := by
  have HP := Lib.hid hp
  clear hp
  have hlen : (y.steps ++ mkL 12).length = y.steps.length + 12 := by rw [List.length_append, mkL_len]
  go_enter Try.func61, Try.ntmps61
  refine wp_seq ?_
  refine wp_region_L (W0 := w) [] (KS.start w) ?_
  refine wpL_new (fun g => .pointer (some ⟨g, 0, none⟩)) (obi := .cells (tkC y).toArray 88 (0, 0)) rfl rfl (fun _ => by kernel_rfl) (fun _ => by simp only [List.setIfInBounds_toArray, List.set_cons_succ, List.set_cons_zero] <;> rfl) fun g1 Bg1 Fg1 => ?_
  refine wpL_new (fun g => .pointer (some ⟨g, 0, none⟩)) (obi := .cells #[.int .i64 0, .int .i64 0, .int .i64 0, .int .i64 0, .int .i64 0, .slice none 0 0] 88 (0, 0)) rfl rfl (fun _ => by kernel_rfl) (fun _ => by simp only [List.setIfInBounds_toArray, List.set_cons_succ, List.set_cons_zero] <;> rfl) fun g2 Bg2 Fg2 => ?_
  obtain dj3_0 : g1 ≠ g2 := by simpa only [dj_app_l, dj_app_r, dj_cons_l, dj_cons_r, dj_nil_l, dj_nil_r, dk_app, dk_cons, dk_nil, and_true, true_and, and_assoc] using (show Dk g2 [(g1, .cells (tkC y).toArray 88 (0, 0))] from Fg2)
  refine wpL_done (fun W1 hW1 => ?_)
  refine (show Code.wp _ _ _ _ _ from ?_)
  refine wp_seq ?_
  refine wp_region_L (W0 := w) [(g2, .cells #[.int .i64 0, .int .i64 0, .int .i64 0, .int .i64 0, .int .i64 0, .slice none 0 0] 88 (0, 0)), (g1, .cells (tkC y).toArray 88 (0, 0))] (hW1) ?_
  refine lm (v := .pointer (some ⟨g1, 5, none⟩)) rfl rfl ?_
  refine lv (v := .slice y.sp y.steps.length y.sc) rfl rfl (yb_cell (off := 5) rfl (by kernel_rfl) (.tail _ (.head _)) Try.underlying39 rfl (by kernel_rfl)) ?_
  refine wpL_c (f := 80) (args := #[.slice y.sp y.steps.length y.sc]) (LentRL w 3 1 y.steps.length (y.steps ++ mkL 12).length ((y.steps ++ mkL 12).flatMap inC) [(g2, .cells #[.int .i64 0, .int .i64 0, .int .i64 0, .int .i64 0, .int .i64 0, .slice none 0 0] 88 (0, 0)), (g1, .cells (tkC y).toArray 88 (0, 0))]) rfl (by kernel_rfl) (fun _ => (by kernel_rfl)) (fun W hW => calls_lent hW (((LentIntsL_any y.steps y.sp y.sc hl W (HP.out.keep hW.1)).mono fun _ _ ⟨q, d, h1, h2, h3⟩ => ⟨q, d, h1, by rw [hlen]; exact h2, h3⟩))) (fun _ => by simp only [List.setIfInBounds_toArray, List.set_cons_succ, List.set_cons_zero] <;> rfl) ?_
  rintro _ _ ⟨p4, c4, Kl4, rfl, n4, O4, N4, rfl⟩
  obtain ⟨dj5_0, dj5_1⟩ : Dk g2 Kl4 ∧ Dk g1 Kl4 := by simpa only [dj_app_l, dj_app_r, dj_cons_l, dj_cons_r, dj_nil_l, dj_nil_r, dk_app, dk_cons, dk_nil, and_true, true_and, and_assoc] using (show Dj [(g2, .cells #[.int .i64 0, .int .i64 0, .int .i64 0, .int .i64 0, .int .i64 0, .slice none 0 0] 88 (0, 0)), (g1, .cells (tkC y).toArray 88 (0, 0))] Kl4 from N4)
  refine lm (v := .pointer (some ⟨g1, 5, none⟩)) rfl rfl ?_
  refine wpL_s ((g2, .cells #[.int .i64 0, .int .i64 0, .int .i64 0, .int .i64 0, .int .i64 0, .slice none 0 0] 88 (0, 0)) :: (g1, .cells #[.int .i64 y.kilos, .int .i64 y.x, .int .i64 y.y, .int .i64 y.z, .int .i64 y.surface, .slice p4 y.steps.length c4] 88 (0, 0)) :: Kl4) rfl rfl (st_row (off := 5) (v := .slice p4 y.steps.length c4) rfl (by kernel_rfl) (by kernel_rfl) (.tail _ (.head _)) Bg1 (by kernel_rfl) (by first | (simp [Value.cells]; done) | exact Nat.le_of_ble_eq_true rfl) (by intro v hv; simp [Value.cells] at hv; first | (subst hv; rfl) | (rcases hv with rfl <;> rfl)) (by kernel_rfl) (List.forall_mem_cons.2 ⟨.inr ⟨(.head _), (by first | assumption | exact Ne.symm (by assumption))⟩, (List.forall_mem_cons.2 ⟨.inl rfl, (fun p hp => .inr ⟨(.tail _ (.tail _ hp)), ((show Dk g1 Kl4 from (by (try simp only [dj_app_l, dj_app_r, dj_cons_l, dj_cons_r, dj_nil_l, dj_nil_r, dk_app, dk_cons, dk_nil, and_true, true_and, and_assoc]); repeat' (first | trivial | assumption | exact Dj.symm (by assumption) | exact Ne.symm (by assumption) | apply And.intro))) _ hp)⟩)⟩)⟩)) ?_
  refine wpL_done (fun W2 hW2 => ?_)
  refine (show Code.wp _ _ _ _ _ from ?_)
  refine wp_seq ?_
  refine wp_region_L (W0 := w) ((g2, .cells #[.int .i64 0, .int .i64 0, .int .i64 0, .int .i64 0, .int .i64 0, .slice none 0 0] 88 (0, 0)) :: (g1, .cells #[.int .i64 y.kilos, .int .i64 y.x, .int .i64 y.y, .int .i64 y.z, .int .i64 y.surface, .slice p4 y.steps.length c4] 88 (0, 0)) :: Kl4) (hW2) ?_
  refine lv (v := .agg #[.int .i64 y.kilos, .int .i64 y.x, .int .i64 y.y, .int .i64 y.z, .int .i64 y.surface, .slice p4 y.steps.length c4]) rfl rfl (yb_load (n := 6) (off := 0) rfl (by kernel_rfl) (.tail _ (.head _)) Try.underlying88 rfl (by kernel_rfl) (by first | (simp [Value.cells]; done) | exact Nat.le_of_ble_eq_true rfl) (by kernel_rfl)) ?_
  refine wpL_s ((g2, .cells #[.int .i64 y.kilos, .int .i64 y.x, .int .i64 y.y, .int .i64 y.z, .int .i64 y.surface, .slice p4 y.steps.length c4] 88 (0, 0)) :: (g1, .cells #[.int .i64 y.kilos, .int .i64 y.x, .int .i64 y.y, .int .i64 y.z, .int .i64 y.surface, .slice p4 y.steps.length c4] 88 (0, 0)) :: Kl4) rfl rfl (st_row (off := 0) (v := .agg #[.int .i64 y.kilos, .int .i64 y.x, .int .i64 y.y, .int .i64 y.z, .int .i64 y.surface, .slice p4 y.steps.length c4]) rfl (by kernel_rfl) (by kernel_rfl) (.head _) Bg2 (by kernel_rfl) (by first | (simp [Value.cells]; done) | exact Nat.le_of_ble_eq_true rfl) (by intro v hv; simp [Value.cells] at hv; first | (subst hv; rfl) | (rcases hv with rfl | rfl | rfl | rfl | rfl | rfl <;> rfl)) (by kernel_rfl) (List.forall_mem_cons.2 ⟨.inl rfl, (List.forall_mem_cons.2 ⟨.inr ⟨(.tail _ (.head _)), (by first | assumption | exact Ne.symm (by assumption))⟩, (fun p hp => .inr ⟨(.tail _ (.tail _ hp)), ((show Dk g2 Kl4 from (by (try simp only [dj_app_l, dj_app_r, dj_cons_l, dj_cons_r, dj_nil_l, dj_nil_r, dk_app, dk_cons, dk_nil, and_true, true_and, and_assoc]); repeat' (first | trivial | assumption | exact Dj.symm (by assumption) | exact Ne.symm (by assumption) | apply And.intro))) _ hp)⟩)⟩)⟩)) ?_
  refine wpL_done (fun W3 hW3 => ?_)
  refine (show Code.wp _ _ _ _ _ from ?_)
  refine wp_ret ?_
  try simp only [inBlock_ret, then_ret]
  refine bodyPost_ret (v := .agg #[.int .i64 y.kilos, .int .i64 y.x, .int .i64 y.y, .int .i64 y.z, .int .i64 y.surface, .slice p4 y.steps.length c4]) ?_ rfl ?_
  · exact (res_cell (p := 2) rfl rfl (hW3.2 _ (.head _)) Try.underlying88 rfl (by kernel_rfl))
  · exact ⟨p4, c4, rfl, by omega, O4.out (fun p hp => by simp only [List.mem_cons, List.mem_append, List.nil_append, List.not_mem_nil, or_assoc, or_false, false_or, hp, true_or, or_true]) hW3, hW3.1⟩
theorem sw_SameTank (y : Tk) (q : Option Addr) (d : Nat) (hl : y.steps.length ≤ 17592186044403) (w : World) (hp : SLV w y.sp (y.steps.flatMap inC)) (hq : SLV w q (y.steps.flatMap inC)) : Calls Try.prog 79 #[.agg (tkC (y.re q d)).toArray, .agg (tkC y).toArray] w fun e w' => e = .returned (.bool true) ∧ Below w.heap.size w w' := SameTank_any (y.re q d) y.sp y.sc hl w hq hp
set_option maxRecDepth 100000 in
set_option maxHeartbeats 4000000 in
theorem LentTanks_any (l : List Tk) (p : Option Addr) (c : Nat) (hl : l.length ≤ 2199023255488) (lr : ∀ o ∈ l, o.steps.length ≤ 17592186044403) (w : World) (hp : SLV w p (l.flatMap tkC)) (hr : StR w l) : Calls Try.prog 32 #[.slice p l.length c] w fun e w' => ∃ X q d T, e = .returned (.slice q l.length d) ∧ l.length + 12 ≤ d ∧ X.length = l.length ∧ LentT l X T ∧ HL tkC q (X ++ mkTnkL 12) T ∧ (∀ b ∈ T, w.heap.size ≤ b.1) ∧ KS (w : Base) T w' := by
  have HP := Lib.hid hp
  clear hp
  have HR := Lib.hid hr
  clear hr
  go_enter Try.func32, Try.ntmps32
  refine wp_seq ?_
  refine wp_region_L (W0 := w) [] (KS.start w) ?_
  refine lm (v := .slice none 0 0) rfl rfl ?_
  refine wpL_done (fun W1 hW1 => ?_)
  refine (show Code.wp _ _ _ _ _ from ?_)
  refine wp_seq ?_
  refine wp_region_L (W0 := w) [] (hW1) ?_
  refine lm (v := .slice p l.length c) rfl rfl ?_
  refine lp (v := .int .i64 ((l.length : Nat) : Int)) rfl rfl (run_lenL (p := p) (cap := c) (n := l.length) rfl Try.underlying28 (by kernel_rfl)) ?_
  refine lp (v := .int .i64 (((l.length + 12) : Nat) : Int)) rfl rfl (run_bin rfl (vx := (.int .i64 ((l.length : Nat) : Int))) (vy := (.int .i64 ((12 : Nat) : Int))) (by kernel_rfl) (by kernel_rfl) fun w => bn_add (z := (l.length + 12)) rfl (wr_i64 (by omega)) w) ?_
  refine wpL_new (fun g => .slice (some ⟨g, 0, none⟩) 0 (l.length + 12)) (obi := .cells (madeCells (Value.cells (.agg #[.int .i64 0, .int .i64 0, .int .i64 0, .int .i64 0, .int .i64 0, .slice none 0 0])) ((l.length + 12) * 6)) 88 (0, 0)) rfl rfl (run_mk0L (c := (l.length + 12)) (z := (.agg #[.int .i64 0, .int .i64 0, .int .i64 0, .int .i64 0, .int .i64 0, .slice none 0 0])) (sz := 6) (b := 64) rfl Try.underlying28 (by kernel_rfl) (by decide) (by kernel_rfl) (by kernel_rfl) (by omega)) (fun _ => by simp only [List.setIfInBounds_toArray, List.set_cons_succ, List.set_cons_zero] <;> rfl) fun g1 Bg1 Fg1 => ?_
  refine lm (v := .slice (some ⟨g1, 0, none⟩) 0 (l.length + 12)) rfl rfl ?_
  refine wpL_done (fun W2 hW2 => ?_)
  refine (show Code.wp _ _ _ _ _ from ?_)
  refine wp_seq ?_
  refine wp_seq ?_
  refine wp_region_L (W0 := w) [(g1, .cells (madeCells (Value.cells (.agg #[.int .i64 0, .int .i64 0, .int .i64 0, .int .i64 0, .int .i64 0, .slice none 0 0])) ((l.length + 12) * 6)) 88 (0, 0))] (hW2) ?_
  refine lm (v := .int .i64 0) rfl rfl ?_
  refine wpL_done (fun W3 hW3 => ?_)
  refine (show Code.wp _ _ _ _ _ from ?_)
  refine wp_block ?_
  have Om := (own_madeL (cells := tkC) (c := (l.length + 12)) (E := 88) (z := (.agg #[.int .i64 0, .int .i64 0, .int .i64 0, .int .i64 0, .int .i64 0, .slice none 0 0])) Bg1 rfl (by omega))
  go_loopw [4, 3] (fun u4 u3 wr => ∃ (i : Nat) (X : List Tk) (vo : Value) (Ko T : List (Nat × Obj)), (i ≤ l.length) ∧ (X.length = i) ∧ (OwnL w 88 6 vo X.length (X.flatMap tkC) Ko) ∧ (LentT l X T) ∧ (∀ b ∈ T, w.heap.size ≤ b.1) ∧ (Dj Ko T) ∧ u4 = .int .i64 ((i : Nat) : Int) ∧ vo = u3 ∧ KS w (Ko ++ T) wr) (fun u4 _ _ => l.length - (intOf u4).toNat)
  case atStart => exact ⟨0, [], .slice (some ⟨g1, 0, none⟩) 0 (l.length + 12), [(g1, .cells (madeCells (Value.cells (.agg #[.int .i64 0, .int .i64 0, .int .i64 0, .int .i64 0, .int .i64 0, .slice none 0 0])) ((l.length + 12) * 6)) 88 (0, 0))], [], (Nat.zero_le _), rfl, Om, (LentT.nil l), (fun _ h => by cases h), (show Dj [(g1, .cells (madeCells (Value.cells (.agg #[.int .i64 0, .int .i64 0, .int .i64 0, .int .i64 0, .int .i64 0, .slice none 0 0])) ((l.length + 12) * 6)) 88 (0, 0))] [] from (by (try simp only [dj_app_l, dj_app_r, dj_cons_l, dj_cons_r, dj_nil_l, dj_nil_r, dk_app, dk_cons, dk_nil, and_true, true_and, and_assoc]); repeat' (first | trivial | assumption | exact Dj.symm (by assumption) | exact Ne.symm (by assumption) | apply And.intro))), rfl, rfl, (hW3.sub (fun p hp => by first | exact hp | (simp only [List.mem_cons, List.mem_append, List.nil_append, List.not_mem_nil, or_assoc, or_false, false_or] at hp ⊢ <;> grind)))⟩
  case round =>
    obtain ⟨i, X, vo, Ko, T, hi, hXl, hO, hX, hT, dh2_0, rfl, rfl, hL4⟩ := hrel
    refine wp_seq ?_
    refine wp_seq ?_
    refine wp_region_L (W0 := w) (Ko ++ T) (hL4) ?_
    refine lm (v := .int .i64 ((i : Nat) : Int)) rfl rfl ?_
    refine lm (v := .slice p l.length c) rfl rfl ?_
    refine lp (v := .int .i64 ((l.length : Nat) : Int)) rfl rfl (run_lenL (p := p) (cap := c) (n := l.length) rfl Try.underlying28 (by kernel_rfl)) ?_
    refine lp (v := .bool (decide (i < l.length))) rfl rfl (run_bin rfl (vx := (.int .i64 ((i : Nat) : Int))) (vy := (.int .i64 ((l.length : Nat) : Int))) (by kernel_rfl) (by kernel_rfl) fun w => bn_lss rfl w) ?_
    refine wpL_done (fun W5 hW5 => ?_)
    refine (show Code.wp _ _ _ _ _ from ?_)
    cases hd1 : (decide (i < l.length)) with
    | false =>
      have h1 : ¬ (i < l.length) := of_decide_eq_false hd1
      clear hd1
      refine wp_cond_false rfl ?_
      refine wp_exit ?_
      refine (show Code.wp _ _ _ _ _ from ?_)
      refine wp_seq ?_
      refine wp_seq ?_
      refine wp_region_L (W0 := w) (Ko ++ T) (hW5) ?_
      refine lm (v := .int .i64 0) rfl rfl ?_
      refine wpL_done (fun W6 hW6 => ?_)
      refine (show Code.wp _ _ _ _ _ from ?_)
      refine wp_block ?_
      have hXl2 : X.length = l.length := by have := h1; omega
      go_loopw [6, 3] (fun u6 u3 wr => ∃ (j : Nat) (v2 : Value) (K2 : List (Nat × Obj)), (j ≤ 12) ∧ (OwnL w 88 6 v2 (X ++ mkTnkL j).length ((X ++ mkTnkL j).flatMap tkC) K2) ∧ (Dj T K2) ∧ u6 = .int .i64 ((j : Nat) : Int) ∧ v2 = u3 ∧ KS w (T ++ K2) wr) (fun u6 _ _ => 12 - (intOf u6).toNat)
      case atStart => exact ⟨0, vo, Ko, (Nat.zero_le _), (by rw [show X ++ mkTnkL 0 = X from by simp [mkTnkL]]; exact hO), (show Dj T Ko from (by (try simp only [dj_app_l, dj_app_r, dj_cons_l, dj_cons_r, dj_nil_l, dj_nil_r, dk_app, dk_cons, dk_nil, and_true, true_and, and_assoc]); repeat' (first | trivial | assumption | exact Dj.symm (by assumption) | exact Ne.symm (by assumption) | apply And.intro))), rfl, rfl, (hW6.sub (fun p hp => by first | exact hp | (simp only [List.mem_cons, List.mem_append, List.nil_append, List.not_mem_nil, or_assoc, or_false, false_or] at hp ⊢ <;> grind)))⟩
      case round =>
        obtain ⟨j, v2, K2, hj, hO2, dh3_0, rfl, rfl, hL7⟩ := hrel
        have hlj : (X ++ mkTnkL j).length = X.length + j := by rw [List.length_append, mkTnkL_len]
        refine wp_seq ?_
        refine wp_seq ?_
        refine wp_region_L (W0 := w) (T ++ K2) (hL7) ?_
        refine lm (v := .int .i64 ((j : Nat) : Int)) rfl rfl ?_
        refine lp (v := .bool (decide (j < 12))) rfl rfl (run_bin rfl (vx := (.int .i64 ((j : Nat) : Int))) (vy := (.int .i64 ((12 : Nat) : Int))) (by kernel_rfl) (by kernel_rfl) fun w => bn_lss rfl w) ?_
        refine wpL_done (fun W8 hW8 => ?_)
        refine (show Code.wp _ _ _ _ _ from ?_)
        cases hd2 : (decide (j < 12)) with
        | false =>
          have h2 : ¬ (j < 12) := of_decide_eq_false hd2
          clear hd2
          refine wp_cond_false rfl ?_
          refine wp_exit ?_
          refine (show Code.wp _ _ _ _ _ from ?_)
          refine wp_seq ?_
          refine wp_region_L (W0 := w) (T ++ K2) (hW8) ?_
          refine lm (v := v2) rfl rfl ?_
          refine lm (v := .slice p l.length c) rfl rfl ?_
          refine lp (v := .int .i64 ((l.length : Nat) : Int)) rfl rfl (run_lenL (p := p) (cap := c) (n := l.length) rfl Try.underlying28 (by kernel_rfl)) ?_
          have hj12 : j = 12 := by omega
          subst hj12
          obtain ⟨q9, d9, rfl, hd9, R9⟩ := own_rl hO2
          have hlen : (X ++ mkTnkL 12).length = l.length + 12 := by rw [List.length_append, mkTnkL_len, hXl2]
          refine lp (v := .slice q9 l.length d9) rfl rfl (run_slt (kd := .i64) (j := l.length) (n := (X ++ mkTnkL 12).length) (c := d9) (sz := 6) rfl Try.underlying28 (by kernel_rfl) (by kernel_rfl) (by kernel_rfl) (by omega)) ?_
          refine lm (v := .slice q9 l.length d9) rfl rfl ?_
          refine wpL_done (fun W9 hW9 => ?_)
          refine (show Code.wp _ _ _ _ _ from ?_)
          refine wp_ret ?_
          try simp only [inBlock_ret, then_ret]
          refine bodyPost_ret (v := .slice q9 l.length d9) ?_ rfl ?_
          · kernel_rfl
          · exact ⟨X, q9, d9, T ++ K2, rfl, by omega, hXl2, hX.mono (fun p hp => by simp only [List.mem_cons, List.mem_append, List.nil_append, List.not_mem_nil, or_assoc, or_false, false_or, hp, true_or, or_true]), (own_hl hO2).mono (fun p hp => by simp only [List.mem_cons, List.mem_append, List.nil_append, List.not_mem_nil, or_assoc, or_false, false_or, hp, true_or, or_true]), new_app hT (own_new hO2), hW9.sub (fun p hp => by simp only [List.mem_cons, List.mem_append, List.nil_append, List.not_mem_nil, or_assoc, or_false, false_or, hp, true_or, or_true])⟩
        | true =>
          have h2 : j < 12 := of_decide_eq_true hd2
          clear hd2
          refine wp_cond_true rfl ?_
          refine wp_skip ?_
          refine (show Code.wp _ _ _ _ _ from ?_)
          refine wp_seq ?_
          refine wp_block ?_
          refine wp_region_L (W0 := w) (T ++ K2) (hW8) ?_
          refine lm (v := v2) rfl rfl ?_
          refine lm (v := .int .i64 ((j : Nat) : Int)) rfl rfl ?_
          refine lv (v := .agg (tkC (mkTnk j)).toArray) rfl rfl (yb_call (f := 62) (args := #[.int .i64 1, .int .i64 ((j : Nat) : Int)]) (fun _ => by kernel_rfl) fun W hW => markTank_any j (by omega) W) ?_
          refine wpL_new (fun g => .slice (some ⟨g, 0, none⟩) 1 1) (obi := .cells (tkC (mkTnk j)).toArray 88 (0, 0)) rfl rfl (fun _ => by kernel_rfl) (fun _ => by simp only [List.setIfInBounds_toArray, List.set_cons_succ, List.set_cons_zero] <;> rfl) fun g4 Bg4 Fg4 => ?_
          obtain ⟨dj5_0, dj5_1⟩ : Dk g4 T ∧ Dk g4 K2 := by simpa only [dj_app_l, dj_app_r, dj_cons_l, dj_cons_r, dj_nil_l, dj_nil_r, dk_app, dk_cons, dk_nil, and_true, true_and, and_assoc] using (show Dk g4 (T ++ K2) from Fg4)
          refine wpL_g (AppO w 88 6 T (((X ++ mkTnkL j).length) + 1) (((X ++ mkTnkL j).flatMap tkC) ++ [.int .i64 ((mkTnk j).kilos), .int .i64 ((mkTnk j).x), .int .i64 ((mkTnk j).y), .int .i64 ((mkTnk j).z), .int .i64 ((mkTnk j).surface), .slice ((mkTnk j).sp) (((mkTnk j).steps).length) ((mkTnk j).sc)])) rfl rfl (app_ownL el_tnk (m := 1) (c := 1) (news := [.int .i64 ((mkTnk j).kilos), .int .i64 ((mkTnk j).x), .int .i64 ((mkTnk j).y), .int .i64 ((mkTnk j).z), .int .i64 ((mkTnk j).surface), .slice ((mkTnk j).sp) (((mkTnk j).steps).length) ((mkTnk j).sc)]) rfl (by kernel_rfl) (by kernel_rfl) (.head _) hO2 (fun p hp => by simp only [List.mem_cons, List.mem_append, List.nil_append, List.not_mem_nil, or_assoc, or_false, false_or, hp, or_true, true_or]) (fun p hp => ⟨by simp only [List.mem_cons, List.mem_append, List.nil_append, List.not_mem_nil, or_assoc, or_false, false_or] at hp ⊢ <;> grind, (show Dj T K2 from (by (try simp only [dj_app_l, dj_app_r, dj_cons_l, dj_cons_r, dj_nil_l, dj_nil_r, dk_app, dk_cons, dk_nil, and_true, true_and, and_assoc]); repeat' (first | trivial | assumption | exact Dj.symm (by assumption) | exact Ne.symm (by assumption) | apply And.intro))) p hp⟩) rfl (by simp [strV, Value.oneCell']) (by omega) (by omega) (by omega)) (fun _ => by simp only [List.setIfInBounds_toArray, List.set_cons_succ, List.set_cons_zero] <;> rfl) ?_
          rintro v6 K9 ⟨Kl6, O6, N6, rfl⟩
          obtain dj7_0 : Dj T Kl6 := by simpa only [dj_app_l, dj_app_r, dj_cons_l, dj_cons_r, dj_nil_l, dj_nil_r, dk_app, dk_cons, dk_nil, and_true, true_and, and_assoc] using (show Dj T Kl6 from N6)
          refine lm (v := v6) rfl rfl ?_
          refine wpL_done (fun W10 hW10 => ?_)
          refine (show Code.wp _ _ _ _ _ from ?_)
          refine wp_region_L (W0 := w) (T ++ Kl6) (hW10) ?_
          refine lm (v := .int .i64 ((j : Nat) : Int)) rfl rfl ?_
          refine lp (v := .int .i64 (((j + 1) : Nat) : Int)) rfl rfl (run_bin rfl (vx := (.int .i64 ((j : Nat) : Int))) (vy := (.int .i64 ((1 : Nat) : Int))) (by kernel_rfl) (by kernel_rfl) fun w => bn_add (z := (j + 1)) rfl (wr_i64 (by omega)) w) ?_
          refine lm (v := .int .i64 (((j + 1) : Nat) : Int)) rfl rfl ?_
          refine wpL_done (fun W11 hW11 => ?_)
          go_roundw
          case rel =>
            repeat apply Exists.intro
            exact ⟨⟨j + 1, v6, Kl6, (by omega), (own_app O6 (by rw [mkTnkL_s, ← List.append_assoc, List.flatMap_append (ys := [mkTnk j])]; rfl) (by rw [mkTnkL_s, ← List.append_assoc, List.length_append (bs := [mkTnk j])]; rfl)), (show Dj T Kl6 from (by (try simp only [dj_app_l, dj_app_r, dj_cons_l, dj_cons_r, dj_nil_l, dj_nil_r, dk_app, dk_cons, dk_nil, and_true, true_and, and_assoc]); repeat' (first | trivial | assumption | exact Dj.symm (by assumption) | exact Ne.symm (by assumption) | apply And.intro))), rfl, rfl, (hW11.sub (fun p hp => by first | exact hp | (simp only [List.mem_cons, List.mem_append, List.nil_append, List.not_mem_nil, or_assoc, or_false, false_or] at hp ⊢ <;> grind)))⟩, rfl⟩
          case measure => (show 12 - (intOf (.int .i64 (((j + 1) : Nat) : Int))).toNat < 12 - (intOf (.int .i64 ((j : Nat) : Int))).toNat); simp only [intOf]; omega
    | true =>
      have h1 : i < l.length := of_decide_eq_true hd1
      clear hd1
      refine wp_cond_true rfl ?_
      refine wp_skip ?_
      refine (show Code.wp _ _ _ _ _ from ?_)
      refine wp_seq ?_
      refine wp_block ?_
      refine wp_seq ?_
      refine wp_region_L (W0 := w) (Ko ++ T) (hW5) ?_
      refine lm (v := .slice p l.length c) rfl rfl ?_
      refine lm (v := .int .i64 ((i : Nat) : Int)) rfl rfl ?_
      obtain ⟨y8, g8_, f8_, hy8, hp8, hc8⟩ := RL.at (RL.base HP.out) tkC_len (by decide) (hW5.sub (fun _ h => by cases h)) (k := i) (by omega)
      refine lp (v := .pointer (some ⟨g8_, f8_ + i * 6, none⟩)) rfl rfl (run_idxQ (p := p) (cap := c) (n := l.length) (j := .i64) (k := i) (sz := 6) rfl Try.underlying28 (by kernel_rfl) (by kernel_rfl) hp8 (by kernel_rfl) (by omega)) ?_
      refine lv (v := .agg (tkC y8).toArray) rfl rfl (yb_rs (off := f8_ + i * 6) (cs := tkC y8) rfl (by kernel_rfl) (fun W hW => hc8 W (hW.sub (fun _ h => by cases h))) Try.underlying88 rfl (by kernel_rfl)) ?_
      refine wpL_c (f := 61) (args := #[.agg (tkC y8).toArray]) (LentFV w 3 1 (fun q d => .agg (tkC (y8.re q d)).toArray) (y8.steps.length + 12) (y8.steps ++ mkL 12).length ((y8.steps ++ mkL 12).flatMap inC) (Ko ++ T)) rfl (by kernel_rfl) (fun _ => (by kernel_rfl)) (fun W hW => calls_lentf hW (LentTank_any y8 (lr y8 (List.mem_of_getElem? hy8)) W ((HR.out y8 (List.mem_of_getElem? hy8)).keep hW.1))) (fun _ => by simp only [List.setIfInBounds_toArray, List.set_cons_succ, List.set_cons_zero] <;> rfl) ?_
      rintro _ _ ⟨p9, c9, Kl9, rfl, n9, O9, N9, rfl⟩
      obtain ⟨dj10_0, dj10_1⟩ : Dj Ko Kl9 ∧ Dj T Kl9 := by simpa only [dj_app_l, dj_app_r, dj_cons_l, dj_cons_r, dj_nil_l, dj_nil_r, dk_app, dk_cons, dk_nil, and_true, true_and, and_assoc] using (show Dj (Ko ++ T) Kl9 from N9)
      refine wpL_sub (K2 := (Ko ++ (T ++ Kl9))) (fun p hp => by simp only [List.mem_cons, List.mem_append, or_assoc] at hp ⊢; exact hp) ?_
      refine wpL_new (fun g => .pointer (some ⟨g, 0, none⟩)) (obi := .cells #[.int .i64 0, .int .i64 0, .int .i64 0, .int .i64 0, .int .i64 0, .slice none 0 0] 88 (0, 0)) rfl rfl (fun _ => by kernel_rfl) (fun _ => by simp only [List.setIfInBounds_toArray, List.set_cons_succ, List.set_cons_zero] <;> rfl) fun g11 Bg11 Fg11 => ?_
      obtain ⟨dj12_0, dj12_1, dj12_2⟩ : Dk g11 Ko ∧ Dk g11 T ∧ Dk g11 Kl9 := by simpa only [dj_app_l, dj_app_r, dj_cons_l, dj_cons_r, dj_nil_l, dj_nil_r, dk_app, dk_cons, dk_nil, and_true, true_and, and_assoc] using (show Dk g11 (Ko ++ (T ++ Kl9)) from Fg11)
      refine wpL_s ((g11, .cells (tkC (y8.re p9 c9)).toArray 88 (0, 0)) :: (Ko ++ (T ++ Kl9))) rfl rfl (st_row (off := 0) (v := .agg (tkC (y8.re p9 c9)).toArray) rfl (by kernel_rfl) (by kernel_rfl) (.head _) Bg11 (by kernel_rfl) (by first | (simp [Value.cells]; done) | exact Nat.le_of_ble_eq_true rfl) (fun v hv => tkC_one (y8.re p9 c9) v hv) (by kernel_rfl) (List.forall_mem_cons.2 ⟨.inl rfl, (fun p hp => .inr ⟨(.tail _ hp), ((show Dk g11 (Ko ++ (T ++ Kl9)) from (by (try simp only [dj_app_l, dj_app_r, dj_cons_l, dj_cons_r, dj_nil_l, dj_nil_r, dk_app, dk_cons, dk_nil, and_true, true_and, and_assoc]); repeat' (first | trivial | assumption | exact Dj.symm (by assumption) | exact Ne.symm (by assumption) | apply And.intro))) _ hp)⟩)⟩)) ?_
      refine wpL_done (fun W12 hW12 => ?_)
      refine (show Code.wp _ _ _ _ _ from ?_)
      refine wp_region_L (W0 := w) ((g11, .cells (tkC (y8.re p9 c9)).toArray 88 (0, 0)) :: (Ko ++ (T ++ Kl9))) (hW12) ?_
      refine lm (v := vo) rfl rfl ?_
      refine lv (v := .agg (tkC (y8.re p9 c9)).toArray) rfl rfl (yb_load (n := 6) (off := 0) rfl (by kernel_rfl) (.head _) Try.underlying88 rfl (by kernel_rfl) (by first | (simp [Value.cells]; done) | exact Nat.le_of_ble_eq_true rfl) (by kernel_rfl)) ?_
      refine wpL_new (fun g => .slice (some ⟨g, 0, none⟩) 1 1) (obi := .cells (tkC (y8.re p9 c9)).toArray 88 (0, 0)) rfl rfl (fun _ => by kernel_rfl) (fun _ => by simp only [List.setIfInBounds_toArray, List.set_cons_succ, List.set_cons_zero] <;> rfl) fun g13 Bg13 Fg13 => ?_
      obtain ⟨dj14_0, dj14_1, dj14_2, dj14_3⟩ : g11 ≠ g13 ∧ Dk g13 Ko ∧ Dk g13 T ∧ Dk g13 Kl9 := by simpa only [dj_app_l, dj_app_r, dj_cons_l, dj_cons_r, dj_nil_l, dj_nil_r, dk_app, dk_cons, dk_nil, and_true, true_and, and_assoc] using (show Dk g13 ((g11, .cells (tkC (y8.re p9 c9)).toArray 88 (0, 0)) :: (Ko ++ (T ++ Kl9))) from Fg13)
      refine wpL_g (AppO w 88 6 ((g11, .cells (tkC (y8.re p9 c9)).toArray 88 (0, 0)) :: (T ++ Kl9)) (X.length + 1) ((X.flatMap tkC) ++ [.int .i64 ((y8.re p9 c9).kilos), .int .i64 ((y8.re p9 c9).x), .int .i64 ((y8.re p9 c9).y), .int .i64 ((y8.re p9 c9).z), .int .i64 ((y8.re p9 c9).surface), .slice ((y8.re p9 c9).sp) (((y8.re p9 c9).steps).length) ((y8.re p9 c9).sc)])) rfl rfl (app_ownL el_tnk (m := 1) (c := 1) (news := [.int .i64 ((y8.re p9 c9).kilos), .int .i64 ((y8.re p9 c9).x), .int .i64 ((y8.re p9 c9).y), .int .i64 ((y8.re p9 c9).z), .int .i64 ((y8.re p9 c9).surface), .slice ((y8.re p9 c9).sp) (((y8.re p9 c9).steps).length) ((y8.re p9 c9).sc)]) rfl (by kernel_rfl) (by kernel_rfl) (.head _) hO (fun p hp => by simp only [List.mem_cons, List.mem_append, List.nil_append, List.not_mem_nil, or_assoc, or_false, false_or, hp, or_true, true_or]) (fun p hp => ⟨by simp only [List.mem_cons, List.mem_append, List.nil_append, List.not_mem_nil, or_assoc, or_false, false_or] at hp ⊢ <;> grind, (show Dj ((g11, .cells (tkC (y8.re p9 c9)).toArray 88 (0, 0)) :: (T ++ Kl9)) Ko from (by (try simp only [dj_app_l, dj_app_r, dj_cons_l, dj_cons_r, dj_nil_l, dj_nil_r, dk_app, dk_cons, dk_nil, and_true, true_and, and_assoc]); repeat' (first | trivial | assumption | exact Dj.symm (by assumption) | exact Ne.symm (by assumption) | apply And.intro))) p hp⟩) rfl (by simp [strV, Value.oneCell']) (by omega) (by omega) (by omega)) (fun _ => by simp only [List.setIfInBounds_toArray, List.set_cons_succ, List.set_cons_zero] <;> rfl) ?_
      rintro v15 K9 ⟨Kl15, O15, N15, rfl⟩
      obtain ⟨dj16_0, dj16_1, dj16_2⟩ : Dk g11 Kl15 ∧ Dj T Kl15 ∧ Dj Kl9 Kl15 := by simpa only [dj_app_l, dj_app_r, dj_cons_l, dj_cons_r, dj_nil_l, dj_nil_r, dk_app, dk_cons, dk_nil, and_true, true_and, and_assoc] using (show Dj ((g11, .cells (tkC (y8.re p9 c9)).toArray 88 (0, 0)) :: (T ++ Kl9)) Kl15 from N15)
      refine lm (v := v15) rfl rfl ?_
      refine wpL_done (fun W13 hW13 => ?_)
      refine (show Code.wp _ _ _ _ _ from ?_)
      refine wp_region_L (W0 := w) ((g11, .cells (tkC (y8.re p9 c9)).toArray 88 (0, 0)) :: ((T ++ Kl9) ++ Kl15)) (hW13) ?_
      refine lm (v := .int .i64 ((i : Nat) : Int)) rfl rfl ?_
      refine lp (v := .int .i64 (((i + 1) : Nat) : Int)) rfl rfl (run_bin rfl (vx := (.int .i64 ((i : Nat) : Int))) (vy := (.int .i64 ((1 : Nat) : Int))) (by kernel_rfl) (by kernel_rfl) fun w => bn_add (z := (i + 1)) rfl (wr_i64 (by omega)) w) ?_
      refine lm (v := .int .i64 (((i + 1) : Nat) : Int)) rfl rfl ?_
      refine wpL_done (fun W14 hW14 => ?_)
      go_roundw
      case rel =>
        repeat apply Exists.intro
        exact ⟨⟨i + 1, (X ++ [y8.re p9 c9]), v15, Kl15, (T ++ Kl9), (by omega), (by rw [List.length_append, List.length_singleton]; omega), (own_app O15 (by rw [List.flatMap_append]; rfl) (by rw [List.length_append]; rfl)), (LentT.s hX hXl hy8 n9 (own_hl O9)), (new_app hT (own_new O9)), (show Dj Kl15 (T ++ Kl9) from (by (try simp only [dj_app_l, dj_app_r, dj_cons_l, dj_cons_r, dj_nil_l, dj_nil_r, dk_app, dk_cons, dk_nil, and_true, true_and, and_assoc]); repeat' (first | trivial | assumption | exact Dj.symm (by assumption) | exact Ne.symm (by assumption) | apply And.intro))), rfl, rfl, (hW14.sub (fun p hp => by first | exact hp | (simp only [List.mem_cons, List.mem_append, List.nil_append, List.not_mem_nil, or_assoc, or_false, false_or] at hp ⊢ <;> grind)))⟩, rfl⟩
      case measure => (show l.length - (intOf (.int .i64 (((i + 1) : Nat) : Int))).toNat < l.length - (intOf (.int .i64 ((i : Nat) : Int))).toNat); simp only [intOf]; omega
set_option maxRecDepth 100000 in
set_option maxHeartbeats 4000000 in
theorem KeptTanks_any (l X : List Tk) (p q : Option Addr) (c d : Nat) (hl : l.length ≤ 2199023255488) (lr : ∀ o ∈ l, o.steps.length ≤ 17592186044403) (hX : X.length = l.length) (hc : l.length + 12 ≤ c) (w : World) (hp : SLV w p ((X ++ mkTnkL 12).flatMap tkC)) (ha : LentTA w l X) (hq : SLV w q (l.flatMap tkC)) (hr : StR w l) : Calls Try.prog 50 #[.slice p l.length c, .slice q l.length d] w fun e w' => e = .returned (.bool true) ∧ Below w.heap.size w w' := by
  have HP := Lib.hid hp
  clear hp
  have HQ := Lib.hid hq
  clear hq
  have HA := Lib.hid ha
  clear ha
  have HR := Lib.hid hr
  clear hr
  have hlen : (X ++ mkTnkL 12).length = l.length + 12 := by rw [List.length_append, mkTnkL_len, hX]
  go_enter Try.func50, Try.ntmps50
  refine wp_seq ?_
  refine wp_region_L (W0 := w) [] (KS.start w) ?_
  refine lm (v := .bool false) rfl rfl ?_
  refine wpL_done (fun W1 hW1 => ?_)
  refine (show Code.wp _ _ _ _ _ from ?_)
  refine wp_seq ?_
  refine wp_seq ?_
  refine wp_region_L (W0 := w) [] (hW1) ?_
  refine lm (v := .slice p l.length c) rfl rfl ?_
  refine lp (v := .int .i64 ((l.length : Nat) : Int)) rfl rfl (run_lenL (p := p) (cap := c) (n := l.length) rfl Try.underlying28 (by kernel_rfl)) ?_
  refine lm (v := .slice q l.length d) rfl rfl ?_
  refine lp (v := .int .i64 ((l.length : Nat) : Int)) rfl rfl (run_lenL (p := q) (cap := d) (n := l.length) rfl Try.underlying28 (by kernel_rfl)) ?_
  refine lp (v := .bool false) rfl rfl (run_bin rfl (vx := (.int .i64 ((l.length : Nat) : Int))) (vy := (.int .i64 ((l.length : Nat) : Int))) (by kernel_rfl) (by kernel_rfl) fun w => bn_neq (decide_eq_true rfl) w) ?_
  refine wpL_done (fun W2 hW2 => ?_)
  refine (show Code.wp _ _ _ _ _ from ?_)
  refine wp_cond_false rfl ?_
  refine wp_skip ?_
  refine (show Code.wp _ _ _ _ _ from ?_)
  refine wp_seq ?_
  refine wp_region_L (W0 := w) [] (hW2) ?_
  refine lm (v := .slice p l.length c) rfl rfl ?_
  refine lm (v := .slice q l.length d) rfl rfl ?_
  refine lp (v := .int .i64 ((l.length : Nat) : Int)) rfl rfl (run_lenL (p := q) (cap := d) (n := l.length) rfl Try.underlying28 (by kernel_rfl)) ?_
  refine lp (v := .int .i64 (((l.length + 12) : Nat) : Int)) rfl rfl (run_bin rfl (vx := (.int .i64 ((l.length : Nat) : Int))) (vy := (.int .i64 ((12 : Nat) : Int))) (by kernel_rfl) (by kernel_rfl) fun w => bn_add (z := (l.length + 12)) rfl (wr_i64 (by omega)) w) ?_
  refine lp (v := .slice p (l.length + 12) c) rfl rfl (run_slt (kd := .i64) (j := (l.length + 12)) (n := l.length) (c := c) (sz := 6) rfl Try.underlying28 (by kernel_rfl) (by kernel_rfl) (by kernel_rfl) (by omega)) ?_
  refine lm (v := .slice p (l.length + 12) c) rfl rfl ?_
  refine wpL_done (fun W3 hW3 => ?_)
  refine (show Code.wp _ _ _ _ _ from ?_)
  refine wp_seq ?_
  refine wp_seq ?_
  refine wp_region_L (W0 := w) [] (hW3) ?_
  refine lm (v := .int .i64 0) rfl rfl ?_
  refine wpL_done (fun W4 hW4 => ?_)
  refine (show Code.wp _ _ _ _ _ from ?_)
  refine wp_block ?_
  go_loopw [6] (fun u6 wr => ∃ (i : Nat), (i ≤ l.length + 12) ∧ u6 = .int .i64 ((i : Nat) : Int) ∧ KS w [] wr) (fun u6 _ => l.length + 12 - (intOf u6).toNat)
  case atStart => exact ⟨0, (Nat.zero_le _), rfl, (hW4.sub (fun p hp => by first | exact hp | (simp only [List.mem_cons, List.mem_append, List.nil_append, List.not_mem_nil, or_assoc, or_false, false_or] at hp ⊢ <;> grind)))⟩
  case round =>
    obtain ⟨i, hi, rfl, hL5⟩ := hrel
    refine wp_seq ?_
    refine wp_seq ?_
    refine wp_region_L (W0 := w) [] (hL5) ?_
    refine lm (v := .int .i64 ((i : Nat) : Int)) rfl rfl ?_
    refine lm (v := .slice p (l.length + 12) c) rfl rfl ?_
    refine lp (v := .int .i64 (((l.length + 12) : Nat) : Int)) rfl rfl (run_lenL (p := p) (cap := c) (n := (l.length + 12)) rfl Try.underlying28 (by kernel_rfl)) ?_
    refine lp (v := .bool (decide (i < (l.length + 12)))) rfl rfl (run_bin rfl (vx := (.int .i64 ((i : Nat) : Int))) (vy := (.int .i64 (((l.length + 12) : Nat) : Int))) (by kernel_rfl) (by kernel_rfl) fun w => bn_lss rfl w) ?_
    refine wpL_done (fun W6 hW6 => ?_)
    refine (show Code.wp _ _ _ _ _ from ?_)
    cases hd1 : (decide (i < (l.length + 12))) with
    | false =>
      have h1 : ¬ (i < (l.length + 12)) := of_decide_eq_false hd1
      clear hd1
      refine wp_cond_false rfl ?_
      refine wp_exit ?_
      refine (show Code.wp _ _ _ _ _ from ?_)
      refine wp_seq ?_
      refine wp_region_L (W0 := w) [] (hW6) ?_
      refine lm (v := .bool true) rfl rfl ?_
      refine wpL_done (fun W7 hW7 => ?_)
      refine (show Code.wp _ _ _ _ _ from ?_)
      refine wp_ret ?_
      try simp only [inBlock_ret, then_ret]
      refine bodyPost_ret (v := .bool true) ?_ rfl ?_
      · kernel_rfl
      · exact ⟨rfl, hW7.1⟩
    | true =>
      have h1 : i < (l.length + 12) := of_decide_eq_true hd1
      clear hd1
      refine wp_cond_true rfl ?_
      refine wp_skip ?_
      refine (show Code.wp _ _ _ _ _ from ?_)
      refine wp_seq ?_
      refine wp_block ?_
      refine wp_seq ?_
      refine wp_region_V (W0 := w) [] (by kernel_rfl) (hW6) ?_
      refine vm (i := 0) (v := .int .i64 ((i : Nat) : Int)) rfl rfl rfl ?_
      refine vm (i := 1) (v := .slice q l.length d) rfl rfl rfl ?_
      refine vp (i := 2) (v := .int .i64 ((l.length : Nat) : Int)) rfl rfl rfl (run_lenL (p := q) (cap := d) (n := l.length) rfl Try.underlying28 (by kernel_rfl)) ?_
      refine vp (i := 3) (v := .bool (decide (i < l.length))) rfl rfl rfl (run_bin rfl (vx := (.int .i64 ((i : Nat) : Int))) (vy := (.int .i64 ((l.length : Nat) : Int))) (by kernel_rfl) (by kernel_rfl) fun w => bn_lss rfl w) ?_
      refine vm (i := 4) (v := .bool (decide (i < l.length))) rfl rfl rfl ?_
      cases hd2 : (decide (i < l.length)) with
      | false =>
        have h2 : ¬ (i < l.length) := of_decide_eq_false hd2
        clear hd2
        refine vn (i := 5) rfl rfl ?_
        refine vn (i := 6) rfl rfl ?_
        refine vn (i := 7) rfl rfl ?_
        refine vn (i := 8) rfl rfl ?_
        refine vn (i := 9) rfl rfl ?_
        refine vn (i := 10) rfl rfl ?_
        refine vn (i := 11) rfl rfl ?_
        refine vn (i := 12) rfl rfl ?_
        refine vn (i := 13) rfl rfl ?_
        refine vn (i := 14) rfl rfl ?_
        refine vm (i := 15) (v := .bool false) rfl rfl rfl ?_
        refine vm (i := 16) (v := .bool false) rfl rfl rfl ?_
        refine vm (i := 17) (v := .int .i64 ((i : Nat) : Int)) rfl rfl rfl ?_
        refine vm (i := 18) (v := .slice q l.length d) rfl rfl rfl ?_
        refine vp (i := 19) (v := .int .i64 ((l.length : Nat) : Int)) rfl rfl rfl (run_lenL (p := q) (cap := d) (n := l.length) rfl Try.underlying28 (by kernel_rfl)) ?_
        refine vp (i := 20) (v := .bool true) rfl rfl rfl (run_bin rfl (vx := (.int .i64 ((i : Nat) : Int))) (vy := (.int .i64 ((l.length : Nat) : Int))) (by kernel_rfl) (by kernel_rfl) fun w => bn_geq (decide_eq_false (by assumption)) w) ?_
        refine vm (i := 21) (v := .bool true) rfl rfl rfl ?_
        refine vm (i := 22) (v := .slice p (l.length + 12) c) rfl rfl rfl ?_
        refine vm (i := 23) (v := .int .i64 ((i : Nat) : Int)) rfl rfl rfl ?_
        obtain ⟨y1, g1_, f1_, hy1, hp1, hc1⟩ := RL.at (RL.base HP.out) tkC_len (by decide) (hW6.sub (fun _ h => by cases h)) (k := i) (by omega)
        refine vp (i := 24) (v := .pointer (some ⟨g1_, f1_ + i * 6, none⟩)) rfl rfl rfl (run_idxQ (p := p) (cap := c) (n := (l.length + 12)) (j := .i64) (k := i) (sz := 6) rfl Try.underlying28 (by kernel_rfl) (by kernel_rfl) hp1 (by kernel_rfl) (by omega)) ?_
        refine vb (i := 25) (v := .agg (tkC y1).toArray) rfl rfl rfl (yb_rs (off := f1_ + i * 6) (cs := tkC y1) rfl (by kernel_rfl) (fun W hW => hc1 W (hW.sub (fun _ h => by cases h))) Try.underlying88 rfl (by kernel_rfl)) ?_
        refine vm (i := 26) (v := .int .i64 ((i : Nat) : Int)) rfl rfl rfl ?_
        refine vm (i := 27) (v := .slice q l.length d) rfl rfl rfl ?_
        refine vp (i := 28) (v := .int .i64 ((l.length : Nat) : Int)) rfl rfl rfl (run_lenL (p := q) (cap := d) (n := l.length) rfl Try.underlying28 (by kernel_rfl)) ?_
        refine vp (i := 29) (v := .int .i64 (((i - l.length) : Nat) : Int)) rfl rfl rfl (run_bin rfl (vx := (.int .i64 ((i : Nat) : Int))) (vy := (.int .i64 ((l.length : Nat) : Int))) (by kernel_rfl) (by kernel_rfl) fun w => bn_sub (z := (i - l.length)) rfl (by omega) (wr_i64 (by omega)) w) ?_
        refine vv (i := 30) (v := .agg (tkC (mkTnk (i - l.length))).toArray) rfl rfl rfl (yb_call (f := 62) (args := #[.int .i64 1, .int .i64 (((i - l.length) : Nat) : Int)]) (fun _ => by kernel_rfl) fun W hW => markTank_any (i - l.length) (by omega) W) ?_
        refine vv (i := 31) (v := .bool true) rfl rfl rfl (yb_call (f := 79) (args := #[.agg (tkC y1).toArray, .agg (tkC (mkTnk (i - l.length))).toArray]) (fun _ => by kernel_rfl) fun W hW => (by rw [markTA_at hy1 hX h2]; exact SameTank_any (mkTnk (i - l.length)) none 0 (Nat.zero_le _) W (.inl rfl) (.inl rfl))) ?_
        refine vm (i := 32) (v := .bool false) rfl rfl rfl ?_
        refine vm (i := 33) (v := .bool false) rfl rfl rfl ?_
        refine vm (i := 34) (v := .bool false) rfl rfl rfl ?_
        refine wpV_done (by kernel_rfl) (fun W8 hW8 => ?_) _
        refine (show Code.wp _ _ _ _ _ from ?_)
        refine wp_cond_false rfl ?_
        refine wp_skip ?_
        refine (show Code.wp _ _ _ _ _ from ?_)
        refine wp_region_L (W0 := w) [] (hW8) ?_
        refine lm (v := .int .i64 ((i : Nat) : Int)) rfl rfl ?_
        refine lp (v := .int .i64 (((i + 1) : Nat) : Int)) rfl rfl (run_bin rfl (vx := (.int .i64 ((i : Nat) : Int))) (vy := (.int .i64 ((1 : Nat) : Int))) (by kernel_rfl) (by kernel_rfl) fun w => bn_add (z := (i + 1)) rfl (wr_i64 (by omega)) w) ?_
        refine lm (v := .int .i64 (((i + 1) : Nat) : Int)) rfl rfl ?_
        refine wpL_done (fun W9 hW9 => ?_)
        go_roundw
        case rel =>
          repeat apply Exists.intro
          exact ⟨⟨i + 1, (by omega), rfl, (hW9.sub (fun p hp => by first | exact hp | (simp only [List.mem_cons, List.mem_append, List.nil_append, List.not_mem_nil, or_assoc, or_false, false_or] at hp ⊢ <;> grind)))⟩, rfl⟩
        case measure => (show l.length + 12 - (intOf (.int .i64 (((i + 1) : Nat) : Int))).toNat < l.length + 12 - (intOf (.int .i64 ((i : Nat) : Int))).toNat); simp only [intOf]; omega
      | true =>
        have h2 : i < l.length := of_decide_eq_true hd2
        clear hd2
        refine vm (i := 5) (v := .slice p (l.length + 12) c) rfl rfl rfl ?_
        refine vm (i := 6) (v := .int .i64 ((i : Nat) : Int)) rfl rfl rfl ?_
        obtain ⟨y2, g2_, f2_, hy2, hp2, hc2⟩ := RL.at (RL.base HP.out) tkC_len (by decide) (hW6.sub (fun _ h => by cases h)) (k := i) (by omega)
        refine vp (i := 7) (v := .pointer (some ⟨g2_, f2_ + i * 6, none⟩)) rfl rfl rfl (run_idxQ (p := p) (cap := c) (n := (l.length + 12)) (j := .i64) (k := i) (sz := 6) rfl Try.underlying28 (by kernel_rfl) (by kernel_rfl) hp2 (by kernel_rfl) (by omega)) ?_
        refine vb (i := 8) (v := .agg (tkC y2).toArray) rfl rfl rfl (yb_rs (off := f2_ + i * 6) (cs := tkC y2) rfl (by kernel_rfl) (fun W hW => hc2 W (hW.sub (fun _ h => by cases h))) Try.underlying88 rfl (by kernel_rfl)) ?_
        refine vm (i := 9) (v := .slice q l.length d) rfl rfl rfl ?_
        refine vm (i := 10) (v := .int .i64 ((i : Nat) : Int)) rfl rfl rfl ?_
        obtain ⟨y3, g3_, f3_, hy3, hp3, hc3⟩ := RL.at (RL.base HQ.out) tkC_len (by decide) (hW6.sub (fun _ h => by cases h)) (k := i) (by omega)
        refine vp (i := 11) (v := .pointer (some ⟨g3_, f3_ + i * 6, none⟩)) rfl rfl rfl (run_idxQ (p := q) (cap := d) (n := l.length) (j := .i64) (k := i) (sz := 6) rfl Try.underlying28 (by kernel_rfl) (by kernel_rfl) hp3 (by kernel_rfl) (by omega)) ?_
        refine vb (i := 12) (v := .agg (tkC y3).toArray) rfl rfl rfl (yb_rs (off := f3_ + i * 6) (cs := tkC y3) rfl (by kernel_rfl) (fun W hW => hc3 W (hW.sub (fun _ h => by cases h))) Try.underlying88 rfl (by kernel_rfl)) ?_
        refine vv (i := 13) (v := .bool true) rfl rfl rfl (yb_call (f := 78) (args := #[.agg (tkC y2).toArray, .agg (tkC y3).toArray]) (fun _ => by kernel_rfl) fun W hW => (by obtain ⟨q7, d7, e7, n7, R7⟩ := lentTA_at HA.out hy2 hX hy3; rw [e7]; exact KeptTank_any y3 q7 d7 (lr y3 (List.mem_of_getElem? hy3)) n7 W ((HR.out y3 (List.mem_of_getElem? hy3)).keep hW.1) (R7.keep hW.1))) ?_
        refine vm (i := 14) (v := .bool false) rfl rfl rfl ?_
        refine vm (i := 15) (v := .bool false) rfl rfl rfl ?_
        refine vm (i := 16) (v := .bool false) rfl rfl rfl ?_
        refine vm (i := 17) (v := .int .i64 ((i : Nat) : Int)) rfl rfl rfl ?_
        refine vm (i := 18) (v := .slice q l.length d) rfl rfl rfl ?_
        refine vp (i := 19) (v := .int .i64 ((l.length : Nat) : Int)) rfl rfl rfl (run_lenL (p := q) (cap := d) (n := l.length) rfl Try.underlying28 (by kernel_rfl)) ?_
        refine vp (i := 20) (v := .bool false) rfl rfl rfl (run_bin rfl (vx := (.int .i64 ((i : Nat) : Int))) (vy := (.int .i64 ((l.length : Nat) : Int))) (by kernel_rfl) (by kernel_rfl) fun w => bn_geq (decide_eq_true (by assumption)) w) ?_
        refine vm (i := 21) (v := .bool false) rfl rfl rfl ?_
        refine vn (i := 22) rfl rfl ?_
        refine vn (i := 23) rfl rfl ?_
        refine vn (i := 24) rfl rfl ?_
        refine vn (i := 25) rfl rfl ?_
        refine vn (i := 26) rfl rfl ?_
        refine vn (i := 27) rfl rfl ?_
        refine vn (i := 28) rfl rfl ?_
        refine vn (i := 29) rfl rfl ?_
        refine vn (i := 30) rfl rfl ?_
        refine vn (i := 31) rfl rfl ?_
        refine vn (i := 32) rfl rfl ?_
        refine vm (i := 33) (v := .bool false) rfl rfl rfl ?_
        refine vm (i := 34) (v := .bool false) rfl rfl rfl ?_
        refine wpV_done (by kernel_rfl) (fun W10 hW10 => ?_) _
        refine (show Code.wp _ _ _ _ _ from ?_)
        refine wp_cond_false rfl ?_
        refine wp_skip ?_
        refine (show Code.wp _ _ _ _ _ from ?_)
        refine wp_region_L (W0 := w) [] (hW10) ?_
        refine lm (v := .int .i64 ((i : Nat) : Int)) rfl rfl ?_
        refine lp (v := .int .i64 (((i + 1) : Nat) : Int)) rfl rfl (run_bin rfl (vx := (.int .i64 ((i : Nat) : Int))) (vy := (.int .i64 ((1 : Nat) : Int))) (by kernel_rfl) (by kernel_rfl) fun w => bn_add (z := (i + 1)) rfl (wr_i64 (by omega)) w) ?_
        refine lm (v := .int .i64 (((i + 1) : Nat) : Int)) rfl rfl ?_
        refine wpL_done (fun W11 hW11 => ?_)
        go_roundw
        case rel =>
          repeat apply Exists.intro
          exact ⟨⟨i + 1, (by omega), rfl, (hW11.sub (fun p hp => by first | exact hp | (simp only [List.mem_cons, List.mem_append, List.nil_append, List.not_mem_nil, or_assoc, or_false, false_or] at hp ⊢ <;> grind)))⟩, rfl⟩
        case measure => (show l.length + 12 - (intOf (.int .i64 (((i + 1) : Nat) : Int))).toNat < l.length + 12 - (intOf (.int .i64 ((i : Nat) : Int))).toNat); simp only [intOf]; omega
set_option maxRecDepth 100000 in
set_option maxHeartbeats 4000000 in
theorem SameTanks_any (l X : List Tk) (p q : Option Addr) (c d : Nat) (hl : l.length ≤ 2199023255488) (lr : ∀ o ∈ l, o.steps.length ≤ 17592186044403) (hX : X.length = l.length) (w : World) (hp : SLV w p (X.flatMap tkC)) (ha : LentTA w l X) (hq : SLV w q (l.flatMap tkC)) (hr : StR w l) : Calls Try.prog 73 #[.slice p X.length c, .slice q l.length d] w fun e w' => e = .returned (.bool true) ∧ Below w.heap.size w w' := by
  have HP := Lib.hid hp
  clear hp
  have HQ := Lib.hid hq
  clear hq
  have HA := Lib.hid ha
  clear ha
  have HR := Lib.hid hr
  clear hr
  go_enter Try.func73, Try.ntmps73
  refine wp_seq ?_
  refine wp_region_L (W0 := w) [] (KS.start w) ?_
  refine lm (v := .bool false) rfl rfl ?_
  refine wpL_done (fun W1 hW1 => ?_)
  refine (show Code.wp _ _ _ _ _ from ?_)
  refine wp_seq ?_
  refine wp_seq ?_
  refine wp_region_L (W0 := w) [] (hW1) ?_
  refine lm (v := .slice p X.length c) rfl rfl ?_
  refine lp (v := .int .i64 ((X.length : Nat) : Int)) rfl rfl (run_lenL (p := p) (cap := c) (n := X.length) rfl Try.underlying28 (by kernel_rfl)) ?_
  refine lm (v := .slice q l.length d) rfl rfl ?_
  refine lp (v := .int .i64 ((l.length : Nat) : Int)) rfl rfl (run_lenL (p := q) (cap := d) (n := l.length) rfl Try.underlying28 (by kernel_rfl)) ?_
  refine lp (v := .bool (!(decide (X.length = l.length)))) rfl rfl (run_bin rfl (vx := (.int .i64 ((X.length : Nat) : Int))) (vy := (.int .i64 ((l.length : Nat) : Int))) (by kernel_rfl) (by kernel_rfl) fun w => bn_neq rfl w) ?_
  refine wpL_done (fun W2 hW2 => ?_)
  refine (show Code.wp _ _ _ _ _ from ?_)
  cases hd1 : (decide (X.length = l.length)) with
  | false =>
    have h1 : ¬ (X.length = l.length) := of_decide_eq_false hd1
    clear hd1
    exact absurd hX h1
  | true =>
    have h1 : X.length = l.length := of_decide_eq_true hd1
    clear hd1
    refine wp_cond_false rfl ?_
    refine wp_skip ?_
    refine (show Code.wp _ _ _ _ _ from ?_)
    refine wp_seq ?_
    refine wp_seq ?_
    refine wp_region_L (W0 := w) [] (hW2) ?_
    refine lm (v := .int .i64 0) rfl rfl ?_
    refine wpL_done (fun W3 hW3 => ?_)
    refine (show Code.wp _ _ _ _ _ from ?_)
    refine wp_block ?_
    go_loopw [5] (fun u5 wr => ∃ (i : Nat), (i ≤ l.length) ∧ u5 = .int .i64 ((i : Nat) : Int) ∧ KS w [] wr) (fun u5 _ => l.length - (intOf u5).toNat)
    case atStart => exact ⟨0, (Nat.zero_le _), rfl, (hW3.sub (fun p hp => by first | exact hp | (simp only [List.mem_cons, List.mem_append, List.nil_append, List.not_mem_nil, or_assoc, or_false, false_or] at hp ⊢ <;> grind)))⟩
    case round =>
      obtain ⟨i, hi, rfl, hL4⟩ := hrel
      refine wp_seq ?_
      refine wp_seq ?_
      refine wp_region_L (W0 := w) [] (hL4) ?_
      refine lm (v := .int .i64 ((i : Nat) : Int)) rfl rfl ?_
      refine lm (v := .slice p X.length c) rfl rfl ?_
      refine lp (v := .int .i64 ((X.length : Nat) : Int)) rfl rfl (run_lenL (p := p) (cap := c) (n := X.length) rfl Try.underlying28 (by kernel_rfl)) ?_
      refine lp (v := .bool (decide (i < X.length))) rfl rfl (run_bin rfl (vx := (.int .i64 ((i : Nat) : Int))) (vy := (.int .i64 ((X.length : Nat) : Int))) (by kernel_rfl) (by kernel_rfl) fun w => bn_lss rfl w) ?_
      refine wpL_done (fun W5 hW5 => ?_)
      refine (show Code.wp _ _ _ _ _ from ?_)
      cases hd2 : (decide (i < X.length)) with
      | false =>
        have h2 : ¬ (i < X.length) := of_decide_eq_false hd2
        clear hd2
        refine wp_cond_false rfl ?_
        refine wp_exit ?_
        refine (show Code.wp _ _ _ _ _ from ?_)
        refine wp_seq ?_
        refine wp_region_L (W0 := w) [] (hW5) ?_
        refine lm (v := .bool true) rfl rfl ?_
        refine wpL_done (fun W6 hW6 => ?_)
        refine (show Code.wp _ _ _ _ _ from ?_)
        refine wp_ret ?_
        try simp only [inBlock_ret, then_ret]
        refine bodyPost_ret (v := .bool true) ?_ rfl ?_
        · kernel_rfl
        · exact ⟨rfl, hW6.1⟩
      | true =>
        have h2 : i < X.length := of_decide_eq_true hd2
        clear hd2
        refine wp_cond_true rfl ?_
        refine wp_skip ?_
        refine (show Code.wp _ _ _ _ _ from ?_)
        refine wp_seq ?_
        refine wp_block ?_
        refine wp_seq ?_
        refine wp_region_V (W0 := w) [] (by kernel_rfl) (hW5) ?_
        refine vm (i := 0) (v := .slice p X.length c) rfl rfl rfl ?_
        refine vm (i := 1) (v := .int .i64 ((i : Nat) : Int)) rfl rfl rfl ?_
        obtain ⟨y1, g1_, f1_, hy1, hp1, hc1⟩ := RL.at (RL.base HP.out) tkC_len (by decide) (hW5.sub (fun _ h => by cases h)) (k := i) (by omega)
        refine vp (i := 2) (v := .pointer (some ⟨g1_, f1_ + i * 6, none⟩)) rfl rfl rfl (run_idxQ (p := p) (cap := c) (n := X.length) (j := .i64) (k := i) (sz := 6) rfl Try.underlying28 (by kernel_rfl) (by kernel_rfl) hp1 (by kernel_rfl) (by omega)) ?_
        refine vb (i := 3) (v := .agg (tkC y1).toArray) rfl rfl rfl (yb_rs (off := f1_ + i * 6) (cs := tkC y1) rfl (by kernel_rfl) (fun W hW => hc1 W (hW.sub (fun _ h => by cases h))) Try.underlying88 rfl (by kernel_rfl)) ?_
        refine vm (i := 4) (v := .slice q l.length d) rfl rfl rfl ?_
        refine vm (i := 5) (v := .int .i64 ((i : Nat) : Int)) rfl rfl rfl ?_
        obtain ⟨y2, g2_, f2_, hy2, hp2, hc2⟩ := RL.at (RL.base HQ.out) tkC_len (by decide) (hW5.sub (fun _ h => by cases h)) (k := i) (by omega)
        refine vp (i := 6) (v := .pointer (some ⟨g2_, f2_ + i * 6, none⟩)) rfl rfl rfl (run_idxQ (p := q) (cap := d) (n := l.length) (j := .i64) (k := i) (sz := 6) rfl Try.underlying28 (by kernel_rfl) (by kernel_rfl) hp2 (by kernel_rfl) (by omega)) ?_
        refine vb (i := 7) (v := .agg (tkC y2).toArray) rfl rfl rfl (yb_rs (off := f2_ + i * 6) (cs := tkC y2) rfl (by kernel_rfl) (fun W hW => hc2 W (hW.sub (fun _ h => by cases h))) Try.underlying88 rfl (by kernel_rfl)) ?_
        refine vv (i := 8) (v := .bool true) rfl rfl rfl (yb_call (f := 79) (args := #[.agg (tkC y1).toArray, .agg (tkC y2).toArray]) (fun _ => by kernel_rfl) fun W hW => (by obtain ⟨q7, d7, e7, R7⟩ := lentTA_pre HA.out hy1 hy2; rw [e7]; exact sw_SameTank y2 q7 d7 (by have := lr y2 (List.mem_of_getElem? hy2); omega) W ((HR.out y2 (List.mem_of_getElem? hy2)).keep hW.1) (R7.keep hW.1))) ?_
        refine vm (i := 9) (v := .bool false) rfl rfl rfl ?_
        refine wpV_done (by kernel_rfl) (fun W7 hW7 => ?_) _
        refine (show Code.wp _ _ _ _ _ from ?_)
        refine wp_cond_false rfl ?_
        refine wp_skip ?_
        refine (show Code.wp _ _ _ _ _ from ?_)
        refine wp_region_L (W0 := w) [] (hW7) ?_
        refine lm (v := .int .i64 ((i : Nat) : Int)) rfl rfl ?_
        refine lp (v := .int .i64 (((i + 1) : Nat) : Int)) rfl rfl (run_bin rfl (vx := (.int .i64 ((i : Nat) : Int))) (vy := (.int .i64 ((1 : Nat) : Int))) (by kernel_rfl) (by kernel_rfl) fun w => bn_add (z := (i + 1)) rfl (wr_i64 (by omega)) w) ?_
        refine lm (v := .int .i64 (((i + 1) : Nat) : Int)) rfl rfl ?_
        refine wpL_done (fun W8 hW8 => ?_)
        go_roundw
        case rel =>
          repeat apply Exists.intro
          exact ⟨⟨i + 1, (by omega), rfl, (hW8.sub (fun p hp => by first | exact hp | (simp only [List.mem_cons, List.mem_append, List.nil_append, List.not_mem_nil, or_assoc, or_false, false_or] at hp ⊢ <;> grind)))⟩, rfl⟩
        case measure => (show l.length - (intOf (.int .i64 (((i + 1) : Nat) : Int))).toNat < l.length - (intOf (.int .i64 ((i : Nat) : Int))).toNat); simp only [intOf]; omega
end Go.Proofs.Ythpooalhibedpaa
