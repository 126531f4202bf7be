import Derived.Test.YtjbbeolapaaiaaaDoorG04
import Derived.Test.YtjbbeolapaaiaaaDoorG05
/- BoxWrong: the law holds for every input; no condition but the row's own. -/
set_option linter.unusedVariables false
set_option linter.unusedSimpArgs false
set_option linter.unusedSectionVars false
namespace Go.Proofs.YtjbbeolapaaiaaaDoor
open Go Go.RowKit Tw
theorem run_min {P : Program} {o : Oper} {a : Act} {T : TypeId} {x y : Operand} {k : IntKind} {m n z : Int} (ho : o.op = .call { callee := .builtin .min, args := #[x, y], argTypes := #[T, T] }) (hx : a.eval x = .int k m) (hy : a.eval y = .int k n) (h : (if n < m then n else m) = z) (w : World) : (execOp a.eval o).run P w = .ok (.value (.int k z)) w := by
  subst h
  unfold execOp
  rw [ho]
  simp [resolve, invoke, builtin, Builtin.min_, Builtin.min2, hx, hy]
theorem run_max {P : Program} {o : Oper} {a : Act} {T : TypeId} {x y : Operand} {k : IntKind} {m n z : Int} (ho : o.op = .call { callee := .builtin .max, args := #[x, y], argTypes := #[T, T] }) (hx : a.eval x = .int k m) (hy : a.eval y = .int k n) (h : (if n > m then n else m) = z) (w : World) : (execOp a.eval o).run P w = .ok (.value (.int k z)) w := by
  subst h
  unfold execOp
  rw [ho]
  simp [resolve, invoke, builtin, Builtin.max_, Builtin.max2, hx, hy]
theorem min_ex (m n : Int) : ∃ z : Int, (if n < m then n else m) = z ∧ z ≤ m ∧ z ≤ n ∧ (z = m ∨ z = n) := ⟨_, rfl, by split <;> omega, by split <;> omega, by split <;> omega⟩
theorem max_ex (m n : Int) : ∃ z : Int, (if n > m then n else m) = z ∧ m ≤ z ∧ n ≤ z ∧ (z = m ∨ z = n) := ⟨_, rfl, by split <;> omega, by split <;> omega, by split <;> omega⟩
theorem min_nat (m n : Nat) : ∃ z : Nat, (if (n : Int) < (m : Int) then (n : Int) else (m : Int)) = (z : Int) ∧ z ≤ m ∧ z ≤ n ∧ (z = m ∨ z = n) := by
  rcases Nat.lt_or_ge n m with h | h
  · exact ⟨n, if_pos (by omega), by omega, by omega, .inr rfl⟩
  · exact ⟨m, if_neg (by omega), by omega, by omega, .inl rfl⟩
instance : DecidableEq Sm := fun a b => decidable_of_iff (a.n = b.n ∧ a.h = b.h ∧ a.k = b.k ∧ a.r = b.r ∧ a.d = b.d) (by cases a; cases b; simp)
theorem eql_sm {a b : Sm} {e : Bool} {px py : Operand} (h : decide (a = b) = e) (w : World) : (do eqGuard .eql 47 px py (smV a) (smV b); binOp .eql 47 (smV a) (smV b) : Sem Value).run Tryd.prog w = .ok (.bool e) w := by
  subst h
  obtain ⟨a1, a2, a3, a4, a5⟩ := a
  obtain ⟨b1, b2, b3, b4, b5⟩ := b
  unfold smV smC
  go_simp
  have e1 : ((a1 : Int) = (b1 : Int)) = (a1 = b1) := by apply propext; omega
  have e2 : ((a2 : Int) = (b2 : Int)) = (a2 = b2) := by apply propext; omega
  have e4 : ((a4 : Int) = (b4 : Int)) = (a4 = b4) := by apply propext; omega
  have e5 : ((a5 : Int) = (b5 : Int)) = (a5 = b5) := by apply propext; omega
  simp only [e1, e2, e4, e5, Sm.mk.injEq]
  by_cases h1 : a1 = b1 <;> by_cases h2 : a2 = b2 <;> by_cases h3 : a3 = b3 <;> by_cases h4 : a4 = b4 <;> by_cases h5 : a5 = b5 <;> simp [h1, h2, h3, h4, h5]
theorem neq_sm {a b : Sm} {e : Bool} {px py : Operand} (h : decide (a = b) = e) (w : World) : (do eqGuard .neq 47 px py (smV a) (smV b); binOp .neq 47 (smV a) (smV b) : Sem Value).run Tryd.prog w = .ok (.bool (!e)) w := by
  subst h
  obtain ⟨a1, a2, a3, a4, a5⟩ := a
  obtain ⟨b1, b2, b3, b4, b5⟩ := b
  unfold smV smC
  go_simp
  have e1 : ((a1 : Int) = (b1 : Int)) = (a1 = b1) := by apply propext; omega
  have e2 : ((a2 : Int) = (b2 : Int)) = (a2 = b2) := by apply propext; omega
  have e4 : ((a4 : Int) = (b4 : Int)) = (a4 = b4) := by apply propext; omega
  have e5 : ((a5 : Int) = (b5 : Int)) = (a5 = b5) := by apply propext; omega
  simp only [e1, e2, e4, e5, Sm.mk.injEq]
  by_cases h1 : a1 = b1 <;> by_cases h2 : a2 = b2 <;> by_cases h3 : a3 = b3 <;> by_cases h4 : a4 = b4 <;> by_cases h5 : a5 = b5 <;> simp [h1, h2, h3, h4, h5]
theorem valid_one {b : Bx} (h : rightX b = false) : validV [b] = .tuple #[.int .i64 0, .int .i64 60] := by
  unfold validV
  rw [if_neg (by simp), firstBad_some (k := 0) (by simp) (fun j hj => absurd hj (Nat.not_lt_zero _)) (bad_right rfl h)]
  rfl
theorem total_one {b : Bx} (h : rightX b = false) : totalX [b] = sm0 := add_wrong h
theorem made_size (n : Nat) (x : Sk) : (madeX n x).size = 20 ∨ (madeX n x).size = 40 := by
  unfold madeX
  dsimp only
  split
  · exact .inr rfl
  · exact .inl rfl
section
variable {b : Bx}
theorem wr1 (h : rul1 b = false) : rightX b = false := by unfold rightX; simp [h]
theorem wr2 (h : rul2 b = false) : rightX b = false := by unfold rightX; simp [h]
theorem wr3 (h : rul3 b = false) : rightX b = false := by unfold rightX; simp [h]
theorem wr4 (h : rul4 b = false) : rightX b = false := by unfold rightX; simp [h]
theorem wr5 (h : rul5 b = false) : rightX b = false := by unfold rightX; simp [h]
theorem wr6 (h : rulW 20 32000 b = false) : rightX b = false := by unfold rightX; simp [h]
theorem wr7 (h : rulW 40 40000 b = false) : rightX b = false := by unfold rightX; simp [h]
theorem wr8 (h : rul8 b = false) : rightX b = false := by unfold rightX; simp [h]
theorem wr10 (h : rul10 b = false) : rightX b = false := by unfold rightX; simp [h]
end
end Go.Proofs.YtjbbeolapaaiaaaDoor
namespace Go.Proofs.YtjbbeolapaaiaaaDoor
open Go Go.RowKit Tw
theorem made_calls (n : Nat) (x : Sk) : ∃ L D : Nat, (madeX n x).load = (L : Int) ∧ (madeX n x).dis = (D : Int) ∧ L < D ∧ D ≤ 19 := by
  refine ⟨x.load % 19, x.load % 19 + 1 + x.stay % (19 - x.load % 19), rfl, rfl, by omega, ?_⟩
  have := Nat.mod_lt x.stay (show 0 < 19 - x.load % 19 by omega)
  omega
set_option maxRecDepth 100000 in
set_option maxHeartbeats 40000000 in
theorem BoxStays_law (w : World) (hE : Env w) (x : Sk) (hx : skOk x) : Calls Tryd.prog 6 #[(.agg (skC x).toArray)] w fun e w' => e = .returned (.bool true) ∧ Below w.heap.size w w' := by
  have HE := Lib.hid hE
  clear hE
  obtain ⟨L, D, hL, hD, hLD, hD2⟩ := made_calls 0 x
  go_enter Tryd.func6, Tryd.ntmps6
  refine wp_seq ?_
  refine wp_region_L (W0 := w) [] (KS.start w) ?_
  refine wpL_new (fun g => .pointer (some ⟨g, 0, none⟩)) (obi := .cells (skC x).toArray 31 (0, 0)) rfl rfl (fun _ => by kernel_rfl) (fun _ => by simp only [List.setIfInBounds_toArray, List.set_cons_succ, List.set_cons_zero] <;> rfl) fun g1 Bg1 Fg1 => ?_
  refine lm (v := .bool false) rfl rfl ?_
  refine wpL_done (fun W1 hW1 => ?_)
  refine (show Code.wp _ _ _ _ _ from ?_)
  refine wp_seq ?_
  refine wp_region_L (W0 := w) [(g1, .cells (skC x).toArray 31 (0, 0))] (hW1) ?_
  refine lv (v := (.agg (skC x).toArray)) rfl rfl (yb_load (n := 6) (off := 0) rfl (by kernel_rfl) (.head _) Tryd.underlying31 rfl (by kernel_rfl) (by first | (simp; done) | exact Nat.le_of_ble_eq_true rfl) (by kernel_rfl)) ?_
  refine lv (v := bxV (madeX 0 x)) rfl rfl (yb_call (f := 17) (args := #[.int .i64 0, (.agg (skC x).toArray)]) (fun _ => by kernel_rfl) fun W hW => Made_any 0 x (by omega) hx W) ?_
  refine wpL_new (fun g => .pointer (some ⟨g, 0, none⟩)) (obi := .cells (bxC bx0) 26 (0, 0)) rfl rfl (fun _ => by kernel_rfl) (fun _ => by simp only [List.setIfInBounds_toArray, List.set_cons_succ, List.set_cons_zero] <;> rfl) fun g2 Bg2 Fg2 => ?_
  obtain dj3_0 : g1 ≠ g2 := by simpa only [dj_app_l, dj_app_r, dj_cons_l, dj_cons_r, dj_nil_l, dj_nil_r, dk_app, dk_cons, dk_nil, and_true, true_and, and_assoc] using (show Dk g2 [(g1, .cells (skC x).toArray 31 (0, 0))] from Fg2)
  refine wpL_s [(g2, .cells (bxC (madeX 0 x)) 26 (0, 0)), (g1, .cells (skC x).toArray 31 (0, 0))] rfl rfl (st_bx (b := (madeX 0 x)) rfl (by kernel_rfl) (by kernel_rfl) (.head _) rfl Bg2 (by kernel_rfl) (List.forall_mem_cons.2 ⟨.inl rfl, (List.forall_mem_cons.2 ⟨.inr ⟨(.tail _ (.head _)), (by first | assumption | exact Ne.symm (by assumption))⟩, (List.forall_mem_nil _)⟩)⟩)) ?_
  refine wpL_done (fun W2 hW2 => ?_)
  refine (show Code.wp _ _ _ _ _ from ?_)
  refine wp_seq ?_
  refine wp_region_L (W0 := w) [(g2, .cells (bxC (madeX 0 x)) 26 (0, 0)), (g1, .cells (skC x).toArray 31 (0, 0))] (hW2) ?_
  refine lm (v := .int .i64 0) rfl rfl ?_
  refine wpL_done (fun W3 hW3 => ?_)
  refine (show Code.wp _ _ _ _ _ from ?_)
  refine wp_seq ?_
  refine wp_seq ?_
  refine wp_region_L (W0 := w) [(g2, .cells (bxC (madeX 0 x)) 26 (0, 0)), (g1, .cells (skC x).toArray 31 (0, 0))] (hW3) ?_
  refine lm (v := .int .i64 (-2)) rfl rfl ?_
  refine wpL_done (fun W4 hW4 => ?_)
  refine (show Code.wp _ _ _ _ _ from ?_)
  refine wp_block ?_
  go_loopw [4, 5] (fun u4 u5 wr => ∃ (c n : Int), (-2 ≤ c ∧ c ≤ 25) ∧ ((c ≤ (L : Int) → n = 0) ∧ ((L : Int) ≤ c ∧ c ≤ (D : Int) → n = c - L) ∧ ((D : Int) ≤ c → n = (D : Int) - L)) ∧ u4 = .int .i64 n ∧ u5 = .int .i64 c ∧ KS w [(g2, .cells (bxC (madeX 0 x)) 26 (0, 0)), (g1, .cells (skC x).toArray 31 (0, 0))] wr) (fun _ u5 _ => (25 - intOf u5).toNat)
  case atStart => exact ⟨-2, 0, (by omega), (by omega), rfl, rfl, (hW4.sub (fun p hp => by first | exact hp | (simp only [List.mem_cons, List.mem_append, List.nil_append, List.not_mem_nil, or_assoc, or_false, false_or] at hp ⊢ <;> grind)))⟩
  case round =>
    obtain ⟨c, n, hc, hn, rfl, rfl, hL5⟩ := hrel
    refine wp_seq ?_
    refine wp_seq ?_
    refine wp_region_L (W0 := w) [(g2, .cells (bxC (madeX 0 x)) 26 (0, 0)), (g1, .cells (skC x).toArray 31 (0, 0))] (hL5) ?_
    refine lm (v := .int .i64 c) rfl rfl ?_
    refine lp (v := .bool (decide (c < 25))) rfl rfl (run_bin rfl (vx := (.int .i64 c)) (vy := (.int .i64 25)) (by kernel_rfl) (by kernel_rfl) fun w => bi_lss rfl w) ?_
    refine wpL_done (fun W6 hW6 => ?_)
    refine (show Code.wp _ _ _ _ _ from ?_)
    cases hd1 : (decide (c < 25)) with
    | false =>
      have h1 : ¬ (c < 25) := of_decide_eq_false hd1
      clear hd1
      refine wp_cond_false rfl ?_
      refine wp_exit ?_
      refine (show Code.wp _ _ _ _ _ from ?_)
      refine wp_seq ?_
      refine wp_region_L (W0 := w) [(g2, .cells (bxC (madeX 0 x)) 26 (0, 0)), (g1, .cells (skC x).toArray 31 (0, 0))] (hW6) ?_
      refine lm (v := .int .i64 n) rfl rfl ?_
      refine lm (v := .pointer (some ⟨g2, 6, none⟩)) rfl rfl ?_
      refine lv (v := .int .i64 ((madeX 0 x).dis)) rfl rfl (yb_cell (off := 6) rfl (by kernel_rfl) (.head _) Tryd.underlying3 rfl (by kernel_rfl)) ?_
      refine lm (v := .pointer (some ⟨g2, 5, none⟩)) rfl rfl ?_
      refine lv (v := .int .i64 ((madeX 0 x).load)) rfl rfl (yb_cell (off := 5) rfl (by kernel_rfl) (.head _) Tryd.underlying3 rfl (by kernel_rfl)) ?_
      refine lp (v := .int .i64 (((madeX 0 x).dis) - ((madeX 0 x).load))) rfl rfl (run_bin rfl (vx := (.int .i64 ((madeX 0 x).dis))) (vy := (.int .i64 ((madeX 0 x).load))) (by kernel_rfl) (by kernel_rfl) fun w => bi_sub (z := (((madeX 0 x).dis) - ((madeX 0 x).load))) rfl (wi_i64 (by omega)) w) ?_
      refine lp (v := .bool (decide (n = (((madeX 0 x).dis) - ((madeX 0 x).load))))) rfl rfl (run_bin rfl (vx := (.int .i64 n)) (vy := (.int .i64 (((madeX 0 x).dis) - ((madeX 0 x).load)))) (by kernel_rfl) (by kernel_rfl) fun w => bi_eql rfl w) ?_
      refine lm (v := .bool (decide (n = (((madeX 0 x).dis) - ((madeX 0 x).load))))) rfl rfl ?_
      cases hd2 : (decide (n = (((madeX 0 x).dis) - ((madeX 0 x).load)))) with
      | false =>
        have h2 : ¬ (n = (((madeX 0 x).dis) - ((madeX 0 x).load))) := of_decide_eq_false hd2
        clear hd2
        rw [hL, hD] at h2
        refine ln rfl ?_
        refine ln rfl ?_
        refine lm (v := .bool false) rfl rfl ?_
        refine lm (v := .bool false) rfl rfl ?_
        refine ln rfl ?_
        refine lm (v := .bool false) rfl rfl ?_
        refine lm (v := .bool false) rfl rfl ?_
        refine wpL_done (fun W7 hW7 => ?_)
        refine (show Code.wp _ _ _ _ _ from ?_)
        refine wp_ret ?_
        exfalso
        omega
      | true =>
        have h2 : n = (((madeX 0 x).dis) - ((madeX 0 x).load)) := of_decide_eq_true hd2
        clear hd2
        rw [hL, hD] at h2
        refine lm (v := .int .i64 n) rfl rfl ?_
        refine lp (v := .bool (decide (0 < n))) rfl rfl (run_bin rfl (vx := (.int .i64 n)) (vy := (.int .i64 0)) (by kernel_rfl) (by kernel_rfl) fun w => bi_gtr rfl w) ?_
        refine lm (v := .bool (decide (0 < n))) rfl rfl ?_
        refine lm (v := .bool (decide (0 < n))) rfl rfl ?_
        cases hd3 : (decide (0 < n)) with
        | false =>
          have h3 : ¬ (0 < n) := of_decide_eq_false hd3
          clear hd3
          refine ln rfl ?_
          refine lm (v := .bool false) rfl rfl ?_
          refine lm (v := .bool false) rfl rfl ?_
          refine wpL_done (fun W8 hW8 => ?_)
          refine (show Code.wp _ _ _ _ _ from ?_)
          refine wp_ret ?_
          exfalso
          omega
        | true =>
          have h3 : 0 < n := of_decide_eq_true hd3
          clear hd3
          refine lv (v := .bool true) rfl rfl (yb_call (f := 12) (args := #[]) (fun _ => by kernel_rfl) fun W hW => awake_any W (HE.out.keep hW.1)) ?_
          refine lm (v := .bool true) rfl rfl ?_
          refine lm (v := .bool true) rfl rfl ?_
          refine wpL_done (fun W9 hW9 => ?_)
          refine (show Code.wp _ _ _ _ _ from ?_)
          refine wp_ret ?_
          try simp only [inBlock_ret, then_ret]
          refine bodyPost_ret (v := .bool true) ?_ rfl ?_
          · kernel_rfl
          · exact ⟨rfl, hW9.1⟩
    | true =>
      have h1 : c < 25 := of_decide_eq_true hd1
      clear hd1
      refine wp_cond_true rfl ?_
      refine wp_skip ?_
      refine (show Code.wp _ _ _ _ _ from ?_)
      refine wp_seq ?_
      refine wp_block ?_
      refine wp_seq ?_
      refine wp_region_L (W0 := w) [(g2, .cells (bxC (madeX 0 x)) 26 (0, 0)), (g1, .cells (skC x).toArray 31 (0, 0))] (hW6) ?_
      refine lv (v := bxV (madeX 0 x)) rfl rfl (yb_load (n := 9) (off := 0) rfl (by kernel_rfl) (.head _) Tryd.underlying26 rfl (by kernel_rfl) (Nat.le_refl 9) (by kernel_rfl)) ?_
      refine lm (v := .int .i64 c) rfl rfl ?_
      refine lv (v := .bool (aboardX (madeX 0 x) c)) rfl rfl (yb_call (f := 23) (args := #[bxV (madeX 0 x), .int .i64 c]) (fun _ => by kernel_rfl) fun W hW => Aboard_any (madeX 0 x) c W) ?_
      refine wpL_done (fun W10 hW10 => ?_)
      refine (show Code.wp _ _ _ _ _ from ?_)
      cases h4 : (aboardX (madeX 0 x) c) with
      | false =>
        have ha : ¬ ((L : Int) ≤ c ∧ c < (D : Int)) := by rw [← hL, ← hD]; simpa [aboardX] using h4
        refine wp_cond_false rfl ?_
        refine wp_skip ?_
        refine (show Code.wp _ _ _ _ _ from ?_)
        refine wp_region_L (W0 := w) [(g2, .cells (bxC (madeX 0 x)) 26 (0, 0)), (g1, .cells (skC x).toArray 31 (0, 0))] (hW10) ?_
        refine lm (v := .int .i64 c) rfl rfl ?_
        refine lp (v := .int .i64 (c + 1)) rfl rfl (run_bin rfl (vx := (.int .i64 c)) (vy := (.int .i64 1)) (by kernel_rfl) (by kernel_rfl) fun w => bi_add (z := (c + 1)) rfl (wi_i64 (by omega)) w) ?_
        refine lm (v := .int .i64 (c + 1)) rfl rfl ?_
        refine wpL_done (fun W11 hW11 => ?_)
        go_roundw
        case rel =>
          repeat apply Exists.intro
          exact ⟨⟨c + 1, n, (by omega), (by omega), rfl, rfl, (hW11.sub (fun p hp => by first | exact hp | (simp only [List.mem_cons, List.mem_append, List.nil_append, List.not_mem_nil, or_assoc, or_false, false_or] at hp ⊢ <;> grind)))⟩, rfl⟩
        case measure => (show (25 - intOf (.int .i64 (c + 1))).toNat < (25 - intOf (.int .i64 c)).toNat); simp only [intOf]; omega
      | true =>
        have ha : ((L : Int) ≤ c ∧ c < (D : Int)) := by rw [← hL, ← hD]; simpa [aboardX] using h4
        refine wp_cond_true rfl ?_
        refine wp_seq ?_
        refine wp_region_L (W0 := w) [(g2, .cells (bxC (madeX 0 x)) 26 (0, 0)), (g1, .cells (skC x).toArray 31 (0, 0))] (hW10) ?_
        refine lm (v := .int .i64 n) rfl rfl ?_
        refine lp (v := .int .i64 (n + 1)) rfl rfl (run_bin rfl (vx := (.int .i64 n)) (vy := (.int .i64 1)) (by kernel_rfl) (by kernel_rfl) fun w => bi_add (z := (n + 1)) rfl (wi_i64 (by omega)) w) ?_
        refine lm (v := .int .i64 (n + 1)) rfl rfl ?_
        refine wpL_done (fun W12 hW12 => ?_)
        refine (show Code.wp _ _ _ _ _ from ?_)
        refine wp_seq ?_
        refine wp_region_L (W0 := w) [(g2, .cells (bxC (madeX 0 x)) 26 (0, 0)), (g1, .cells (skC x).toArray 31 (0, 0))] (hW12) ?_
        refine lm (v := .int .i64 c) rfl rfl ?_
        refine lm (v := .pointer (some ⟨g2, 5, none⟩)) rfl rfl ?_
        refine lv (v := .int .i64 ((madeX 0 x).load)) rfl rfl (yb_cell (off := 5) rfl (by kernel_rfl) (.head _) Tryd.underlying3 rfl (by kernel_rfl)) ?_
        refine lp (v := .bool (decide (c < ((madeX 0 x).load)))) rfl rfl (run_bin rfl (vx := (.int .i64 c)) (vy := (.int .i64 ((madeX 0 x).load))) (by kernel_rfl) (by kernel_rfl) fun w => bi_lss rfl w) ?_
        refine lm (v := .bool (decide (c < ((madeX 0 x).load)))) rfl rfl ?_
        cases hd5 : (decide (c < ((madeX 0 x).load))) with
        | false =>
          have h5 : ¬ (c < ((madeX 0 x).load)) := of_decide_eq_false hd5
          clear hd5
          rw [hL] at h5
          refine lm (v := .int .i64 c) rfl rfl ?_
          refine lm (v := .pointer (some ⟨g2, 6, none⟩)) rfl rfl ?_
          refine lv (v := .int .i64 ((madeX 0 x).dis)) rfl rfl (yb_cell (off := 6) rfl (by kernel_rfl) (.head _) Tryd.underlying3 rfl (by kernel_rfl)) ?_
          refine lp (v := .bool (!(decide (c < ((madeX 0 x).dis))))) rfl rfl (run_bin rfl (vx := (.int .i64 c)) (vy := (.int .i64 ((madeX 0 x).dis))) (by kernel_rfl) (by kernel_rfl) fun w => bi_geq rfl w) ?_
          refine lm (v := .bool (!(decide (c < ((madeX 0 x).dis))))) rfl rfl ?_
          refine wpL_done (fun W13 hW13 => ?_)
          refine (show Code.wp _ _ _ _ _ from ?_)
          cases hd6 : (decide (c < ((madeX 0 x).dis))) with
          | false =>
            have h6 : ¬ (c < ((madeX 0 x).dis)) := of_decide_eq_false hd6
            clear hd6
            rw [hD] at h6
            refine wp_cond_true rfl ?_
            refine wp_seq ?_
            refine wp_region_L (W0 := w) [(g2, .cells (bxC (madeX 0 x)) 26 (0, 0)), (g1, .cells (skC x).toArray 31 (0, 0))] (hW13) ?_
            refine lm (v := .bool false) rfl rfl ?_
            refine wpL_done (fun W14 hW14 => ?_)
            refine (show Code.wp _ _ _ _ _ from ?_)
            refine wp_ret ?_
            exfalso
            omega
          | true =>
            have h6 : c < ((madeX 0 x).dis) := of_decide_eq_true hd6
            clear hd6
            rw [hD] at h6
            refine wp_cond_false rfl ?_
            refine wp_skip ?_
            refine (show Code.wp _ _ _ _ _ from ?_)
            refine wp_region_L (W0 := w) [(g2, .cells (bxC (madeX 0 x)) 26 (0, 0)), (g1, .cells (skC x).toArray 31 (0, 0))] (hW13) ?_
            refine lm (v := .int .i64 c) rfl rfl ?_
            refine lp (v := .int .i64 (c + 1)) rfl rfl (run_bin rfl (vx := (.int .i64 c)) (vy := (.int .i64 1)) (by kernel_rfl) (by kernel_rfl) fun w => bi_add (z := (c + 1)) rfl (wi_i64 (by omega)) w) ?_
            refine lm (v := .int .i64 (c + 1)) rfl rfl ?_
            refine wpL_done (fun W15 hW15 => ?_)
            go_roundw
            case rel =>
              repeat apply Exists.intro
              exact ⟨⟨c + 1, (n + 1), (by omega), (by omega), rfl, rfl, (hW15.sub (fun p hp => by first | exact hp | (simp only [List.mem_cons, List.mem_append, List.nil_append, List.not_mem_nil, or_assoc, or_false, false_or] at hp ⊢ <;> grind)))⟩, rfl⟩
            case measure => (show (25 - intOf (.int .i64 (c + 1))).toNat < (25 - intOf (.int .i64 c)).toNat); simp only [intOf]; omega
        | true =>
          have h5 : c < ((madeX 0 x).load) := of_decide_eq_true hd5
          clear hd5
          rw [hL] at h5
          refine ln rfl ?_
          refine ln rfl ?_
          refine ln rfl ?_
          refine ln rfl ?_
          refine lm (v := .bool true) rfl rfl ?_
          refine wpL_done (fun W16 hW16 => ?_)
          refine (show Code.wp _ _ _ _ _ from ?_)
          refine wp_cond_true rfl ?_
          refine wp_seq ?_
          refine wp_region_L (W0 := w) [(g2, .cells (bxC (madeX 0 x)) 26 (0, 0)), (g1, .cells (skC x).toArray 31 (0, 0))] (hW16) ?_
          refine lm (v := .bool false) rfl rfl ?_
          refine wpL_done (fun W17 hW17 => ?_)
          refine (show Code.wp _ _ _ _ _ from ?_)
          refine wp_ret ?_
          exfalso
          omega
end Go.Proofs.YtjbbeolapaaiaaaDoor
namespace Go.Proofs.YtjbbeolapaaiaaaDoor
open Go Go.RowKit Tw
set_option maxRecDepth 100000 in
set_option maxHeartbeats 40000000 in
theorem BoxWrong_law (w : World) (hE : Env w) (x : Sk) (hx : skOk x) (a1 : Int) (rr1 : 0 ≤ a1 ∧ a1 ≤ 255) (n : Int) (rr2 : -9223372036854775808 ≤ n ∧ n ≤ 9223372036854775807) : Calls Tryd.prog 10 #[(.agg (skC x).toArray), .int .u8 a1, .int .i64 n] w fun e w' => e = .returned (.bool true) ∧ Below w.heap.size w w' := by
  have HE := Lib.hid hE
  clear hE
  obtain ⟨how, rfl⟩ : ∃ how : Nat, a1 = (how : Int) := ⟨a1.toNat, by omega⟩
  have hms := made_size 0 x
  obtain ⟨L, D, hL, hD, hLD, hD2⟩ := made_calls 0 x
  go_enter Tryd.func10, Tryd.ntmps10
  refine wp_seq ?_
  refine wp_region_L (W0 := w) [] (KS.start w) ?_
  refine wpL_new (fun g => .pointer (some ⟨g, 0, none⟩)) (obi := .cells (skC x).toArray 31 (0, 0)) rfl rfl (fun _ => by kernel_rfl) (fun _ => by simp only [List.setIfInBounds_toArray, List.set_cons_succ, List.set_cons_zero] <;> rfl) fun g1 Bg1 Fg1 => ?_
  refine lm (v := .bool false) rfl rfl ?_
  refine wpL_done (fun W1 hW1 => ?_)
  refine (show Code.wp _ _ _ _ _ from ?_)
  refine wp_seq ?_
  refine wp_region_L (W0 := w) [(g1, .cells (skC x).toArray 31 (0, 0))] (hW1) ?_
  refine lv (v := (.agg (skC x).toArray)) rfl rfl (yb_load (n := 6) (off := 0) rfl (by kernel_rfl) (.head _) Tryd.underlying31 rfl (by kernel_rfl) (by first | (simp; done) | exact Nat.le_of_ble_eq_true rfl) (by kernel_rfl)) ?_
  refine lv (v := bxV (madeX 0 x)) rfl rfl (yb_call (f := 17) (args := #[.int .i64 0, (.agg (skC x).toArray)]) (fun _ => by kernel_rfl) fun W hW => Made_any 0 x (by omega) hx W) ?_
  refine wpL_new (fun g => .pointer (some ⟨g, 0, none⟩)) (obi := .cells (bxC bx0) 26 (0, 0)) rfl rfl (fun _ => by kernel_rfl) (fun _ => by simp only [List.setIfInBounds_toArray, List.set_cons_succ, List.set_cons_zero] <;> rfl) fun g2 Bg2 Fg2 => ?_
  obtain dj3_0 : g1 ≠ g2 := by simpa only [dj_app_l, dj_app_r, dj_cons_l, dj_cons_r, dj_nil_l, dj_nil_r, dk_app, dk_cons, dk_nil, and_true, true_and, and_assoc] using (show Dk g2 [(g1, .cells (skC x).toArray 31 (0, 0))] from Fg2)
  refine wpL_s [(g2, .cells (bxC (madeX 0 x)) 26 (0, 0)), (g1, .cells (skC x).toArray 31 (0, 0))] rfl rfl (st_bx (b := (madeX 0 x)) rfl (by kernel_rfl) (by kernel_rfl) (.head _) rfl Bg2 (by kernel_rfl) (List.forall_mem_cons.2 ⟨.inl rfl, (List.forall_mem_cons.2 ⟨.inr ⟨(.tail _ (.head _)), (by first | assumption | exact Ne.symm (by assumption))⟩, (List.forall_mem_nil _)⟩)⟩)) ?_
  refine wpL_done (fun W2 hW2 => ?_)
  refine (show Code.wp _ _ _ _ _ from ?_)
  refine wp_joins (fun az wz => ∃ (nb : Bx), (rightX nb = false) ∧ JoinR (fun zq => List.toArray (((.agg (skC x).toArray)) :: (.int .u8 ((how : Nat) : Int)) :: (.int .i64 n) :: (.pointer (some ⟨g1, 0, none⟩)) :: undef :: undef :: (.bool false) :: (.pointer (some ⟨g2, 0, none⟩)) :: undef :: undef :: ((.agg (skC x).toArray)) :: (bxV (madeX 0 x)) :: zq 12 :: zq 13 :: zq 14 :: zq 15 :: zq 16 :: zq 17 :: zq 18 :: zq 19 :: zq 20 :: zq 21 :: zq 22 :: zq 23 :: zq 24 :: zq 25 :: zq 26 :: zq 27 :: zq 28 :: zq 29 :: zq 30 :: zq 31 :: zq 32 :: zq 33 :: zq 34 :: zq 35 :: zq 36 :: zq 37 :: zq 38 :: zq 39 :: zq 40 :: zq 41 :: zq 42 :: zq 43 :: zq 44 :: zq 45 :: zq 46 :: zq 47 :: zq 48 :: zq 49 :: zq 50 :: zq 51 :: zq 52 :: zq 53 :: zq 54 :: zq 55 :: zq 56 :: zq 57 :: undef :: undef :: undef :: undef :: undef :: undef :: undef :: undef :: undef :: undef :: undef :: undef :: undef :: undef :: undef :: undef :: undef :: undef :: undef :: undef :: undef :: undef :: undef :: undef :: undef :: undef :: undef :: [])) w [(g2, .cells (bxC nb) 26 (0, 0)), (g1, .cells (skC x).toArray 31 (0, 0))] az wz) 1 ?_ ?_
  · refine (show Code.wp _ _ _ _ _ from ?_)
    refine wp_seq ?_
    refine wp_region_L (W0 := w) [(g2, .cells (bxC (madeX 0 x)) 26 (0, 0)), (g1, .cells (skC x).toArray 31 (0, 0))] (hW2) ?_
    refine lm (v := .int .u8 ((how : Nat) : Int)) rfl rfl ?_
    refine lp (v := .int .u8 (((how % 9) : Nat) : Int)) rfl rfl (run_bin rfl (vx := (.int .u8 ((how : Nat) : Int))) (vy := (.int .u8 ((9 : Nat) : Int))) (by kernel_rfl) (by kernel_rfl) fun w => bn_rem (z := (how % 9)) rfl (by omega) w) ?_
    refine wpL_done (fun W3 hW3 => ?_)
    refine (show Code.wp _ _ _ _ _ from ?_)
    refine wp_block ?_
    refine wp_seq ?_
    refine wp_region_L (W0 := w) [(g2, .cells (bxC (madeX 0 x)) 26 (0, 0)), (g1, .cells (skC x).toArray 31 (0, 0))] (hW3) ?_
    refine lp (v := .bool (decide ((how % 9) = 0))) rfl rfl (run_bin rfl (vx := (.int .u8 (((how % 9) : Nat) : Int))) (vy := (.int .u8 ((0 : Nat) : Int))) (by kernel_rfl) (by kernel_rfl) fun w => bn_eql rfl w) ?_
    refine lm (v := .bool (decide ((how % 9) = 0))) rfl rfl ?_
    refine wpL_done (fun W4 hW4 => ?_)
    refine (show Code.wp _ _ _ _ _ from ?_)
    cases hd1 : (decide ((how % 9) = 0)) with
    | false =>
      have h1 : ¬ ((how % 9) = 0) := of_decide_eq_false hd1
      clear hd1
      refine wp_cond_false rfl ?_
      refine wp_seq ?_
      refine wp_region_L (W0 := w) [(g2, .cells (bxC (madeX 0 x)) 26 (0, 0)), (g1, .cells (skC x).toArray 31 (0, 0))] (hW4) ?_
      refine lp (v := .bool (decide ((how % 9) = 1))) rfl rfl (run_bin rfl (vx := (.int .u8 (((how % 9) : Nat) : Int))) (vy := (.int .u8 ((1 : Nat) : Int))) (by kernel_rfl) (by kernel_rfl) fun w => bn_eql rfl w) ?_
      refine lm (v := .bool (decide ((how % 9) = 1))) rfl rfl ?_
      refine wpL_done (fun W5 hW5 => ?_)
      refine (show Code.wp _ _ _ _ _ from ?_)
      cases hd2 : (decide ((how % 9) = 1)) with
      | false =>
        have h2 : ¬ ((how % 9) = 1) := of_decide_eq_false hd2
        clear hd2
        refine wp_cond_false rfl ?_
        refine wp_seq ?_
        refine wp_region_L (W0 := w) [(g2, .cells (bxC (madeX 0 x)) 26 (0, 0)), (g1, .cells (skC x).toArray 31 (0, 0))] (hW5) ?_
        refine lp (v := .bool (decide ((how % 9) = 2))) rfl rfl (run_bin rfl (vx := (.int .u8 (((how % 9) : Nat) : Int))) (vy := (.int .u8 ((2 : Nat) : Int))) (by kernel_rfl) (by kernel_rfl) fun w => bn_eql rfl w) ?_
        refine lm (v := .bool (decide ((how % 9) = 2))) rfl rfl ?_
        refine wpL_done (fun W6 hW6 => ?_)
        refine (show Code.wp _ _ _ _ _ from ?_)
        cases hd3 : (decide ((how % 9) = 2)) with
        | false =>
          have h3 : ¬ ((how % 9) = 2) := of_decide_eq_false hd3
          clear hd3
          refine wp_cond_false rfl ?_
          refine wp_seq ?_
          refine wp_region_L (W0 := w) [(g2, .cells (bxC (madeX 0 x)) 26 (0, 0)), (g1, .cells (skC x).toArray 31 (0, 0))] (hW6) ?_
          refine lp (v := .bool (decide ((how % 9) = 3))) rfl rfl (run_bin rfl (vx := (.int .u8 (((how % 9) : Nat) : Int))) (vy := (.int .u8 ((3 : Nat) : Int))) (by kernel_rfl) (by kernel_rfl) fun w => bn_eql rfl w) ?_
          refine lm (v := .bool (decide ((how % 9) = 3))) rfl rfl ?_
          refine wpL_done (fun W7 hW7 => ?_)
          refine (show Code.wp _ _ _ _ _ from ?_)
          cases hd4 : (decide ((how % 9) = 3)) with
          | false =>
            have h4 : ¬ ((how % 9) = 3) := of_decide_eq_false hd4
            clear hd4
            refine wp_cond_false rfl ?_
            refine wp_seq ?_
            refine wp_region_L (W0 := w) [(g2, .cells (bxC (madeX 0 x)) 26 (0, 0)), (g1, .cells (skC x).toArray 31 (0, 0))] (hW7) ?_
            refine lp (v := .bool (decide ((how % 9) = 4))) rfl rfl (run_bin rfl (vx := (.int .u8 (((how % 9) : Nat) : Int))) (vy := (.int .u8 ((4 : Nat) : Int))) (by kernel_rfl) (by kernel_rfl) fun w => bn_eql rfl w) ?_
            refine lm (v := .bool (decide ((how % 9) = 4))) rfl rfl ?_
            refine wpL_done (fun W8 hW8 => ?_)
            refine (show Code.wp _ _ _ _ _ from ?_)
            cases hd5 : (decide ((how % 9) = 4)) with
            | false =>
              have h5 : ¬ ((how % 9) = 4) := of_decide_eq_false hd5
              clear hd5
              refine wp_cond_false rfl ?_
              refine wp_seq ?_
              refine wp_region_L (W0 := w) [(g2, .cells (bxC (madeX 0 x)) 26 (0, 0)), (g1, .cells (skC x).toArray 31 (0, 0))] (hW8) ?_
              refine lp (v := .bool (decide ((how % 9) = 5))) rfl rfl (run_bin rfl (vx := (.int .u8 (((how % 9) : Nat) : Int))) (vy := (.int .u8 ((5 : Nat) : Int))) (by kernel_rfl) (by kernel_rfl) fun w => bn_eql rfl w) ?_
              refine lm (v := .bool (decide ((how % 9) = 5))) rfl rfl ?_
              refine wpL_done (fun W9 hW9 => ?_)
              refine (show Code.wp _ _ _ _ _ from ?_)
              cases hd6 : (decide ((how % 9) = 5)) with
              | false =>
                have h6 : ¬ ((how % 9) = 5) := of_decide_eq_false hd6
                clear hd6
                refine wp_cond_false rfl ?_
                refine wp_seq ?_
                refine wp_region_L (W0 := w) [(g2, .cells (bxC (madeX 0 x)) 26 (0, 0)), (g1, .cells (skC x).toArray 31 (0, 0))] (hW9) ?_
                refine lp (v := .bool (decide ((how % 9) = 6))) rfl rfl (run_bin rfl (vx := (.int .u8 (((how % 9) : Nat) : Int))) (vy := (.int .u8 ((6 : Nat) : Int))) (by kernel_rfl) (by kernel_rfl) fun w => bn_eql rfl w) ?_
                refine lm (v := .bool (decide ((how % 9) = 6))) rfl rfl ?_
                refine wpL_done (fun W10 hW10 => ?_)
                refine (show Code.wp _ _ _ _ _ from ?_)
                cases hd7 : (decide ((how % 9) = 6)) with
                | false =>
                  have h7 : ¬ ((how % 9) = 6) := of_decide_eq_false hd7
                  clear hd7
                  refine wp_cond_false rfl ?_
                  refine wp_seq ?_
                  refine wp_region_L (W0 := w) [(g2, .cells (bxC (madeX 0 x)) 26 (0, 0)), (g1, .cells (skC x).toArray 31 (0, 0))] (hW10) ?_
                  refine lp (v := .bool (decide ((how % 9) = 7))) rfl rfl (run_bin rfl (vx := (.int .u8 (((how % 9) : Nat) : Int))) (vy := (.int .u8 ((7 : Nat) : Int))) (by kernel_rfl) (by kernel_rfl) fun w => bn_eql rfl w) ?_
                  refine lm (v := .bool (decide ((how % 9) = 7))) rfl rfl ?_
                  refine wpL_done (fun W11 hW11 => ?_)
                  refine (show Code.wp _ _ _ _ _ from ?_)
                  cases hd8 : (decide ((how % 9) = 7)) with
                  | false =>
                    have h8 : ¬ ((how % 9) = 7) := of_decide_eq_false hd8
                    clear hd8
                    refine wp_cond_false rfl ?_
                    refine wp_seq ?_
                    refine wp_region_L (W0 := w) [(g2, .cells (bxC (madeX 0 x)) 26 (0, 0)), (g1, .cells (skC x).toArray 31 (0, 0))] (hW11) ?_
                    refine lp (v := .bool (decide ((how % 9) = 8))) rfl rfl (run_bin rfl (vx := (.int .u8 (((how % 9) : Nat) : Int))) (vy := (.int .u8 ((8 : Nat) : Int))) (by kernel_rfl) (by kernel_rfl) fun w => bn_eql rfl w) ?_
                    refine lm (v := .bool (decide ((how % 9) = 8))) rfl rfl ?_
                    refine wpL_done (fun W12 hW12 => ?_)
                    refine (show Code.wp _ _ _ _ _ from ?_)
                    cases hd9 : (decide ((how % 9) = 8)) with
                    | false =>
                      have h9 : ¬ ((how % 9) = 8) := of_decide_eq_false hd9
                      clear hd9
                      exfalso; omega
                    | true =>
                      have h9 : (how % 9) = 8 := of_decide_eq_true hd9
                      clear hd9
                      refine wp_cond_true rfl ?_
                      refine wp_region_L (W0 := w) [(g2, .cells (bxC (madeX 0 x)) 26 (0, 0)), (g1, .cells (skC x).toArray 31 (0, 0))] (hW12) ?_
                      refine lm (v := .pointer (some ⟨g2, 7, none⟩)) rfl rfl ?_
                      refine wpL_s [(g2, .cells #[.int .i64 ((madeX 0 x).id), strV ((madeX 0 x).num), .int .u8 ((((madeX 0 x).size) : Nat) : Int), .bool ((madeX 0 x).high), .int .i64 ((madeX 0 x).kilos), .int .i64 ((madeX 0 x).load), .int .i64 ((madeX 0 x).dis), .int .u8 10, .bool ((madeX 0 x).rf)] 26 (0, 0)), (g1, .cells (skC x).toArray 31 (0, 0))] rfl rfl (st_row (off := 7) (v := .int .u8 10) rfl (by kernel_rfl) (by kernel_rfl) (.head _) Bg2 (by kernel_rfl) (by first | (simp [Value.cells]; done) | exact Nat.le_of_ble_eq_true rfl) (by intro v hv; simp [Value.cells, strV] at hv; first | (subst hv; rfl) | (rcases hv with rfl <;> rfl)) (by kernel_rfl) (List.forall_mem_cons.2 ⟨.inl rfl, (List.forall_mem_cons.2 ⟨.inr ⟨(.tail _ (.head _)), (by first | assumption | exact Ne.symm (by assumption))⟩, (List.forall_mem_nil _)⟩)⟩)) ?_
                      refine wpL_done (fun W13 hW13 => ?_)
                      exact ⟨(Bx.mk ((madeX 0 x).id) ((madeX 0 x).num) ((madeX 0 x).size) ((madeX 0 x).high) ((madeX 0 x).kilos) ((madeX 0 x).load) ((madeX 0 x).dis) 10 ((madeX 0 x).rf)), (wr10 rfl), join_mk (by kernel_rfl) (hW13.sub (fun p hp => by first | exact hp | (simp only [List.mem_cons, List.mem_append, List.nil_append, List.not_mem_nil, or_assoc, or_false, false_or] at hp ⊢ <;> grind)))⟩
                  | true =>
                    have h8 : (how % 9) = 7 := of_decide_eq_true hd8
                    clear hd8
                    refine wp_cond_true rfl ?_
                    refine wp_region_L (W0 := w) [(g2, .cells (bxC (madeX 0 x)) 26 (0, 0)), (g1, .cells (skC x).toArray 31 (0, 0))] (hW11) ?_
                    refine lm (v := .pointer (some ⟨g2, 5, none⟩)) rfl rfl ?_
                    refine lv (v := .int .i64 ((madeX 0 x).load)) rfl rfl (yb_cell (off := 5) rfl (by kernel_rfl) (.head _) Tryd.underlying3 rfl (by kernel_rfl)) ?_
                    refine lp (v := .int .i64 (((madeX 0 x).load) - 1)) rfl rfl (run_bin rfl (vx := (.int .i64 ((madeX 0 x).load))) (vy := (.int .i64 1)) (by kernel_rfl) (by kernel_rfl) fun w => bi_sub (z := (((madeX 0 x).load) - 1)) rfl (wi_i64 (by omega)) w) ?_
                    refine lm (v := .pointer (some ⟨g2, 6, none⟩)) rfl rfl ?_
                    refine wpL_s [(g2, .cells #[.int .i64 ((madeX 0 x).id), strV ((madeX 0 x).num), .int .u8 ((((madeX 0 x).size) : Nat) : Int), .bool ((madeX 0 x).high), .int .i64 ((madeX 0 x).kilos), .int .i64 ((madeX 0 x).load), .int .i64 (((madeX 0 x).load) - 1), .int .u8 ((((madeX 0 x).cls) : Nat) : Int), .bool ((madeX 0 x).rf)] 26 (0, 0)), (g1, .cells (skC x).toArray 31 (0, 0))] rfl rfl (st_row (off := 6) (v := .int .i64 (((madeX 0 x).load) - 1)) rfl (by kernel_rfl) (by kernel_rfl) (.head _) Bg2 (by kernel_rfl) (by first | (simp [Value.cells]; done) | exact Nat.le_of_ble_eq_true rfl) (by intro v hv; simp [Value.cells, strV] at hv; first | (subst hv; rfl) | (rcases hv with rfl <;> rfl)) (by kernel_rfl) (List.forall_mem_cons.2 ⟨.inl rfl, (List.forall_mem_cons.2 ⟨.inr ⟨(.tail _ (.head _)), (by first | assumption | exact Ne.symm (by assumption))⟩, (List.forall_mem_nil _)⟩)⟩)) ?_
                    refine wpL_done (fun W14 hW14 => ?_)
                    exact ⟨(Bx.mk ((madeX 0 x).id) ((madeX 0 x).num) ((madeX 0 x).size) ((madeX 0 x).high) ((madeX 0 x).kilos) ((madeX 0 x).load) (((madeX 0 x).load) - 1) ((madeX 0 x).cls) ((madeX 0 x).rf)), (wr8 (by unfold rul8; simp <;> omega)), join_mk (by kernel_rfl) (hW14.sub (fun p hp => by first | exact hp | (simp only [List.mem_cons, List.mem_append, List.nil_append, List.not_mem_nil, or_assoc, or_false, false_or] at hp ⊢ <;> grind)))⟩
                | true =>
                  have h7 : (how % 9) = 6 := of_decide_eq_true hd7
                  clear hd7
                  refine wp_cond_true rfl ?_
                  refine wp_region_L (W0 := w) [(g2, .cells (bxC (madeX 0 x)) 26 (0, 0)), (g1, .cells (skC x).toArray 31 (0, 0))] (hW10) ?_
                  refine lm (v := .int .i64 n) rfl rfl ?_
                  refine lm (v := .pointer (some ⟨g2, 2, none⟩)) rfl rfl ?_
                  refine lv (v := .int .u8 ((((madeX 0 x).size) : Nat) : Int)) rfl rfl (yb_cell (off := 2) rfl (by kernel_rfl) (.head _) Tryd.underlying5 rfl (by kernel_rfl)) ?_
                  refine lp (v := .int .i64 ((((madeX 0 x).size) : Nat) : Int)) rfl rfl (run_conv rfl (vx := (.int .u8 ((((madeX 0 x).size) : Nat) : Int))) (by kernel_rfl) fun w => cv_int Tryd.underlying5 Tryd.underlying3 (wr_i64 (by omega)) w) ?_
                  refine lp (v := .int .i64 (((((madeX 0 x).size) * 400) : Nat) : Int)) rfl rfl (run_bin rfl (vx := (.int .i64 ((((madeX 0 x).size) : Nat) : Int))) (vy := (.int .i64 ((400 : Nat) : Int))) (by kernel_rfl) (by kernel_rfl) fun w => bn_mul (z := (((madeX 0 x).size) * 400)) rfl (wr_i64 (by omega)) w) ?_
                  refine lp (v := .int .i64 ((((((madeX 0 x).size) * 400) + 24001) : Nat) : Int)) rfl rfl (run_bin rfl (vx := (.int .i64 (((((madeX 0 x).size) * 400) : Nat) : Int))) (vy := (.int .i64 ((24001 : Nat) : Int))) (by kernel_rfl) (by kernel_rfl) fun w => bn_add (z := ((((madeX 0 x).size) * 400) + 24001)) rfl (wr_i64 (by omega)) w) ?_
                  obtain ⟨m4, hm4, hx4, hy4, hz4⟩ := max_ex n ((((((madeX 0 x).size) * 400) + 24001) : Nat) : Int)
                  refine lp (v := .int .i64 m4) rfl rfl (run_max rfl (by kernel_rfl) (by kernel_rfl) hm4) ?_
                  refine lm (v := .pointer (some ⟨g2, 4, none⟩)) rfl rfl ?_
                  refine wpL_s [(g2, .cells #[.int .i64 ((madeX 0 x).id), strV ((madeX 0 x).num), .int .u8 ((((madeX 0 x).size) : Nat) : Int), .bool ((madeX 0 x).high), .int .i64 m4, .int .i64 ((madeX 0 x).load), .int .i64 ((madeX 0 x).dis), .int .u8 ((((madeX 0 x).cls) : Nat) : Int), .bool ((madeX 0 x).rf)] 26 (0, 0)), (g1, .cells (skC x).toArray 31 (0, 0))] rfl rfl (st_row (off := 4) (v := .int .i64 m4) rfl (by kernel_rfl) (by kernel_rfl) (.head _) Bg2 (by kernel_rfl) (by first | (simp [Value.cells]; done) | exact Nat.le_of_ble_eq_true rfl) (by intro v hv; simp [Value.cells, strV] at hv; first | (subst hv; rfl) | (rcases hv with rfl <;> rfl)) (by kernel_rfl) (List.forall_mem_cons.2 ⟨.inl rfl, (List.forall_mem_cons.2 ⟨.inr ⟨(.tail _ (.head _)), (by first | assumption | exact Ne.symm (by assumption))⟩, (List.forall_mem_nil _)⟩)⟩)) ?_
                  refine wpL_done (fun W15 hW15 => ?_)
                  exact ⟨(Bx.mk ((madeX 0 x).id) ((madeX 0 x).num) ((madeX 0 x).size) ((madeX 0 x).high) m4 ((madeX 0 x).load) ((madeX 0 x).dis) ((madeX 0 x).cls) ((madeX 0 x).rf)), (hms.elim (fun hs => wr6 (by unfold rulW; simp <;> omega)) (fun hs => wr7 (by unfold rulW; simp <;> omega))), join_mk (by kernel_rfl) (hW15.sub (fun p hp => by first | exact hp | (simp only [List.mem_cons, List.mem_append, List.nil_append, List.not_mem_nil, or_assoc, or_false, false_or] at hp ⊢ <;> grind)))⟩
              | true =>
                have h6 : (how % 9) = 5 := of_decide_eq_true hd6
                clear hd6
                refine wp_cond_true rfl ?_
                refine wp_region_L (W0 := w) [(g2, .cells (bxC (madeX 0 x)) 26 (0, 0)), (g1, .cells (skC x).toArray 31 (0, 0))] (hW9) ?_
                refine lm (v := .int .i64 n) rfl rfl ?_
                obtain ⟨m5, hm5, hx5, hy5, hz5⟩ := min_ex n 0
                refine lp (v := .int .i64 m5) rfl rfl (run_min rfl (by kernel_rfl) (by kernel_rfl) hm5) ?_
                refine lm (v := .pointer (some ⟨g2, 4, none⟩)) rfl rfl ?_
                refine wpL_s [(g2, .cells #[.int .i64 ((madeX 0 x).id), strV ((madeX 0 x).num), .int .u8 ((((madeX 0 x).size) : Nat) : Int), .bool ((madeX 0 x).high), .int .i64 m5, .int .i64 ((madeX 0 x).load), .int .i64 ((madeX 0 x).dis), .int .u8 ((((madeX 0 x).cls) : Nat) : Int), .bool ((madeX 0 x).rf)] 26 (0, 0)), (g1, .cells (skC x).toArray 31 (0, 0))] rfl rfl (st_row (off := 4) (v := .int .i64 m5) rfl (by kernel_rfl) (by kernel_rfl) (.head _) Bg2 (by kernel_rfl) (by first | (simp [Value.cells]; done) | exact Nat.le_of_ble_eq_true rfl) (by intro v hv; simp [Value.cells, strV] at hv; first | (subst hv; rfl) | (rcases hv with rfl <;> rfl)) (by kernel_rfl) (List.forall_mem_cons.2 ⟨.inl rfl, (List.forall_mem_cons.2 ⟨.inr ⟨(.tail _ (.head _)), (by first | assumption | exact Ne.symm (by assumption))⟩, (List.forall_mem_nil _)⟩)⟩)) ?_
                refine wpL_done (fun W16 hW16 => ?_)
                exact ⟨(Bx.mk ((madeX 0 x).id) ((madeX 0 x).num) ((madeX 0 x).size) ((madeX 0 x).high) m5 ((madeX 0 x).load) ((madeX 0 x).dis) ((madeX 0 x).cls) ((madeX 0 x).rf)), (wr5 (by unfold rul5; simp <;> omega)), join_mk (by kernel_rfl) (hW16.sub (fun p hp => by first | exact hp | (simp only [List.mem_cons, List.mem_append, List.nil_append, List.not_mem_nil, or_assoc, or_false, false_or] at hp ⊢ <;> grind)))⟩
            | true =>
              have h5 : (how % 9) = 4 := of_decide_eq_true hd5
              clear hd5
              refine wp_cond_true rfl ?_
              refine wp_region_L (W0 := w) [(g2, .cells (bxC (madeX 0 x)) 26 (0, 0)), (g1, .cells (skC x).toArray 31 (0, 0))] (hW8) ?_
              refine lm (v := .pointer (some ⟨g2, 2, none⟩)) rfl rfl ?_
              refine wpL_s [(g2, .cells #[.int .i64 ((madeX 0 x).id), strV ((madeX 0 x).num), .int .u8 20, .bool ((madeX 0 x).high), .int .i64 ((madeX 0 x).kilos), .int .i64 ((madeX 0 x).load), .int .i64 ((madeX 0 x).dis), .int .u8 ((((madeX 0 x).cls) : Nat) : Int), .bool ((madeX 0 x).rf)] 26 (0, 0)), (g1, .cells (skC x).toArray 31 (0, 0))] rfl rfl (st_row (off := 2) (v := .int .u8 20) rfl (by kernel_rfl) (by kernel_rfl) (.head _) Bg2 (by kernel_rfl) (by first | (simp [Value.cells]; done) | exact Nat.le_of_ble_eq_true rfl) (by intro v hv; simp [Value.cells, strV] at hv; first | (subst hv; rfl) | (rcases hv with rfl <;> rfl)) (by kernel_rfl) (List.forall_mem_cons.2 ⟨.inl rfl, (List.forall_mem_cons.2 ⟨.inr ⟨(.tail _ (.head _)), (by first | assumption | exact Ne.symm (by assumption))⟩, (List.forall_mem_nil _)⟩)⟩)) ?_
              refine lm (v := .pointer (some ⟨g2, 3, none⟩)) rfl rfl ?_
              refine wpL_s [(g2, .cells #[.int .i64 ((madeX 0 x).id), strV ((madeX 0 x).num), .int .u8 20, .bool true, .int .i64 ((madeX 0 x).kilos), .int .i64 ((madeX 0 x).load), .int .i64 ((madeX 0 x).dis), .int .u8 ((((madeX 0 x).cls) : Nat) : Int), .bool ((madeX 0 x).rf)] 26 (0, 0)), (g1, .cells (skC x).toArray 31 (0, 0))] rfl rfl (st_row (off := 3) (v := .bool true) rfl (by kernel_rfl) (by kernel_rfl) (.head _) Bg2 (by kernel_rfl) (by first | (simp [Value.cells]; done) | exact Nat.le_of_ble_eq_true rfl) (by intro v hv; simp [Value.cells, strV] at hv; first | (subst hv; rfl) | (rcases hv with rfl <;> rfl)) (by kernel_rfl) (List.forall_mem_cons.2 ⟨.inl rfl, (List.forall_mem_cons.2 ⟨.inr ⟨(.tail _ (.head _)), (by first | assumption | exact Ne.symm (by assumption))⟩, (List.forall_mem_nil _)⟩)⟩)) ?_
              refine wpL_done (fun W17 hW17 => ?_)
              exact ⟨(Bx.mk ((madeX 0 x).id) ((madeX 0 x).num) 20 true ((madeX 0 x).kilos) ((madeX 0 x).load) ((madeX 0 x).dis) ((madeX 0 x).cls) ((madeX 0 x).rf)), (wr4 rfl), join_mk (by kernel_rfl) (hW17.sub (fun p hp => by first | exact hp | (simp only [List.mem_cons, List.mem_append, List.nil_append, List.not_mem_nil, or_assoc, or_false, false_or] at hp ⊢ <;> grind)))⟩
          | true =>
            have h4 : (how % 9) = 3 := of_decide_eq_true hd4
            clear hd4
            refine wp_cond_true rfl ?_
            refine wp_region_L (W0 := w) [(g2, .cells (bxC (madeX 0 x)) 26 (0, 0)), (g1, .cells (skC x).toArray 31 (0, 0))] (hW7) ?_
            refine lm (v := .pointer (some ⟨g2, 2, none⟩)) rfl rfl ?_
            refine wpL_s [(g2, .cells #[.int .i64 ((madeX 0 x).id), strV ((madeX 0 x).num), .int .u8 30, .bool ((madeX 0 x).high), .int .i64 ((madeX 0 x).kilos), .int .i64 ((madeX 0 x).load), .int .i64 ((madeX 0 x).dis), .int .u8 ((((madeX 0 x).cls) : Nat) : Int), .bool ((madeX 0 x).rf)] 26 (0, 0)), (g1, .cells (skC x).toArray 31 (0, 0))] rfl rfl (st_row (off := 2) (v := .int .u8 30) rfl (by kernel_rfl) (by kernel_rfl) (.head _) Bg2 (by kernel_rfl) (by first | (simp [Value.cells]; done) | exact Nat.le_of_ble_eq_true rfl) (by intro v hv; simp [Value.cells, strV] at hv; first | (subst hv; rfl) | (rcases hv with rfl <;> rfl)) (by kernel_rfl) (List.forall_mem_cons.2 ⟨.inl rfl, (List.forall_mem_cons.2 ⟨.inr ⟨(.tail _ (.head _)), (by first | assumption | exact Ne.symm (by assumption))⟩, (List.forall_mem_nil _)⟩)⟩)) ?_
            refine wpL_done (fun W18 hW18 => ?_)
            exact ⟨(Bx.mk ((madeX 0 x).id) ((madeX 0 x).num) 30 ((madeX 0 x).high) ((madeX 0 x).kilos) ((madeX 0 x).load) ((madeX 0 x).dis) ((madeX 0 x).cls) ((madeX 0 x).rf)), (wr3 rfl), join_mk (by kernel_rfl) (hW18.sub (fun p hp => by first | exact hp | (simp only [List.mem_cons, List.mem_append, List.nil_append, List.not_mem_nil, or_assoc, or_false, false_or] at hp ⊢ <;> grind)))⟩
        | true =>
          have h3 : (how % 9) = 2 := of_decide_eq_true hd3
          clear hd3
          refine wp_cond_true rfl ?_
          refine wp_region_L (W0 := w) [(g2, .cells (bxC (madeX 0 x)) 26 (0, 0)), (g1, .cells (skC x).toArray 31 (0, 0))] (hW6) ?_
          refine lm (v := .pointer (some ⟨g2, 1, none⟩)) rfl rfl ?_
          refine wpL_s [(g2, .cells #[.int .i64 ((madeX 0 x).id), strV [84, 87, 76, 85, 49, 50, 51, 49, 50], .int .u8 ((((madeX 0 x).size) : Nat) : Int), .bool ((madeX 0 x).high), .int .i64 ((madeX 0 x).kilos), .int .i64 ((madeX 0 x).load), .int .i64 ((madeX 0 x).dis), .int .u8 ((((madeX 0 x).cls) : Nat) : Int), .bool ((madeX 0 x).rf)] 26 (0, 0)), (g1, .cells (skC x).toArray 31 (0, 0))] rfl rfl (st_row (off := 1) (v := strV [84, 87, 76, 85, 49, 50, 51, 49, 50]) rfl (by kernel_rfl) (by kernel_rfl) (.head _) Bg2 (by kernel_rfl) (by first | (simp [Value.cells]; done) | exact Nat.le_of_ble_eq_true rfl) (by intro v hv; simp [Value.cells, strV] at hv; first | (subst hv; rfl) | (rcases hv with rfl <;> rfl)) (by kernel_rfl) (List.forall_mem_cons.2 ⟨.inl rfl, (List.forall_mem_cons.2 ⟨.inr ⟨(.tail _ (.head _)), (by first | assumption | exact Ne.symm (by assumption))⟩, (List.forall_mem_nil _)⟩)⟩)) ?_
          refine wpL_done (fun W19 hW19 => ?_)
          exact ⟨(Bx.mk ((madeX 0 x).id) [84, 87, 76, 85, 49, 50, 51, 49, 50] ((madeX 0 x).size) ((madeX 0 x).high) ((madeX 0 x).kilos) ((madeX 0 x).load) ((madeX 0 x).dis) ((madeX 0 x).cls) ((madeX 0 x).rf)), (wr2 (by show (decide (([84, 87, 76, 85, 49, 50, 51, 49, 50] : List UInt8) = []) || decide (judgeN [84, 87, 76, 85, 49, 50, 51, 49, 50] = 0)) = false; decide +kernel)), join_mk (by kernel_rfl) (hW19.sub (fun p hp => by first | exact hp | (simp only [List.mem_cons, List.mem_append, List.nil_append, List.not_mem_nil, or_assoc, or_false, false_or] at hp ⊢ <;> grind)))⟩
      | true =>
        have h2 : (how % 9) = 1 := of_decide_eq_true hd2
        clear hd2
        refine wp_cond_true rfl ?_
        refine wp_region_L (W0 := w) [(g2, .cells (bxC (madeX 0 x)) 26 (0, 0)), (g1, .cells (skC x).toArray 31 (0, 0))] (hW5) ?_
        refine lm (v := .int .i64 n) rfl rfl ?_
        obtain ⟨m6, hm6, hx6, hy6, hz6⟩ := max_ex n 1000000
        refine lp (v := .int .i64 m6) rfl rfl (run_max rfl (by kernel_rfl) (by kernel_rfl) hm6) ?_
        refine lm (v := .pointer (some ⟨g2, 0, none⟩)) rfl rfl ?_
        refine wpL_s [(g2, .cells #[.int .i64 m6, strV ((madeX 0 x).num), .int .u8 ((((madeX 0 x).size) : Nat) : Int), .bool ((madeX 0 x).high), .int .i64 ((madeX 0 x).kilos), .int .i64 ((madeX 0 x).load), .int .i64 ((madeX 0 x).dis), .int .u8 ((((madeX 0 x).cls) : Nat) : Int), .bool ((madeX 0 x).rf)] 26 (0, 0)), (g1, .cells (skC x).toArray 31 (0, 0))] rfl rfl (st_row (off := 0) (v := .int .i64 m6) rfl (by kernel_rfl) (by kernel_rfl) (.head _) Bg2 (by kernel_rfl) (by first | (simp [Value.cells]; done) | exact Nat.le_of_ble_eq_true rfl) (by intro v hv; simp [Value.cells, strV] at hv; first | (subst hv; rfl) | (rcases hv with rfl <;> rfl)) (by kernel_rfl) (List.forall_mem_cons.2 ⟨.inl rfl, (List.forall_mem_cons.2 ⟨.inr ⟨(.tail _ (.head _)), (by first | assumption | exact Ne.symm (by assumption))⟩, (List.forall_mem_nil _)⟩)⟩)) ?_
        refine wpL_done (fun W20 hW20 => ?_)
        exact ⟨(Bx.mk m6 ((madeX 0 x).num) ((madeX 0 x).size) ((madeX 0 x).high) ((madeX 0 x).kilos) ((madeX 0 x).load) ((madeX 0 x).dis) ((madeX 0 x).cls) ((madeX 0 x).rf)), (wr1 (by unfold rul1; simp <;> omega)), join_mk (by kernel_rfl) (hW20.sub (fun p hp => by first | exact hp | (simp only [List.mem_cons, List.mem_append, List.nil_append, List.not_mem_nil, or_assoc, or_false, false_or] at hp ⊢ <;> grind)))⟩
    | true =>
      have h1 : (how % 9) = 0 := of_decide_eq_true hd1
      clear hd1
      refine wp_cond_true rfl ?_
      refine wp_region_L (W0 := w) [(g2, .cells (bxC (madeX 0 x)) 26 (0, 0)), (g1, .cells (skC x).toArray 31 (0, 0))] (hW4) ?_
      refine lm (v := .int .i64 n) rfl rfl ?_
      obtain ⟨m7, hm7, hx7, hy7, hz7⟩ := min_ex n 0
      refine lp (v := .int .i64 m7) rfl rfl (run_min rfl (by kernel_rfl) (by kernel_rfl) hm7) ?_
      refine lm (v := .pointer (some ⟨g2, 0, none⟩)) rfl rfl ?_
      refine wpL_s [(g2, .cells #[.int .i64 m7, strV ((madeX 0 x).num), .int .u8 ((((madeX 0 x).size) : Nat) : Int), .bool ((madeX 0 x).high), .int .i64 ((madeX 0 x).kilos), .int .i64 ((madeX 0 x).load), .int .i64 ((madeX 0 x).dis), .int .u8 ((((madeX 0 x).cls) : Nat) : Int), .bool ((madeX 0 x).rf)] 26 (0, 0)), (g1, .cells (skC x).toArray 31 (0, 0))] rfl rfl (st_row (off := 0) (v := .int .i64 m7) rfl (by kernel_rfl) (by kernel_rfl) (.head _) Bg2 (by kernel_rfl) (by first | (simp [Value.cells]; done) | exact Nat.le_of_ble_eq_true rfl) (by intro v hv; simp [Value.cells, strV] at hv; first | (subst hv; rfl) | (rcases hv with rfl <;> rfl)) (by kernel_rfl) (List.forall_mem_cons.2 ⟨.inl rfl, (List.forall_mem_cons.2 ⟨.inr ⟨(.tail _ (.head _)), (by first | assumption | exact Ne.symm (by assumption))⟩, (List.forall_mem_nil _)⟩)⟩)) ?_
      refine wpL_done (fun W21 hW21 => ?_)
      exact ⟨(Bx.mk m7 ((madeX 0 x).num) ((madeX 0 x).size) ((madeX 0 x).high) ((madeX 0 x).kilos) ((madeX 0 x).load) ((madeX 0 x).dis) ((madeX 0 x).cls) ((madeX 0 x).rf)), (wr1 (by unfold rul1; simp <;> omega)), join_mk (by kernel_rfl) (hW21.sub (fun p hp => by first | exact hp | (simp only [List.mem_cons, List.mem_append, List.nil_append, List.not_mem_nil, or_assoc, or_false, false_or] at hp ⊢ <;> grind)))⟩
  · rintro a1 W1j ⟨nb, hwr, ⟨zx1, rfl⟩, hW1j⟩
    dsimp only [cutT]
    refine wp_seq ?_
    refine wp_region_L (W0 := w) [(g2, .cells (bxC nb) 26 (0, 0)), (g1, .cells (skC x).toArray 31 (0, 0))] (hW1j) ?_
    refine lv (v := bxV nb) rfl rfl (yb_load (n := 9) (off := 0) rfl (by kernel_rfl) (.head _) Tryd.underlying26 rfl (by kernel_rfl) (Nat.le_refl 9) (by kernel_rfl)) ?_
    refine wpL_new (fun g => .slice (some ⟨g, 0, none⟩) 1 1) (obi := .cells ((bcs [nb]).toArray) 26 (0, 0)) rfl rfl (fun _ => by kernel_rfl) (fun _ => by simp only [List.setIfInBounds_toArray, List.set_cons_succ, List.set_cons_zero] <;> rfl) fun g8 Bg8 Fg8 => ?_
    obtain ⟨dj9_0, dj9_1⟩ : g2 ≠ g8 ∧ g1 ≠ g8 := by simpa only [dj_app_l, dj_app_r, dj_cons_l, dj_cons_r, dj_nil_l, dj_nil_r, dk_app, dk_cons, dk_nil, and_true, true_and, and_assoc] using (show Dk g8 [(g2, .cells (bxC nb) 26 (0, 0)), (g1, .cells (skC x).toArray 31 (0, 0))] from Fg8)
    refine lv (v := .tuple #[.int .i64 0, .int .i64 60]) rfl rfl (yb_call (f := 29) (args := #[.slice (some ⟨g8, 0, none⟩) 1 1]) (fun _ => by kernel_rfl) fun W hW => valid_is (l := [nb]) (p := (some ⟨g8, 0, none⟩)) (c := 1) (valid_one hwr) (by first | omega | (simp; done) | (simp; omega) | decide) W (rowx_slv (hW.2 _ (.head _)) (row_lit [nb]))) ?_
    refine lm (v := .tuple #[.int .i64 0, .int .i64 60]) rfl rfl ?_
    refine lm (v := .int .i64 0) rfl rfl ?_
    refine lm (v := .int .i64 60) rfl rfl ?_
    refine lm (v := .int .i64 0) rfl rfl ?_
    refine lm (v := .int .i64 60) rfl rfl ?_
    refine wpL_done (fun W22 hW22 => ?_)
    refine (show Code.wp _ _ _ _ _ from ?_)
    refine wp_seq ?_
    refine wp_region_L (W0 := w) [(g8, .cells ((bcs [nb]).toArray) 26 (0, 0)), (g2, .cells (bxC nb) 26 (0, 0)), (g1, .cells (skC x).toArray 31 (0, 0))] (hW22) ?_
    refine lv (v := bxV nb) rfl rfl (yb_load (n := 9) (off := 0) rfl (by kernel_rfl) (.tail _ (.head _)) Tryd.underlying26 rfl (by kernel_rfl) (Nat.le_refl 9) (by kernel_rfl)) ?_
    refine lv (v := .bool false) rfl rfl (yb_call (f := 20) (args := #[bxV nb]) (fun _ => by kernel_rfl) fun W hW => right_is hwr W) ?_
    refine lm (v := .bool true) rfl rfl ?_
    refine lm (v := .bool true) rfl rfl ?_
    refine lv (v := bxV nb) rfl rfl (yb_load (n := 9) (off := 0) rfl (by kernel_rfl) (.tail _ (.head _)) Tryd.underlying26 rfl (by kernel_rfl) (Nat.le_refl 9) (by kernel_rfl)) ?_
    refine wpL_newg (fun g => .slice (some ⟨g, 0, none⟩) 1 1) (obi := .cells ((bcs [nb]).toArray) 26 (0, 0)) rfl (by kernel_rfl) (fun _ => by kernel_rfl) (fun _ => by simp only [List.setIfInBounds_toArray, List.set_cons_succ, List.set_cons_zero] <;> rfl) fun g10 Bg10 Fg10 => ?_
    obtain ⟨dj11_0, dj11_1, dj11_2⟩ : g8 ≠ g10 ∧ g2 ≠ g10 ∧ g1 ≠ g10 := by simpa only [dj_app_l, dj_app_r, dj_cons_l, dj_cons_r, dj_nil_l, dj_nil_r, dk_app, dk_cons, dk_nil, and_true, true_and, and_assoc] using (show Dk g10 [(g8, .cells ((bcs [nb]).toArray) 26 (0, 0)), (g2, .cells (bxC nb) 26 (0, 0)), (g1, .cells (skC x).toArray 31 (0, 0))] from Fg10)
    refine lv (v := smV (totalX [nb])) rfl rfl (yb_call (f := 26) (args := #[.slice (some ⟨g10, 0, none⟩) 1 1]) (fun _ => by kernel_rfl) fun W hW => Total_any [nb] (some ⟨g10, 0, none⟩) 1 (by first | omega | (simp; done) | (simp; omega) | decide) W (rowx_slv (hW.2 _ (.head _)) (row_lit [nb]))) ?_
    refine lm (v := .agg #[.int .i64 0, .int .i64 0, .int .i64 0, .int .i64 0, .int .i64 0]) rfl rfl ?_
    refine lp (v := .bool true) rfl rfl (run_bin rfl (vx := smV (totalX [nb])) (vy := smV sm0) (by kernel_rfl) (by kernel_rfl) fun w => eql_sm (decide_eq_true (total_one hwr)) w) ?_
    refine lm (v := .bool true) rfl rfl ?_
    refine lm (v := .bool true) rfl rfl ?_
    refine lm (v := .int .i64 0) rfl rfl ?_
    refine lm (v := .bool true) rfl rfl ?_
    refine lm (v := .bool true) rfl rfl ?_
    refine lm (v := .bool true) rfl rfl ?_
    refine lm (v := .int .i64 60) rfl rfl ?_
    refine lm (v := .bool true) rfl rfl ?_
    refine lm (v := .bool true) rfl rfl ?_
    refine lm (v := .bool true) rfl rfl ?_
    refine lv (v := .bool true) rfl rfl (yb_call (f := 12) (args := #[]) (fun _ => by kernel_rfl) fun W hW => awake_any W (HE.out.keep hW.1)) ?_
    refine lm (v := .bool true) rfl rfl ?_
    refine lm (v := .bool true) rfl rfl ?_
    refine wpL_done (fun W23 hW23 => ?_)
    refine (show Code.wp _ _ _ _ _ from ?_)
    refine wp_ret ?_
    try simp only [inBlock_ret, then_ret]
    refine bodyPost_ret (v := .bool true) ?_ rfl ?_
    · kernel_rfl
    · exact ⟨rfl, hW23.1⟩
end Go.Proofs.YtjbbeolapaaiaaaDoor
/- BoxWrong holds for every input: the program's own answer is true, wherever the listed variables are as the program's text lays them; each argument reads afterwards as it read before. -/
namespace Go.Proofs.YtjbbeolapaaiaaaDoor
open Go.ChangeShapes Go.WideShapes Go.ChangeAt Go.RowKit Tw
set_option maxRecDepth 100000 in
theorem boxWrong_lifted (os : Os) (started : os.Started) (H : Type) (enc : TypeId × Value → H) :
    ReturnsInHanded {} Tryd.checked os 10 .any (fun w args => (Rows.boxWrongSpec.pre enc Tryd.prog Tryd.f10 Rows.boxWrongRow.domain false w args ∧ laidMetH Tryd.prog laidN w) ∧ sizedMet enc Tryd.prog Tryd.f10 (OpenSpec.ofChange Rows.boxWrongSpec) false w args) (Rows.boxWrongSpec.post enc Tryd.prog Tryd.f10 false true false false) := by
  refine handed_and_sized (C := Tryd.checked) (X := fun w => laidMetH Tryd.prog laidN w) (fun _ _ hh h => h.of_heap hh) own started (by kernel_rfl) Tryd.func10
    (ChangeSpec.witness_shaped (enc := enc) (C := Tryd.checked) (os := os) (X := fun w _ => laidMetH Tryd.prog laidN w) false (World.doorLaid Tryd.prog 1000 os) #[.agg #[.int .u8 0, .int .u8 0, .int .u8 0, .int .u8 0, .int .u8 0, .int .u8 0], .int .u8 0, .int .i64 0] 8 rfl (World.shaped_of_RefB (by kernel_rfl) (by kernel_rfl)) (by kernel_rfl) (by kernel_rfl) (by kernel_rfl) (door_met os _)) ?_
  intro W base args ds gs before hval0 hW hL hsh hsz
  have hval : ∀ (j : Nat) t v, Tryd.f10.params[j]? = some t → args[j]? = some v → Value.okWide Tryd.prog W .any base t v := hval0
  have hW2 := hW
  obtain ⟨p, q, hA0, hV, rfl, hfz, hnd⟩ := hW2
  have hA : DataW.TrodAll enc Tryd.prog W 0 (fun _ => true) true Tryd.f10.params.toList args.toList ds p := hA0
  rw [Tryd.params10] at hA hval
  obtain ⟨v0, vs0, d0, ds0, p0, q0, hargs, rfl, rfl, h0, r0⟩ := trodAll_cons hA
  obtain ⟨v1, vs1, d1, ds1, p1, q1, rfl, rfl, rfl, h1, r1⟩ := trodAll_cons r0
  obtain ⟨v2, vs2, d2, ds2, p2, q2, rfl, rfl, rfl, h2, r2⟩ := trodAll_cons r1
  obtain ⟨rfl, rfl, rfl⟩ := trodAll_nil r2
  obtain rfl : args = #[v0, v1, v2] := by cases args; simp_all
  obtain ⟨rfl, rfl⟩ := trodVars_none hV
  have k0 := h0
  have lt0 : ∀ x ∈ p0, x.block < W.heap.size := by obtain ⟨m, hm⟩ := k0; exact DataW.trod_lt m _ _ _ hm
  obtain ⟨y0, rfl, hy0⟩ := open_rec Tryd.underlying31 opens_sk (hval 0 31 v0 rfl rfl) h0
  obtain ⟨a1, rfl, rfl, rfl, w1⟩ := open_int Tryd.underlying5 (hval 1 5 v1 rfl rfl) h1
  have rr1 : 0 ≤ a1 ∧ a1 ≤ 255 := of_wf w1
  obtain ⟨a2, rfl, rfl, rfl, w2⟩ := open_int Tryd.underlying3 (hval 2 3 v2 rfl rfl) h2
  have rr2 : -9223372036854775808 ≤ a2 ∧ a2 ≤ 9223372036854775807 := of_wf w2
  clear hA0 hval0
  refine (BoxWrong_law W (env_of hL) y0 hy0 a1 rr1 a2 rr2).mono fun e W' ⟨he, bel⟩ => ?_
  subst he
  exact ⟨_, rfl, _, _, _, [], _, [], hW, (trodAll_cons_mk (shut_bool Tryd.underlying4 _) trodAll_mk0), (trodAll_cons_mk (Below.trod laidOut (by kernel_rfl) (of_decide_eq_true (by kernel_rfl)) k0 bel lt0) (trodAll_cons_mk (shut_int Tryd.underlying5 w1) (trodAll_cons_mk (shut_int Tryd.underlying3 w2) trodAll_mk0))), rfl, bel.frame _, fun h => by cases h⟩
theorem boxWrong_said : Rows.BoxWrongSaid :=
  OpenClaim.holds_of_wide 10 Tryd.f10 rfl rfl rfl rfl rfl rfl rfl ⟨rfl, rfl, rfl, rfl, rfl⟩ rfl rfl rfl rfl rfl (by kernel_rfl) Tryd.func10 (by kernel_rfl)
    (of_decide_eq_true (by kernel_rfl)) (by unfold Func.isWrapper; first | (rw [if_pos (by decide +kernel)]; kernel_rfl) | (rw [if_neg (by decide +kernel)]; exact ⟨rfl, rfl⟩))
    (fun os started H enc _ => boxWrong_lifted os started H enc)
theorem boxWrong_proved : Rows.BoxWrongCardSaid :=
  Claim7.holds_tied_plain_at .later [] [.data] true Rows.boxWrongCard.stood.harness Rows.boxWrongCard.stood.looks
    boxWrong_said (fun _ h => by cases h) (by kernel_rfl) (fun _ h => by cases h) boxWrong_row_tie rfl ⟨rfl, rfl⟩ (by kernel_rfl) rfl
    (fun f fn hf hfn => by
      obtain rfl : f = 10 := Option.some.inj ((show Tryd.prog.funcNamed "twistlock/twistlocklaw06.BoxWrong" = some 10 by kernel_rfl).symm.trans hf) |>.symm
      obtain rfl : fn = Tryd.f10 := (Option.some.inj (Tryd.func10.symm.trans hfn)).symm
      exact ⟨by kernel_rfl, fun j t ht => by
        rw [Tryd.params10] at ht
        have hm : t ∈ [31, 5, 3] := by simpa using Array.mem_of_getElem? ht
        have hall : ([31, 5, 3].all fun u => !Tryd.prog.wantsStandIn u) = true := by kernel_rfl
        exact (show Tryd.prog.wantsStandIn t = false by simpa using List.all_eq_true.1 hall t hm)⟩)
    (by kernel_rfl)
#print axioms boxWrong_proved
end Go.Proofs.YtjbbeolapaaiaaaDoor
