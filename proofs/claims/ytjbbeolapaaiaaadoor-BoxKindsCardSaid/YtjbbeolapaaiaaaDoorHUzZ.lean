import Derived.Test.YtjbbeolapaaiaaaDoorG04
import Derived.Test.YtjbbeolapaaiaaaDoorG05
/- BoxKinds: the law holds for every input; no condition but the row's own. -/
set_option linter.unusedVariables false
set_option linter.unusedSimpArgs false
set_option linter.unusedSectionVars false
namespace Go.Proofs.YtjbbeolapaaiaaaDoor
open Go Go.RowKit Tw
theorem run_min {P : Program} {o : Oper} {a : Act} {T : TypeId} {x y : Operand} {k : IntKind} {m n z : Int} (ho : o.op = .call { callee := .builtin .min, args := #[x, y], argTypes := #[T, T] }) (hx : a.eval x = .int k m) (hy : a.eval y = .int k n) (h : (if n < m then n else m) = z) (w : World) : (execOp a.eval o).run P w = .ok (.value (.int k z)) w := by
  subst h
  unfold execOp
  rw [ho]
  simp [resolve, invoke, builtin, Builtin.min_, Builtin.min2, hx, hy]
theorem run_max {P : Program} {o : Oper} {a : Act} {T : TypeId} {x y : Operand} {k : IntKind} {m n z : Int} (ho : o.op = .call { callee := .builtin .max, args := #[x, y], argTypes := #[T, T] }) (hx : a.eval x = .int k m) (hy : a.eval y = .int k n) (h : (if n > m then n else m) = z) (w : World) : (execOp a.eval o).run P w = .ok (.value (.int k z)) w := by
  subst h
  unfold execOp
  rw [ho]
  simp [resolve, invoke, builtin, Builtin.max_, Builtin.max2, hx, hy]
theorem min_ex (m n : Int) : ∃ z : Int, (if n < m then n else m) = z ∧ z ≤ m ∧ z ≤ n ∧ (z = m ∨ z = n) := ⟨_, rfl, by split <;> omega, by split <;> omega, by split <;> omega⟩
theorem max_ex (m n : Int) : ∃ z : Int, (if n > m then n else m) = z ∧ m ≤ z ∧ n ≤ z ∧ (z = m ∨ z = n) := ⟨_, rfl, by split <;> omega, by split <;> omega, by split <;> omega⟩
theorem min_nat (m n : Nat) : ∃ z : Nat, (if (n : Int) < (m : Int) then (n : Int) else (m : Int)) = (z : Int) ∧ z ≤ m ∧ z ≤ n ∧ (z = m ∨ z = n) := by
  rcases Nat.lt_or_ge n m with h | h
  · exact ⟨n, if_pos (by omega), by omega, by omega, .inr rfl⟩
  · exact ⟨m, if_neg (by omega), by omega, by omega, .inl rfl⟩
instance : DecidableEq Sm := fun a b => decidable_of_iff (a.n = b.n ∧ a.h = b.h ∧ a.k = b.k ∧ a.r = b.r ∧ a.d = b.d) (by cases a; cases b; simp)
theorem eql_sm {a b : Sm} {e : Bool} {px py : Operand} (h : decide (a = b) = e) (w : World) : (do eqGuard .eql 47 px py (smV a) (smV b); binOp .eql 47 (smV a) (smV b) : Sem Value).run Tryd.prog w = .ok (.bool e) w := by
  subst h
  obtain ⟨a1, a2, a3, a4, a5⟩ := a
  obtain ⟨b1, b2, b3, b4, b5⟩ := b
  unfold smV smC
  go_simp
  have e1 : ((a1 : Int) = (b1 : Int)) = (a1 = b1) := by apply propext; omega
  have e2 : ((a2 : Int) = (b2 : Int)) = (a2 = b2) := by apply propext; omega
  have e4 : ((a4 : Int) = (b4 : Int)) = (a4 = b4) := by apply propext; omega
  have e5 : ((a5 : Int) = (b5 : Int)) = (a5 = b5) := by apply propext; omega
  simp only [e1, e2, e4, e5, Sm.mk.injEq]
  by_cases h1 : a1 = b1 <;> by_cases h2 : a2 = b2 <;> by_cases h3 : a3 = b3 <;> by_cases h4 : a4 = b4 <;> by_cases h5 : a5 = b5 <;> simp [h1, h2, h3, h4, h5]
theorem neq_sm {a b : Sm} {e : Bool} {px py : Operand} (h : decide (a = b) = e) (w : World) : (do eqGuard .neq 47 px py (smV a) (smV b); binOp .neq 47 (smV a) (smV b) : Sem Value).run Tryd.prog w = .ok (.bool (!e)) w := by
  subst h
  obtain ⟨a1, a2, a3, a4, a5⟩ := a
  obtain ⟨b1, b2, b3, b4, b5⟩ := b
  unfold smV smC
  go_simp
  have e1 : ((a1 : Int) = (b1 : Int)) = (a1 = b1) := by apply propext; omega
  have e2 : ((a2 : Int) = (b2 : Int)) = (a2 = b2) := by apply propext; omega
  have e4 : ((a4 : Int) = (b4 : Int)) = (a4 = b4) := by apply propext; omega
  have e5 : ((a5 : Int) = (b5 : Int)) = (a5 = b5) := by apply propext; omega
  simp only [e1, e2, e4, e5, Sm.mk.injEq]
  by_cases h1 : a1 = b1 <;> by_cases h2 : a2 = b2 <;> by_cases h3 : a3 = b3 <;> by_cases h4 : a4 = b4 <;> by_cases h5 : a5 = b5 <;> simp [h1, h2, h3, h4, h5]
theorem valid_one {b : Bx} (h : rightX b = false) : validV [b] = .tuple #[.int .i64 0, .int .i64 60] := by
  unfold validV
  rw [if_neg (by simp), firstBad_some (k := 0) (by simp) (fun j hj => absurd hj (Nat.not_lt_zero _)) (bad_right rfl h)]
  rfl
theorem total_one {b : Bx} (h : rightX b = false) : totalX [b] = sm0 := add_wrong h
theorem made_size (n : Nat) (x : Sk) : (madeX n x).size = 20 ∨ (madeX n x).size = 40 := by
  unfold madeX
  dsimp only
  split
  · exact .inr rfl
  · exact .inl rfl
section
variable {b : Bx}
theorem wr1 (h : rul1 b = false) : rightX b = false := by unfold rightX; simp [h]
theorem wr2 (h : rul2 b = false) : rightX b = false := by unfold rightX; simp [h]
theorem wr3 (h : rul3 b = false) : rightX b = false := by unfold rightX; simp [h]
theorem wr4 (h : rul4 b = false) : rightX b = false := by unfold rightX; simp [h]
theorem wr5 (h : rul5 b = false) : rightX b = false := by unfold rightX; simp [h]
theorem wr6 (h : rulW 20 32000 b = false) : rightX b = false := by unfold rightX; simp [h]
theorem wr7 (h : rulW 40 40000 b = false) : rightX b = false := by unfold rightX; simp [h]
theorem wr8 (h : rul8 b = false) : rightX b = false := by unfold rightX; simp [h]
theorem wr10 (h : rul10 b = false) : rightX b = false := by unfold rightX; simp [h]
end
end Go.Proofs.YtjbbeolapaaiaaaDoor
namespace Go.Proofs.YtjbbeolapaaiaaaDoor
open Go Go.RowKit Tw
theorem made_calls (n : Nat) (x : Sk) : ∃ L D : Nat, (madeX n x).load = (L : Int) ∧ (madeX n x).dis = (D : Int) ∧ L < D ∧ D ≤ 19 := by
  refine ⟨x.load % 19, x.load % 19 + 1 + x.stay % (19 - x.load % 19), rfl, rfl, by omega, ?_⟩
  have := Nat.mod_lt x.stay (show 0 < 19 - x.load % 19 by omega)
  omega
set_option maxRecDepth 100000 in
set_option maxHeartbeats 40000000 in
theorem BoxStays_law (w : World) (hE : Env w) (x : Sk) (hx : skOk x) : Calls Tryd.prog 6 #[(.agg (skC x).toArray)] w fun e w' => e = .returned (.bool true) ∧ Below w.heap.size w w' := by
  have HE := Lib.hid hE
  clear hE
  obtain ⟨L, D, hL, hD, hLD, hD2⟩ := made_calls 0 x
  go_enter Tryd.func6, Tryd.ntmps6
  refine wp_seq ?_
  refine wp_region_L (W0 := w) [] (KS.start w) ?_
  refine wpL_new (fun g => .pointer (some ⟨g, 0, none⟩)) (obi := .cells (skC x).toArray 31 (0, 0)) rfl rfl (fun _ => by kernel_rfl) (fun _ => by simp only [List.setIfInBounds_toArray, List.set_cons_succ, List.set_cons_zero] <;> rfl) fun g1 Bg1 Fg1 => ?_
  refine lm (v := .bool false) rfl rfl ?_
  refine wpL_done (fun W1 hW1 => ?_)
  refine (show Code.wp _ _ _ _ _ from ?_)
  refine wp_seq ?_
  refine wp_region_L (W0 := w) [(g1, .cells (skC x).toArray 31 (0, 0))] (hW1) ?_
  refine lv (v := (.agg (skC x).toArray)) rfl rfl (yb_load (n := 6) (off := 0) rfl (by kernel_rfl) (.head _) Tryd.underlying31 rfl (by kernel_rfl) (by first | (simp; done) | exact Nat.le_of_ble_eq_true rfl) (by kernel_rfl)) ?_
  refine lv (v := bxV (madeX 0 x)) rfl rfl (yb_call (f := 17) (args := #[.int .i64 0, (.agg (skC x).toArray)]) (fun _ => by kernel_rfl) fun W hW => Made_any 0 x (by omega) hx W) ?_
  refine wpL_new (fun g => .pointer (some ⟨g, 0, none⟩)) (obi := .cells (bxC bx0) 26 (0, 0)) rfl rfl (fun _ => by kernel_rfl) (fun _ => by simp only [List.setIfInBounds_toArray, List.set_cons_succ, List.set_cons_zero] <;> rfl) fun g2 Bg2 Fg2 => ?_
  obtain dj3_0 : g1 ≠ g2 := by simpa only [dj_app_l, dj_app_r, dj_cons_l, dj_cons_r, dj_nil_l, dj_nil_r, dk_app, dk_cons, dk_nil, and_true, true_and, and_assoc] using (show Dk g2 [(g1, .cells (skC x).toArray 31 (0, 0))] from Fg2)
  refine wpL_s [(g2, .cells (bxC (madeX 0 x)) 26 (0, 0)), (g1, .cells (skC x).toArray 31 (0, 0))] rfl rfl (st_bx (b := (madeX 0 x)) rfl (by kernel_rfl) (by kernel_rfl) (.head _) rfl Bg2 (by kernel_rfl) (List.forall_mem_cons.2 ⟨.inl rfl, (List.forall_mem_cons.2 ⟨.inr ⟨(.tail _ (.head _)), (by first | assumption | exact Ne.symm (by assumption))⟩, (List.forall_mem_nil _)⟩)⟩)) ?_
  refine wpL_done (fun W2 hW2 => ?_)
  refine (show Code.wp _ _ _ _ _ from ?_)
  refine wp_seq ?_
  refine wp_region_L (W0 := w) [(g2, .cells (bxC (madeX 0 x)) 26 (0, 0)), (g1, .cells (skC x).toArray 31 (0, 0))] (hW2) ?_
  refine lm (v := .int .i64 0) rfl rfl ?_
  refine wpL_done (fun W3 hW3 => ?_)
  refine (show Code.wp _ _ _ _ _ from ?_)
  refine wp_seq ?_
  refine wp_seq ?_
  refine wp_region_L (W0 := w) [(g2, .cells (bxC (madeX 0 x)) 26 (0, 0)), (g1, .cells (skC x).toArray 31 (0, 0))] (hW3) ?_
  refine lm (v := .int .i64 (-2)) rfl rfl ?_
  refine wpL_done (fun W4 hW4 => ?_)
  refine (show Code.wp _ _ _ _ _ from ?_)
  refine wp_block ?_
  go_loopw [4, 5] (fun u4 u5 wr => ∃ (c n : Int), (-2 ≤ c ∧ c ≤ 25) ∧ ((c ≤ (L : Int) → n = 0) ∧ ((L : Int) ≤ c ∧ c ≤ (D : Int) → n = c - L) ∧ ((D : Int) ≤ c → n = (D : Int) - L)) ∧ u4 = .int .i64 n ∧ u5 = .int .i64 c ∧ KS w [(g2, .cells (bxC (madeX 0 x)) 26 (0, 0)), (g1, .cells (skC x).toArray 31 (0, 0))] wr) (fun _ u5 _ => (25 - intOf u5).toNat)
  case atStart => exact ⟨-2, 0, (by omega), (by omega), rfl, rfl, (hW4.sub (fun p hp => by first | exact hp | (simp only [List.mem_cons, List.mem_append, List.nil_append, List.not_mem_nil, or_assoc, or_false, false_or] at hp ⊢ <;> grind)))⟩
  case round =>
    obtain ⟨c, n, hc, hn, rfl, rfl, hL5⟩ := hrel
    refine wp_seq ?_
    refine wp_seq ?_
    refine wp_region_L (W0 := w) [(g2, .cells (bxC (madeX 0 x)) 26 (0, 0)), (g1, .cells (skC x).toArray 31 (0, 0))] (hL5) ?_
    refine lm (v := .int .i64 c) rfl rfl ?_
    refine lp (v := .bool (decide (c < 25))) rfl rfl (run_bin rfl (vx := (.int .i64 c)) (vy := (.int .i64 25)) (by kernel_rfl) (by kernel_rfl) fun w => bi_lss rfl w) ?_
    refine wpL_done (fun W6 hW6 => ?_)
    refine (show Code.wp _ _ _ _ _ from ?_)
    cases hd1 : (decide (c < 25)) with
    | false =>
      have h1 : ¬ (c < 25) := of_decide_eq_false hd1
      clear hd1
      refine wp_cond_false rfl ?_
      refine wp_exit ?_
      refine (show Code.wp _ _ _ _ _ from ?_)
      refine wp_seq ?_
      refine wp_region_L (W0 := w) [(g2, .cells (bxC (madeX 0 x)) 26 (0, 0)), (g1, .cells (skC x).toArray 31 (0, 0))] (hW6) ?_
      refine lm (v := .int .i64 n) rfl rfl ?_
      refine lm (v := .pointer (some ⟨g2, 6, none⟩)) rfl rfl ?_
      refine lv (v := .int .i64 ((madeX 0 x).dis)) rfl rfl (yb_cell (off := 6) rfl (by kernel_rfl) (.head _) Tryd.underlying3 rfl (by kernel_rfl)) ?_
      refine lm (v := .pointer (some ⟨g2, 5, none⟩)) rfl rfl ?_
      refine lv (v := .int .i64 ((madeX 0 x).load)) rfl rfl (yb_cell (off := 5) rfl (by kernel_rfl) (.head _) Tryd.underlying3 rfl (by kernel_rfl)) ?_
      refine lp (v := .int .i64 (((madeX 0 x).dis) - ((madeX 0 x).load))) rfl rfl (run_bin rfl (vx := (.int .i64 ((madeX 0 x).dis))) (vy := (.int .i64 ((madeX 0 x).load))) (by kernel_rfl) (by kernel_rfl) fun w => bi_sub (z := (((madeX 0 x).dis) - ((madeX 0 x).load))) rfl (wi_i64 (by omega)) w) ?_
      refine lp (v := .bool (decide (n = (((madeX 0 x).dis) - ((madeX 0 x).load))))) rfl rfl (run_bin rfl (vx := (.int .i64 n)) (vy := (.int .i64 (((madeX 0 x).dis) - ((madeX 0 x).load)))) (by kernel_rfl) (by kernel_rfl) fun w => bi_eql rfl w) ?_
      refine lm (v := .bool (decide (n = (((madeX 0 x).dis) - ((madeX 0 x).load))))) rfl rfl ?_
      cases hd2 : (decide (n = (((madeX 0 x).dis) - ((madeX 0 x).load)))) with
      | false =>
        have h2 : ¬ (n = (((madeX 0 x).dis) - ((madeX 0 x).load))) := of_decide_eq_false hd2
        clear hd2
        rw [hL, hD] at h2
        refine ln rfl ?_
        refine ln rfl ?_
        refine lm (v := .bool false) rfl rfl ?_
        refine lm (v := .bool false) rfl rfl ?_
        refine ln rfl ?_
        refine lm (v := .bool false) rfl rfl ?_
        refine lm (v := .bool false) rfl rfl ?_
        refine wpL_done (fun W7 hW7 => ?_)
        refine (show Code.wp _ _ _ _ _ from ?_)
        refine wp_ret ?_
        exfalso
        omega
      | true =>
        have h2 : n = (((madeX 0 x).dis) - ((madeX 0 x).load)) := of_decide_eq_true hd2
        clear hd2
        rw [hL, hD] at h2
        refine lm (v := .int .i64 n) rfl rfl ?_
        refine lp (v := .bool (decide (0 < n))) rfl rfl (run_bin rfl (vx := (.int .i64 n)) (vy := (.int .i64 0)) (by kernel_rfl) (by kernel_rfl) fun w => bi_gtr rfl w) ?_
        refine lm (v := .bool (decide (0 < n))) rfl rfl ?_
        refine lm (v := .bool (decide (0 < n))) rfl rfl ?_
        cases hd3 : (decide (0 < n)) with
        | false =>
          have h3 : ¬ (0 < n) := of_decide_eq_false hd3
          clear hd3
          refine ln rfl ?_
          refine lm (v := .bool false) rfl rfl ?_
          refine lm (v := .bool false) rfl rfl ?_
          refine wpL_done (fun W8 hW8 => ?_)
          refine (show Code.wp _ _ _ _ _ from ?_)
          refine wp_ret ?_
          exfalso
          omega
        | true =>
          have h3 : 0 < n := of_decide_eq_true hd3
          clear hd3
          refine lv (v := .bool true) rfl rfl (yb_call (f := 12) (args := #[]) (fun _ => by kernel_rfl) fun W hW => awake_any W (HE.out.keep hW.1)) ?_
          refine lm (v := .bool true) rfl rfl ?_
          refine lm (v := .bool true) rfl rfl ?_
          refine wpL_done (fun W9 hW9 => ?_)
          refine (show Code.wp _ _ _ _ _ from ?_)
          refine wp_ret ?_
          try simp only [inBlock_ret, then_ret]
          refine bodyPost_ret (v := .bool true) ?_ rfl ?_
          · kernel_rfl
          · exact ⟨rfl, hW9.1⟩
    | true =>
      have h1 : c < 25 := of_decide_eq_true hd1
      clear hd1
      refine wp_cond_true rfl ?_
      refine wp_skip ?_
      refine (show Code.wp _ _ _ _ _ from ?_)
      refine wp_seq ?_
      refine wp_block ?_
      refine wp_seq ?_
      refine wp_region_L (W0 := w) [(g2, .cells (bxC (madeX 0 x)) 26 (0, 0)), (g1, .cells (skC x).toArray 31 (0, 0))] (hW6) ?_
      refine lv (v := bxV (madeX 0 x)) rfl rfl (yb_load (n := 9) (off := 0) rfl (by kernel_rfl) (.head _) Tryd.underlying26 rfl (by kernel_rfl) (Nat.le_refl 9) (by kernel_rfl)) ?_
      refine lm (v := .int .i64 c) rfl rfl ?_
      refine lv (v := .bool (aboardX (madeX 0 x) c)) rfl rfl (yb_call (f := 23) (args := #[bxV (madeX 0 x), .int .i64 c]) (fun _ => by kernel_rfl) fun W hW => Aboard_any (madeX 0 x) c W) ?_
      refine wpL_done (fun W10 hW10 => ?_)
      refine (show Code.wp _ _ _ _ _ from ?_)
      cases h4 : (aboardX (madeX 0 x) c) with
      | false =>
        have ha : ¬ ((L : Int) ≤ c ∧ c < (D : Int)) := by rw [← hL, ← hD]; simpa [aboardX] using h4
        refine wp_cond_false rfl ?_
        refine wp_skip ?_
        refine (show Code.wp _ _ _ _ _ from ?_)
        refine wp_region_L (W0 := w) [(g2, .cells (bxC (madeX 0 x)) 26 (0, 0)), (g1, .cells (skC x).toArray 31 (0, 0))] (hW10) ?_
        refine lm (v := .int .i64 c) rfl rfl ?_
        refine lp (v := .int .i64 (c + 1)) rfl rfl (run_bin rfl (vx := (.int .i64 c)) (vy := (.int .i64 1)) (by kernel_rfl) (by kernel_rfl) fun w => bi_add (z := (c + 1)) rfl (wi_i64 (by omega)) w) ?_
        refine lm (v := .int .i64 (c + 1)) rfl rfl ?_
        refine wpL_done (fun W11 hW11 => ?_)
        go_roundw
        case rel =>
          repeat apply Exists.intro
          exact ⟨⟨c + 1, n, (by omega), (by omega), rfl, rfl, (hW11.sub (fun p hp => by first | exact hp | (simp only [List.mem_cons, List.mem_append, List.nil_append, List.not_mem_nil, or_assoc, or_false, false_or] at hp ⊢ <;> grind)))⟩, rfl⟩
        case measure => (show (25 - intOf (.int .i64 (c + 1))).toNat < (25 - intOf (.int .i64 c)).toNat); simp only [intOf]; omega
      | true =>
        have ha : ((L : Int) ≤ c ∧ c < (D : Int)) := by rw [← hL, ← hD]; simpa [aboardX] using h4
        refine wp_cond_true rfl ?_
        refine wp_seq ?_
        refine wp_region_L (W0 := w) [(g2, .cells (bxC (madeX 0 x)) 26 (0, 0)), (g1, .cells (skC x).toArray 31 (0, 0))] (hW10) ?_
        refine lm (v := .int .i64 n) rfl rfl ?_
        refine lp (v := .int .i64 (n + 1)) rfl rfl (run_bin rfl (vx := (.int .i64 n)) (vy := (.int .i64 1)) (by kernel_rfl) (by kernel_rfl) fun w => bi_add (z := (n + 1)) rfl (wi_i64 (by omega)) w) ?_
        refine lm (v := .int .i64 (n + 1)) rfl rfl ?_
        refine wpL_done (fun W12 hW12 => ?_)
        refine (show Code.wp _ _ _ _ _ from ?_)
        refine wp_seq ?_
        refine wp_region_L (W0 := w) [(g2, .cells (bxC (madeX 0 x)) 26 (0, 0)), (g1, .cells (skC x).toArray 31 (0, 0))] (hW12) ?_
        refine lm (v := .int .i64 c) rfl rfl ?_
        refine lm (v := .pointer (some ⟨g2, 5, none⟩)) rfl rfl ?_
        refine lv (v := .int .i64 ((madeX 0 x).load)) rfl rfl (yb_cell (off := 5) rfl (by kernel_rfl) (.head _) Tryd.underlying3 rfl (by kernel_rfl)) ?_
        refine lp (v := .bool (decide (c < ((madeX 0 x).load)))) rfl rfl (run_bin rfl (vx := (.int .i64 c)) (vy := (.int .i64 ((madeX 0 x).load))) (by kernel_rfl) (by kernel_rfl) fun w => bi_lss rfl w) ?_
        refine lm (v := .bool (decide (c < ((madeX 0 x).load)))) rfl rfl ?_
        cases hd5 : (decide (c < ((madeX 0 x).load))) with
        | false =>
          have h5 : ¬ (c < ((madeX 0 x).load)) := of_decide_eq_false hd5
          clear hd5
          rw [hL] at h5
          refine lm (v := .int .i64 c) rfl rfl ?_
          refine lm (v := .pointer (some ⟨g2, 6, none⟩)) rfl rfl ?_
          refine lv (v := .int .i64 ((madeX 0 x).dis)) rfl rfl (yb_cell (off := 6) rfl (by kernel_rfl) (.head _) Tryd.underlying3 rfl (by kernel_rfl)) ?_
          refine lp (v := .bool (!(decide (c < ((madeX 0 x).dis))))) rfl rfl (run_bin rfl (vx := (.int .i64 c)) (vy := (.int .i64 ((madeX 0 x).dis))) (by kernel_rfl) (by kernel_rfl) fun w => bi_geq rfl w) ?_
          refine lm (v := .bool (!(decide (c < ((madeX 0 x).dis))))) rfl rfl ?_
          refine wpL_done (fun W13 hW13 => ?_)
          refine (show Code.wp _ _ _ _ _ from ?_)
          cases hd6 : (decide (c < ((madeX 0 x).dis))) with
          | false =>
            have h6 : ¬ (c < ((madeX 0 x).dis)) := of_decide_eq_false hd6
            clear hd6
            rw [hD] at h6
            refine wp_cond_true rfl ?_
            refine wp_seq ?_
            refine wp_region_L (W0 := w) [(g2, .cells (bxC (madeX 0 x)) 26 (0, 0)), (g1, .cells (skC x).toArray 31 (0, 0))] (hW13) ?_
            refine lm (v := .bool false) rfl rfl ?_
            refine wpL_done (fun W14 hW14 => ?_)
            refine (show Code.wp _ _ _ _ _ from ?_)
            refine wp_ret ?_
            exfalso
            omega
          | true =>
            have h6 : c < ((madeX 0 x).dis) := of_decide_eq_true hd6
            clear hd6
            rw [hD] at h6
            refine wp_cond_false rfl ?_
            refine wp_skip ?_
            refine (show Code.wp _ _ _ _ _ from ?_)
            refine wp_region_L (W0 := w) [(g2, .cells (bxC (madeX 0 x)) 26 (0, 0)), (g1, .cells (skC x).toArray 31 (0, 0))] (hW13) ?_
            refine lm (v := .int .i64 c) rfl rfl ?_
            refine lp (v := .int .i64 (c + 1)) rfl rfl (run_bin rfl (vx := (.int .i64 c)) (vy := (.int .i64 1)) (by kernel_rfl) (by kernel_rfl) fun w => bi_add (z := (c + 1)) rfl (wi_i64 (by omega)) w) ?_
            refine lm (v := .int .i64 (c + 1)) rfl rfl ?_
            refine wpL_done (fun W15 hW15 => ?_)
            go_roundw
            case rel =>
              repeat apply Exists.intro
              exact ⟨⟨c + 1, (n + 1), (by omega), (by omega), rfl, rfl, (hW15.sub (fun p hp => by first | exact hp | (simp only [List.mem_cons, List.mem_append, List.nil_append, List.not_mem_nil, or_assoc, or_false, false_or] at hp ⊢ <;> grind)))⟩, rfl⟩
            case measure => (show (25 - intOf (.int .i64 (c + 1))).toNat < (25 - intOf (.int .i64 c)).toNat); simp only [intOf]; omega
        | true =>
          have h5 : c < ((madeX 0 x).load) := of_decide_eq_true hd5
          clear hd5
          rw [hL] at h5
          refine ln rfl ?_
          refine ln rfl ?_
          refine ln rfl ?_
          refine ln rfl ?_
          refine lm (v := .bool true) rfl rfl ?_
          refine wpL_done (fun W16 hW16 => ?_)
          refine (show Code.wp _ _ _ _ _ from ?_)
          refine wp_cond_true rfl ?_
          refine wp_seq ?_
          refine wp_region_L (W0 := w) [(g2, .cells (bxC (madeX 0 x)) 26 (0, 0)), (g1, .cells (skC x).toArray 31 (0, 0))] (hW16) ?_
          refine lm (v := .bool false) rfl rfl ?_
          refine wpL_done (fun W17 hW17 => ?_)
          refine (show Code.wp _ _ _ _ _ from ?_)
          refine wp_ret ?_
          exfalso
          omega
end Go.Proofs.YtjbbeolapaaiaaaDoor
namespace Go.Proofs.YtjbbeolapaaiaaaDoor
open Go Go.RowKit Tw
theorem fitF_app (l m : List UInt8) : ∀ i, fitF i (l ++ m) = (fitF i l && fitF (i + l.length) m) := by
  induction l with
  | nil => intro i; simp [fitF]
  | cons b l ih => intro i; simp only [List.cons_append, fitF, ih, List.length_cons, Bool.and_assoc]; rw [show i + 1 + l.length = i + (l.length + 1) from by omega]
theorem judge_chk {p : List UInt8} (h : fitB p 10 = true) : judgeN (p ++ [UInt8.ofNat (chkN p)]) = 0 := by
  have hl := fit_len h
  have hf := fit_fit h
  have hc := chkN_le p
  have e : (UInt8.ofNat (chkN p)).toNat = chkN p := by rw [UInt8.toNat_ofNat']; omega
  have h1 : fitB (p ++ [UInt8.ofNat (chkN p)]) 11 = true := by
    have hm : mayB 10 (UInt8.ofNat (chkN p)) = true := by
      unfold mayB isDig
      rw [if_neg (by omega), if_neg (by omega), e]
      simp
      omega
    unfold fitB
    rw [fitF_app, hf, hl]
    simp [fitF, hl, hm]
  have h2 : agrB (p ++ [UInt8.ofNat (chkN p)]) = true := by
    unfold agrB
    rw [List.take_left' hl, List.getD_eq_getElem?_getD, List.getElem?_append_right (by omega), hl]
    simp [e]
  unfold judgeN
  rw [if_pos h1, if_pos h2]
theorem made_right {n : Nat} {x : Sk} (hx : skOk x) : rightX (madeX n x) = true := by
  obtain ⟨x1, x2, x3, x4, x5, x6⟩ := hx
  obtain ⟨L, D, hL, hD, hLD, hD2⟩ := made_calls n x
  have hms := made_size n x
  have r1 : rul1 (madeX n x) = true := by
    show (decide (1 ≤ (((1 + n % 65536 : Nat)) : Int)) && decide ((((1 + n % 65536 : Nat)) : Int) ≤ 999999)) = true
    have := Nat.mod_lt n (show 0 < 65536 by omega)
    simp
    omega
  have r2 : rul2 (madeX n x) = true := by
    show (decide (numX x = []) || decide (judgeN (numX x) = 0)) = true
    unfold numX
    split
    · rw [judge_chk (pay_fit x6)]; simp
    · rfl
  have r3 : rul3 (madeX n x) = true := by unfold rul3; rcases hms with h | h <;> simp [h]
  have r4 : rul4 (madeX n x) = true := by
    show (!(decide (x.kind % 2 = 1) && decide (x.kind &&& 2 = 2)) || decide ((if x.kind % 2 = 1 then 40 else 20) = 40)) = true
    by_cases h : x.kind % 2 = 1 <;> simp [h]
  have hk : (madeX n x).kilos = ((1 + x.kilos * 125 : Nat) : Int) := rfl
  have r5 : rul5 (madeX n x) = true := by unfold rul5; rw [hk]; simp; omega
  have r6 : rulW 20 32000 (madeX n x) = true := by unfold rulW; rw [hk]; simp; omega
  have r7 : rulW 40 40000 (madeX n x) = true := by unfold rulW; rw [hk]; simp; omega
  have r8 : rul8 (madeX n x) = true := by unfold rul8; rw [hL, hD]; simp; omega
  have r9 : rul9 (madeX n x) = true := by unfold rul9; rw [hD]; simp; omega
  have r10 : rul10 (madeX n x) = true := by
    show decide (x.cls % 10 ≤ 9) = true
    simp; omega
  unfold rightX
  simp [r1, r2, r3, r4, r5, r6, r7, r8, r9, r10]
theorem made_code {n : Nat} {x : Sk} : codeOk (madeX n x) = true := by
  show (decide ((if x.kind % 2 = 1 then 40 else 20) = 20) && !(decide (x.kind % 2 = 1) && decide (x.kind &&& 2 = 2)) || decide ((if x.kind % 2 = 1 then 40 else 20) = 40)) = true
  by_cases h : x.kind % 2 = 1 <;> simp [h]
end Go.Proofs.YtjbbeolapaaiaaaDoor
namespace Go.Proofs.YtjbbeolapaaiaaaDoor
open Go Go.RowKit Tw
theorem size_code {b : Bx} (h : codeOk b = true) : sizeV (codeS b) = .tuple #[.agg #[.int .u8 ((b.size : Nat) : Int), .bool b.high, .bool b.rf], .int .i64 0] := by
  obtain ⟨id, num, n, hi, k, l, d, c, r⟩ := b
  unfold codeOk at h
  simp only [Bool.or_eq_true, Bool.and_eq_true, decide_eq_true_eq, Bool.not_eq_true'] at h
  rcases h with ⟨rfl, rfl⟩ | rfl
  · cases r <;> rfl
  · cases hi <;> cases r <;> rfl
theorem bsize {b : Bx} (h : codeOk b = true) (W : World) (hE : Env W) : Calls Tryd.prog 19 #[strV (codeS b)] W fun e w' => e = .returned (.tuple #[.agg #[.int .u8 ((b.size : Nat) : Int), .bool b.high, .bool b.rf], .int .i64 0]) ∧ Below W.heap.size W w' := size_code h ▸ Size_any (codeS b) W hE
theorem code_same {a b : Bx} (h1 : a.size = b.size) (h2 : (a.high == b.high) = true) (h3 : (a.rf == b.rf) = true) : codeS a = codeS b := by
  have e2 : a.high = b.high := by simpa using h2
  have e3 : a.rf = b.rf := by simpa using h3
  unfold codeS
  rw [h1, e2, e3]
theorem code_inj {a b : Bx} (ha : codeOk a = true) (hb : codeOk b = true) (h : codeS a = codeS b) : a.size = b.size ∧ (a.high == b.high) = true ∧ (a.rf == b.rf) = true := by
  have h1 := size_code ha
  rw [h, size_code hb] at h1
  simp only [Value.tuple.injEq, Array.mk.injEq, List.cons.injEq, Value.agg.injEq, Value.int.injEq, Value.bool.injEq, and_true, true_and] at h1
  obtain ⟨h2, h3, h4⟩ := h1
  refine ⟨by omega, by simp [h3], by simp [h4]⟩
theorem high_eq (b : Bx) : (decide (heightX b = 2896) == b.high) = true := by unfold heightX; cases b.high <;> rfl
theorem halves20 {b : Bx} (h : b.size = 20 ∨ b.size = 40) : 20 * halvesX b = b.size := by unfold halvesX; rcases h with h | h <;> rw [h] <;> rfl
theorem height_same {a b : Bx} (h : (a.high == b.high) = true) : heightX a = heightX b := by
  have e2 : a.high = b.high := by simpa using h
  unfold heightX; rw [e2]
theorem halves_same {a b : Bx} (h : a.size = b.size) : halvesX a = halvesX b := by unfold halvesX; rw [h]
theorem ne_kind2 {x0 y0 : Nat} {x1 y1 : Bool} {x2 y2 : Bool} {e : Bool} {px py : Operand} (h : decide (x0 = y0 ∧ x1 = y1 ∧ x2 = y2) = e) (w : World) : (do eqGuard .neq 37 px py (.agg #[.int .u8 ((x0 : Nat) : Int), .bool x1, .bool x2]) (.agg #[.int .u8 ((y0 : Nat) : Int), .bool y1, .bool y2]); binOp .neq 37 (.agg #[.int .u8 ((x0 : Nat) : Int), .bool x1, .bool x2]) (.agg #[.int .u8 ((y0 : Nat) : Int), .bool y1, .bool y2]) : Sem Value).run Tryd.prog w = .ok (.bool (!e)) w := by
  subst h
  go_simp
  have e0 : ((x0 : Int) = (y0 : Int)) = (x0 = y0) := by apply propext; omega
  simp only [e0]
  by_cases h0 : x0 = y0 <;> by_cases h1 : x1 = y1 <;> by_cases h2 : x2 = y2 <;> simp [h0, h1, h2]
set_option maxRecDepth 100000 in
set_option maxHeartbeats 40000000 in
theorem BoxKinds_law (w : World) (hE : Env w) (x : Sk) (hx : skOk x) (y : Sk) (hy : skOk y) : Calls Tryd.prog 5 #[(.agg (skC x).toArray), (.agg (skC y).toArray)] w fun e w' => e = .returned (.bool true) ∧ Below w.heap.size w w' := by
  have HE := Lib.hid hE
  clear hE
  have hsa := made_size 0 x
  have hsb := made_size 1 y
  have hra := made_right (n := 0) hx
  have hrb := made_right (n := 1) hy
  have hhv := halves_le (madeX 0 x)
  go_enter Tryd.func5, Tryd.ntmps5
  refine wp_seq ?_
  refine wp_region_L (W0 := w) [] (KS.start w) ?_
  refine wpL_new (fun g => .pointer (some ⟨g, 0, none⟩)) (obi := .cells (skC x).toArray 31 (0, 0)) rfl rfl (fun _ => by kernel_rfl) (fun _ => by simp only [List.setIfInBounds_toArray, List.set_cons_succ, List.set_cons_zero] <;> rfl) fun g1 Bg1 Fg1 => ?_
  refine wpL_new (fun g => .pointer (some ⟨g, 0, none⟩)) (obi := .cells (skC y).toArray 31 (0, 0)) rfl rfl (fun _ => by kernel_rfl) (fun _ => by simp only [List.setIfInBounds_toArray, List.set_cons_succ, List.set_cons_zero] <;> rfl) fun g2 Bg2 Fg2 => ?_
  obtain dj3_0 : g1 ≠ g2 := by simpa only [dj_app_l, dj_app_r, dj_cons_l, dj_cons_r, dj_nil_l, dj_nil_r, dk_app, dk_cons, dk_nil, and_true, true_and, and_assoc] using (show Dk g2 [(g1, .cells (skC x).toArray 31 (0, 0))] from Fg2)
  refine lm (v := .bool false) rfl rfl ?_
  refine wpL_done (fun W1 hW1 => ?_)
  refine (show Code.wp _ _ _ _ _ from ?_)
  refine wp_seq ?_
  refine wp_region_V (W0 := w) [(g2, .cells (skC y).toArray 31 (0, 0)), (g1, .cells (skC x).toArray 31 (0, 0))] (by kernel_rfl) (hW1) ?_
  refine vv (i := 0) (v := (.agg (skC x).toArray)) rfl rfl rfl (yb_load (n := 6) (off := 0) rfl (by kernel_rfl) (.tail _ (.head _)) Tryd.underlying31 rfl (by kernel_rfl) (by first | (simp; done) | exact Nat.le_of_ble_eq_true rfl) (by kernel_rfl)) ?_
  refine vv (i := 1) (v := bxV (madeX 0 x)) rfl rfl rfl (yb_call (f := 17) (args := #[.int .i64 0, (.agg (skC x).toArray)]) (fun _ => by kernel_rfl) fun W hW => Made_any 0 x (by omega) hx W) ?_
  refine vv (i := 2) (v := (.agg (skC y).toArray)) rfl rfl rfl (yb_load (n := 6) (off := 0) rfl (by kernel_rfl) (.head _) Tryd.underlying31 rfl (by kernel_rfl) (by first | (simp; done) | exact Nat.le_of_ble_eq_true rfl) (by kernel_rfl)) ?_
  refine vv (i := 3) (v := bxV (madeX 1 y)) rfl rfl rfl (yb_call (f := 17) (args := #[.int .i64 1, (.agg (skC y).toArray)]) (fun _ => by kernel_rfl) fun W hW => Made_any 1 y (by omega) hy W) ?_
  refine wpV_2 (i := 4) (j := 5) (by kernel_rfl) ?_ ?_
  · refine stepV_ns (fun g => .pointer (some ⟨g, 0, none⟩)) (i := 4) (obi := .cells (bxC bx0) 26 (0, 0)) rfl rfl rfl (fun _ => by kernel_rfl) (fun _ => by simp only [List.setIfInBounds_toArray, List.set_cons_succ, List.set_cons_zero] <;> rfl) fun g4 Bg4 Fg4 => ?_
    obtain ⟨dj5_0, dj5_1⟩ : g2 ≠ g4 ∧ g1 ≠ g4 := by simpa only [dj_app_l, dj_app_r, dj_cons_l, dj_cons_r, dj_nil_l, dj_nil_r, dk_app, dk_cons, dk_nil, and_true, true_and, and_assoc] using (show Dk g4 [(g2, .cells (skC y).toArray 31 (0, 0)), (g1, .cells (skC x).toArray 31 (0, 0))] from Fg4)
    refine wpV_ns (fun g => .pointer (some ⟨g, 0, none⟩)) (i := 5) (obi := .cells (bxC bx0) 26 (0, 0)) rfl rfl rfl (by kernel_rfl) (fun _ => by kernel_rfl) (fun _ => by simp only [List.setIfInBounds_toArray, List.set_cons_succ, List.set_cons_zero] <;> rfl) fun g6 Bg6 Fg6 => ?_
    obtain ⟨dj7_0, dj7_1, dj7_2⟩ : g4 ≠ g6 ∧ g2 ≠ g6 ∧ g1 ≠ g6 := by simpa only [dj_app_l, dj_app_r, dj_cons_l, dj_cons_r, dj_nil_l, dj_nil_r, dk_app, dk_cons, dk_nil, and_true, true_and, and_assoc] using (show Dk g6 [(g4, .cells (bxC bx0) 26 (0, 0)), (g2, .cells (skC y).toArray 31 (0, 0)), (g1, .cells (skC x).toArray 31 (0, 0))] from Fg6)
    refine wpV_s [(g6, .cells (bxC bx0) 26 (0, 0)), (g4, .cells (bxC (madeX 0 x)) 26 (0, 0)), (g2, .cells (skC y).toArray 31 (0, 0)), (g1, .cells (skC x).toArray 31 (0, 0))] (i := 6) rfl (by kernel_rfl) rfl rfl rfl (st_bx (b := (madeX 0 x)) rfl (by kernel_rfl) (by kernel_rfl) (.tail _ (.head _)) rfl Bg4 (by kernel_rfl) (List.forall_mem_cons.2 ⟨.inr ⟨(.head _), (by first | assumption | exact Ne.symm (by assumption))⟩, (List.forall_mem_cons.2 ⟨.inl rfl, (List.forall_mem_cons.2 ⟨.inr ⟨(.tail _ (.tail _ (.head _))), (by first | assumption | exact Ne.symm (by assumption))⟩, (List.forall_mem_cons.2 ⟨.inr ⟨(.tail _ (.tail _ (.tail _ (.head _)))), (by first | assumption | exact Ne.symm (by assumption))⟩, (List.forall_mem_nil _)⟩)⟩)⟩)⟩)) ?_
    refine wpV_s [(g6, .cells (bxC (madeX 1 y)) 26 (0, 0)), (g4, .cells (bxC (madeX 0 x)) 26 (0, 0)), (g2, .cells (skC y).toArray 31 (0, 0)), (g1, .cells (skC x).toArray 31 (0, 0))] (i := 7) rfl (by kernel_rfl) rfl rfl rfl (st_bx (b := (madeX 1 y)) rfl (by kernel_rfl) (by kernel_rfl) (.head _) rfl Bg6 (by kernel_rfl) (List.forall_mem_cons.2 ⟨.inl rfl, (List.forall_mem_cons.2 ⟨.inr ⟨(.tail _ (.head _)), (by first | assumption | exact Ne.symm (by assumption))⟩, (List.forall_mem_cons.2 ⟨.inr ⟨(.tail _ (.tail _ (.head _))), (by first | assumption | exact Ne.symm (by assumption))⟩, (List.forall_mem_cons.2 ⟨.inr ⟨(.tail _ (.tail _ (.tail _ (.head _)))), (by first | assumption | exact Ne.symm (by assumption))⟩, (List.forall_mem_nil _)⟩)⟩)⟩)⟩)) ?_
    refine wpV_done (by kernel_rfl) (fun W2 hW2 => ?_) _
    refine (show Code.wp _ _ _ _ _ from ?_)
    refine wp_seq ?_
    refine wp_region_L (W0 := w) [(g6, .cells (bxC (madeX 1 y)) 26 (0, 0)), (g4, .cells (bxC (madeX 0 x)) 26 (0, 0)), (g2, .cells (skC y).toArray 31 (0, 0)), (g1, .cells (skC x).toArray 31 (0, 0))] (hW2) ?_
    refine lv (v := bxV (madeX 0 x)) rfl rfl (yb_load (n := 9) (off := 0) rfl (by kernel_rfl) (.tail _ (.head _)) Tryd.underlying26 rfl (by kernel_rfl) (Nat.le_refl 9) (by kernel_rfl)) ?_
    refine lv (v := .tuple #[strV (codeS (madeX 0 x)), .int .i64 0]) rfl rfl (yb_call (f := 18) (args := #[bxV (madeX 0 x)]) (fun _ => by kernel_rfl) fun W hW => bcode_ok (b := (madeX 0 x)) made_code W (HE.out.keep hW.1)) ?_
    refine lm (v := .tuple #[strV (codeS (madeX 0 x)), .int .i64 0]) rfl rfl ?_
    refine lm (v := strV (codeS (madeX 0 x))) rfl rfl ?_
    refine lm (v := .int .i64 0) rfl rfl ?_
    refine lm (v := strV (codeS (madeX 0 x))) rfl rfl ?_
    refine lm (v := .int .i64 0) rfl rfl ?_
    refine wpL_done (fun W3 hW3 => ?_)
    refine (show Code.wp _ _ _ _ _ from ?_)
    refine wp_seq ?_
    refine wp_region_L (W0 := w) [(g6, .cells (bxC (madeX 1 y)) 26 (0, 0)), (g4, .cells (bxC (madeX 0 x)) 26 (0, 0)), (g2, .cells (skC y).toArray 31 (0, 0)), (g1, .cells (skC x).toArray 31 (0, 0))] (hW3) ?_
    refine lv (v := bxV (madeX 1 y)) rfl rfl (yb_load (n := 9) (off := 0) rfl (by kernel_rfl) (.head _) Tryd.underlying26 rfl (by kernel_rfl) (Nat.le_refl 9) (by kernel_rfl)) ?_
    refine lv (v := .tuple #[strV (codeS (madeX 1 y)), .int .i64 0]) rfl rfl (yb_call (f := 18) (args := #[bxV (madeX 1 y)]) (fun _ => by kernel_rfl) fun W hW => bcode_ok (b := (madeX 1 y)) made_code W (HE.out.keep hW.1)) ?_
    refine lm (v := .tuple #[strV (codeS (madeX 1 y)), .int .i64 0]) rfl rfl ?_
    refine lm (v := strV (codeS (madeX 1 y))) rfl rfl ?_
    refine lm (v := .int .i64 0) rfl rfl ?_
    refine lm (v := strV (codeS (madeX 1 y))) rfl rfl ?_
    refine lm (v := .int .i64 0) rfl rfl ?_
    refine wpL_done (fun W4 hW4 => ?_)
    refine (show Code.wp _ _ _ _ _ from ?_)
    refine wp_seq ?_
    refine wp_region_L (W0 := w) [(g6, .cells (bxC (madeX 1 y)) 26 (0, 0)), (g4, .cells (bxC (madeX 0 x)) 26 (0, 0)), (g2, .cells (skC y).toArray 31 (0, 0)), (g1, .cells (skC x).toArray 31 (0, 0))] (hW4) ?_
    refine lm (v := strV (codeS (madeX 0 x))) rfl rfl ?_
    refine lv (v := .tuple #[.agg #[.int .u8 ((((madeX 0 x).size) : Nat) : Int), .bool ((madeX 0 x).high), .bool ((madeX 0 x).rf)], .int .i64 0]) rfl rfl (yb_call (f := 19) (args := #[strV (codeS (madeX 0 x))]) (fun _ => by kernel_rfl) fun W hW => bsize (b := (madeX 0 x)) made_code W (HE.out.keep hW.1)) ?_
    refine lm (v := .tuple #[.agg #[.int .u8 ((((madeX 0 x).size) : Nat) : Int), .bool ((madeX 0 x).high), .bool ((madeX 0 x).rf)], .int .i64 0]) rfl rfl ?_
    refine lm (v := .agg #[.int .u8 ((((madeX 0 x).size) : Nat) : Int), .bool ((madeX 0 x).high), .bool ((madeX 0 x).rf)]) rfl rfl ?_
    refine lm (v := .int .i64 0) rfl rfl ?_
    refine wpL_new (fun g => .pointer (some ⟨g, 0, none⟩)) (obi := .cells #[.int .u8 0, .bool false, .bool false] 37 (0, 0)) rfl rfl (fun _ => by kernel_rfl) (fun _ => by simp only [List.setIfInBounds_toArray, List.set_cons_succ, List.set_cons_zero] <;> rfl) fun g8 Bg8 Fg8 => ?_
    obtain ⟨dj9_0, dj9_1, dj9_2, dj9_3⟩ : g6 ≠ g8 ∧ g4 ≠ g8 ∧ g2 ≠ g8 ∧ g1 ≠ g8 := by simpa only [dj_app_l, dj_app_r, dj_cons_l, dj_cons_r, dj_nil_l, dj_nil_r, dk_app, dk_cons, dk_nil, and_true, true_and, and_assoc] using (show Dk g8 [(g6, .cells (bxC (madeX 1 y)) 26 (0, 0)), (g4, .cells (bxC (madeX 0 x)) 26 (0, 0)), (g2, .cells (skC y).toArray 31 (0, 0)), (g1, .cells (skC x).toArray 31 (0, 0))] from Fg8)
    refine wpL_s [(g8, .cells #[.int .u8 ((((madeX 0 x).size) : Nat) : Int), .bool ((madeX 0 x).high), .bool ((madeX 0 x).rf)] 37 (0, 0)), (g6, .cells (bxC (madeX 1 y)) 26 (0, 0)), (g4, .cells (bxC (madeX 0 x)) 26 (0, 0)), (g2, .cells (skC y).toArray 31 (0, 0)), (g1, .cells (skC x).toArray 31 (0, 0))] rfl rfl (st_row (off := 0) (v := .agg #[.int .u8 ((((madeX 0 x).size) : Nat) : Int), .bool ((madeX 0 x).high), .bool ((madeX 0 x).rf)]) rfl (by kernel_rfl) (by kernel_rfl) (.head _) Bg8 (by kernel_rfl) (by first | (simp [Value.cells]; done) | exact Nat.le_of_ble_eq_true rfl) (by intro v hv; simp [Value.cells, strV] at hv; first | (subst hv; rfl) | (rcases hv with rfl | rfl | rfl <;> rfl)) (by kernel_rfl) (List.forall_mem_cons.2 ⟨.inl rfl, (List.forall_mem_cons.2 ⟨.inr ⟨(.tail _ (.head _)), (by first | assumption | exact Ne.symm (by assumption))⟩, (List.forall_mem_cons.2 ⟨.inr ⟨(.tail _ (.tail _ (.head _))), (by first | assumption | exact Ne.symm (by assumption))⟩, (List.forall_mem_cons.2 ⟨.inr ⟨(.tail _ (.tail _ (.tail _ (.head _)))), (by first | assumption | exact Ne.symm (by assumption))⟩, (List.forall_mem_cons.2 ⟨.inr ⟨(.tail _ (.tail _ (.tail _ (.tail _ (.head _))))), (by first | assumption | exact Ne.symm (by assumption))⟩, (List.forall_mem_nil _)⟩)⟩)⟩)⟩)⟩)) ?_
    refine lm (v := .int .i64 0) rfl rfl ?_
    refine wpL_done (fun W5 hW5 => ?_)
    refine (show Code.wp _ _ _ _ _ from ?_)
    refine wp_seq ?_
    refine wp_seq ?_
    refine wp_region_L (W0 := w) [(g8, .cells #[.int .u8 ((((madeX 0 x).size) : Nat) : Int), .bool ((madeX 0 x).high), .bool ((madeX 0 x).rf)] 37 (0, 0)), (g6, .cells (bxC (madeX 1 y)) 26 (0, 0)), (g4, .cells (bxC (madeX 0 x)) 26 (0, 0)), (g2, .cells (skC y).toArray 31 (0, 0)), (g1, .cells (skC x).toArray 31 (0, 0))] (hW5) ?_
    refine lv (v := bxV (madeX 0 x)) rfl rfl (yb_load (n := 9) (off := 0) rfl (by kernel_rfl) (.tail _ (.tail _ (.head _))) Tryd.underlying26 rfl (by kernel_rfl) (Nat.le_refl 9) (by kernel_rfl)) ?_
    refine lv (v := .bool true) rfl rfl (yb_call (f := 20) (args := #[bxV (madeX 0 x)]) (fun _ => by kernel_rfl) fun W hW => right_is hra W) ?_
    refine lm (v := .bool false) rfl rfl ?_
    refine lm (v := .bool false) rfl rfl ?_
    refine lv (v := bxV (madeX 1 y)) rfl rfl (yb_load (n := 9) (off := 0) rfl (by kernel_rfl) (.tail _ (.head _)) Tryd.underlying26 rfl (by kernel_rfl) (Nat.le_refl 9) (by kernel_rfl)) ?_
    refine lv (v := .bool true) rfl rfl (yb_call (f := 20) (args := #[bxV (madeX 1 y)]) (fun _ => by kernel_rfl) fun W hW => right_is hrb W) ?_
    refine lm (v := .bool false) rfl rfl ?_
    refine lm (v := .bool false) rfl rfl ?_
    refine lm (v := .bool false) rfl rfl ?_
    refine lm (v := .int .i64 0) rfl rfl ?_
    refine lm (v := .bool false) rfl rfl ?_
    refine lm (v := .bool false) rfl rfl ?_
    refine lm (v := .bool false) rfl rfl ?_
    refine lm (v := .int .i64 0) rfl rfl ?_
    refine lm (v := .bool false) rfl rfl ?_
    refine lm (v := .bool false) rfl rfl ?_
    refine lm (v := .bool false) rfl rfl ?_
    refine lm (v := .int .i64 0) rfl rfl ?_
    refine lm (v := .bool false) rfl rfl ?_
    refine lm (v := .bool false) rfl rfl ?_
    refine lm (v := .bool false) rfl rfl ?_
    refine lv (v := .agg #[.int .u8 ((((madeX 0 x).size) : Nat) : Int), .bool ((madeX 0 x).high), .bool ((madeX 0 x).rf)]) rfl rfl (yb_load (n := 3) (off := 0) rfl (by kernel_rfl) (.head _) Tryd.underlying37 rfl (by kernel_rfl) (by first | (simp; done) | exact Nat.le_of_ble_eq_true rfl) (by kernel_rfl)) ?_
    refine lm (v := .pointer (some ⟨g4, 2, none⟩)) rfl rfl ?_
    refine lv (v := .int .u8 ((((madeX 0 x).size) : Nat) : Int)) rfl rfl (yb_cell (off := 2) rfl (by kernel_rfl) (.tail _ (.tail _ (.head _))) Tryd.underlying5 rfl (by kernel_rfl)) ?_
    refine lm (v := .pointer (some ⟨g4, 3, none⟩)) rfl rfl ?_
    refine lv (v := .bool ((madeX 0 x).high)) rfl rfl (yb_cell (off := 3) rfl (by kernel_rfl) (.tail _ (.tail _ (.head _))) Tryd.underlying4 rfl (by kernel_rfl)) ?_
    refine lm (v := .pointer (some ⟨g4, 8, none⟩)) rfl rfl ?_
    refine lv (v := .bool ((madeX 0 x).rf)) rfl rfl (yb_cell (off := 8) rfl (by kernel_rfl) (.tail _ (.tail _ (.head _))) Tryd.underlying4 rfl (by kernel_rfl)) ?_
    refine lm (v := .agg #[.int .u8 ((((madeX 0 x).size) : Nat) : Int), .bool ((madeX 0 x).high), .bool ((madeX 0 x).rf)]) rfl rfl ?_
    refine lp (v := .bool false) rfl rfl (run_bin rfl (vx := .agg #[.int .u8 ((((madeX 0 x).size) : Nat) : Int), .bool ((madeX 0 x).high), .bool ((madeX 0 x).rf)]) (vy := .agg #[.int .u8 ((((madeX 0 x).size) : Nat) : Int), .bool ((madeX 0 x).high), .bool ((madeX 0 x).rf)]) (by kernel_rfl) (by kernel_rfl) fun w => ne_kind2 (decide_eq_true (by simp)) w) ?_
    refine lm (v := .bool false) rfl rfl ?_
    refine wpL_done (fun W6 hW6 => ?_)
    refine (show Code.wp _ _ _ _ _ from ?_)
    refine wp_cond_false rfl ?_
    refine wp_skip ?_
    refine (show Code.wp _ _ _ _ _ from ?_)
    refine wp_seq ?_
    refine wp_region_L (W0 := w) [(g8, .cells #[.int .u8 ((((madeX 0 x).size) : Nat) : Int), .bool ((madeX 0 x).high), .bool ((madeX 0 x).rf)] 37 (0, 0)), (g6, .cells (bxC (madeX 1 y)) 26 (0, 0)), (g4, .cells (bxC (madeX 0 x)) 26 (0, 0)), (g2, .cells (skC y).toArray 31 (0, 0)), (g1, .cells (skC x).toArray 31 (0, 0))] (hW6) ?_
    refine lm (v := .pointer (some ⟨g4, 2, none⟩)) rfl rfl ?_
    refine lv (v := .int .u8 ((((madeX 0 x).size) : Nat) : Int)) rfl rfl (yb_cell (off := 2) rfl (by kernel_rfl) (.tail _ (.tail _ (.head _))) Tryd.underlying5 rfl (by kernel_rfl)) ?_
    refine lm (v := .pointer (some ⟨g6, 2, none⟩)) rfl rfl ?_
    refine lv (v := .int .u8 ((((madeX 1 y).size) : Nat) : Int)) rfl rfl (yb_cell (off := 2) rfl (by kernel_rfl) (.tail _ (.head _)) Tryd.underlying5 rfl (by kernel_rfl)) ?_
    refine lp (v := .bool (decide (((madeX 0 x).size) = ((madeX 1 y).size)))) rfl rfl (run_bin rfl (vx := (.int .u8 ((((madeX 0 x).size) : Nat) : Int))) (vy := (.int .u8 ((((madeX 1 y).size) : Nat) : Int))) (by kernel_rfl) (by kernel_rfl) fun w => bn_eql rfl w) ?_
    refine lm (v := .bool (decide (((madeX 0 x).size) = ((madeX 1 y).size)))) rfl rfl ?_
    cases hd1 : (decide (((madeX 0 x).size) = ((madeX 1 y).size))) with
    | false =>
      have h1 : ¬ (((madeX 0 x).size) = ((madeX 1 y).size)) := of_decide_eq_false hd1
      clear hd1
      refine ln rfl ?_
      refine ln rfl ?_
      refine ln rfl ?_
      refine ln rfl ?_
      refine ln rfl ?_
      refine lm (v := .bool false) rfl rfl ?_
      refine lm (v := .bool false) rfl rfl ?_
      refine ln rfl ?_
      refine ln rfl ?_
      refine ln rfl ?_
      refine ln rfl ?_
      refine ln rfl ?_
      refine lm (v := .bool false) rfl rfl ?_
      refine lm (v := .bool false) rfl rfl ?_
      refine wpL_done (fun W7 hW7 => ?_)
      refine (show Code.wp _ _ _ _ _ from ?_)
      refine wp_seq ?_
      refine wp_region_V (W0 := w) [(g8, .cells #[.int .u8 ((((madeX 0 x).size) : Nat) : Int), .bool ((madeX 0 x).high), .bool ((madeX 0 x).rf)] 37 (0, 0)), (g6, .cells (bxC (madeX 1 y)) 26 (0, 0)), (g4, .cells (bxC (madeX 0 x)) 26 (0, 0)), (g2, .cells (skC y).toArray 31 (0, 0)), (g1, .cells (skC x).toArray 31 (0, 0))] (by kernel_rfl) (hW7) ?_
      refine vm (i := 0) (v := strV (codeS (madeX 0 x))) rfl rfl rfl ?_
      refine vm (i := 1) (v := strV (codeS (madeX 1 y))) rfl rfl rfl ?_
      refine vp (i := 2) (v := .bool false) rfl rfl rfl (run_bin rfl (vx := strV (codeS (madeX 0 x))) (vy := strV (codeS (madeX 1 y))) (by kernel_rfl) (by kernel_rfl) fun w => bs_eql (decide_eq_false (fun e => h1 (code_inj made_code made_code e).1)) w) ?_
      refine vm (i := 3) (v := .bool false) rfl rfl rfl ?_
      refine vm (i := 4) (v := .bool true) rfl rfl rfl ?_
      refine vm (i := 5) (v := .bool true) rfl rfl rfl ?_
      refine vm (i := 6) (v := .bool false) rfl rfl rfl ?_
      refine vm (i := 7) (v := .bool true) rfl rfl rfl ?_
      refine vm (i := 8) (v := .bool true) rfl rfl rfl ?_
      refine vn (i := 9) rfl rfl ?_
      refine vn (i := 10) rfl rfl ?_
      refine vn (i := 11) rfl rfl ?_
      refine vn (i := 12) rfl rfl ?_
      refine vn (i := 13) rfl rfl ?_
      refine vn (i := 14) rfl rfl ?_
      refine vn (i := 15) rfl rfl ?_
      refine vn (i := 16) rfl rfl ?_
      refine vn (i := 17) rfl rfl ?_
      refine vn (i := 18) rfl rfl ?_
      refine vn (i := 19) rfl rfl ?_
      refine vn (i := 20) rfl rfl ?_
      refine vm (i := 21) (v := .bool true) rfl rfl rfl ?_
      refine vm (i := 22) (v := .bool true) rfl rfl rfl ?_
      refine vm (i := 23) (v := .bool true) rfl rfl rfl ?_
      refine vv (i := 24) (v := bxV (madeX 0 x)) rfl rfl rfl (yb_load (n := 9) (off := 0) rfl (by kernel_rfl) (.tail _ (.tail _ (.head _))) Tryd.underlying26 rfl (by kernel_rfl) (Nat.le_refl 9) (by kernel_rfl)) ?_
      refine vv (i := 25) (v := .int .i64 (((heightX (madeX 0 x)) : Nat) : Int)) rfl rfl rfl (yb_call (f := 21) (args := #[bxV (madeX 0 x)]) (fun _ => by kernel_rfl) fun W hW => Height_any (madeX 0 x) W) ?_
      refine vp (i := 26) (v := .bool (decide ((heightX (madeX 0 x)) = 2896))) rfl rfl rfl (run_bin rfl (vx := (.int .i64 (((heightX (madeX 0 x)) : Nat) : Int))) (vy := (.int .i64 ((2896 : Nat) : Int))) (by kernel_rfl) (by kernel_rfl) fun w => bn_eql rfl w) ?_
      refine vm (i := 27) (v := .pointer (some ⟨g4, 3, none⟩)) rfl rfl rfl ?_
      refine vv (i := 28) (v := .bool ((madeX 0 x).high)) rfl rfl rfl (yb_cell (off := 3) rfl (by kernel_rfl) (.tail _ (.tail _ (.head _))) Tryd.underlying4 rfl (by kernel_rfl)) ?_
      refine vp (i := 29) (v := .bool true) rfl rfl rfl (run_bin rfl (vx := .bool (decide ((heightX (madeX 0 x)) = 2896))) (vy := .bool ((madeX 0 x).high)) (by kernel_rfl) (by kernel_rfl) fun w => bn_bool_eql (high_eq (madeX 0 x)) Tryd.underlying4 w) ?_
      refine vm (i := 30) (v := .bool true) rfl rfl rfl ?_
      refine vm (i := 31) (v := .bool true) rfl rfl rfl ?_
      refine vv (i := 32) (v := bxV (madeX 0 x)) rfl rfl rfl (yb_load (n := 9) (off := 0) rfl (by kernel_rfl) (.tail _ (.tail _ (.head _))) Tryd.underlying26 rfl (by kernel_rfl) (Nat.le_refl 9) (by kernel_rfl)) ?_
      refine vv (i := 33) (v := .int .i64 (((halvesX (madeX 0 x)) : Nat) : Int)) rfl rfl rfl (yb_call (f := 22) (args := #[bxV (madeX 0 x)]) (fun _ => by kernel_rfl) fun W hW => Halves_any (madeX 0 x) W) ?_
      refine vp (i := 34) (v := .int .i64 (((20 * (halvesX (madeX 0 x))) : Nat) : Int)) rfl rfl rfl (run_bin rfl (vx := (.int .i64 ((20 : Nat) : Int))) (vy := (.int .i64 (((halvesX (madeX 0 x)) : Nat) : Int))) (by kernel_rfl) (by kernel_rfl) fun w => bn_mul (z := (20 * (halvesX (madeX 0 x)))) rfl (wr_i64 (by omega)) w) ?_
      refine vm (i := 35) (v := .pointer (some ⟨g4, 2, none⟩)) rfl rfl rfl ?_
      refine vv (i := 36) (v := .int .u8 ((((madeX 0 x).size) : Nat) : Int)) rfl rfl rfl (yb_cell (off := 2) rfl (by kernel_rfl) (.tail _ (.tail _ (.head _))) Tryd.underlying5 rfl (by kernel_rfl)) ?_
      refine vp (i := 37) (v := .int .i64 ((((madeX 0 x).size) : Nat) : Int)) rfl rfl rfl (run_conv rfl (vx := (.int .u8 ((((madeX 0 x).size) : Nat) : Int))) (by kernel_rfl) fun w => cv_int Tryd.underlying5 Tryd.underlying3 (wr_i64 (by omega)) w) ?_
      refine vp (i := 38) (v := .bool true) rfl rfl rfl (run_bin rfl (vx := (.int .i64 (((20 * (halvesX (madeX 0 x))) : Nat) : Int))) (vy := (.int .i64 ((((madeX 0 x).size) : Nat) : Int))) (by kernel_rfl) (by kernel_rfl) fun w => bn_eql (decide_eq_true (halves20 hsa)) w) ?_
      refine vm (i := 39) (v := .bool true) rfl rfl rfl ?_
      refine vm (i := 40) (v := .bool true) rfl rfl rfl ?_
      refine vv (i := 41) (v := .bool true) rfl rfl rfl (yb_call (f := 12) (args := #[]) (fun _ => by kernel_rfl) fun W hW => awake_any W (HE.out.keep hW.1)) ?_
      refine vm (i := 42) (v := .bool true) rfl rfl rfl ?_
      refine vm (i := 43) (v := .bool true) rfl rfl rfl ?_
      refine wpV_done (by kernel_rfl) (fun W8 hW8 => ?_) _
      refine (show Code.wp _ _ _ _ _ from ?_)
      refine wp_ret ?_
      try simp only [inBlock_ret, then_ret]
      refine bodyPost_ret (v := .bool true) ?_ rfl ?_
      · kernel_rfl
      · exact ⟨rfl, hW8.1⟩
    | true =>
      have h1 : ((madeX 0 x).size) = ((madeX 1 y).size) := of_decide_eq_true hd1
      clear hd1
      refine lm (v := .pointer (some ⟨g4, 3, none⟩)) rfl rfl ?_
      refine lv (v := .bool ((madeX 0 x).high)) rfl rfl (yb_cell (off := 3) rfl (by kernel_rfl) (.tail _ (.tail _ (.head _))) Tryd.underlying4 rfl (by kernel_rfl)) ?_
      refine lm (v := .pointer (some ⟨g6, 3, none⟩)) rfl rfl ?_
      refine lv (v := .bool ((madeX 1 y).high)) rfl rfl (yb_cell (off := 3) rfl (by kernel_rfl) (.tail _ (.head _)) Tryd.underlying4 rfl (by kernel_rfl)) ?_
      refine lp (v := .bool (((madeX 0 x).high) == ((madeX 1 y).high))) rfl rfl (run_bin rfl (vx := .bool ((madeX 0 x).high)) (vy := .bool ((madeX 1 y).high)) (by kernel_rfl) (by kernel_rfl) fun w => bn_bool_eql rfl Tryd.underlying4 w) ?_
      refine lm (v := .bool (((madeX 0 x).high) == ((madeX 1 y).high))) rfl rfl ?_
      refine lm (v := .bool (((madeX 0 x).high) == ((madeX 1 y).high))) rfl rfl ?_
      cases h2 : (((madeX 0 x).high) == ((madeX 1 y).high)) with
      | false =>
        refine ln rfl ?_
        refine ln rfl ?_
        refine ln rfl ?_
        refine ln rfl ?_
        refine ln rfl ?_
        refine lm (v := .bool false) rfl rfl ?_
        refine lm (v := .bool false) rfl rfl ?_
        refine wpL_done (fun W9 hW9 => ?_)
        refine (show Code.wp _ _ _ _ _ from ?_)
        refine wp_seq ?_
        refine wp_region_V (W0 := w) [(g8, .cells #[.int .u8 ((((madeX 0 x).size) : Nat) : Int), .bool ((madeX 0 x).high), .bool ((madeX 0 x).rf)] 37 (0, 0)), (g6, .cells (bxC (madeX 1 y)) 26 (0, 0)), (g4, .cells (bxC (madeX 0 x)) 26 (0, 0)), (g2, .cells (skC y).toArray 31 (0, 0)), (g1, .cells (skC x).toArray 31 (0, 0))] (by kernel_rfl) (hW9) ?_
        refine vm (i := 0) (v := strV (codeS (madeX 0 x))) rfl rfl rfl ?_
        refine vm (i := 1) (v := strV (codeS (madeX 1 y))) rfl rfl rfl ?_
        refine vp (i := 2) (v := .bool false) rfl rfl rfl (run_bin rfl (vx := strV (codeS (madeX 0 x))) (vy := strV (codeS (madeX 1 y))) (by kernel_rfl) (by kernel_rfl) fun w => bs_eql (decide_eq_false (fun e => absurd ((code_inj made_code made_code e).2.1) (by rw [h2]; decide))) w) ?_
        refine vm (i := 3) (v := .bool false) rfl rfl rfl ?_
        refine vm (i := 4) (v := .bool true) rfl rfl rfl ?_
        refine vm (i := 5) (v := .bool true) rfl rfl rfl ?_
        refine vm (i := 6) (v := .bool false) rfl rfl rfl ?_
        refine vm (i := 7) (v := .bool true) rfl rfl rfl ?_
        refine vm (i := 8) (v := .bool true) rfl rfl rfl ?_
        refine vn (i := 9) rfl rfl ?_
        refine vn (i := 10) rfl rfl ?_
        refine vn (i := 11) rfl rfl ?_
        refine vn (i := 12) rfl rfl ?_
        refine vn (i := 13) rfl rfl ?_
        refine vn (i := 14) rfl rfl ?_
        refine vn (i := 15) rfl rfl ?_
        refine vn (i := 16) rfl rfl ?_
        refine vn (i := 17) rfl rfl ?_
        refine vn (i := 18) rfl rfl ?_
        refine vn (i := 19) rfl rfl ?_
        refine vn (i := 20) rfl rfl ?_
        refine vm (i := 21) (v := .bool true) rfl rfl rfl ?_
        refine vm (i := 22) (v := .bool true) rfl rfl rfl ?_
        refine vm (i := 23) (v := .bool true) rfl rfl rfl ?_
        refine vv (i := 24) (v := bxV (madeX 0 x)) rfl rfl rfl (yb_load (n := 9) (off := 0) rfl (by kernel_rfl) (.tail _ (.tail _ (.head _))) Tryd.underlying26 rfl (by kernel_rfl) (Nat.le_refl 9) (by kernel_rfl)) ?_
        refine vv (i := 25) (v := .int .i64 (((heightX (madeX 0 x)) : Nat) : Int)) rfl rfl rfl (yb_call (f := 21) (args := #[bxV (madeX 0 x)]) (fun _ => by kernel_rfl) fun W hW => Height_any (madeX 0 x) W) ?_
        refine vp (i := 26) (v := .bool (decide ((heightX (madeX 0 x)) = 2896))) rfl rfl rfl (run_bin rfl (vx := (.int .i64 (((heightX (madeX 0 x)) : Nat) : Int))) (vy := (.int .i64 ((2896 : Nat) : Int))) (by kernel_rfl) (by kernel_rfl) fun w => bn_eql rfl w) ?_
        refine vm (i := 27) (v := .pointer (some ⟨g4, 3, none⟩)) rfl rfl rfl ?_
        refine vv (i := 28) (v := .bool ((madeX 0 x).high)) rfl rfl rfl (yb_cell (off := 3) rfl (by kernel_rfl) (.tail _ (.tail _ (.head _))) Tryd.underlying4 rfl (by kernel_rfl)) ?_
        refine vp (i := 29) (v := .bool true) rfl rfl rfl (run_bin rfl (vx := .bool (decide ((heightX (madeX 0 x)) = 2896))) (vy := .bool ((madeX 0 x).high)) (by kernel_rfl) (by kernel_rfl) fun w => bn_bool_eql (high_eq (madeX 0 x)) Tryd.underlying4 w) ?_
        refine vm (i := 30) (v := .bool true) rfl rfl rfl ?_
        refine vm (i := 31) (v := .bool true) rfl rfl rfl ?_
        refine vv (i := 32) (v := bxV (madeX 0 x)) rfl rfl rfl (yb_load (n := 9) (off := 0) rfl (by kernel_rfl) (.tail _ (.tail _ (.head _))) Tryd.underlying26 rfl (by kernel_rfl) (Nat.le_refl 9) (by kernel_rfl)) ?_
        refine vv (i := 33) (v := .int .i64 (((halvesX (madeX 0 x)) : Nat) : Int)) rfl rfl rfl (yb_call (f := 22) (args := #[bxV (madeX 0 x)]) (fun _ => by kernel_rfl) fun W hW => Halves_any (madeX 0 x) W) ?_
        refine vp (i := 34) (v := .int .i64 (((20 * (halvesX (madeX 0 x))) : Nat) : Int)) rfl rfl rfl (run_bin rfl (vx := (.int .i64 ((20 : Nat) : Int))) (vy := (.int .i64 (((halvesX (madeX 0 x)) : Nat) : Int))) (by kernel_rfl) (by kernel_rfl) fun w => bn_mul (z := (20 * (halvesX (madeX 0 x)))) rfl (wr_i64 (by omega)) w) ?_
        refine vm (i := 35) (v := .pointer (some ⟨g4, 2, none⟩)) rfl rfl rfl ?_
        refine vv (i := 36) (v := .int .u8 ((((madeX 0 x).size) : Nat) : Int)) rfl rfl rfl (yb_cell (off := 2) rfl (by kernel_rfl) (.tail _ (.tail _ (.head _))) Tryd.underlying5 rfl (by kernel_rfl)) ?_
        refine vp (i := 37) (v := .int .i64 ((((madeX 0 x).size) : Nat) : Int)) rfl rfl rfl (run_conv rfl (vx := (.int .u8 ((((madeX 0 x).size) : Nat) : Int))) (by kernel_rfl) fun w => cv_int Tryd.underlying5 Tryd.underlying3 (wr_i64 (by omega)) w) ?_
        refine vp (i := 38) (v := .bool true) rfl rfl rfl (run_bin rfl (vx := (.int .i64 (((20 * (halvesX (madeX 0 x))) : Nat) : Int))) (vy := (.int .i64 ((((madeX 0 x).size) : Nat) : Int))) (by kernel_rfl) (by kernel_rfl) fun w => bn_eql (decide_eq_true (halves20 hsa)) w) ?_
        refine vm (i := 39) (v := .bool true) rfl rfl rfl ?_
        refine vm (i := 40) (v := .bool true) rfl rfl rfl ?_
        refine vv (i := 41) (v := .bool true) rfl rfl rfl (yb_call (f := 12) (args := #[]) (fun _ => by kernel_rfl) fun W hW => awake_any W (HE.out.keep hW.1)) ?_
        refine vm (i := 42) (v := .bool true) rfl rfl rfl ?_
        refine vm (i := 43) (v := .bool true) rfl rfl rfl ?_
        refine wpV_done (by kernel_rfl) (fun W10 hW10 => ?_) _
        refine (show Code.wp _ _ _ _ _ from ?_)
        refine wp_ret ?_
        try simp only [inBlock_ret, then_ret]
        refine bodyPost_ret (v := .bool true) ?_ rfl ?_
        · kernel_rfl
        · exact ⟨rfl, hW10.1⟩
      | true =>
        refine lm (v := .pointer (some ⟨g4, 8, none⟩)) rfl rfl ?_
        refine lv (v := .bool ((madeX 0 x).rf)) rfl rfl (yb_cell (off := 8) rfl (by kernel_rfl) (.tail _ (.tail _ (.head _))) Tryd.underlying4 rfl (by kernel_rfl)) ?_
        refine lm (v := .pointer (some ⟨g6, 8, none⟩)) rfl rfl ?_
        refine lv (v := .bool ((madeX 1 y).rf)) rfl rfl (yb_cell (off := 8) rfl (by kernel_rfl) (.tail _ (.head _)) Tryd.underlying4 rfl (by kernel_rfl)) ?_
        refine lp (v := .bool (((madeX 0 x).rf) == ((madeX 1 y).rf))) rfl rfl (run_bin rfl (vx := .bool ((madeX 0 x).rf)) (vy := .bool ((madeX 1 y).rf)) (by kernel_rfl) (by kernel_rfl) fun w => bn_bool_eql rfl Tryd.underlying4 w) ?_
        refine lm (v := .bool (((madeX 0 x).rf) == ((madeX 1 y).rf))) rfl rfl ?_
        refine lm (v := .bool (((madeX 0 x).rf) == ((madeX 1 y).rf))) rfl rfl ?_
        refine wpL_done (fun W11 hW11 => ?_)
        refine (show Code.wp _ _ _ _ _ from ?_)
        refine wp_seq ?_
        refine wp_region_V (W0 := w) [(g8, .cells #[.int .u8 ((((madeX 0 x).size) : Nat) : Int), .bool ((madeX 0 x).high), .bool ((madeX 0 x).rf)] 37 (0, 0)), (g6, .cells (bxC (madeX 1 y)) 26 (0, 0)), (g4, .cells (bxC (madeX 0 x)) 26 (0, 0)), (g2, .cells (skC y).toArray 31 (0, 0)), (g1, .cells (skC x).toArray 31 (0, 0))] (by kernel_rfl) (hW11) ?_
        refine vm (i := 0) (v := strV (codeS (madeX 0 x))) rfl rfl rfl ?_
        refine vm (i := 1) (v := strV (codeS (madeX 1 y))) rfl rfl rfl ?_
        cases h3 : (((madeX 0 x).rf) == ((madeX 1 y).rf)) with
        | false =>
          refine vp (i := 2) (v := .bool false) rfl rfl rfl (run_bin rfl (vx := strV (codeS (madeX 0 x))) (vy := strV (codeS (madeX 1 y))) (by kernel_rfl) (by kernel_rfl) fun w => bs_eql (decide_eq_false (fun e => absurd ((code_inj made_code made_code e).2.2) (by rw [h3]; decide))) w) ?_
          refine vm (i := 3) (v := .bool false) rfl rfl rfl ?_
          refine vm (i := 4) (v := .bool true) rfl rfl rfl ?_
          refine vm (i := 5) (v := .bool true) rfl rfl rfl ?_
          refine vm (i := 6) (v := .bool false) rfl rfl rfl ?_
          refine vm (i := 7) (v := .bool true) rfl rfl rfl ?_
          refine vm (i := 8) (v := .bool true) rfl rfl rfl ?_
          refine vn (i := 9) rfl rfl ?_
          refine vn (i := 10) rfl rfl ?_
          refine vn (i := 11) rfl rfl ?_
          refine vn (i := 12) rfl rfl ?_
          refine vn (i := 13) rfl rfl ?_
          refine vn (i := 14) rfl rfl ?_
          refine vn (i := 15) rfl rfl ?_
          refine vn (i := 16) rfl rfl ?_
          refine vn (i := 17) rfl rfl ?_
          refine vn (i := 18) rfl rfl ?_
          refine vn (i := 19) rfl rfl ?_
          refine vn (i := 20) rfl rfl ?_
          refine vm (i := 21) (v := .bool true) rfl rfl rfl ?_
          refine vm (i := 22) (v := .bool true) rfl rfl rfl ?_
          refine vm (i := 23) (v := .bool true) rfl rfl rfl ?_
          refine vv (i := 24) (v := bxV (madeX 0 x)) rfl rfl rfl (yb_load (n := 9) (off := 0) rfl (by kernel_rfl) (.tail _ (.tail _ (.head _))) Tryd.underlying26 rfl (by kernel_rfl) (Nat.le_refl 9) (by kernel_rfl)) ?_
          refine vv (i := 25) (v := .int .i64 (((heightX (madeX 0 x)) : Nat) : Int)) rfl rfl rfl (yb_call (f := 21) (args := #[bxV (madeX 0 x)]) (fun _ => by kernel_rfl) fun W hW => Height_any (madeX 0 x) W) ?_
          refine vp (i := 26) (v := .bool (decide ((heightX (madeX 0 x)) = 2896))) rfl rfl rfl (run_bin rfl (vx := (.int .i64 (((heightX (madeX 0 x)) : Nat) : Int))) (vy := (.int .i64 ((2896 : Nat) : Int))) (by kernel_rfl) (by kernel_rfl) fun w => bn_eql rfl w) ?_
          refine vm (i := 27) (v := .pointer (some ⟨g4, 3, none⟩)) rfl rfl rfl ?_
          refine vv (i := 28) (v := .bool ((madeX 0 x).high)) rfl rfl rfl (yb_cell (off := 3) rfl (by kernel_rfl) (.tail _ (.tail _ (.head _))) Tryd.underlying4 rfl (by kernel_rfl)) ?_
          refine vp (i := 29) (v := .bool true) rfl rfl rfl (run_bin rfl (vx := .bool (decide ((heightX (madeX 0 x)) = 2896))) (vy := .bool ((madeX 0 x).high)) (by kernel_rfl) (by kernel_rfl) fun w => bn_bool_eql (high_eq (madeX 0 x)) Tryd.underlying4 w) ?_
          refine vm (i := 30) (v := .bool true) rfl rfl rfl ?_
          refine vm (i := 31) (v := .bool true) rfl rfl rfl ?_
          refine vv (i := 32) (v := bxV (madeX 0 x)) rfl rfl rfl (yb_load (n := 9) (off := 0) rfl (by kernel_rfl) (.tail _ (.tail _ (.head _))) Tryd.underlying26 rfl (by kernel_rfl) (Nat.le_refl 9) (by kernel_rfl)) ?_
          refine vv (i := 33) (v := .int .i64 (((halvesX (madeX 0 x)) : Nat) : Int)) rfl rfl rfl (yb_call (f := 22) (args := #[bxV (madeX 0 x)]) (fun _ => by kernel_rfl) fun W hW => Halves_any (madeX 0 x) W) ?_
          refine vp (i := 34) (v := .int .i64 (((20 * (halvesX (madeX 0 x))) : Nat) : Int)) rfl rfl rfl (run_bin rfl (vx := (.int .i64 ((20 : Nat) : Int))) (vy := (.int .i64 (((halvesX (madeX 0 x)) : Nat) : Int))) (by kernel_rfl) (by kernel_rfl) fun w => bn_mul (z := (20 * (halvesX (madeX 0 x)))) rfl (wr_i64 (by omega)) w) ?_
          refine vm (i := 35) (v := .pointer (some ⟨g4, 2, none⟩)) rfl rfl rfl ?_
          refine vv (i := 36) (v := .int .u8 ((((madeX 0 x).size) : Nat) : Int)) rfl rfl rfl (yb_cell (off := 2) rfl (by kernel_rfl) (.tail _ (.tail _ (.head _))) Tryd.underlying5 rfl (by kernel_rfl)) ?_
          refine vp (i := 37) (v := .int .i64 ((((madeX 0 x).size) : Nat) : Int)) rfl rfl rfl (run_conv rfl (vx := (.int .u8 ((((madeX 0 x).size) : Nat) : Int))) (by kernel_rfl) fun w => cv_int Tryd.underlying5 Tryd.underlying3 (wr_i64 (by omega)) w) ?_
          refine vp (i := 38) (v := .bool true) rfl rfl rfl (run_bin rfl (vx := (.int .i64 (((20 * (halvesX (madeX 0 x))) : Nat) : Int))) (vy := (.int .i64 ((((madeX 0 x).size) : Nat) : Int))) (by kernel_rfl) (by kernel_rfl) fun w => bn_eql (decide_eq_true (halves20 hsa)) w) ?_
          refine vm (i := 39) (v := .bool true) rfl rfl rfl ?_
          refine vm (i := 40) (v := .bool true) rfl rfl rfl ?_
          refine vv (i := 41) (v := .bool true) rfl rfl rfl (yb_call (f := 12) (args := #[]) (fun _ => by kernel_rfl) fun W hW => awake_any W (HE.out.keep hW.1)) ?_
          refine vm (i := 42) (v := .bool true) rfl rfl rfl ?_
          refine vm (i := 43) (v := .bool true) rfl rfl rfl ?_
          refine wpV_done (by kernel_rfl) (fun W12 hW12 => ?_) _
          refine (show Code.wp _ _ _ _ _ from ?_)
          refine wp_ret ?_
          try simp only [inBlock_ret, then_ret]
          refine bodyPost_ret (v := .bool true) ?_ rfl ?_
          · kernel_rfl
          · exact ⟨rfl, hW12.1⟩
        | true =>
          refine vp (i := 2) (v := .bool true) rfl rfl rfl (run_bin rfl (vx := strV (codeS (madeX 0 x))) (vy := strV (codeS (madeX 1 y))) (by kernel_rfl) (by kernel_rfl) fun w => bs_eql (decide_eq_true (code_same h1 h2 h3)) w) ?_
          refine vm (i := 3) (v := .bool true) rfl rfl rfl ?_
          refine vm (i := 4) (v := .bool true) rfl rfl rfl ?_
          refine vm (i := 5) (v := .bool true) rfl rfl rfl ?_
          refine vm (i := 6) (v := .bool true) rfl rfl rfl ?_
          refine vm (i := 7) (v := .bool false) rfl rfl rfl ?_
          refine vm (i := 8) (v := .bool false) rfl rfl rfl ?_
          refine vv (i := 9) (v := bxV (madeX 0 x)) rfl rfl rfl (yb_load (n := 9) (off := 0) rfl (by kernel_rfl) (.tail _ (.tail _ (.head _))) Tryd.underlying26 rfl (by kernel_rfl) (Nat.le_refl 9) (by kernel_rfl)) ?_
          refine vv (i := 10) (v := .int .i64 (((heightX (madeX 0 x)) : Nat) : Int)) rfl rfl rfl (yb_call (f := 21) (args := #[bxV (madeX 0 x)]) (fun _ => by kernel_rfl) fun W hW => Height_any (madeX 0 x) W) ?_
          refine vv (i := 11) (v := bxV (madeX 1 y)) rfl rfl rfl (yb_load (n := 9) (off := 0) rfl (by kernel_rfl) (.tail _ (.head _)) Tryd.underlying26 rfl (by kernel_rfl) (Nat.le_refl 9) (by kernel_rfl)) ?_
          refine vv (i := 12) (v := .int .i64 (((heightX (madeX 1 y)) : Nat) : Int)) rfl rfl rfl (yb_call (f := 21) (args := #[bxV (madeX 1 y)]) (fun _ => by kernel_rfl) fun W hW => Height_any (madeX 1 y) W) ?_
          refine vp (i := 13) (v := .bool true) rfl rfl rfl (run_bin rfl (vx := (.int .i64 (((heightX (madeX 0 x)) : Nat) : Int))) (vy := (.int .i64 (((heightX (madeX 1 y)) : Nat) : Int))) (by kernel_rfl) (by kernel_rfl) fun w => bn_eql (decide_eq_true (height_same h2)) w) ?_
          refine vm (i := 14) (v := .bool true) rfl rfl rfl ?_
          refine vv (i := 15) (v := bxV (madeX 0 x)) rfl rfl rfl (yb_load (n := 9) (off := 0) rfl (by kernel_rfl) (.tail _ (.tail _ (.head _))) Tryd.underlying26 rfl (by kernel_rfl) (Nat.le_refl 9) (by kernel_rfl)) ?_
          refine vv (i := 16) (v := .int .i64 (((halvesX (madeX 0 x)) : Nat) : Int)) rfl rfl rfl (yb_call (f := 22) (args := #[bxV (madeX 0 x)]) (fun _ => by kernel_rfl) fun W hW => Halves_any (madeX 0 x) W) ?_
          refine vv (i := 17) (v := bxV (madeX 1 y)) rfl rfl rfl (yb_load (n := 9) (off := 0) rfl (by kernel_rfl) (.tail _ (.head _)) Tryd.underlying26 rfl (by kernel_rfl) (Nat.le_refl 9) (by kernel_rfl)) ?_
          refine vv (i := 18) (v := .int .i64 (((halvesX (madeX 1 y)) : Nat) : Int)) rfl rfl rfl (yb_call (f := 22) (args := #[bxV (madeX 1 y)]) (fun _ => by kernel_rfl) fun W hW => Halves_any (madeX 1 y) W) ?_
          refine vp (i := 19) (v := .bool true) rfl rfl rfl (run_bin rfl (vx := (.int .i64 (((halvesX (madeX 0 x)) : Nat) : Int))) (vy := (.int .i64 (((halvesX (madeX 1 y)) : Nat) : Int))) (by kernel_rfl) (by kernel_rfl) fun w => bn_eql (decide_eq_true (halves_same h1)) w) ?_
          refine vm (i := 20) (v := .bool true) rfl rfl rfl ?_
          refine vm (i := 21) (v := .bool true) rfl rfl rfl ?_
          refine vm (i := 22) (v := .bool true) rfl rfl rfl ?_
          refine vm (i := 23) (v := .bool true) rfl rfl rfl ?_
          refine vv (i := 24) (v := bxV (madeX 0 x)) rfl rfl rfl (yb_load (n := 9) (off := 0) rfl (by kernel_rfl) (.tail _ (.tail _ (.head _))) Tryd.underlying26 rfl (by kernel_rfl) (Nat.le_refl 9) (by kernel_rfl)) ?_
          refine vv (i := 25) (v := .int .i64 (((heightX (madeX 0 x)) : Nat) : Int)) rfl rfl rfl (yb_call (f := 21) (args := #[bxV (madeX 0 x)]) (fun _ => by kernel_rfl) fun W hW => Height_any (madeX 0 x) W) ?_
          refine vp (i := 26) (v := .bool (decide ((heightX (madeX 0 x)) = 2896))) rfl rfl rfl (run_bin rfl (vx := (.int .i64 (((heightX (madeX 0 x)) : Nat) : Int))) (vy := (.int .i64 ((2896 : Nat) : Int))) (by kernel_rfl) (by kernel_rfl) fun w => bn_eql rfl w) ?_
          refine vm (i := 27) (v := .pointer (some ⟨g4, 3, none⟩)) rfl rfl rfl ?_
          refine vv (i := 28) (v := .bool ((madeX 0 x).high)) rfl rfl rfl (yb_cell (off := 3) rfl (by kernel_rfl) (.tail _ (.tail _ (.head _))) Tryd.underlying4 rfl (by kernel_rfl)) ?_
          refine vp (i := 29) (v := .bool true) rfl rfl rfl (run_bin rfl (vx := .bool (decide ((heightX (madeX 0 x)) = 2896))) (vy := .bool ((madeX 0 x).high)) (by kernel_rfl) (by kernel_rfl) fun w => bn_bool_eql (high_eq (madeX 0 x)) Tryd.underlying4 w) ?_
          refine vm (i := 30) (v := .bool true) rfl rfl rfl ?_
          refine vm (i := 31) (v := .bool true) rfl rfl rfl ?_
          refine vv (i := 32) (v := bxV (madeX 0 x)) rfl rfl rfl (yb_load (n := 9) (off := 0) rfl (by kernel_rfl) (.tail _ (.tail _ (.head _))) Tryd.underlying26 rfl (by kernel_rfl) (Nat.le_refl 9) (by kernel_rfl)) ?_
          refine vv (i := 33) (v := .int .i64 (((halvesX (madeX 0 x)) : Nat) : Int)) rfl rfl rfl (yb_call (f := 22) (args := #[bxV (madeX 0 x)]) (fun _ => by kernel_rfl) fun W hW => Halves_any (madeX 0 x) W) ?_
          refine vp (i := 34) (v := .int .i64 (((20 * (halvesX (madeX 0 x))) : Nat) : Int)) rfl rfl rfl (run_bin rfl (vx := (.int .i64 ((20 : Nat) : Int))) (vy := (.int .i64 (((halvesX (madeX 0 x)) : Nat) : Int))) (by kernel_rfl) (by kernel_rfl) fun w => bn_mul (z := (20 * (halvesX (madeX 0 x)))) rfl (wr_i64 (by omega)) w) ?_
          refine vm (i := 35) (v := .pointer (some ⟨g4, 2, none⟩)) rfl rfl rfl ?_
          refine vv (i := 36) (v := .int .u8 ((((madeX 0 x).size) : Nat) : Int)) rfl rfl rfl (yb_cell (off := 2) rfl (by kernel_rfl) (.tail _ (.tail _ (.head _))) Tryd.underlying5 rfl (by kernel_rfl)) ?_
          refine vp (i := 37) (v := .int .i64 ((((madeX 0 x).size) : Nat) : Int)) rfl rfl rfl (run_conv rfl (vx := (.int .u8 ((((madeX 0 x).size) : Nat) : Int))) (by kernel_rfl) fun w => cv_int Tryd.underlying5 Tryd.underlying3 (wr_i64 (by omega)) w) ?_
          refine vp (i := 38) (v := .bool true) rfl rfl rfl (run_bin rfl (vx := (.int .i64 (((20 * (halvesX (madeX 0 x))) : Nat) : Int))) (vy := (.int .i64 ((((madeX 0 x).size) : Nat) : Int))) (by kernel_rfl) (by kernel_rfl) fun w => bn_eql (decide_eq_true (halves20 hsa)) w) ?_
          refine vm (i := 39) (v := .bool true) rfl rfl rfl ?_
          refine vm (i := 40) (v := .bool true) rfl rfl rfl ?_
          refine vv (i := 41) (v := .bool true) rfl rfl rfl (yb_call (f := 12) (args := #[]) (fun _ => by kernel_rfl) fun W hW => awake_any W (HE.out.keep hW.1)) ?_
          refine vm (i := 42) (v := .bool true) rfl rfl rfl ?_
          refine vm (i := 43) (v := .bool true) rfl rfl rfl ?_
          refine wpV_done (by kernel_rfl) (fun W13 hW13 => ?_) _
          refine (show Code.wp _ _ _ _ _ from ?_)
          refine wp_ret ?_
          try simp only [inBlock_ret, then_ret]
          refine bodyPost_ret (v := .bool true) ?_ rfl ?_
          · kernel_rfl
          · exact ⟨rfl, hW13.1⟩
  · refine stepV_ns (fun g => .pointer (some ⟨g, 0, none⟩)) (i := 5) (obi := .cells (bxC bx0) 26 (0, 0)) rfl rfl rfl (fun _ => by kernel_rfl) (fun _ => by simp only [List.setIfInBounds_toArray, List.set_cons_succ, List.set_cons_zero] <;> rfl) fun g10 Bg10 Fg10 => ?_
    obtain ⟨dj11_0, dj11_1⟩ : g2 ≠ g10 ∧ g1 ≠ g10 := by simpa only [dj_app_l, dj_app_r, dj_cons_l, dj_cons_r, dj_nil_l, dj_nil_r, dk_app, dk_cons, dk_nil, and_true, true_and, and_assoc] using (show Dk g10 [(g2, .cells (skC y).toArray 31 (0, 0)), (g1, .cells (skC x).toArray 31 (0, 0))] from Fg10)
    refine wpV_ns (fun g => .pointer (some ⟨g, 0, none⟩)) (i := 4) (obi := .cells (bxC bx0) 26 (0, 0)) rfl rfl rfl (by kernel_rfl) (fun _ => by kernel_rfl) (fun _ => by simp only [List.setIfInBounds_toArray, List.set_cons_succ, List.set_cons_zero] <;> rfl) fun g12 Bg12 Fg12 => ?_
    obtain ⟨dj13_0, dj13_1, dj13_2⟩ : g10 ≠ g12 ∧ g2 ≠ g12 ∧ g1 ≠ g12 := by simpa only [dj_app_l, dj_app_r, dj_cons_l, dj_cons_r, dj_nil_l, dj_nil_r, dk_app, dk_cons, dk_nil, and_true, true_and, and_assoc] using (show Dk g12 [(g10, .cells (bxC bx0) 26 (0, 0)), (g2, .cells (skC y).toArray 31 (0, 0)), (g1, .cells (skC x).toArray 31 (0, 0))] from Fg12)
    refine wpV_s [(g12, .cells (bxC (madeX 0 x)) 26 (0, 0)), (g10, .cells (bxC bx0) 26 (0, 0)), (g2, .cells (skC y).toArray 31 (0, 0)), (g1, .cells (skC x).toArray 31 (0, 0))] (i := 6) rfl (by kernel_rfl) rfl rfl rfl (st_bx (b := (madeX 0 x)) rfl (by kernel_rfl) (by kernel_rfl) (.head _) rfl Bg12 (by kernel_rfl) (List.forall_mem_cons.2 ⟨.inl rfl, (List.forall_mem_cons.2 ⟨.inr ⟨(.tail _ (.head _)), (by first | assumption | exact Ne.symm (by assumption))⟩, (List.forall_mem_cons.2 ⟨.inr ⟨(.tail _ (.tail _ (.head _))), (by first | assumption | exact Ne.symm (by assumption))⟩, (List.forall_mem_cons.2 ⟨.inr ⟨(.tail _ (.tail _ (.tail _ (.head _)))), (by first | assumption | exact Ne.symm (by assumption))⟩, (List.forall_mem_nil _)⟩)⟩)⟩)⟩)) ?_
    refine wpV_s [(g12, .cells (bxC (madeX 0 x)) 26 (0, 0)), (g10, .cells (bxC (madeX 1 y)) 26 (0, 0)), (g2, .cells (skC y).toArray 31 (0, 0)), (g1, .cells (skC x).toArray 31 (0, 0))] (i := 7) rfl (by kernel_rfl) rfl rfl rfl (st_bx (b := (madeX 1 y)) rfl (by kernel_rfl) (by kernel_rfl) (.tail _ (.head _)) rfl Bg10 (by kernel_rfl) (List.forall_mem_cons.2 ⟨.inr ⟨(.head _), (by first | assumption | exact Ne.symm (by assumption))⟩, (List.forall_mem_cons.2 ⟨.inl rfl, (List.forall_mem_cons.2 ⟨.inr ⟨(.tail _ (.tail _ (.head _))), (by first | assumption | exact Ne.symm (by assumption))⟩, (List.forall_mem_cons.2 ⟨.inr ⟨(.tail _ (.tail _ (.tail _ (.head _)))), (by first | assumption | exact Ne.symm (by assumption))⟩, (List.forall_mem_nil _)⟩)⟩)⟩)⟩)) ?_
    refine wpV_done (by kernel_rfl) (fun W14 hW14 => ?_) _
    refine (show Code.wp _ _ _ _ _ from ?_)
    refine wp_seq ?_
    refine wp_region_L (W0 := w) [(g12, .cells (bxC (madeX 0 x)) 26 (0, 0)), (g10, .cells (bxC (madeX 1 y)) 26 (0, 0)), (g2, .cells (skC y).toArray 31 (0, 0)), (g1, .cells (skC x).toArray 31 (0, 0))] (hW14) ?_
    refine lv (v := bxV (madeX 0 x)) rfl rfl (yb_load (n := 9) (off := 0) rfl (by kernel_rfl) (.head _) Tryd.underlying26 rfl (by kernel_rfl) (Nat.le_refl 9) (by kernel_rfl)) ?_
    refine lv (v := .tuple #[strV (codeS (madeX 0 x)), .int .i64 0]) rfl rfl (yb_call (f := 18) (args := #[bxV (madeX 0 x)]) (fun _ => by kernel_rfl) fun W hW => bcode_ok (b := (madeX 0 x)) made_code W (HE.out.keep hW.1)) ?_
    refine lm (v := .tuple #[strV (codeS (madeX 0 x)), .int .i64 0]) rfl rfl ?_
    refine lm (v := strV (codeS (madeX 0 x))) rfl rfl ?_
    refine lm (v := .int .i64 0) rfl rfl ?_
    refine lm (v := strV (codeS (madeX 0 x))) rfl rfl ?_
    refine lm (v := .int .i64 0) rfl rfl ?_
    refine wpL_done (fun W15 hW15 => ?_)
    refine (show Code.wp _ _ _ _ _ from ?_)
    refine wp_seq ?_
    refine wp_region_L (W0 := w) [(g12, .cells (bxC (madeX 0 x)) 26 (0, 0)), (g10, .cells (bxC (madeX 1 y)) 26 (0, 0)), (g2, .cells (skC y).toArray 31 (0, 0)), (g1, .cells (skC x).toArray 31 (0, 0))] (hW15) ?_
    refine lv (v := bxV (madeX 1 y)) rfl rfl (yb_load (n := 9) (off := 0) rfl (by kernel_rfl) (.tail _ (.head _)) Tryd.underlying26 rfl (by kernel_rfl) (Nat.le_refl 9) (by kernel_rfl)) ?_
    refine lv (v := .tuple #[strV (codeS (madeX 1 y)), .int .i64 0]) rfl rfl (yb_call (f := 18) (args := #[bxV (madeX 1 y)]) (fun _ => by kernel_rfl) fun W hW => bcode_ok (b := (madeX 1 y)) made_code W (HE.out.keep hW.1)) ?_
    refine lm (v := .tuple #[strV (codeS (madeX 1 y)), .int .i64 0]) rfl rfl ?_
    refine lm (v := strV (codeS (madeX 1 y))) rfl rfl ?_
    refine lm (v := .int .i64 0) rfl rfl ?_
    refine lm (v := strV (codeS (madeX 1 y))) rfl rfl ?_
    refine lm (v := .int .i64 0) rfl rfl ?_
    refine wpL_done (fun W16 hW16 => ?_)
    refine (show Code.wp _ _ _ _ _ from ?_)
    refine wp_seq ?_
    refine wp_region_L (W0 := w) [(g12, .cells (bxC (madeX 0 x)) 26 (0, 0)), (g10, .cells (bxC (madeX 1 y)) 26 (0, 0)), (g2, .cells (skC y).toArray 31 (0, 0)), (g1, .cells (skC x).toArray 31 (0, 0))] (hW16) ?_
    refine lm (v := strV (codeS (madeX 0 x))) rfl rfl ?_
    refine lv (v := .tuple #[.agg #[.int .u8 ((((madeX 0 x).size) : Nat) : Int), .bool ((madeX 0 x).high), .bool ((madeX 0 x).rf)], .int .i64 0]) rfl rfl (yb_call (f := 19) (args := #[strV (codeS (madeX 0 x))]) (fun _ => by kernel_rfl) fun W hW => bsize (b := (madeX 0 x)) made_code W (HE.out.keep hW.1)) ?_
    refine lm (v := .tuple #[.agg #[.int .u8 ((((madeX 0 x).size) : Nat) : Int), .bool ((madeX 0 x).high), .bool ((madeX 0 x).rf)], .int .i64 0]) rfl rfl ?_
    refine lm (v := .agg #[.int .u8 ((((madeX 0 x).size) : Nat) : Int), .bool ((madeX 0 x).high), .bool ((madeX 0 x).rf)]) rfl rfl ?_
    refine lm (v := .int .i64 0) rfl rfl ?_
    refine wpL_new (fun g => .pointer (some ⟨g, 0, none⟩)) (obi := .cells #[.int .u8 0, .bool false, .bool false] 37 (0, 0)) rfl rfl (fun _ => by kernel_rfl) (fun _ => by simp only [List.setIfInBounds_toArray, List.set_cons_succ, List.set_cons_zero] <;> rfl) fun g14 Bg14 Fg14 => ?_
    obtain ⟨dj15_0, dj15_1, dj15_2, dj15_3⟩ : g12 ≠ g14 ∧ g10 ≠ g14 ∧ g2 ≠ g14 ∧ g1 ≠ g14 := by simpa only [dj_app_l, dj_app_r, dj_cons_l, dj_cons_r, dj_nil_l, dj_nil_r, dk_app, dk_cons, dk_nil, and_true, true_and, and_assoc] using (show Dk g14 [(g12, .cells (bxC (madeX 0 x)) 26 (0, 0)), (g10, .cells (bxC (madeX 1 y)) 26 (0, 0)), (g2, .cells (skC y).toArray 31 (0, 0)), (g1, .cells (skC x).toArray 31 (0, 0))] from Fg14)
    refine wpL_s [(g14, .cells #[.int .u8 ((((madeX 0 x).size) : Nat) : Int), .bool ((madeX 0 x).high), .bool ((madeX 0 x).rf)] 37 (0, 0)), (g12, .cells (bxC (madeX 0 x)) 26 (0, 0)), (g10, .cells (bxC (madeX 1 y)) 26 (0, 0)), (g2, .cells (skC y).toArray 31 (0, 0)), (g1, .cells (skC x).toArray 31 (0, 0))] rfl rfl (st_row (off := 0) (v := .agg #[.int .u8 ((((madeX 0 x).size) : Nat) : Int), .bool ((madeX 0 x).high), .bool ((madeX 0 x).rf)]) rfl (by kernel_rfl) (by kernel_rfl) (.head _) Bg14 (by kernel_rfl) (by first | (simp [Value.cells]; done) | exact Nat.le_of_ble_eq_true rfl) (by intro v hv; simp [Value.cells, strV] at hv; first | (subst hv; rfl) | (rcases hv with rfl | rfl | rfl <;> rfl)) (by kernel_rfl) (List.forall_mem_cons.2 ⟨.inl rfl, (List.forall_mem_cons.2 ⟨.inr ⟨(.tail _ (.head _)), (by first | assumption | exact Ne.symm (by assumption))⟩, (List.forall_mem_cons.2 ⟨.inr ⟨(.tail _ (.tail _ (.head _))), (by first | assumption | exact Ne.symm (by assumption))⟩, (List.forall_mem_cons.2 ⟨.inr ⟨(.tail _ (.tail _ (.tail _ (.head _)))), (by first | assumption | exact Ne.symm (by assumption))⟩, (List.forall_mem_cons.2 ⟨.inr ⟨(.tail _ (.tail _ (.tail _ (.tail _ (.head _))))), (by first | assumption | exact Ne.symm (by assumption))⟩, (List.forall_mem_nil _)⟩)⟩)⟩)⟩)⟩)) ?_
    refine lm (v := .int .i64 0) rfl rfl ?_
    refine wpL_done (fun W17 hW17 => ?_)
    refine (show Code.wp _ _ _ _ _ from ?_)
    refine wp_seq ?_
    refine wp_seq ?_
    refine wp_region_L (W0 := w) [(g14, .cells #[.int .u8 ((((madeX 0 x).size) : Nat) : Int), .bool ((madeX 0 x).high), .bool ((madeX 0 x).rf)] 37 (0, 0)), (g12, .cells (bxC (madeX 0 x)) 26 (0, 0)), (g10, .cells (bxC (madeX 1 y)) 26 (0, 0)), (g2, .cells (skC y).toArray 31 (0, 0)), (g1, .cells (skC x).toArray 31 (0, 0))] (hW17) ?_
    refine lv (v := bxV (madeX 0 x)) rfl rfl (yb_load (n := 9) (off := 0) rfl (by kernel_rfl) (.tail _ (.head _)) Tryd.underlying26 rfl (by kernel_rfl) (Nat.le_refl 9) (by kernel_rfl)) ?_
    refine lv (v := .bool true) rfl rfl (yb_call (f := 20) (args := #[bxV (madeX 0 x)]) (fun _ => by kernel_rfl) fun W hW => right_is hra W) ?_
    refine lm (v := .bool false) rfl rfl ?_
    refine lm (v := .bool false) rfl rfl ?_
    refine lv (v := bxV (madeX 1 y)) rfl rfl (yb_load (n := 9) (off := 0) rfl (by kernel_rfl) (.tail _ (.tail _ (.head _))) Tryd.underlying26 rfl (by kernel_rfl) (Nat.le_refl 9) (by kernel_rfl)) ?_
    refine lv (v := .bool true) rfl rfl (yb_call (f := 20) (args := #[bxV (madeX 1 y)]) (fun _ => by kernel_rfl) fun W hW => right_is hrb W) ?_
    refine lm (v := .bool false) rfl rfl ?_
    refine lm (v := .bool false) rfl rfl ?_
    refine lm (v := .bool false) rfl rfl ?_
    refine lm (v := .int .i64 0) rfl rfl ?_
    refine lm (v := .bool false) rfl rfl ?_
    refine lm (v := .bool false) rfl rfl ?_
    refine lm (v := .bool false) rfl rfl ?_
    refine lm (v := .int .i64 0) rfl rfl ?_
    refine lm (v := .bool false) rfl rfl ?_
    refine lm (v := .bool false) rfl rfl ?_
    refine lm (v := .bool false) rfl rfl ?_
    refine lm (v := .int .i64 0) rfl rfl ?_
    refine lm (v := .bool false) rfl rfl ?_
    refine lm (v := .bool false) rfl rfl ?_
    refine lm (v := .bool false) rfl rfl ?_
    refine lv (v := .agg #[.int .u8 ((((madeX 0 x).size) : Nat) : Int), .bool ((madeX 0 x).high), .bool ((madeX 0 x).rf)]) rfl rfl (yb_load (n := 3) (off := 0) rfl (by kernel_rfl) (.head _) Tryd.underlying37 rfl (by kernel_rfl) (by first | (simp; done) | exact Nat.le_of_ble_eq_true rfl) (by kernel_rfl)) ?_
    refine lm (v := .pointer (some ⟨g12, 2, none⟩)) rfl rfl ?_
    refine lv (v := .int .u8 ((((madeX 0 x).size) : Nat) : Int)) rfl rfl (yb_cell (off := 2) rfl (by kernel_rfl) (.tail _ (.head _)) Tryd.underlying5 rfl (by kernel_rfl)) ?_
    refine lm (v := .pointer (some ⟨g12, 3, none⟩)) rfl rfl ?_
    refine lv (v := .bool ((madeX 0 x).high)) rfl rfl (yb_cell (off := 3) rfl (by kernel_rfl) (.tail _ (.head _)) Tryd.underlying4 rfl (by kernel_rfl)) ?_
    refine lm (v := .pointer (some ⟨g12, 8, none⟩)) rfl rfl ?_
    refine lv (v := .bool ((madeX 0 x).rf)) rfl rfl (yb_cell (off := 8) rfl (by kernel_rfl) (.tail _ (.head _)) Tryd.underlying4 rfl (by kernel_rfl)) ?_
    refine lm (v := .agg #[.int .u8 ((((madeX 0 x).size) : Nat) : Int), .bool ((madeX 0 x).high), .bool ((madeX 0 x).rf)]) rfl rfl ?_
    refine lp (v := .bool false) rfl rfl (run_bin rfl (vx := .agg #[.int .u8 ((((madeX 0 x).size) : Nat) : Int), .bool ((madeX 0 x).high), .bool ((madeX 0 x).rf)]) (vy := .agg #[.int .u8 ((((madeX 0 x).size) : Nat) : Int), .bool ((madeX 0 x).high), .bool ((madeX 0 x).rf)]) (by kernel_rfl) (by kernel_rfl) fun w => ne_kind2 (decide_eq_true (by simp)) w) ?_
    refine lm (v := .bool false) rfl rfl ?_
    refine wpL_done (fun W18 hW18 => ?_)
    refine (show Code.wp _ _ _ _ _ from ?_)
    refine wp_cond_false rfl ?_
    refine wp_skip ?_
    refine (show Code.wp _ _ _ _ _ from ?_)
    refine wp_seq ?_
    refine wp_region_L (W0 := w) [(g14, .cells #[.int .u8 ((((madeX 0 x).size) : Nat) : Int), .bool ((madeX 0 x).high), .bool ((madeX 0 x).rf)] 37 (0, 0)), (g12, .cells (bxC (madeX 0 x)) 26 (0, 0)), (g10, .cells (bxC (madeX 1 y)) 26 (0, 0)), (g2, .cells (skC y).toArray 31 (0, 0)), (g1, .cells (skC x).toArray 31 (0, 0))] (hW18) ?_
    refine lm (v := .pointer (some ⟨g12, 2, none⟩)) rfl rfl ?_
    refine lv (v := .int .u8 ((((madeX 0 x).size) : Nat) : Int)) rfl rfl (yb_cell (off := 2) rfl (by kernel_rfl) (.tail _ (.head _)) Tryd.underlying5 rfl (by kernel_rfl)) ?_
    refine lm (v := .pointer (some ⟨g10, 2, none⟩)) rfl rfl ?_
    refine lv (v := .int .u8 ((((madeX 1 y).size) : Nat) : Int)) rfl rfl (yb_cell (off := 2) rfl (by kernel_rfl) (.tail _ (.tail _ (.head _))) Tryd.underlying5 rfl (by kernel_rfl)) ?_
    refine lp (v := .bool (decide (((madeX 0 x).size) = ((madeX 1 y).size)))) rfl rfl (run_bin rfl (vx := (.int .u8 ((((madeX 0 x).size) : Nat) : Int))) (vy := (.int .u8 ((((madeX 1 y).size) : Nat) : Int))) (by kernel_rfl) (by kernel_rfl) fun w => bn_eql rfl w) ?_
    refine lm (v := .bool (decide (((madeX 0 x).size) = ((madeX 1 y).size)))) rfl rfl ?_
    cases hd4 : (decide (((madeX 0 x).size) = ((madeX 1 y).size))) with
    | false =>
      have h4 : ¬ (((madeX 0 x).size) = ((madeX 1 y).size)) := of_decide_eq_false hd4
      clear hd4
      refine ln rfl ?_
      refine ln rfl ?_
      refine ln rfl ?_
      refine ln rfl ?_
      refine ln rfl ?_
      refine lm (v := .bool false) rfl rfl ?_
      refine lm (v := .bool false) rfl rfl ?_
      refine ln rfl ?_
      refine ln rfl ?_
      refine ln rfl ?_
      refine ln rfl ?_
      refine ln rfl ?_
      refine lm (v := .bool false) rfl rfl ?_
      refine lm (v := .bool false) rfl rfl ?_
      refine wpL_done (fun W19 hW19 => ?_)
      refine (show Code.wp _ _ _ _ _ from ?_)
      refine wp_seq ?_
      refine wp_region_V (W0 := w) [(g14, .cells #[.int .u8 ((((madeX 0 x).size) : Nat) : Int), .bool ((madeX 0 x).high), .bool ((madeX 0 x).rf)] 37 (0, 0)), (g12, .cells (bxC (madeX 0 x)) 26 (0, 0)), (g10, .cells (bxC (madeX 1 y)) 26 (0, 0)), (g2, .cells (skC y).toArray 31 (0, 0)), (g1, .cells (skC x).toArray 31 (0, 0))] (by kernel_rfl) (hW19) ?_
      refine vm (i := 0) (v := strV (codeS (madeX 0 x))) rfl rfl rfl ?_
      refine vm (i := 1) (v := strV (codeS (madeX 1 y))) rfl rfl rfl ?_
      refine vp (i := 2) (v := .bool false) rfl rfl rfl (run_bin rfl (vx := strV (codeS (madeX 0 x))) (vy := strV (codeS (madeX 1 y))) (by kernel_rfl) (by kernel_rfl) fun w => bs_eql (decide_eq_false (fun e => h4 (code_inj made_code made_code e).1)) w) ?_
      refine vm (i := 3) (v := .bool false) rfl rfl rfl ?_
      refine vm (i := 4) (v := .bool true) rfl rfl rfl ?_
      refine vm (i := 5) (v := .bool true) rfl rfl rfl ?_
      refine vm (i := 6) (v := .bool false) rfl rfl rfl ?_
      refine vm (i := 7) (v := .bool true) rfl rfl rfl ?_
      refine vm (i := 8) (v := .bool true) rfl rfl rfl ?_
      refine vn (i := 9) rfl rfl ?_
      refine vn (i := 10) rfl rfl ?_
      refine vn (i := 11) rfl rfl ?_
      refine vn (i := 12) rfl rfl ?_
      refine vn (i := 13) rfl rfl ?_
      refine vn (i := 14) rfl rfl ?_
      refine vn (i := 15) rfl rfl ?_
      refine vn (i := 16) rfl rfl ?_
      refine vn (i := 17) rfl rfl ?_
      refine vn (i := 18) rfl rfl ?_
      refine vn (i := 19) rfl rfl ?_
      refine vn (i := 20) rfl rfl ?_
      refine vm (i := 21) (v := .bool true) rfl rfl rfl ?_
      refine vm (i := 22) (v := .bool true) rfl rfl rfl ?_
      refine vm (i := 23) (v := .bool true) rfl rfl rfl ?_
      refine vv (i := 24) (v := bxV (madeX 0 x)) rfl rfl rfl (yb_load (n := 9) (off := 0) rfl (by kernel_rfl) (.tail _ (.head _)) Tryd.underlying26 rfl (by kernel_rfl) (Nat.le_refl 9) (by kernel_rfl)) ?_
      refine vv (i := 25) (v := .int .i64 (((heightX (madeX 0 x)) : Nat) : Int)) rfl rfl rfl (yb_call (f := 21) (args := #[bxV (madeX 0 x)]) (fun _ => by kernel_rfl) fun W hW => Height_any (madeX 0 x) W) ?_
      refine vp (i := 26) (v := .bool (decide ((heightX (madeX 0 x)) = 2896))) rfl rfl rfl (run_bin rfl (vx := (.int .i64 (((heightX (madeX 0 x)) : Nat) : Int))) (vy := (.int .i64 ((2896 : Nat) : Int))) (by kernel_rfl) (by kernel_rfl) fun w => bn_eql rfl w) ?_
      refine vm (i := 27) (v := .pointer (some ⟨g12, 3, none⟩)) rfl rfl rfl ?_
      refine vv (i := 28) (v := .bool ((madeX 0 x).high)) rfl rfl rfl (yb_cell (off := 3) rfl (by kernel_rfl) (.tail _ (.head _)) Tryd.underlying4 rfl (by kernel_rfl)) ?_
      refine vp (i := 29) (v := .bool true) rfl rfl rfl (run_bin rfl (vx := .bool (decide ((heightX (madeX 0 x)) = 2896))) (vy := .bool ((madeX 0 x).high)) (by kernel_rfl) (by kernel_rfl) fun w => bn_bool_eql (high_eq (madeX 0 x)) Tryd.underlying4 w) ?_
      refine vm (i := 30) (v := .bool true) rfl rfl rfl ?_
      refine vm (i := 31) (v := .bool true) rfl rfl rfl ?_
      refine vv (i := 32) (v := bxV (madeX 0 x)) rfl rfl rfl (yb_load (n := 9) (off := 0) rfl (by kernel_rfl) (.tail _ (.head _)) Tryd.underlying26 rfl (by kernel_rfl) (Nat.le_refl 9) (by kernel_rfl)) ?_
      refine vv (i := 33) (v := .int .i64 (((halvesX (madeX 0 x)) : Nat) : Int)) rfl rfl rfl (yb_call (f := 22) (args := #[bxV (madeX 0 x)]) (fun _ => by kernel_rfl) fun W hW => Halves_any (madeX 0 x) W) ?_
      refine vp (i := 34) (v := .int .i64 (((20 * (halvesX (madeX 0 x))) : Nat) : Int)) rfl rfl rfl (run_bin rfl (vx := (.int .i64 ((20 : Nat) : Int))) (vy := (.int .i64 (((halvesX (madeX 0 x)) : Nat) : Int))) (by kernel_rfl) (by kernel_rfl) fun w => bn_mul (z := (20 * (halvesX (madeX 0 x)))) rfl (wr_i64 (by omega)) w) ?_
      refine vm (i := 35) (v := .pointer (some ⟨g12, 2, none⟩)) rfl rfl rfl ?_
      refine vv (i := 36) (v := .int .u8 ((((madeX 0 x).size) : Nat) : Int)) rfl rfl rfl (yb_cell (off := 2) rfl (by kernel_rfl) (.tail _ (.head _)) Tryd.underlying5 rfl (by kernel_rfl)) ?_
      refine vp (i := 37) (v := .int .i64 ((((madeX 0 x).size) : Nat) : Int)) rfl rfl rfl (run_conv rfl (vx := (.int .u8 ((((madeX 0 x).size) : Nat) : Int))) (by kernel_rfl) fun w => cv_int Tryd.underlying5 Tryd.underlying3 (wr_i64 (by omega)) w) ?_
      refine vp (i := 38) (v := .bool true) rfl rfl rfl (run_bin rfl (vx := (.int .i64 (((20 * (halvesX (madeX 0 x))) : Nat) : Int))) (vy := (.int .i64 ((((madeX 0 x).size) : Nat) : Int))) (by kernel_rfl) (by kernel_rfl) fun w => bn_eql (decide_eq_true (halves20 hsa)) w) ?_
      refine vm (i := 39) (v := .bool true) rfl rfl rfl ?_
      refine vm (i := 40) (v := .bool true) rfl rfl rfl ?_
      refine vv (i := 41) (v := .bool true) rfl rfl rfl (yb_call (f := 12) (args := #[]) (fun _ => by kernel_rfl) fun W hW => awake_any W (HE.out.keep hW.1)) ?_
      refine vm (i := 42) (v := .bool true) rfl rfl rfl ?_
      refine vm (i := 43) (v := .bool true) rfl rfl rfl ?_
      refine wpV_done (by kernel_rfl) (fun W20 hW20 => ?_) _
      refine (show Code.wp _ _ _ _ _ from ?_)
      refine wp_ret ?_
      try simp only [inBlock_ret, then_ret]
      refine bodyPost_ret (v := .bool true) ?_ rfl ?_
      · kernel_rfl
      · exact ⟨rfl, hW20.1⟩
    | true =>
      have h4 : ((madeX 0 x).size) = ((madeX 1 y).size) := of_decide_eq_true hd4
      clear hd4
      refine lm (v := .pointer (some ⟨g12, 3, none⟩)) rfl rfl ?_
      refine lv (v := .bool ((madeX 0 x).high)) rfl rfl (yb_cell (off := 3) rfl (by kernel_rfl) (.tail _ (.head _)) Tryd.underlying4 rfl (by kernel_rfl)) ?_
      refine lm (v := .pointer (some ⟨g10, 3, none⟩)) rfl rfl ?_
      refine lv (v := .bool ((madeX 1 y).high)) rfl rfl (yb_cell (off := 3) rfl (by kernel_rfl) (.tail _ (.tail _ (.head _))) Tryd.underlying4 rfl (by kernel_rfl)) ?_
      refine lp (v := .bool (((madeX 0 x).high) == ((madeX 1 y).high))) rfl rfl (run_bin rfl (vx := .bool ((madeX 0 x).high)) (vy := .bool ((madeX 1 y).high)) (by kernel_rfl) (by kernel_rfl) fun w => bn_bool_eql rfl Tryd.underlying4 w) ?_
      refine lm (v := .bool (((madeX 0 x).high) == ((madeX 1 y).high))) rfl rfl ?_
      refine lm (v := .bool (((madeX 0 x).high) == ((madeX 1 y).high))) rfl rfl ?_
      cases h5 : (((madeX 0 x).high) == ((madeX 1 y).high)) with
      | false =>
        refine ln rfl ?_
        refine ln rfl ?_
        refine ln rfl ?_
        refine ln rfl ?_
        refine ln rfl ?_
        refine lm (v := .bool false) rfl rfl ?_
        refine lm (v := .bool false) rfl rfl ?_
        refine wpL_done (fun W21 hW21 => ?_)
        refine (show Code.wp _ _ _ _ _ from ?_)
        refine wp_seq ?_
        refine wp_region_V (W0 := w) [(g14, .cells #[.int .u8 ((((madeX 0 x).size) : Nat) : Int), .bool ((madeX 0 x).high), .bool ((madeX 0 x).rf)] 37 (0, 0)), (g12, .cells (bxC (madeX 0 x)) 26 (0, 0)), (g10, .cells (bxC (madeX 1 y)) 26 (0, 0)), (g2, .cells (skC y).toArray 31 (0, 0)), (g1, .cells (skC x).toArray 31 (0, 0))] (by kernel_rfl) (hW21) ?_
        refine vm (i := 0) (v := strV (codeS (madeX 0 x))) rfl rfl rfl ?_
        refine vm (i := 1) (v := strV (codeS (madeX 1 y))) rfl rfl rfl ?_
        refine vp (i := 2) (v := .bool false) rfl rfl rfl (run_bin rfl (vx := strV (codeS (madeX 0 x))) (vy := strV (codeS (madeX 1 y))) (by kernel_rfl) (by kernel_rfl) fun w => bs_eql (decide_eq_false (fun e => absurd ((code_inj made_code made_code e).2.1) (by rw [h5]; decide))) w) ?_
        refine vm (i := 3) (v := .bool false) rfl rfl rfl ?_
        refine vm (i := 4) (v := .bool true) rfl rfl rfl ?_
        refine vm (i := 5) (v := .bool true) rfl rfl rfl ?_
        refine vm (i := 6) (v := .bool false) rfl rfl rfl ?_
        refine vm (i := 7) (v := .bool true) rfl rfl rfl ?_
        refine vm (i := 8) (v := .bool true) rfl rfl rfl ?_
        refine vn (i := 9) rfl rfl ?_
        refine vn (i := 10) rfl rfl ?_
        refine vn (i := 11) rfl rfl ?_
        refine vn (i := 12) rfl rfl ?_
        refine vn (i := 13) rfl rfl ?_
        refine vn (i := 14) rfl rfl ?_
        refine vn (i := 15) rfl rfl ?_
        refine vn (i := 16) rfl rfl ?_
        refine vn (i := 17) rfl rfl ?_
        refine vn (i := 18) rfl rfl ?_
        refine vn (i := 19) rfl rfl ?_
        refine vn (i := 20) rfl rfl ?_
        refine vm (i := 21) (v := .bool true) rfl rfl rfl ?_
        refine vm (i := 22) (v := .bool true) rfl rfl rfl ?_
        refine vm (i := 23) (v := .bool true) rfl rfl rfl ?_
        refine vv (i := 24) (v := bxV (madeX 0 x)) rfl rfl rfl (yb_load (n := 9) (off := 0) rfl (by kernel_rfl) (.tail _ (.head _)) Tryd.underlying26 rfl (by kernel_rfl) (Nat.le_refl 9) (by kernel_rfl)) ?_
        refine vv (i := 25) (v := .int .i64 (((heightX (madeX 0 x)) : Nat) : Int)) rfl rfl rfl (yb_call (f := 21) (args := #[bxV (madeX 0 x)]) (fun _ => by kernel_rfl) fun W hW => Height_any (madeX 0 x) W) ?_
        refine vp (i := 26) (v := .bool (decide ((heightX (madeX 0 x)) = 2896))) rfl rfl rfl (run_bin rfl (vx := (.int .i64 (((heightX (madeX 0 x)) : Nat) : Int))) (vy := (.int .i64 ((2896 : Nat) : Int))) (by kernel_rfl) (by kernel_rfl) fun w => bn_eql rfl w) ?_
        refine vm (i := 27) (v := .pointer (some ⟨g12, 3, none⟩)) rfl rfl rfl ?_
        refine vv (i := 28) (v := .bool ((madeX 0 x).high)) rfl rfl rfl (yb_cell (off := 3) rfl (by kernel_rfl) (.tail _ (.head _)) Tryd.underlying4 rfl (by kernel_rfl)) ?_
        refine vp (i := 29) (v := .bool true) rfl rfl rfl (run_bin rfl (vx := .bool (decide ((heightX (madeX 0 x)) = 2896))) (vy := .bool ((madeX 0 x).high)) (by kernel_rfl) (by kernel_rfl) fun w => bn_bool_eql (high_eq (madeX 0 x)) Tryd.underlying4 w) ?_
        refine vm (i := 30) (v := .bool true) rfl rfl rfl ?_
        refine vm (i := 31) (v := .bool true) rfl rfl rfl ?_
        refine vv (i := 32) (v := bxV (madeX 0 x)) rfl rfl rfl (yb_load (n := 9) (off := 0) rfl (by kernel_rfl) (.tail _ (.head _)) Tryd.underlying26 rfl (by kernel_rfl) (Nat.le_refl 9) (by kernel_rfl)) ?_
        refine vv (i := 33) (v := .int .i64 (((halvesX (madeX 0 x)) : Nat) : Int)) rfl rfl rfl (yb_call (f := 22) (args := #[bxV (madeX 0 x)]) (fun _ => by kernel_rfl) fun W hW => Halves_any (madeX 0 x) W) ?_
        refine vp (i := 34) (v := .int .i64 (((20 * (halvesX (madeX 0 x))) : Nat) : Int)) rfl rfl rfl (run_bin rfl (vx := (.int .i64 ((20 : Nat) : Int))) (vy := (.int .i64 (((halvesX (madeX 0 x)) : Nat) : Int))) (by kernel_rfl) (by kernel_rfl) fun w => bn_mul (z := (20 * (halvesX (madeX 0 x)))) rfl (wr_i64 (by omega)) w) ?_
        refine vm (i := 35) (v := .pointer (some ⟨g12, 2, none⟩)) rfl rfl rfl ?_
        refine vv (i := 36) (v := .int .u8 ((((madeX 0 x).size) : Nat) : Int)) rfl rfl rfl (yb_cell (off := 2) rfl (by kernel_rfl) (.tail _ (.head _)) Tryd.underlying5 rfl (by kernel_rfl)) ?_
        refine vp (i := 37) (v := .int .i64 ((((madeX 0 x).size) : Nat) : Int)) rfl rfl rfl (run_conv rfl (vx := (.int .u8 ((((madeX 0 x).size) : Nat) : Int))) (by kernel_rfl) fun w => cv_int Tryd.underlying5 Tryd.underlying3 (wr_i64 (by omega)) w) ?_
        refine vp (i := 38) (v := .bool true) rfl rfl rfl (run_bin rfl (vx := (.int .i64 (((20 * (halvesX (madeX 0 x))) : Nat) : Int))) (vy := (.int .i64 ((((madeX 0 x).size) : Nat) : Int))) (by kernel_rfl) (by kernel_rfl) fun w => bn_eql (decide_eq_true (halves20 hsa)) w) ?_
        refine vm (i := 39) (v := .bool true) rfl rfl rfl ?_
        refine vm (i := 40) (v := .bool true) rfl rfl rfl ?_
        refine vv (i := 41) (v := .bool true) rfl rfl rfl (yb_call (f := 12) (args := #[]) (fun _ => by kernel_rfl) fun W hW => awake_any W (HE.out.keep hW.1)) ?_
        refine vm (i := 42) (v := .bool true) rfl rfl rfl ?_
        refine vm (i := 43) (v := .bool true) rfl rfl rfl ?_
        refine wpV_done (by kernel_rfl) (fun W22 hW22 => ?_) _
        refine (show Code.wp _ _ _ _ _ from ?_)
        refine wp_ret ?_
        try simp only [inBlock_ret, then_ret]
        refine bodyPost_ret (v := .bool true) ?_ rfl ?_
        · kernel_rfl
        · exact ⟨rfl, hW22.1⟩
      | true =>
        refine lm (v := .pointer (some ⟨g12, 8, none⟩)) rfl rfl ?_
        refine lv (v := .bool ((madeX 0 x).rf)) rfl rfl (yb_cell (off := 8) rfl (by kernel_rfl) (.tail _ (.head _)) Tryd.underlying4 rfl (by kernel_rfl)) ?_
        refine lm (v := .pointer (some ⟨g10, 8, none⟩)) rfl rfl ?_
        refine lv (v := .bool ((madeX 1 y).rf)) rfl rfl (yb_cell (off := 8) rfl (by kernel_rfl) (.tail _ (.tail _ (.head _))) Tryd.underlying4 rfl (by kernel_rfl)) ?_
        refine lp (v := .bool (((madeX 0 x).rf) == ((madeX 1 y).rf))) rfl rfl (run_bin rfl (vx := .bool ((madeX 0 x).rf)) (vy := .bool ((madeX 1 y).rf)) (by kernel_rfl) (by kernel_rfl) fun w => bn_bool_eql rfl Tryd.underlying4 w) ?_
        refine lm (v := .bool (((madeX 0 x).rf) == ((madeX 1 y).rf))) rfl rfl ?_
        refine lm (v := .bool (((madeX 0 x).rf) == ((madeX 1 y).rf))) rfl rfl ?_
        refine wpL_done (fun W23 hW23 => ?_)
        refine (show Code.wp _ _ _ _ _ from ?_)
        refine wp_seq ?_
        refine wp_region_V (W0 := w) [(g14, .cells #[.int .u8 ((((madeX 0 x).size) : Nat) : Int), .bool ((madeX 0 x).high), .bool ((madeX 0 x).rf)] 37 (0, 0)), (g12, .cells (bxC (madeX 0 x)) 26 (0, 0)), (g10, .cells (bxC (madeX 1 y)) 26 (0, 0)), (g2, .cells (skC y).toArray 31 (0, 0)), (g1, .cells (skC x).toArray 31 (0, 0))] (by kernel_rfl) (hW23) ?_
        refine vm (i := 0) (v := strV (codeS (madeX 0 x))) rfl rfl rfl ?_
        refine vm (i := 1) (v := strV (codeS (madeX 1 y))) rfl rfl rfl ?_
        cases h6 : (((madeX 0 x).rf) == ((madeX 1 y).rf)) with
        | false =>
          refine vp (i := 2) (v := .bool false) rfl rfl rfl (run_bin rfl (vx := strV (codeS (madeX 0 x))) (vy := strV (codeS (madeX 1 y))) (by kernel_rfl) (by kernel_rfl) fun w => bs_eql (decide_eq_false (fun e => absurd ((code_inj made_code made_code e).2.2) (by rw [h6]; decide))) w) ?_
          refine vm (i := 3) (v := .bool false) rfl rfl rfl ?_
          refine vm (i := 4) (v := .bool true) rfl rfl rfl ?_
          refine vm (i := 5) (v := .bool true) rfl rfl rfl ?_
          refine vm (i := 6) (v := .bool false) rfl rfl rfl ?_
          refine vm (i := 7) (v := .bool true) rfl rfl rfl ?_
          refine vm (i := 8) (v := .bool true) rfl rfl rfl ?_
          refine vn (i := 9) rfl rfl ?_
          refine vn (i := 10) rfl rfl ?_
          refine vn (i := 11) rfl rfl ?_
          refine vn (i := 12) rfl rfl ?_
          refine vn (i := 13) rfl rfl ?_
          refine vn (i := 14) rfl rfl ?_
          refine vn (i := 15) rfl rfl ?_
          refine vn (i := 16) rfl rfl ?_
          refine vn (i := 17) rfl rfl ?_
          refine vn (i := 18) rfl rfl ?_
          refine vn (i := 19) rfl rfl ?_
          refine vn (i := 20) rfl rfl ?_
          refine vm (i := 21) (v := .bool true) rfl rfl rfl ?_
          refine vm (i := 22) (v := .bool true) rfl rfl rfl ?_
          refine vm (i := 23) (v := .bool true) rfl rfl rfl ?_
          refine vv (i := 24) (v := bxV (madeX 0 x)) rfl rfl rfl (yb_load (n := 9) (off := 0) rfl (by kernel_rfl) (.tail _ (.head _)) Tryd.underlying26 rfl (by kernel_rfl) (Nat.le_refl 9) (by kernel_rfl)) ?_
          refine vv (i := 25) (v := .int .i64 (((heightX (madeX 0 x)) : Nat) : Int)) rfl rfl rfl (yb_call (f := 21) (args := #[bxV (madeX 0 x)]) (fun _ => by kernel_rfl) fun W hW => Height_any (madeX 0 x) W) ?_
          refine vp (i := 26) (v := .bool (decide ((heightX (madeX 0 x)) = 2896))) rfl rfl rfl (run_bin rfl (vx := (.int .i64 (((heightX (madeX 0 x)) : Nat) : Int))) (vy := (.int .i64 ((2896 : Nat) : Int))) (by kernel_rfl) (by kernel_rfl) fun w => bn_eql rfl w) ?_
          refine vm (i := 27) (v := .pointer (some ⟨g12, 3, none⟩)) rfl rfl rfl ?_
          refine vv (i := 28) (v := .bool ((madeX 0 x).high)) rfl rfl rfl (yb_cell (off := 3) rfl (by kernel_rfl) (.tail _ (.head _)) Tryd.underlying4 rfl (by kernel_rfl)) ?_
          refine vp (i := 29) (v := .bool true) rfl rfl rfl (run_bin rfl (vx := .bool (decide ((heightX (madeX 0 x)) = 2896))) (vy := .bool ((madeX 0 x).high)) (by kernel_rfl) (by kernel_rfl) fun w => bn_bool_eql (high_eq (madeX 0 x)) Tryd.underlying4 w) ?_
          refine vm (i := 30) (v := .bool true) rfl rfl rfl ?_
          refine vm (i := 31) (v := .bool true) rfl rfl rfl ?_
          refine vv (i := 32) (v := bxV (madeX 0 x)) rfl rfl rfl (yb_load (n := 9) (off := 0) rfl (by kernel_rfl) (.tail _ (.head _)) Tryd.underlying26 rfl (by kernel_rfl) (Nat.le_refl 9) (by kernel_rfl)) ?_
          refine vv (i := 33) (v := .int .i64 (((halvesX (madeX 0 x)) : Nat) : Int)) rfl rfl rfl (yb_call (f := 22) (args := #[bxV (madeX 0 x)]) (fun _ => by kernel_rfl) fun W hW => Halves_any (madeX 0 x) W) ?_
          refine vp (i := 34) (v := .int .i64 (((20 * (halvesX (madeX 0 x))) : Nat) : Int)) rfl rfl rfl (run_bin rfl (vx := (.int .i64 ((20 : Nat) : Int))) (vy := (.int .i64 (((halvesX (madeX 0 x)) : Nat) : Int))) (by kernel_rfl) (by kernel_rfl) fun w => bn_mul (z := (20 * (halvesX (madeX 0 x)))) rfl (wr_i64 (by omega)) w) ?_
          refine vm (i := 35) (v := .pointer (some ⟨g12, 2, none⟩)) rfl rfl rfl ?_
          refine vv (i := 36) (v := .int .u8 ((((madeX 0 x).size) : Nat) : Int)) rfl rfl rfl (yb_cell (off := 2) rfl (by kernel_rfl) (.tail _ (.head _)) Tryd.underlying5 rfl (by kernel_rfl)) ?_
          refine vp (i := 37) (v := .int .i64 ((((madeX 0 x).size) : Nat) : Int)) rfl rfl rfl (run_conv rfl (vx := (.int .u8 ((((madeX 0 x).size) : Nat) : Int))) (by kernel_rfl) fun w => cv_int Tryd.underlying5 Tryd.underlying3 (wr_i64 (by omega)) w) ?_
          refine vp (i := 38) (v := .bool true) rfl rfl rfl (run_bin rfl (vx := (.int .i64 (((20 * (halvesX (madeX 0 x))) : Nat) : Int))) (vy := (.int .i64 ((((madeX 0 x).size) : Nat) : Int))) (by kernel_rfl) (by kernel_rfl) fun w => bn_eql (decide_eq_true (halves20 hsa)) w) ?_
          refine vm (i := 39) (v := .bool true) rfl rfl rfl ?_
          refine vm (i := 40) (v := .bool true) rfl rfl rfl ?_
          refine vv (i := 41) (v := .bool true) rfl rfl rfl (yb_call (f := 12) (args := #[]) (fun _ => by kernel_rfl) fun W hW => awake_any W (HE.out.keep hW.1)) ?_
          refine vm (i := 42) (v := .bool true) rfl rfl rfl ?_
          refine vm (i := 43) (v := .bool true) rfl rfl rfl ?_
          refine wpV_done (by kernel_rfl) (fun W24 hW24 => ?_) _
          refine (show Code.wp _ _ _ _ _ from ?_)
          refine wp_ret ?_
          try simp only [inBlock_ret, then_ret]
          refine bodyPost_ret (v := .bool true) ?_ rfl ?_
          · kernel_rfl
          · exact ⟨rfl, hW24.1⟩
        | true =>
          refine vp (i := 2) (v := .bool true) rfl rfl rfl (run_bin rfl (vx := strV (codeS (madeX 0 x))) (vy := strV (codeS (madeX 1 y))) (by kernel_rfl) (by kernel_rfl) fun w => bs_eql (decide_eq_true (code_same h4 h5 h6)) w) ?_
          refine vm (i := 3) (v := .bool true) rfl rfl rfl ?_
          refine vm (i := 4) (v := .bool true) rfl rfl rfl ?_
          refine vm (i := 5) (v := .bool true) rfl rfl rfl ?_
          refine vm (i := 6) (v := .bool true) rfl rfl rfl ?_
          refine vm (i := 7) (v := .bool false) rfl rfl rfl ?_
          refine vm (i := 8) (v := .bool false) rfl rfl rfl ?_
          refine vv (i := 9) (v := bxV (madeX 0 x)) rfl rfl rfl (yb_load (n := 9) (off := 0) rfl (by kernel_rfl) (.tail _ (.head _)) Tryd.underlying26 rfl (by kernel_rfl) (Nat.le_refl 9) (by kernel_rfl)) ?_
          refine vv (i := 10) (v := .int .i64 (((heightX (madeX 0 x)) : Nat) : Int)) rfl rfl rfl (yb_call (f := 21) (args := #[bxV (madeX 0 x)]) (fun _ => by kernel_rfl) fun W hW => Height_any (madeX 0 x) W) ?_
          refine vv (i := 11) (v := bxV (madeX 1 y)) rfl rfl rfl (yb_load (n := 9) (off := 0) rfl (by kernel_rfl) (.tail _ (.tail _ (.head _))) Tryd.underlying26 rfl (by kernel_rfl) (Nat.le_refl 9) (by kernel_rfl)) ?_
          refine vv (i := 12) (v := .int .i64 (((heightX (madeX 1 y)) : Nat) : Int)) rfl rfl rfl (yb_call (f := 21) (args := #[bxV (madeX 1 y)]) (fun _ => by kernel_rfl) fun W hW => Height_any (madeX 1 y) W) ?_
          refine vp (i := 13) (v := .bool true) rfl rfl rfl (run_bin rfl (vx := (.int .i64 (((heightX (madeX 0 x)) : Nat) : Int))) (vy := (.int .i64 (((heightX (madeX 1 y)) : Nat) : Int))) (by kernel_rfl) (by kernel_rfl) fun w => bn_eql (decide_eq_true (height_same h5)) w) ?_
          refine vm (i := 14) (v := .bool true) rfl rfl rfl ?_
          refine vv (i := 15) (v := bxV (madeX 0 x)) rfl rfl rfl (yb_load (n := 9) (off := 0) rfl (by kernel_rfl) (.tail _ (.head _)) Tryd.underlying26 rfl (by kernel_rfl) (Nat.le_refl 9) (by kernel_rfl)) ?_
          refine vv (i := 16) (v := .int .i64 (((halvesX (madeX 0 x)) : Nat) : Int)) rfl rfl rfl (yb_call (f := 22) (args := #[bxV (madeX 0 x)]) (fun _ => by kernel_rfl) fun W hW => Halves_any (madeX 0 x) W) ?_
          refine vv (i := 17) (v := bxV (madeX 1 y)) rfl rfl rfl (yb_load (n := 9) (off := 0) rfl (by kernel_rfl) (.tail _ (.tail _ (.head _))) Tryd.underlying26 rfl (by kernel_rfl) (Nat.le_refl 9) (by kernel_rfl)) ?_
          refine vv (i := 18) (v := .int .i64 (((halvesX (madeX 1 y)) : Nat) : Int)) rfl rfl rfl (yb_call (f := 22) (args := #[bxV (madeX 1 y)]) (fun _ => by kernel_rfl) fun W hW => Halves_any (madeX 1 y) W) ?_
          refine vp (i := 19) (v := .bool true) rfl rfl rfl (run_bin rfl (vx := (.int .i64 (((halvesX (madeX 0 x)) : Nat) : Int))) (vy := (.int .i64 (((halvesX (madeX 1 y)) : Nat) : Int))) (by kernel_rfl) (by kernel_rfl) fun w => bn_eql (decide_eq_true (halves_same h4)) w) ?_
          refine vm (i := 20) (v := .bool true) rfl rfl rfl ?_
          refine vm (i := 21) (v := .bool true) rfl rfl rfl ?_
          refine vm (i := 22) (v := .bool true) rfl rfl rfl ?_
          refine vm (i := 23) (v := .bool true) rfl rfl rfl ?_
          refine vv (i := 24) (v := bxV (madeX 0 x)) rfl rfl rfl (yb_load (n := 9) (off := 0) rfl (by kernel_rfl) (.tail _ (.head _)) Tryd.underlying26 rfl (by kernel_rfl) (Nat.le_refl 9) (by kernel_rfl)) ?_
          refine vv (i := 25) (v := .int .i64 (((heightX (madeX 0 x)) : Nat) : Int)) rfl rfl rfl (yb_call (f := 21) (args := #[bxV (madeX 0 x)]) (fun _ => by kernel_rfl) fun W hW => Height_any (madeX 0 x) W) ?_
          refine vp (i := 26) (v := .bool (decide ((heightX (madeX 0 x)) = 2896))) rfl rfl rfl (run_bin rfl (vx := (.int .i64 (((heightX (madeX 0 x)) : Nat) : Int))) (vy := (.int .i64 ((2896 : Nat) : Int))) (by kernel_rfl) (by kernel_rfl) fun w => bn_eql rfl w) ?_
          refine vm (i := 27) (v := .pointer (some ⟨g12, 3, none⟩)) rfl rfl rfl ?_
          refine vv (i := 28) (v := .bool ((madeX 0 x).high)) rfl rfl rfl (yb_cell (off := 3) rfl (by kernel_rfl) (.tail _ (.head _)) Tryd.underlying4 rfl (by kernel_rfl)) ?_
          refine vp (i := 29) (v := .bool true) rfl rfl rfl (run_bin rfl (vx := .bool (decide ((heightX (madeX 0 x)) = 2896))) (vy := .bool ((madeX 0 x).high)) (by kernel_rfl) (by kernel_rfl) fun w => bn_bool_eql (high_eq (madeX 0 x)) Tryd.underlying4 w) ?_
          refine vm (i := 30) (v := .bool true) rfl rfl rfl ?_
          refine vm (i := 31) (v := .bool true) rfl rfl rfl ?_
          refine vv (i := 32) (v := bxV (madeX 0 x)) rfl rfl rfl (yb_load (n := 9) (off := 0) rfl (by kernel_rfl) (.tail _ (.head _)) Tryd.underlying26 rfl (by kernel_rfl) (Nat.le_refl 9) (by kernel_rfl)) ?_
          refine vv (i := 33) (v := .int .i64 (((halvesX (madeX 0 x)) : Nat) : Int)) rfl rfl rfl (yb_call (f := 22) (args := #[bxV (madeX 0 x)]) (fun _ => by kernel_rfl) fun W hW => Halves_any (madeX 0 x) W) ?_
          refine vp (i := 34) (v := .int .i64 (((20 * (halvesX (madeX 0 x))) : Nat) : Int)) rfl rfl rfl (run_bin rfl (vx := (.int .i64 ((20 : Nat) : Int))) (vy := (.int .i64 (((halvesX (madeX 0 x)) : Nat) : Int))) (by kernel_rfl) (by kernel_rfl) fun w => bn_mul (z := (20 * (halvesX (madeX 0 x)))) rfl (wr_i64 (by omega)) w) ?_
          refine vm (i := 35) (v := .pointer (some ⟨g12, 2, none⟩)) rfl rfl rfl ?_
          refine vv (i := 36) (v := .int .u8 ((((madeX 0 x).size) : Nat) : Int)) rfl rfl rfl (yb_cell (off := 2) rfl (by kernel_rfl) (.tail _ (.head _)) Tryd.underlying5 rfl (by kernel_rfl)) ?_
          refine vp (i := 37) (v := .int .i64 ((((madeX 0 x).size) : Nat) : Int)) rfl rfl rfl (run_conv rfl (vx := (.int .u8 ((((madeX 0 x).size) : Nat) : Int))) (by kernel_rfl) fun w => cv_int Tryd.underlying5 Tryd.underlying3 (wr_i64 (by omega)) w) ?_
          refine vp (i := 38) (v := .bool true) rfl rfl rfl (run_bin rfl (vx := (.int .i64 (((20 * (halvesX (madeX 0 x))) : Nat) : Int))) (vy := (.int .i64 ((((madeX 0 x).size) : Nat) : Int))) (by kernel_rfl) (by kernel_rfl) fun w => bn_eql (decide_eq_true (halves20 hsa)) w) ?_
          refine vm (i := 39) (v := .bool true) rfl rfl rfl ?_
          refine vm (i := 40) (v := .bool true) rfl rfl rfl ?_
          refine vv (i := 41) (v := .bool true) rfl rfl rfl (yb_call (f := 12) (args := #[]) (fun _ => by kernel_rfl) fun W hW => awake_any W (HE.out.keep hW.1)) ?_
          refine vm (i := 42) (v := .bool true) rfl rfl rfl ?_
          refine vm (i := 43) (v := .bool true) rfl rfl rfl ?_
          refine wpV_done (by kernel_rfl) (fun W25 hW25 => ?_) _
          refine (show Code.wp _ _ _ _ _ from ?_)
          refine wp_ret ?_
          try simp only [inBlock_ret, then_ret]
          refine bodyPost_ret (v := .bool true) ?_ rfl ?_
          · kernel_rfl
          · exact ⟨rfl, hW25.1⟩
end Go.Proofs.YtjbbeolapaaiaaaDoor
/- BoxKinds holds for every input: the program's own answer is true, wherever the listed variables are as the program's text lays them; each argument reads afterwards as it read before. -/
namespace Go.Proofs.YtjbbeolapaaiaaaDoor
open Go.ChangeShapes Go.WideShapes Go.ChangeAt Go.RowKit Tw
set_option maxRecDepth 100000 in
theorem boxKinds_lifted (os : Os) (started : os.Started) (H : Type) (enc : TypeId × Value → H) :
    ReturnsInHanded {} Tryd.checked os 5 .any (fun w args => (Rows.boxKindsSpec.pre enc Tryd.prog Tryd.f5 Rows.boxKindsRow.domain false w args ∧ laidMetH Tryd.prog laidN w) ∧ sizedMet enc Tryd.prog Tryd.f5 (OpenSpec.ofChange Rows.boxKindsSpec) false w args) (Rows.boxKindsSpec.post enc Tryd.prog Tryd.f5 false true false false) := by
  refine handed_and_sized (C := Tryd.checked) (X := fun w => laidMetH Tryd.prog laidN w) (fun _ _ hh h => h.of_heap hh) own started (by kernel_rfl) Tryd.func5
    (ChangeSpec.witness_shaped (enc := enc) (C := Tryd.checked) (os := os) (X := fun w _ => laidMetH Tryd.prog laidN w) false (World.doorLaid Tryd.prog 1000 os) #[.agg #[.int .u8 0, .int .u8 0, .int .u8 0, .int .u8 0, .int .u8 0, .int .u8 0], .agg #[.int .u8 0, .int .u8 0, .int .u8 0, .int .u8 0, .int .u8 0, .int .u8 0]] 8 rfl (World.shaped_of_RefB (by kernel_rfl) (by kernel_rfl)) (by kernel_rfl) (by kernel_rfl) (by kernel_rfl) (door_met os _)) ?_
  intro W base args ds gs before hval0 hW hL hsh hsz
  have hval : ∀ (j : Nat) t v, Tryd.f5.params[j]? = some t → args[j]? = some v → Value.okWide Tryd.prog W .any base t v := hval0
  have hW2 := hW
  obtain ⟨p, q, hA0, hV, rfl, hfz, hnd⟩ := hW2
  have hA : DataW.TrodAll enc Tryd.prog W 0 (fun _ => true) true Tryd.f5.params.toList args.toList ds p := hA0
  rw [Tryd.params5] at hA hval
  obtain ⟨v0, vs0, d0, ds0, p0, q0, hargs, rfl, rfl, h0, r0⟩ := trodAll_cons hA
  obtain ⟨v1, vs1, d1, ds1, p1, q1, rfl, rfl, rfl, h1, r1⟩ := trodAll_cons r0
  obtain ⟨rfl, rfl, rfl⟩ := trodAll_nil r1
  obtain rfl : args = #[v0, v1] := by cases args; simp_all
  obtain ⟨rfl, rfl⟩ := trodVars_none hV
  have k0 := h0
  have lt0 : ∀ x ∈ p0, x.block < W.heap.size := by obtain ⟨m, hm⟩ := k0; exact DataW.trod_lt m _ _ _ hm
  obtain ⟨y0, rfl, hy0⟩ := open_rec Tryd.underlying31 opens_sk (hval 0 31 v0 rfl rfl) h0
  have k1 := h1
  have lt1 : ∀ x ∈ p1, x.block < W.heap.size := by obtain ⟨m, hm⟩ := k1; exact DataW.trod_lt m _ _ _ hm
  obtain ⟨y1, rfl, hy1⟩ := open_rec Tryd.underlying31 opens_sk (hval 1 31 v1 rfl rfl) h1
  clear hA0 hval0
  refine (BoxKinds_law W (env_of hL) y0 hy0 y1 hy1).mono fun e W' ⟨he, bel⟩ => ?_
  subst he
  exact ⟨_, rfl, _, _, _, [], _, [], hW, (trodAll_cons_mk (shut_bool Tryd.underlying4 _) trodAll_mk0), (trodAll_cons_mk (Below.trod laidOut (by kernel_rfl) (of_decide_eq_true (by kernel_rfl)) k0 bel lt0) (trodAll_cons_mk (Below.trod laidOut (by kernel_rfl) (of_decide_eq_true (by kernel_rfl)) k1 bel lt1) trodAll_mk0)), rfl, bel.frame _, fun h => by cases h⟩
theorem boxKinds_said : Rows.BoxKindsSaid :=
  OpenClaim.holds_of_wide 5 Tryd.f5 rfl rfl rfl rfl rfl rfl rfl ⟨rfl, rfl, rfl, rfl, rfl⟩ rfl rfl rfl rfl rfl (by kernel_rfl) Tryd.func5 (by kernel_rfl)
    (of_decide_eq_true (by kernel_rfl)) (by unfold Func.isWrapper; first | (rw [if_pos (by decide +kernel)]; kernel_rfl) | (rw [if_neg (by decide +kernel)]; exact ⟨rfl, rfl⟩))
    (fun os started H enc _ => boxKinds_lifted os started H enc)
theorem boxKinds_proved : Rows.BoxKindsCardSaid :=
  Claim7.holds_tied_plain_at .later [] [.data] true Rows.boxKindsCard.stood.harness Rows.boxKindsCard.stood.looks
    boxKinds_said (fun _ h => by cases h) (by kernel_rfl) (fun _ h => by cases h) boxKinds_row_tie rfl ⟨rfl, rfl⟩ (by kernel_rfl) rfl
    (fun f fn hf hfn => by
      obtain rfl : f = 5 := Option.some.inj ((show Tryd.prog.funcNamed "twistlock/twistlocklaw06.BoxKinds" = some 5 by kernel_rfl).symm.trans hf) |>.symm
      obtain rfl : fn = Tryd.f5 := (Option.some.inj (Tryd.func5.symm.trans hfn)).symm
      exact ⟨by kernel_rfl, fun j t ht => by
        rw [Tryd.params5] at ht
        have hm : t ∈ [31, 31] := by simpa using Array.mem_of_getElem? ht
        have hall : ([31, 31].all fun u => !Tryd.prog.wantsStandIn u) = true := by kernel_rfl
        exact (show Tryd.prog.wantsStandIn t = false by simpa using List.all_eq_true.1 hall t hm)⟩)
    (by kernel_rfl)
#print axioms boxKinds_proved
end Go.Proofs.YtjbbeolapaaiaaaDoor
