import Derived.Test.YtjbbeolapaaiaaaDoorG04
import Derived.Test.YtjbbeolapaaiaaaDoorG05
import Derived.Test.YtjbbeolapaaiaaaDoorG00
/- BoxFirst: the law holds for every input; no condition but the row's own. -/
set_option linter.unusedVariables false
set_option linter.unusedSimpArgs false
set_option linter.unusedSectionVars false
namespace Go.Proofs.YtjbbeolapaaiaaaDoor
open Go Go.RowKit Tw
theorem run_min {P : Program} {o : Oper} {a : Act} {T : TypeId} {x y : Operand} {k : IntKind} {m n z : Int} (ho : o.op = .call { callee := .builtin .min, args := #[x, y], argTypes := #[T, T] }) (hx : a.eval x = .int k m) (hy : a.eval y = .int k n) (h : (if n < m then n else m) = z) (w : World) : (execOp a.eval o).run P w = .ok (.value (.int k z)) w := by
  subst h
  unfold execOp
  rw [ho]
  simp [resolve, invoke, builtin, Builtin.min_, Builtin.min2, hx, hy]
theorem run_max {P : Program} {o : Oper} {a : Act} {T : TypeId} {x y : Operand} {k : IntKind} {m n z : Int} (ho : o.op = .call { callee := .builtin .max, args := #[x, y], argTypes := #[T, T] }) (hx : a.eval x = .int k m) (hy : a.eval y = .int k n) (h : (if n > m then n else m) = z) (w : World) : (execOp a.eval o).run P w = .ok (.value (.int k z)) w := by
  subst h
  unfold execOp
  rw [ho]
  simp [resolve, invoke, builtin, Builtin.max_, Builtin.max2, hx, hy]
theorem min_ex (m n : Int) : ∃ z : Int, (if n < m then n else m) = z ∧ z ≤ m ∧ z ≤ n ∧ (z = m ∨ z = n) := ⟨_, rfl, by split <;> omega, by split <;> omega, by split <;> omega⟩
theorem max_ex (m n : Int) : ∃ z : Int, (if n > m then n else m) = z ∧ m ≤ z ∧ n ≤ z ∧ (z = m ∨ z = n) := ⟨_, rfl, by split <;> omega, by split <;> omega, by split <;> omega⟩
theorem min_nat (m n : Nat) : ∃ z : Nat, (if (n : Int) < (m : Int) then (n : Int) else (m : Int)) = (z : Int) ∧ z ≤ m ∧ z ≤ n ∧ (z = m ∨ z = n) := by
  rcases Nat.lt_or_ge n m with h | h
  · exact ⟨n, if_pos (by omega), by omega, by omega, .inr rfl⟩
  · exact ⟨m, if_neg (by omega), by omega, by omega, .inl rfl⟩
instance : DecidableEq Sm := fun a b => decidable_of_iff (a.n = b.n ∧ a.h = b.h ∧ a.k = b.k ∧ a.r = b.r ∧ a.d = b.d) (by cases a; cases b; simp)
theorem eql_sm {a b : Sm} {e : Bool} {px py : Operand} (h : decide (a = b) = e) (w : World) : (do eqGuard .eql 47 px py (smV a) (smV b); binOp .eql 47 (smV a) (smV b) : Sem Value).run Tryd.prog w = .ok (.bool e) w := by
  subst h
  obtain ⟨a1, a2, a3, a4, a5⟩ := a
  obtain ⟨b1, b2, b3, b4, b5⟩ := b
  unfold smV smC
  go_simp
  have e1 : ((a1 : Int) = (b1 : Int)) = (a1 = b1) := by apply propext; omega
  have e2 : ((a2 : Int) = (b2 : Int)) = (a2 = b2) := by apply propext; omega
  have e4 : ((a4 : Int) = (b4 : Int)) = (a4 = b4) := by apply propext; omega
  have e5 : ((a5 : Int) = (b5 : Int)) = (a5 = b5) := by apply propext; omega
  simp only [e1, e2, e4, e5, Sm.mk.injEq]
  by_cases h1 : a1 = b1 <;> by_cases h2 : a2 = b2 <;> by_cases h3 : a3 = b3 <;> by_cases h4 : a4 = b4 <;> by_cases h5 : a5 = b5 <;> simp [h1, h2, h3, h4, h5]
theorem neq_sm {a b : Sm} {e : Bool} {px py : Operand} (h : decide (a = b) = e) (w : World) : (do eqGuard .neq 47 px py (smV a) (smV b); binOp .neq 47 (smV a) (smV b) : Sem Value).run Tryd.prog w = .ok (.bool (!e)) w := by
  subst h
  obtain ⟨a1, a2, a3, a4, a5⟩ := a
  obtain ⟨b1, b2, b3, b4, b5⟩ := b
  unfold smV smC
  go_simp
  have e1 : ((a1 : Int) = (b1 : Int)) = (a1 = b1) := by apply propext; omega
  have e2 : ((a2 : Int) = (b2 : Int)) = (a2 = b2) := by apply propext; omega
  have e4 : ((a4 : Int) = (b4 : Int)) = (a4 = b4) := by apply propext; omega
  have e5 : ((a5 : Int) = (b5 : Int)) = (a5 = b5) := by apply propext; omega
  simp only [e1, e2, e4, e5, Sm.mk.injEq]
  by_cases h1 : a1 = b1 <;> by_cases h2 : a2 = b2 <;> by_cases h3 : a3 = b3 <;> by_cases h4 : a4 = b4 <;> by_cases h5 : a5 = b5 <;> simp [h1, h2, h3, h4, h5]
theorem valid_one {b : Bx} (h : rightX b = false) : validV [b] = .tuple #[.int .i64 0, .int .i64 60] := by
  unfold validV
  rw [if_neg (by simp), firstBad_some (k := 0) (by simp) (fun j hj => absurd hj (Nat.not_lt_zero _)) (bad_right rfl h)]
  rfl
theorem total_one {b : Bx} (h : rightX b = false) : totalX [b] = sm0 := add_wrong h
theorem made_size (n : Nat) (x : Sk) : (madeX n x).size = 20 ∨ (madeX n x).size = 40 := by
  unfold madeX
  dsimp only
  split
  · exact .inr rfl
  · exact .inl rfl
section
variable {b : Bx}
theorem wr1 (h : rul1 b = false) : rightX b = false := by unfold rightX; simp [h]
theorem wr2 (h : rul2 b = false) : rightX b = false := by unfold rightX; simp [h]
theorem wr3 (h : rul3 b = false) : rightX b = false := by unfold rightX; simp [h]
theorem wr4 (h : rul4 b = false) : rightX b = false := by unfold rightX; simp [h]
theorem wr5 (h : rul5 b = false) : rightX b = false := by unfold rightX; simp [h]
theorem wr6 (h : rulW 20 32000 b = false) : rightX b = false := by unfold rightX; simp [h]
theorem wr7 (h : rulW 40 40000 b = false) : rightX b = false := by unfold rightX; simp [h]
theorem wr8 (h : rul8 b = false) : rightX b = false := by unfold rightX; simp [h]
theorem wr10 (h : rul10 b = false) : rightX b = false := by unfold rightX; simp [h]
end
end Go.Proofs.YtjbbeolapaaiaaaDoor
namespace Go.Proofs.YtjbbeolapaaiaaaDoor
open Go Go.RowKit Tw
theorem made_calls (n : Nat) (x : Sk) : ∃ L D : Nat, (madeX n x).load = (L : Int) ∧ (madeX n x).dis = (D : Int) ∧ L < D ∧ D ≤ 19 := by
  refine ⟨x.load % 19, x.load % 19 + 1 + x.stay % (19 - x.load % 19), rfl, rfl, by omega, ?_⟩
  have := Nat.mod_lt x.stay (show 0 < 19 - x.load % 19 by omega)
  omega
set_option maxRecDepth 100000 in
set_option maxHeartbeats 40000000 in
theorem BoxStays_law (w : World) (hE : Env w) (x : Sk) (hx : skOk x) : Calls Tryd.prog 6 #[(.agg (skC x).toArray)] w fun e w' => e = .returned (.bool true) ∧ Below w.heap.size w w' := by
  have HE := Lib.hid hE
  clear hE
  obtain ⟨L, D, hL, hD, hLD, hD2⟩ := made_calls 0 x
  go_enter Tryd.func6, Tryd.ntmps6
  refine wp_seq ?_
  refine wp_region_L (W0 := w) [] (KS.start w) ?_
  refine wpL_new (fun g => .pointer (some ⟨g, 0, none⟩)) (obi := .cells (skC x).toArray 31 (0, 0)) rfl rfl (fun _ => by kernel_rfl) (fun _ => by simp only [List.setIfInBounds_toArray, List.set_cons_succ, List.set_cons_zero] <;> rfl) fun g1 Bg1 Fg1 => ?_
  refine lm (v := .bool false) rfl rfl ?_
  refine wpL_done (fun W1 hW1 => ?_)
  refine (show Code.wp _ _ _ _ _ from ?_)
  refine wp_seq ?_
  refine wp_region_L (W0 := w) [(g1, .cells (skC x).toArray 31 (0, 0))] (hW1) ?_
  refine lv (v := (.agg (skC x).toArray)) rfl rfl (yb_load (n := 6) (off := 0) rfl (by kernel_rfl) (.head _) Tryd.underlying31 rfl (by kernel_rfl) (by first | (simp; done) | exact Nat.le_of_ble_eq_true rfl) (by kernel_rfl)) ?_
  refine lv (v := bxV (madeX 0 x)) rfl rfl (yb_call (f := 17) (args := #[.int .i64 0, (.agg (skC x).toArray)]) (fun _ => by kernel_rfl) fun W hW => Made_any 0 x (by omega) hx W) ?_
  refine wpL_new (fun g => .pointer (some ⟨g, 0, none⟩)) (obi := .cells (bxC bx0) 26 (0, 0)) rfl rfl (fun _ => by kernel_rfl) (fun _ => by simp only [List.setIfInBounds_toArray, List.set_cons_succ, List.set_cons_zero] <;> rfl) fun g2 Bg2 Fg2 => ?_
  obtain dj3_0 : g1 ≠ g2 := by simpa only [dj_app_l, dj_app_r, dj_cons_l, dj_cons_r, dj_nil_l, dj_nil_r, dk_app, dk_cons, dk_nil, and_true, true_and, and_assoc] using (show Dk g2 [(g1, .cells (skC x).toArray 31 (0, 0))] from Fg2)
  refine wpL_s [(g2, .cells (bxC (madeX 0 x)) 26 (0, 0)), (g1, .cells (skC x).toArray 31 (0, 0))] rfl rfl (st_bx (b := (madeX 0 x)) rfl (by kernel_rfl) (by kernel_rfl) (.head _) rfl Bg2 (by kernel_rfl) (List.forall_mem_cons.2 ⟨.inl rfl, (List.forall_mem_cons.2 ⟨.inr ⟨(.tail _ (.head _)), (by first | assumption | exact Ne.symm (by assumption))⟩, (List.forall_mem_nil _)⟩)⟩)) ?_
  refine wpL_done (fun W2 hW2 => ?_)
  refine (show Code.wp _ _ _ _ _ from ?_)
  refine wp_seq ?_
  refine wp_region_L (W0 := w) [(g2, .cells (bxC (madeX 0 x)) 26 (0, 0)), (g1, .cells (skC x).toArray 31 (0, 0))] (hW2) ?_
  refine lm (v := .int .i64 0) rfl rfl ?_
  refine wpL_done (fun W3 hW3 => ?_)
  refine (show Code.wp _ _ _ _ _ from ?_)
  refine wp_seq ?_
  refine wp_seq ?_
  refine wp_region_L (W0 := w) [(g2, .cells (bxC (madeX 0 x)) 26 (0, 0)), (g1, .cells (skC x).toArray 31 (0, 0))] (hW3) ?_
  refine lm (v := .int .i64 (-2)) rfl rfl ?_
  refine wpL_done (fun W4 hW4 => ?_)
  refine (show Code.wp _ _ _ _ _ from ?_)
  refine wp_block ?_
  go_loopw [4, 5] (fun u4 u5 wr => ∃ (c n : Int), (-2 ≤ c ∧ c ≤ 25) ∧ ((c ≤ (L : Int) → n = 0) ∧ ((L : Int) ≤ c ∧ c ≤ (D : Int) → n = c - L) ∧ ((D : Int) ≤ c → n = (D : Int) - L)) ∧ u4 = .int .i64 n ∧ u5 = .int .i64 c ∧ KS w [(g2, .cells (bxC (madeX 0 x)) 26 (0, 0)), (g1, .cells (skC x).toArray 31 (0, 0))] wr) (fun _ u5 _ => (25 - intOf u5).toNat)
  case atStart => exact ⟨-2, 0, (by omega), (by omega), rfl, rfl, (hW4.sub (fun p hp => by first | exact hp | (simp only [List.mem_cons, List.mem_append, List.nil_append, List.not_mem_nil, or_assoc, or_false, false_or] at hp ⊢ <;> grind)))⟩
  case round =>
    obtain ⟨c, n, hc, hn, rfl, rfl, hL5⟩ := hrel
    refine wp_seq ?_
    refine wp_seq ?_
    refine wp_region_L (W0 := w) [(g2, .cells (bxC (madeX 0 x)) 26 (0, 0)), (g1, .cells (skC x).toArray 31 (0, 0))] (hL5) ?_
    refine lm (v := .int .i64 c) rfl rfl ?_
    refine lp (v := .bool (decide (c < 25))) rfl rfl (run_bin rfl (vx := (.int .i64 c)) (vy := (.int .i64 25)) (by kernel_rfl) (by kernel_rfl) fun w => bi_lss rfl w) ?_
    refine wpL_done (fun W6 hW6 => ?_)
    refine (show Code.wp _ _ _ _ _ from ?_)
    cases hd1 : (decide (c < 25)) with
    | false =>
      have h1 : ¬ (c < 25) := of_decide_eq_false hd1
      clear hd1
      refine wp_cond_false rfl ?_
      refine wp_exit ?_
      refine (show Code.wp _ _ _ _ _ from ?_)
      refine wp_seq ?_
      refine wp_region_L (W0 := w) [(g2, .cells (bxC (madeX 0 x)) 26 (0, 0)), (g1, .cells (skC x).toArray 31 (0, 0))] (hW6) ?_
      refine lm (v := .int .i64 n) rfl rfl ?_
      refine lm (v := .pointer (some ⟨g2, 6, none⟩)) rfl rfl ?_
      refine lv (v := .int .i64 ((madeX 0 x).dis)) rfl rfl (yb_cell (off := 6) rfl (by kernel_rfl) (.head _) Tryd.underlying3 rfl (by kernel_rfl)) ?_
      refine lm (v := .pointer (some ⟨g2, 5, none⟩)) rfl rfl ?_
      refine lv (v := .int .i64 ((madeX 0 x).load)) rfl rfl (yb_cell (off := 5) rfl (by kernel_rfl) (.head _) Tryd.underlying3 rfl (by kernel_rfl)) ?_
      refine lp (v := .int .i64 (((madeX 0 x).dis) - ((madeX 0 x).load))) rfl rfl (run_bin rfl (vx := (.int .i64 ((madeX 0 x).dis))) (vy := (.int .i64 ((madeX 0 x).load))) (by kernel_rfl) (by kernel_rfl) fun w => bi_sub (z := (((madeX 0 x).dis) - ((madeX 0 x).load))) rfl (wi_i64 (by omega)) w) ?_
      refine lp (v := .bool (decide (n = (((madeX 0 x).dis) - ((madeX 0 x).load))))) rfl rfl (run_bin rfl (vx := (.int .i64 n)) (vy := (.int .i64 (((madeX 0 x).dis) - ((madeX 0 x).load)))) (by kernel_rfl) (by kernel_rfl) fun w => bi_eql rfl w) ?_
      refine lm (v := .bool (decide (n = (((madeX 0 x).dis) - ((madeX 0 x).load))))) rfl rfl ?_
      cases hd2 : (decide (n = (((madeX 0 x).dis) - ((madeX 0 x).load)))) with
      | false =>
        have h2 : ¬ (n = (((madeX 0 x).dis) - ((madeX 0 x).load))) := of_decide_eq_false hd2
        clear hd2
        rw [hL, hD] at h2
        refine ln rfl ?_
        refine ln rfl ?_
        refine lm (v := .bool false) rfl rfl ?_
        refine lm (v := .bool false) rfl rfl ?_
        refine ln rfl ?_
        refine lm (v := .bool false) rfl rfl ?_
        refine lm (v := .bool false) rfl rfl ?_
        refine wpL_done (fun W7 hW7 => ?_)
        refine (show Code.wp _ _ _ _ _ from ?_)
        refine wp_ret ?_
        exfalso
        omega
      | true =>
        have h2 : n = (((madeX 0 x).dis) - ((madeX 0 x).load)) := of_decide_eq_true hd2
        clear hd2
        rw [hL, hD] at h2
        refine lm (v := .int .i64 n) rfl rfl ?_
        refine lp (v := .bool (decide (0 < n))) rfl rfl (run_bin rfl (vx := (.int .i64 n)) (vy := (.int .i64 0)) (by kernel_rfl) (by kernel_rfl) fun w => bi_gtr rfl w) ?_
        refine lm (v := .bool (decide (0 < n))) rfl rfl ?_
        refine lm (v := .bool (decide (0 < n))) rfl rfl ?_
        cases hd3 : (decide (0 < n)) with
        | false =>
          have h3 : ¬ (0 < n) := of_decide_eq_false hd3
          clear hd3
          refine ln rfl ?_
          refine lm (v := .bool false) rfl rfl ?_
          refine lm (v := .bool false) rfl rfl ?_
          refine wpL_done (fun W8 hW8 => ?_)
          refine (show Code.wp _ _ _ _ _ from ?_)
          refine wp_ret ?_
          exfalso
          omega
        | true =>
          have h3 : 0 < n := of_decide_eq_true hd3
          clear hd3
          refine lv (v := .bool true) rfl rfl (yb_call (f := 12) (args := #[]) (fun _ => by kernel_rfl) fun W hW => awake_any W (HE.out.keep hW.1)) ?_
          refine lm (v := .bool true) rfl rfl ?_
          refine lm (v := .bool true) rfl rfl ?_
          refine wpL_done (fun W9 hW9 => ?_)
          refine (show Code.wp _ _ _ _ _ from ?_)
          refine wp_ret ?_
          try simp only [inBlock_ret, then_ret]
          refine bodyPost_ret (v := .bool true) ?_ rfl ?_
          · kernel_rfl
          · exact ⟨rfl, hW9.1⟩
    | true =>
      have h1 : c < 25 := of_decide_eq_true hd1
      clear hd1
      refine wp_cond_true rfl ?_
      refine wp_skip ?_
      refine (show Code.wp _ _ _ _ _ from ?_)
      refine wp_seq ?_
      refine wp_block ?_
      refine wp_seq ?_
      refine wp_region_L (W0 := w) [(g2, .cells (bxC (madeX 0 x)) 26 (0, 0)), (g1, .cells (skC x).toArray 31 (0, 0))] (hW6) ?_
      refine lv (v := bxV (madeX 0 x)) rfl rfl (yb_load (n := 9) (off := 0) rfl (by kernel_rfl) (.head _) Tryd.underlying26 rfl (by kernel_rfl) (Nat.le_refl 9) (by kernel_rfl)) ?_
      refine lm (v := .int .i64 c) rfl rfl ?_
      refine lv (v := .bool (aboardX (madeX 0 x) c)) rfl rfl (yb_call (f := 23) (args := #[bxV (madeX 0 x), .int .i64 c]) (fun _ => by kernel_rfl) fun W hW => Aboard_any (madeX 0 x) c W) ?_
      refine wpL_done (fun W10 hW10 => ?_)
      refine (show Code.wp _ _ _ _ _ from ?_)
      cases h4 : (aboardX (madeX 0 x) c) with
      | false =>
        have ha : ¬ ((L : Int) ≤ c ∧ c < (D : Int)) := by rw [← hL, ← hD]; simpa [aboardX] using h4
        refine wp_cond_false rfl ?_
        refine wp_skip ?_
        refine (show Code.wp _ _ _ _ _ from ?_)
        refine wp_region_L (W0 := w) [(g2, .cells (bxC (madeX 0 x)) 26 (0, 0)), (g1, .cells (skC x).toArray 31 (0, 0))] (hW10) ?_
        refine lm (v := .int .i64 c) rfl rfl ?_
        refine lp (v := .int .i64 (c + 1)) rfl rfl (run_bin rfl (vx := (.int .i64 c)) (vy := (.int .i64 1)) (by kernel_rfl) (by kernel_rfl) fun w => bi_add (z := (c + 1)) rfl (wi_i64 (by omega)) w) ?_
        refine lm (v := .int .i64 (c + 1)) rfl rfl ?_
        refine wpL_done (fun W11 hW11 => ?_)
        go_roundw
        case rel =>
          repeat apply Exists.intro
          exact ⟨⟨c + 1, n, (by omega), (by omega), rfl, rfl, (hW11.sub (fun p hp => by first | exact hp | (simp only [List.mem_cons, List.mem_append, List.nil_append, List.not_mem_nil, or_assoc, or_false, false_or] at hp ⊢ <;> grind)))⟩, rfl⟩
        case measure => (show (25 - intOf (.int .i64 (c + 1))).toNat < (25 - intOf (.int .i64 c)).toNat); simp only [intOf]; omega
      | true =>
        have ha : ((L : Int) ≤ c ∧ c < (D : Int)) := by rw [← hL, ← hD]; simpa [aboardX] using h4
        refine wp_cond_true rfl ?_
        refine wp_seq ?_
        refine wp_region_L (W0 := w) [(g2, .cells (bxC (madeX 0 x)) 26 (0, 0)), (g1, .cells (skC x).toArray 31 (0, 0))] (hW10) ?_
        refine lm (v := .int .i64 n) rfl rfl ?_
        refine lp (v := .int .i64 (n + 1)) rfl rfl (run_bin rfl (vx := (.int .i64 n)) (vy := (.int .i64 1)) (by kernel_rfl) (by kernel_rfl) fun w => bi_add (z := (n + 1)) rfl (wi_i64 (by omega)) w) ?_
        refine lm (v := .int .i64 (n + 1)) rfl rfl ?_
        refine wpL_done (fun W12 hW12 => ?_)
        refine (show Code.wp _ _ _ _ _ from ?_)
        refine wp_seq ?_
        refine wp_region_L (W0 := w) [(g2, .cells (bxC (madeX 0 x)) 26 (0, 0)), (g1, .cells (skC x).toArray 31 (0, 0))] (hW12) ?_
        refine lm (v := .int .i64 c) rfl rfl ?_
        refine lm (v := .pointer (some ⟨g2, 5, none⟩)) rfl rfl ?_
        refine lv (v := .int .i64 ((madeX 0 x).load)) rfl rfl (yb_cell (off := 5) rfl (by kernel_rfl) (.head _) Tryd.underlying3 rfl (by kernel_rfl)) ?_
        refine lp (v := .bool (decide (c < ((madeX 0 x).load)))) rfl rfl (run_bin rfl (vx := (.int .i64 c)) (vy := (.int .i64 ((madeX 0 x).load))) (by kernel_rfl) (by kernel_rfl) fun w => bi_lss rfl w) ?_
        refine lm (v := .bool (decide (c < ((madeX 0 x).load)))) rfl rfl ?_
        cases hd5 : (decide (c < ((madeX 0 x).load))) with
        | false =>
          have h5 : ¬ (c < ((madeX 0 x).load)) := of_decide_eq_false hd5
          clear hd5
          rw [hL] at h5
          refine lm (v := .int .i64 c) rfl rfl ?_
          refine lm (v := .pointer (some ⟨g2, 6, none⟩)) rfl rfl ?_
          refine lv (v := .int .i64 ((madeX 0 x).dis)) rfl rfl (yb_cell (off := 6) rfl (by kernel_rfl) (.head _) Tryd.underlying3 rfl (by kernel_rfl)) ?_
          refine lp (v := .bool (!(decide (c < ((madeX 0 x).dis))))) rfl rfl (run_bin rfl (vx := (.int .i64 c)) (vy := (.int .i64 ((madeX 0 x).dis))) (by kernel_rfl) (by kernel_rfl) fun w => bi_geq rfl w) ?_
          refine lm (v := .bool (!(decide (c < ((madeX 0 x).dis))))) rfl rfl ?_
          refine wpL_done (fun W13 hW13 => ?_)
          refine (show Code.wp _ _ _ _ _ from ?_)
          cases hd6 : (decide (c < ((madeX 0 x).dis))) with
          | false =>
            have h6 : ¬ (c < ((madeX 0 x).dis)) := of_decide_eq_false hd6
            clear hd6
            rw [hD] at h6
            refine wp_cond_true rfl ?_
            refine wp_seq ?_
            refine wp_region_L (W0 := w) [(g2, .cells (bxC (madeX 0 x)) 26 (0, 0)), (g1, .cells (skC x).toArray 31 (0, 0))] (hW13) ?_
            refine lm (v := .bool false) rfl rfl ?_
            refine wpL_done (fun W14 hW14 => ?_)
            refine (show Code.wp _ _ _ _ _ from ?_)
            refine wp_ret ?_
            exfalso
            omega
          | true =>
            have h6 : c < ((madeX 0 x).dis) := of_decide_eq_true hd6
            clear hd6
            rw [hD] at h6
            refine wp_cond_false rfl ?_
            refine wp_skip ?_
            refine (show Code.wp _ _ _ _ _ from ?_)
            refine wp_region_L (W0 := w) [(g2, .cells (bxC (madeX 0 x)) 26 (0, 0)), (g1, .cells (skC x).toArray 31 (0, 0))] (hW13) ?_
            refine lm (v := .int .i64 c) rfl rfl ?_
            refine lp (v := .int .i64 (c + 1)) rfl rfl (run_bin rfl (vx := (.int .i64 c)) (vy := (.int .i64 1)) (by kernel_rfl) (by kernel_rfl) fun w => bi_add (z := (c + 1)) rfl (wi_i64 (by omega)) w) ?_
            refine lm (v := .int .i64 (c + 1)) rfl rfl ?_
            refine wpL_done (fun W15 hW15 => ?_)
            go_roundw
            case rel =>
              repeat apply Exists.intro
              exact ⟨⟨c + 1, (n + 1), (by omega), (by omega), rfl, rfl, (hW15.sub (fun p hp => by first | exact hp | (simp only [List.mem_cons, List.mem_append, List.nil_append, List.not_mem_nil, or_assoc, or_false, false_or] at hp ⊢ <;> grind)))⟩, rfl⟩
            case measure => (show (25 - intOf (.int .i64 (c + 1))).toNat < (25 - intOf (.int .i64 c)).toNat); simp only [intOf]; omega
        | true =>
          have h5 : c < ((madeX 0 x).load) := of_decide_eq_true hd5
          clear hd5
          rw [hL] at h5
          refine ln rfl ?_
          refine ln rfl ?_
          refine ln rfl ?_
          refine ln rfl ?_
          refine lm (v := .bool true) rfl rfl ?_
          refine wpL_done (fun W16 hW16 => ?_)
          refine (show Code.wp _ _ _ _ _ from ?_)
          refine wp_cond_true rfl ?_
          refine wp_seq ?_
          refine wp_region_L (W0 := w) [(g2, .cells (bxC (madeX 0 x)) 26 (0, 0)), (g1, .cells (skC x).toArray 31 (0, 0))] (hW16) ?_
          refine lm (v := .bool false) rfl rfl ?_
          refine wpL_done (fun W17 hW17 => ?_)
          refine (show Code.wp _ _ _ _ _ from ?_)
          refine wp_ret ?_
          exfalso
          omega
end Go.Proofs.YtjbbeolapaaiaaaDoor
namespace Go.Proofs.YtjbbeolapaaiaaaDoor
open Go Go.RowKit Tw
theorem fitF_app (l m : List UInt8) : ∀ i, fitF i (l ++ m) = (fitF i l && fitF (i + l.length) m) := by
  induction l with
  | nil => intro i; simp [fitF]
  | cons b l ih => intro i; simp only [List.cons_append, fitF, ih, List.length_cons, Bool.and_assoc]; rw [show i + 1 + l.length = i + (l.length + 1) from by omega]
theorem judge_chk {p : List UInt8} (h : fitB p 10 = true) : judgeN (p ++ [UInt8.ofNat (chkN p)]) = 0 := by
  have hl := fit_len h
  have hf := fit_fit h
  have hc := chkN_le p
  have e : (UInt8.ofNat (chkN p)).toNat = chkN p := by rw [UInt8.toNat_ofNat']; omega
  have h1 : fitB (p ++ [UInt8.ofNat (chkN p)]) 11 = true := by
    have hm : mayB 10 (UInt8.ofNat (chkN p)) = true := by
      unfold mayB isDig
      rw [if_neg (by omega), if_neg (by omega), e]
      simp
      omega
    unfold fitB
    rw [fitF_app, hf, hl]
    simp [fitF, hl, hm]
  have h2 : agrB (p ++ [UInt8.ofNat (chkN p)]) = true := by
    unfold agrB
    rw [List.take_left' hl, List.getD_eq_getElem?_getD, List.getElem?_append_right (by omega), hl]
    simp [e]
  unfold judgeN
  rw [if_pos h1, if_pos h2]
theorem made_right {n : Nat} {x : Sk} (hx : skOk x) : rightX (madeX n x) = true := by
  obtain ⟨x1, x2, x3, x4, x5, x6⟩ := hx
  obtain ⟨L, D, hL, hD, hLD, hD2⟩ := made_calls n x
  have hms := made_size n x
  have r1 : rul1 (madeX n x) = true := by
    show (decide (1 ≤ (((1 + n % 65536 : Nat)) : Int)) && decide ((((1 + n % 65536 : Nat)) : Int) ≤ 999999)) = true
    have := Nat.mod_lt n (show 0 < 65536 by omega)
    simp
    omega
  have r2 : rul2 (madeX n x) = true := by
    show (decide (numX x = []) || decide (judgeN (numX x) = 0)) = true
    unfold numX
    split
    · rw [judge_chk (pay_fit x6)]; simp
    · rfl
  have r3 : rul3 (madeX n x) = true := by unfold rul3; rcases hms with h | h <;> simp [h]
  have r4 : rul4 (madeX n x) = true := by
    show (!(decide (x.kind % 2 = 1) && decide (x.kind &&& 2 = 2)) || decide ((if x.kind % 2 = 1 then 40 else 20) = 40)) = true
    by_cases h : x.kind % 2 = 1 <;> simp [h]
  have hk : (madeX n x).kilos = ((1 + x.kilos * 125 : Nat) : Int) := rfl
  have r5 : rul5 (madeX n x) = true := by unfold rul5; rw [hk]; simp; omega
  have r6 : rulW 20 32000 (madeX n x) = true := by unfold rulW; rw [hk]; simp; omega
  have r7 : rulW 40 40000 (madeX n x) = true := by unfold rulW; rw [hk]; simp; omega
  have r8 : rul8 (madeX n x) = true := by unfold rul8; rw [hL, hD]; simp; omega
  have r9 : rul9 (madeX n x) = true := by unfold rul9; rw [hD]; simp; omega
  have r10 : rul10 (madeX n x) = true := by
    show decide (x.cls % 10 ≤ 9) = true
    simp; omega
  unfold rightX
  simp [r1, r2, r3, r4, r5, r6, r7, r8, r9, r10]
theorem made_code {n : Nat} {x : Sk} : codeOk (madeX n x) = true := by
  show (decide ((if x.kind % 2 = 1 then 40 else 20) = 20) && !(decide (x.kind % 2 = 1) && decide (x.kind &&& 2 = 2)) || decide ((if x.kind % 2 = 1 then 40 else 20) = 40)) = true
  by_cases h : x.kind % 2 = 1 <;> simp [h]
end Go.Proofs.YtjbbeolapaaiaaaDoor
/- Cutting slices; records of a list that is read. Over any program. -/
namespace Tw
open Go Go.RowKit Go.Proofs.YtjbbeolapaaiaaaDoor
section
variable {P : Program} {T E : TypeId}
theorem addr_zero (p : Option Addr) : p.map (fun a => a.add 0) = p := by cases p <;> rfl
theorem run_slt {o : Oper} {a : Act} {p : Option Addr} {n c j sz : Nat} {x z : Operand} {kd : IntKind} (ho : o.op = .slice T x none (some z) none) (hT : P.underlying T = some (.slice E)) (hsz : (P.info? E).map (·.size) = some sz) (hx : a.eval x = .slice p n c) (hz : a.eval z = .int kd ((j : Nat) : Int)) (hj : j ≤ c) (w : World) : (execOp a.eval o).run P w = .ok (.value (.slice p j c)) w := by
  have e2 := fun q => sl_bound (P := P) (k := kd) (c := q) hj w
  unfold execOp
  cases hq : P.info? E with
  | none => simp [hq] at hsz
  | some i =>
    have hs : i.size = sz := by simpa [hq] using hsz
    simp [ho, hx, hz, Instr.sliceAt, Instr.slice, Instr.sliceBounds, run_underlying hT, e2, Go.sizeOf, typeInfo, hq, hs]
    intro _
    have := addr_zero p
    simpa using this
def cutQ (p : Option Addr) (c i sz : Nat) : Option Addr := if c = i then p else p.map fun a => a.add (i * sz)
theorem run_slm {o : Oper} {a : Act} {p : Option Addr} {n c i j sz : Nat} {x y z : Operand} {k1 k2 : IntKind} (ho : o.op = .slice T x (some y) (some z) none) (hT : P.underlying T = some (.slice E)) (hsz : (P.info? E).map (·.size) = some sz) (hx : a.eval x = .slice p n c) (hy : a.eval y = .int k1 ((i : Nat) : Int)) (hz : a.eval z = .int k2 ((j : Nat) : Int)) (hij : i ≤ j) (hj : j ≤ c) (w : World) : (execOp a.eval o).run P w = .ok (.value (.slice (cutQ p c i sz) (j - i) (c - i))) w := by
  have e1 := fun q => sl_bound (P := P) (k := k1) (c := q) hij w
  have e2 := fun q => sl_bound (P := P) (k := k2) (c := q) hj w
  unfold execOp cutQ
  cases hq : P.info? E with
  | none => simp [hq] at hsz
  | some q =>
    have hs : q.size = sz := by simpa [hq] using hsz
    simp [ho, hx, hy, hz, Instr.sliceAt, Instr.slice, Instr.sliceBounds, run_underlying hT, e1, e2, Go.sizeOf, typeInfo, hq, hs]
end
section
variable {α : Type} {cells : α → List Value} {sz : Nat}
theorem flat_len (hc : ∀ y, (cells y).length = sz) (l : List α) : (l.flatMap cells).length = l.length * sz := by
  induction l with
  | nil => simp
  | cons b l ih => rw [List.flatMap_cons, List.length_append, hc, ih, List.length_cons, Nat.succ_mul, Nat.add_comm]
theorem flat_take (hc : ∀ y, (cells y).length = sz) (l : List α) (k : Nat) : (l.flatMap cells).take (k * sz) = (l.take k).flatMap cells := by
  rcases Nat.le_total k l.length with hk | hk
  · conv => lhs; rw [← List.take_append_drop k l, List.flatMap_append]
    exact List.take_left' (by rw [flat_len hc, List.length_take, Nat.min_eq_left hk])
  · rw [List.take_of_length_le hk, List.take_of_length_le (by rw [flat_len hc]; exact Nat.mul_le_mul_right _ hk)]
theorem flat_drop (hc : ∀ y, (cells y).length = sz) (l : List α) (k : Nat) : (l.flatMap cells).drop (k * sz) = (l.drop k).flatMap cells := by
  rcases Nat.le_total k l.length with hk | hk
  · conv => lhs; rw [← List.take_append_drop k l, List.flatMap_append]
    exact List.drop_left' (by rw [flat_len hc, List.length_take, Nat.min_eq_left hk])
  · rw [List.drop_eq_nil_of_le hk, List.drop_eq_nil_of_le (by rw [flat_len hc]; exact Nat.mul_le_mul_right _ hk)]; rfl
theorem flat_get (hc : ∀ y, (cells y).length = sz) {l : List α} {k j : Nat} {b : α} {v : Value} (h : l[k]? = some b) (hv : (cells b)[j]? = some v) : (l.flatMap cells)[k * sz + j]? = some v := by
  obtain ⟨hk, rfl⟩ := List.getElem?_eq_some_iff.1 h
  rw [← List.getElem?_drop, flat_drop hc, List.drop_eq_getElem_cons hk, List.flatMap_cons, List.getElem?_append_left (List.getElem?_eq_some_iff.1 hv).1]
  exact hv
theorem rec_at {W : World} {p : Option Addr} {l : List α} {k : Nat} (hc : ∀ y, (cells y).length = sz) (hz : 0 < sz) (h : SLV W p (l.flatMap cells)) (hk : k < l.length) :
    ∃ b g off, l[k]? = some b ∧ p = some ⟨g, off, none⟩ ∧ g < W.heap.size ∧ ∀ (j : Nat) (v : Value), (cells b)[j]? = some v → W.cell? ⟨g, off + k * sz + j, none⟩ = some v := by
  have hy : l[k]? = some l[k] := List.getElem?_eq_getElem hk
  rcases h with h | ⟨g, off, rfl, hlt, hcel⟩
  · have := flat_len hc l
    rw [h] at this
    have h2 : 0 < l.length * sz := Nat.mul_pos (by omega) hz
    simp at this; omega
  · exact ⟨_, g, off, hy, rfl, hlt, fun j v hv => by rw [Nat.add_assoc]; exact hcel _ v (flat_get hc hy hv)⟩
theorem slv_prefix {W : World} {p : Option Addr} {xs : List Value} (n : Nat) (h : SLV W p xs) : SLV W p (xs.take n) := by
  rcases h with h | ⟨g, off, rfl, hlt, hc⟩
  · left; rw [h]; simp
  · right; refine ⟨g, off, rfl, hlt, fun i u hu => hc i u ?_⟩
    rw [List.getElem?_take] at hu
    split at hu
    · exact hu
    · cases hu
theorem slv_cut {W : World} {p : Option Addr} {xs : List Value} {c i sz : Nat} (h : SLV W p xs) (hx : xs.length ≤ c * sz) : SLV W (cutQ p c i sz) (xs.drop (i * sz)) := by
  rcases h with h | ⟨g, off, rfl, hlt, hc⟩
  · left; rw [h]; simp
  · unfold cutQ
    split
    · rename_i he
      left; rw [List.drop_eq_nil_of_le (by rw [← he]; exact hx)]
    · right
      refine ⟨g, off + i * sz, by rw [Option.map_some, addr_add], hlt, fun j u hu => ?_⟩
      rw [List.getElem?_drop] at hu
      rw [Nat.add_assoc]; exact hc _ u hu
end
end Tw
namespace Go.Proofs.YtjbbeolapaaiaaaDoor
open Go Go.RowKit Tw
def skcs (l : List Sk) : List Value := l.flatMap skC
theorem skC_len (x : Sk) : (skC x).length = 6 := rfl
def loadX : Nat → List Sk → List Bx
  | _, [] => []
  | i, x :: l => madeX i x :: loadX (i + 1) l
def loadedX (l : List Sk) : List Bx := loadX 0 (l.take 60)
theorem loadX_len : ∀ (i : Nat) (l : List Sk), (loadX i l).length = l.length
  | _, [] => rfl
  | i, x :: l => by simp [loadX, loadX_len (i + 1) l]
theorem loadX_snoc (x : Sk) : ∀ (i : Nat) (l : List Sk), loadX i (l ++ [x]) = loadX i l ++ [madeX (i + l.length) x]
  | _, [] => rfl
  | i, y :: l => by
    show madeX i y :: loadX (i + 1) (l ++ [x]) = _
    rw [loadX_snoc x (i + 1) l]
    simp [loadX, Nat.add_assoc, Nat.add_comm 1]
theorem loadX_take {l : List Sk} {k : Nat} {x : Sk} (h : l[k]? = some x) : loadX 0 (l.take (k + 1)) = loadX 0 (l.take k) ++ [madeX k x] := by
  obtain ⟨hk, rfl⟩ := List.getElem?_eq_some_iff.1 h
  rw [List.take_succ_eq_append_getElem hk, loadX_snoc, List.length_take, Nat.min_eq_left (by omega), Nat.zero_add]
theorem loadX_right : ∀ {i : Nat} {l : List Sk}, (∀ x ∈ l, skOk x) → ∀ b ∈ loadX i l, rightX b = true
  | _, [], _, _, h => by cases h
  | i, x :: l, hl, b, h => by
    rcases List.mem_cons.1 h with rfl | h
    · exact made_right (hl x (.head _))
    · exact loadX_right (fun y hy => hl y (.tail _ hy)) b h
theorem loaded_len (l : List Sk) : (loadedX l).length ≤ 60 := by unfold loadedX; rw [loadX_len, List.length_take]; omega
theorem loaded_right {l : List Sk} (hl : ∀ x ∈ l, skOk x) : ∀ b ∈ loadedX l, rightX b = true := loadX_right fun x hx => hl x (List.mem_of_mem_take hx)
theorem slv_pre {W : World} {p : Option Addr} {l : List Sk} (n : Nat) (h : SLV W p (l.flatMap skC)) : SLV W p ((l.take n).flatMap skC) := by
  rw [← flat_take skC_len]
  exact slv_prefix _ h
theorem sk_one (x : Sk) : ∀ v ∈ (Value.agg (skC x).toArray).cells.toList, v.oneCell' = true := by
  intro v hv
  have hv2 : v ∈ skC x := hv
  unfold skC at hv2
  simp only [List.mem_cons, List.not_mem_nil, or_false] at hv2
  rcases hv2 with rfl | rfl | rfl | rfl | rfl | rfl <;> rfl
theorem bs_cut {W0 : Base} {T : List (Nat × Obj)} {p : Option Addr} {l : List Bx} (c i : Nat) (h : BS W0 p l T) (hc : l.length ≤ c) : BS W0 (cutQ p c i 9) (l.drop i) T := fun W hW => by
  rw [← bcs_drop]
  exact slv_cut (h W hW) (by rw [bcs_len]; exact Nat.mul_le_mul_right _ hc)
theorem sum_is {a b : Sm} (h : a = b) : Ending.returned (smV a) = .returned (smV b) := by rw [h]
theorem sumv_is {v : Value} {b : Sm} (h : v = smV b) : Ending.returned v = .returned (smV b) := by rw [h]
theorem loaded_out {w w' : World} {v : Value} {l : List Sk} {m k : Nat} (hk : k = m) (hm : m ≤ l.length ∧ m ≤ 60) (hm2 : m = l.length ∨ m = 60) (h : OutV w w' 26 9 v k (bcs (loadX 0 ((l.take m).take k)))) : OutV w w' 26 9 v (loadedX l).length (bcs (loadedX l)) := by
  have e : loadX 0 ((l.take m).take k) = loadedX l := by
    subst hk
    rw [List.take_take, Nat.min_self]
    unfold loadedX
    congr 1
    rcases hm2 with e | e
    · subst e; rw [List.take_of_length_le (Nat.le_refl _), List.take_of_length_le hm.2]
    · rw [e]
  have e2 : (loadedX l).length = k := by rw [← e, loadX_len, List.length_take, List.length_take]; omega
  rw [e2, ← e]
  exact h
set_option maxRecDepth 100000 in
set_option maxHeartbeats 4000000 in
theorem Loaded_any (l : List Sk) (p : Option Addr) (c : Nat) (hok : ∀ x ∈ l, skOk x) (hlen : l.length ≤ 9223372036854775807) (hcap : l.length ≤ c) (w : World) (hp : SLV w p (l.flatMap skC)) : Calls Tryd.prog 24 #[.slice p l.length c] w fun e w' => ∃ v, e = .returned v ∧ OutV w w' 26 9 v (loadedX l).length (bcs (loadedX l)) ∧ Below w.heap.size w w' := by
  have HP := Lib.hid hp
  clear hp
  go_enter Tryd.func24, Tryd.ntmps24
  refine wp_seq ?_
  refine wp_region_L (W0 := w) [] (KS.start w) ?_
  refine lm (v := .slice none 0 0) rfl rfl ?_
  refine wpL_done (fun W1 hW1 => ?_)
  refine (show Code.wp _ _ _ _ _ from ?_)
  refine wp_seq ?_
  refine wp_region_L (W0 := w) [] (hW1) ?_
  refine lm (v := .slice none 0 0) rfl rfl ?_
  refine wpL_done (fun W2 hW2 => ?_)
  refine (show Code.wp _ _ _ _ _ from ?_)
  refine wp_seq ?_
  refine wp_seq ?_
  refine wp_region_L (W0 := w) [] (hW2) ?_
  refine lm (v := .slice p l.length c) rfl rfl ?_
  refine lm (v := .slice p l.length c) rfl rfl ?_
  refine lp (v := .int .i64 ((l.length : Nat) : Int)) rfl rfl (run_lenL (p := p) (cap := c) (n := l.length) rfl Tryd.underlying44 (by kernel_rfl)) ?_
  obtain ⟨m1, hm1, hx1, hy1, hz1⟩ := min_nat l.length 60
  refine lp (v := .int .i64 ((m1 : Nat) : Int)) rfl rfl (run_min rfl (by kernel_rfl) (by kernel_rfl) hm1) ?_
  refine lp (v := .slice p m1 c) rfl rfl (run_slt (p := p) (n := l.length) (c := c) (j := m1) (kd := .i64) (sz := 6) rfl Tryd.underlying44 (by kernel_rfl) (by kernel_rfl) (by kernel_rfl) (by first | omega | assumption)) ?_
  refine lp (v := .int .i64 ((m1 : Nat) : Int)) rfl rfl (run_lenL (p := p) (cap := c) (n := m1) rfl Tryd.underlying44 (by kernel_rfl)) ?_
  refine lm (v := .int .i64 0) rfl rfl ?_
  refine wpL_done (fun W3 hW3 => ?_)
  refine (show Code.wp _ _ _ _ _ from ?_)
  refine wp_block ?_
  have hml : (l.take m1).length = m1 := by rw [List.length_take]; omega
  go_loopw [3, 12] (fun u3 u12 wr => ∃ (k : Nat) (vo : Value) (Ko : List (Nat × Obj)), (k ≤ m1) ∧ (OwnL w 26 9 vo k (bcs (loadX 0 ((l.take m1).take k))) Ko) ∧ vo = u3 ∧ u12 = .int .i64 ((k : Nat) : Int) ∧ KS w Ko wr) (fun _ u12 _ => m1 - (intOf u12).toNat)
  case atStart => exact ⟨0, (.slice none 0 0), [], (Nat.zero_le _), (OwnL.nil _ _ _), rfl, rfl, (hW3.sub (fun p hp => by first | exact hp | (simp only [List.mem_cons, List.mem_append, List.nil_append, List.not_mem_nil, or_assoc, or_false, false_or] at hp ⊢ <;> grind)))⟩
  case round =>
    obtain ⟨k, vo, Ko, hk, hO, rfl, rfl, hL4⟩ := hrel
    refine wp_seq ?_
    refine wp_region_L (W0 := w) Ko (hL4) ?_
    refine lp (v := .bool (decide (k < m1))) rfl rfl (run_bin rfl (vx := (.int .i64 ((k : Nat) : Int))) (vy := (.int .i64 ((m1 : Nat) : Int))) (by kernel_rfl) (by kernel_rfl) fun w => bn_lss rfl w) ?_
    refine wpL_done (fun W5 hW5 => ?_)
    refine (show Code.wp _ _ _ _ _ from ?_)
    refine wp_seq ?_
    cases hd1 : (decide (k < m1)) with
    | false =>
      have h1 : ¬ (k < m1) := of_decide_eq_false hd1
      clear hd1
      refine wp_cond_false rfl ?_
      refine wp_exit ?_
      refine (show Code.wp _ _ _ _ _ from ?_)
      refine wp_seq ?_
      refine wp_region_L (W0 := w) Ko (hW5) ?_
      refine lm (v := vo) rfl rfl ?_
      refine lm (v := vo) rfl rfl ?_
      refine wpL_done (fun W6 hW6 => ?_)
      refine (show Code.wp _ _ _ _ _ from ?_)
      refine wp_ret ?_
      try simp only [inBlock_ret, then_ret]
      refine bodyPost_ret (v := vo) ?_ rfl ?_
      · kernel_rfl
      · exact ⟨_, rfl, loaded_out (l := l) (m := m1) (k := k) (by omega) (by omega) (by omega) (hO.out (fun p hp => by simp only [List.mem_cons, List.mem_append, List.nil_append, List.not_mem_nil, or_assoc, or_false, false_or, hp, true_or, or_true]) hW6), hW6.1⟩
    | true =>
      have h1 : k < m1 := of_decide_eq_true hd1
      clear hd1
      refine wp_cond_true rfl ?_
      refine wp_skip ?_
      refine (show Code.wp _ _ _ _ _ from ?_)
      refine wp_seq ?_
      refine wp_block ?_
      refine wp_seq ?_
      refine wp_region_L (W0 := w) Ko (hW5) ?_
      refine lm (v := .int .i64 ((k : Nat) : Int)) rfl rfl ?_
      obtain ⟨x3, g3_, f3, hy3, hp3, lt3, hc3⟩ := rec_at skC_len (by omega) (slv_pre m1 HP.out) (show k < (l.take m1).length by first | omega | (simp only [List.length_take]; omega))
      refine lp (v := .pointer (some ⟨g3_, f3 + k * 6, none⟩)) rfl rfl (run_idxQ (p := p) (cap := c) (n := m1) (j := .i64) (k := k) (sz := 6) rfl Tryd.underlying44 (by kernel_rfl) (by kernel_rfl) hp3 (by kernel_rfl) (by omega)) ?_
      refine lv (v := (.agg (skC x3).toArray)) rfl rfl (yb_olds (off := f3 + k * 6) (cs := skC x3) rfl (by kernel_rfl) hc3 lt3 Tryd.underlying31 rfl (by kernel_rfl)) ?_
      refine wpL_new (fun g => .pointer (some ⟨g, 0, none⟩)) (obi := .cells #[.int .u8 0, .int .u8 0, .int .u8 0, .int .u8 0, .int .u8 0, .int .u8 0] 31 (0, 0)) rfl rfl (fun _ => by kernel_rfl) (fun _ => by simp only [List.setIfInBounds_toArray, List.set_cons_succ, List.set_cons_zero] <;> rfl) fun g4 Bg4 Fg4 => ?_
      obtain dj5_0 : Dk g4 Ko := by simpa only [dj_app_l, dj_app_r, dj_cons_l, dj_cons_r, dj_nil_l, dj_nil_r, dk_app, dk_cons, dk_nil, and_true, true_and, and_assoc] using (show Dk g4 Ko from Fg4)
      refine lm (v := .int .i64 ((k : Nat) : Int)) rfl rfl ?_
      refine wpL_s ((g4, .cells (skC x3).toArray 31 (0, 0)) :: Ko) rfl rfl (st_row (off := 0) (v := .agg (skC x3).toArray) rfl (by kernel_rfl) (by kernel_rfl) (.head _) Bg4 (by kernel_rfl) (Nat.le_refl 6) (sk_one x3) (by kernel_rfl) (List.forall_mem_cons.2 ⟨.inl rfl, (fun p hp => .inr ⟨(.tail _ hp), ((show Dk g4 Ko from (by (try simp only [dj_app_l, dj_app_r, dj_cons_l, dj_cons_r, dj_nil_l, dj_nil_r, dk_app, dk_cons, dk_nil, and_true, true_and, and_assoc]); repeat' (first | trivial | assumption | exact Dj.symm (by assumption) | exact Ne.symm (by assumption) | apply And.intro))) _ hp)⟩)⟩)) ?_
      refine wpL_done (fun W7 hW7 => ?_)
      refine (show Code.wp _ _ _ _ _ from ?_)
      refine wp_region_L (W0 := w) ((g4, .cells (skC x3).toArray 31 (0, 0)) :: Ko) (hW7) ?_
      refine lm (v := vo) rfl rfl ?_
      refine lm (v := .int .i64 ((k : Nat) : Int)) rfl rfl ?_
      refine lv (v := (.agg (skC x3).toArray)) rfl rfl (yb_load (n := 6) (off := 0) rfl (by kernel_rfl) (.head _) Tryd.underlying31 rfl (by kernel_rfl) (by first | (simp; done) | exact Nat.le_of_ble_eq_true rfl) (by kernel_rfl)) ?_
      refine lv (v := bxV (madeX k x3)) rfl rfl (yb_call (f := 17) (args := #[.int .i64 ((k : Nat) : Int), (.agg (skC x3).toArray)]) (fun _ => by kernel_rfl) fun W hW => Made_any k x3 (by omega) (hok _ (List.mem_of_mem_take (List.mem_of_getElem? hy3))) W) ?_
      refine wpL_new (fun g => .slice (some ⟨g, 0, none⟩) 1 1) (obi := .cells ((bcs [(madeX k x3)]).toArray) 26 (0, 0)) rfl rfl (fun _ => by kernel_rfl) (fun _ => by simp only [List.setIfInBounds_toArray, List.set_cons_succ, List.set_cons_zero] <;> rfl) fun g6 Bg6 Fg6 => ?_
      obtain ⟨dj7_0, dj7_1⟩ : g4 ≠ g6 ∧ Dk g6 Ko := by simpa only [dj_app_l, dj_app_r, dj_cons_l, dj_cons_r, dj_nil_l, dj_nil_r, dk_app, dk_cons, dk_nil, and_true, true_and, and_assoc] using (show Dk g6 ((g4, .cells (skC x3).toArray 31 (0, 0)) :: Ko) from Fg6)
      refine wpL_g (AppO w 26 9 [(g4, .cells (skC x3).toArray 31 (0, 0))] (k + 1) ((bcs (loadX 0 ((l.take m1).take k))) ++ (bcs [(madeX k x3)]))) rfl rfl (app_own el_bx (m := 1) (c := 1) (news := (bcs [(madeX k x3)])) rfl (by kernel_rfl) (by kernel_rfl) (.head _) hO (fun p hp => by simp only [List.mem_cons, List.mem_append, List.nil_append, List.not_mem_nil, or_assoc, or_false, false_or, hp, or_true, true_or]) (fun p hp => ⟨by simp only [List.mem_cons, List.mem_append, List.nil_append, List.not_mem_nil, or_assoc, or_false, false_or] at hp ⊢ <;> grind, (show Dj [(g4, .cells (skC x3).toArray 31 (0, 0))] Ko from (by (try simp only [dj_app_l, dj_app_r, dj_cons_l, dj_cons_r, dj_nil_l, dj_nil_r, dk_app, dk_cons, dk_nil, and_true, true_and, and_assoc]); repeat' (first | trivial | assumption | exact Dj.symm (by assumption) | exact Ne.symm (by assumption) | apply And.intro))) p hp⟩) (by rw [bcs_len]; rfl) (bcs_onec _) (by omega) (by omega) (by omega)) (fun _ => by simp only [List.setIfInBounds_toArray, List.set_cons_succ, List.set_cons_zero] <;> rfl) ?_
      rintro v8 K9 ⟨Kl8, O8, N8, rfl⟩
      replace O8 : OwnL w 26 9 v8 (k + 1) (bcs ((loadX 0 ((l.take m1).take k)) ++ [(madeX k x3)])) Kl8 := by rw [bcs_app]; exact O8
      obtain dj9_0 : Dk g4 Kl8 := by simpa only [dj_app_l, dj_app_r, dj_cons_l, dj_cons_r, dj_nil_l, dj_nil_r, dk_app, dk_cons, dk_nil, and_true, true_and, and_assoc] using (show Dj [(g4, .cells (skC x3).toArray 31 (0, 0))] Kl8 from N8)
      refine lm (v := v8) rfl rfl ?_
      refine wpL_done (fun W8 hW8 => ?_)
      refine (show Code.wp _ _ _ _ _ from ?_)
      refine wp_region_L (W0 := w) ((g4, .cells (skC x3).toArray 31 (0, 0)) :: Kl8) (hW8) ?_
      refine lp (v := .int .i64 (((k + 1) : Nat) : Int)) rfl rfl (run_bin rfl (vx := (.int .i64 ((k : Nat) : Int))) (vy := (.int .i64 ((1 : Nat) : Int))) (by kernel_rfl) (by kernel_rfl) fun w => bn_add (z := (k + 1)) rfl (wr_i64 (by omega)) w) ?_
      refine lm (v := .int .i64 (((k + 1) : Nat) : Int)) rfl rfl ?_
      refine wpL_done (fun W9 hW9 => ?_)
      go_roundw
      case rel =>
        repeat apply Exists.intro
        exact ⟨⟨k + 1, v8, Kl8, (by omega), (by rw [loadX_take hy3]; exact O8), rfl, rfl, (hW9.sub (fun p hp => by first | exact hp | (simp only [List.mem_cons, List.mem_append, List.nil_append, List.not_mem_nil, or_assoc, or_false, false_or] at hp ⊢ <;> grind)))⟩, rfl⟩
      case measure => (show m1 - (intOf (.int .i64 (((k + 1) : Nat) : Int))).toNat < m1 - (intOf (.int .i64 ((k : Nat) : Int))).toNat); simp only [intOf]; omega
theorem sm_one (x : Sm) : ∀ v ∈ (smV x).cells.toList, v.oneCell' = true := by
  intro v hv
  have hv2 : v ∈ (smC x).toList := hv
  unfold smC at hv2
  simp only [List.mem_cons, List.not_mem_nil, or_false] at hv2
  rcases hv2 with rfl | rfl | rfl | rfl | rfl <;> rfl
set_option maxRecDepth 100000 in
set_option maxHeartbeats 4000000 in
theorem plus_any (a b : Sm) (ha : SmOk 1000000 a) (hb : SmOk 1000000 b) (w : World) : Calls Tryd.prog 25 #[smV a, smV b] w fun e w' => e = .returned (smV (plusX a b)) ∧ Below w.heap.size w w' := by
  obtain ⟨a1, a2, a3, a4, a5, a6⟩ := ha
  obtain ⟨b1, b2, b3, b4, b5, b6⟩ := hb
  go_enter Tryd.func25, Tryd.ntmps25
  refine wp_seq ?_
  refine wp_region_L (W0 := w) [] (KS.start w) ?_
  refine wpL_new (fun g => .pointer (some ⟨g, 0, none⟩)) (obi := .cells (smC a) 47 (0, 0)) rfl rfl (fun _ => by kernel_rfl) (fun _ => by simp only [List.setIfInBounds_toArray, List.set_cons_succ, List.set_cons_zero] <;> rfl) fun g1 Bg1 Fg1 => ?_
  refine wpL_new (fun g => .pointer (some ⟨g, 0, none⟩)) (obi := .cells (smC b) 47 (0, 0)) rfl rfl (fun _ => by kernel_rfl) (fun _ => by simp only [List.setIfInBounds_toArray, List.set_cons_succ, List.set_cons_zero] <;> rfl) fun g2 Bg2 Fg2 => ?_
  obtain dj3_0 : g1 ≠ g2 := by simpa only [dj_app_l, dj_app_r, dj_cons_l, dj_cons_r, dj_nil_l, dj_nil_r, dk_app, dk_cons, dk_nil, and_true, true_and, and_assoc] using (show Dk g2 [(g1, .cells (smC a) 47 (0, 0))] from Fg2)
  refine wpL_new (fun g => .pointer (some ⟨g, 0, none⟩)) (obi := .cells #[.int .i64 0, .int .i64 0, .int .i64 0, .int .i64 0, .int .i64 0] 47 (0, 0)) rfl rfl (fun _ => by kernel_rfl) (fun _ => by simp only [List.setIfInBounds_toArray, List.set_cons_succ, List.set_cons_zero] <;> rfl) fun g4 Bg4 Fg4 => ?_
  obtain ⟨dj5_0, dj5_1⟩ : g2 ≠ g4 ∧ g1 ≠ g4 := by simpa only [dj_app_l, dj_app_r, dj_cons_l, dj_cons_r, dj_nil_l, dj_nil_r, dk_app, dk_cons, dk_nil, and_true, true_and, and_assoc] using (show Dk g4 [(g2, .cells (smC b) 47 (0, 0)), (g1, .cells (smC a) 47 (0, 0))] from Fg4)
  refine wpL_done (fun W1 hW1 => ?_)
  refine (show Code.wp _ _ _ _ _ from ?_)
  refine wp_seq ?_
  refine wp_region_L (W0 := w) [(g4, .cells #[.int .i64 0, .int .i64 0, .int .i64 0, .int .i64 0, .int .i64 0] 47 (0, 0)), (g2, .cells (smC b) 47 (0, 0)), (g1, .cells (smC a) 47 (0, 0))] (hW1) ?_
  refine lm (v := .pointer (some ⟨g1, 0, none⟩)) rfl rfl ?_
  refine lv (v := .int .i64 ((a.n : Nat) : Int)) rfl rfl (yb_cell (off := 0) rfl (by kernel_rfl) (.tail _ (.tail _ (.head _))) Tryd.underlying3 rfl (by kernel_rfl)) ?_
  refine lm (v := .pointer (some ⟨g2, 0, none⟩)) rfl rfl ?_
  refine lv (v := .int .i64 ((b.n : Nat) : Int)) rfl rfl (yb_cell (off := 0) rfl (by kernel_rfl) (.tail _ (.head _)) Tryd.underlying3 rfl (by kernel_rfl)) ?_
  refine lp (v := .int .i64 (((a.n + b.n) : Nat) : Int)) rfl rfl (run_bin rfl (vx := (.int .i64 ((a.n : Nat) : Int))) (vy := (.int .i64 ((b.n : Nat) : Int))) (by kernel_rfl) (by kernel_rfl) fun w => bn_add (z := (a.n + b.n)) rfl (wr_i64 (by omega)) w) ?_
  refine lm (v := .pointer (some ⟨g1, 1, none⟩)) rfl rfl ?_
  refine lv (v := .int .i64 ((a.h : Nat) : Int)) rfl rfl (yb_cell (off := 1) rfl (by kernel_rfl) (.tail _ (.tail _ (.head _))) Tryd.underlying3 rfl (by kernel_rfl)) ?_
  refine lm (v := .pointer (some ⟨g2, 1, none⟩)) rfl rfl ?_
  refine lv (v := .int .i64 ((b.h : Nat) : Int)) rfl rfl (yb_cell (off := 1) rfl (by kernel_rfl) (.tail _ (.head _)) Tryd.underlying3 rfl (by kernel_rfl)) ?_
  refine lp (v := .int .i64 (((a.h + b.h) : Nat) : Int)) rfl rfl (run_bin rfl (vx := (.int .i64 ((a.h : Nat) : Int))) (vy := (.int .i64 ((b.h : Nat) : Int))) (by kernel_rfl) (by kernel_rfl) fun w => bn_add (z := (a.h + b.h)) rfl (wr_i64 (by omega)) w) ?_
  refine lm (v := .pointer (some ⟨g1, 2, none⟩)) rfl rfl ?_
  refine lv (v := .int .i64 a.k) rfl rfl (yb_cell (off := 2) rfl (by kernel_rfl) (.tail _ (.tail _ (.head _))) Tryd.underlying3 rfl (by kernel_rfl)) ?_
  refine lm (v := .pointer (some ⟨g2, 2, none⟩)) rfl rfl ?_
  refine lv (v := .int .i64 b.k) rfl rfl (yb_cell (off := 2) rfl (by kernel_rfl) (.tail _ (.head _)) Tryd.underlying3 rfl (by kernel_rfl)) ?_
  refine lp (v := .int .i64 (a.k + b.k)) rfl rfl (run_bin rfl (vx := (.int .i64 a.k)) (vy := (.int .i64 b.k)) (by kernel_rfl) (by kernel_rfl) fun w => bi_add (z := (a.k + b.k)) rfl (wi_i64 (by omega)) w) ?_
  refine lm (v := .pointer (some ⟨g1, 3, none⟩)) rfl rfl ?_
  refine lv (v := .int .i64 ((a.r : Nat) : Int)) rfl rfl (yb_cell (off := 3) rfl (by kernel_rfl) (.tail _ (.tail _ (.head _))) Tryd.underlying3 rfl (by kernel_rfl)) ?_
  refine lm (v := .pointer (some ⟨g2, 3, none⟩)) rfl rfl ?_
  refine lv (v := .int .i64 ((b.r : Nat) : Int)) rfl rfl (yb_cell (off := 3) rfl (by kernel_rfl) (.tail _ (.head _)) Tryd.underlying3 rfl (by kernel_rfl)) ?_
  refine lp (v := .int .i64 (((a.r + b.r) : Nat) : Int)) rfl rfl (run_bin rfl (vx := (.int .i64 ((a.r : Nat) : Int))) (vy := (.int .i64 ((b.r : Nat) : Int))) (by kernel_rfl) (by kernel_rfl) fun w => bn_add (z := (a.r + b.r)) rfl (wr_i64 (by omega)) w) ?_
  refine lm (v := .pointer (some ⟨g1, 4, none⟩)) rfl rfl ?_
  refine lv (v := .int .i64 ((a.d : Nat) : Int)) rfl rfl (yb_cell (off := 4) rfl (by kernel_rfl) (.tail _ (.tail _ (.head _))) Tryd.underlying3 rfl (by kernel_rfl)) ?_
  refine lm (v := .pointer (some ⟨g2, 4, none⟩)) rfl rfl ?_
  refine lv (v := .int .i64 ((b.d : Nat) : Int)) rfl rfl (yb_cell (off := 4) rfl (by kernel_rfl) (.tail _ (.head _)) Tryd.underlying3 rfl (by kernel_rfl)) ?_
  refine lp (v := .int .i64 (((a.d + b.d) : Nat) : Int)) rfl rfl (run_bin rfl (vx := (.int .i64 ((a.d : Nat) : Int))) (vy := (.int .i64 ((b.d : Nat) : Int))) (by kernel_rfl) (by kernel_rfl) fun w => bn_add (z := (a.d + b.d)) rfl (wr_i64 (by omega)) w) ?_
  refine lm (v := .agg #[.int .i64 (((a.n + b.n) : Nat) : Int), .int .i64 (((a.h + b.h) : Nat) : Int), .int .i64 (a.k + b.k), .int .i64 (((a.r + b.r) : Nat) : Int), .int .i64 (((a.d + b.d) : Nat) : Int)]) rfl rfl ?_
  refine wpL_s [(g4, .cells #[.int .i64 (((a.n + b.n) : Nat) : Int), .int .i64 (((a.h + b.h) : Nat) : Int), .int .i64 (a.k + b.k), .int .i64 (((a.r + b.r) : Nat) : Int), .int .i64 (((a.d + b.d) : Nat) : Int)] 47 (0, 0)), (g2, .cells (smC b) 47 (0, 0)), (g1, .cells (smC a) 47 (0, 0))] rfl rfl (st_row (off := 0) (v := .agg #[.int .i64 (((a.n + b.n) : Nat) : Int), .int .i64 (((a.h + b.h) : Nat) : Int), .int .i64 (a.k + b.k), .int .i64 (((a.r + b.r) : Nat) : Int), .int .i64 (((a.d + b.d) : Nat) : Int)]) rfl (by kernel_rfl) (by kernel_rfl) (.head _) Bg4 (by kernel_rfl) (by first | (simp [Value.cells]; done) | exact Nat.le_of_ble_eq_true rfl) (by intro v hv; simp [Value.cells, strV] at hv; first | (subst hv; rfl) | (rcases hv with rfl | rfl | rfl | rfl | rfl <;> rfl)) (by kernel_rfl) (List.forall_mem_cons.2 ⟨.inl rfl, (List.forall_mem_cons.2 ⟨.inr ⟨(.tail _ (.head _)), (by first | assumption | exact Ne.symm (by assumption))⟩, (List.forall_mem_cons.2 ⟨.inr ⟨(.tail _ (.tail _ (.head _))), (by first | assumption | exact Ne.symm (by assumption))⟩, (List.forall_mem_nil _)⟩)⟩)⟩)) ?_
  refine wpL_done (fun W2 hW2 => ?_)
  refine (show Code.wp _ _ _ _ _ from ?_)
  refine wp_ret ?_
  try simp only [inBlock_ret, then_ret]
  refine bodyPost_ret (v := .agg #[.int .i64 (((a.n + b.n) : Nat) : Int), .int .i64 (((a.h + b.h) : Nat) : Int), .int .i64 (a.k + b.k), .int .i64 (((a.r + b.r) : Nat) : Int), .int .i64 (((a.d + b.d) : Nat) : Int)]) ?_ rfl ?_
  · exact (res_cell (p := 4) rfl rfl (hW2.2 _ (.head _)) Tryd.underlying47 rfl (by kernel_rfl))
  · exact ⟨(sumv_is (by simp [smV, smC, plusX])), hW2.1⟩
end Go.Proofs.YtjbbeolapaaiaaaDoor
namespace Go.Proofs.YtjbbeolapaaiaaaDoor
open Go Go.RowKit Tw
theorem un_neg {P : Program} {k : IntKind} {n z : Int} (h : k.wrap (0 - n) = z) (w : World) : (Op.unary .neg (.int k n) : Sem Value).run P w = .ok (.int k z) w := by
  simp only [Op.unary, Op.intArith, h]
  rfl
theorem own_some {W0 : Base} {E : TypeId} {sz n : Nat} {v : Value} {xs : List Value} {K : List (Nat × Obj)} (h : OwnL W0 E sz v n xs K) (hn : 0 < n) : ∃ g cap cur, v = .slice (some ⟨g, 0, none⟩) n cap ∧ W0.B ≤ g ∧ RowN sz cur cap n xs ∧ K = [(g, .cells cur E (0, 0))] := by
  rcases h with ⟨rfl, _, _, _⟩ | ⟨g, cap, cur, h1, h2, h3, h4⟩
  · omega
  · exact ⟨g, cap, cur, h1, h2, h3, h4⟩
def putF (cur : Array Value) (i : Nat) (v : Value) : Array Value := (cur.toList.take i ++ [v] ++ cur.toList.drop (i + 1)).toArray
theorem RowX.putf {cur : Array Value} {l : List Bx} {k fo : Nat} {b b' : Bx} {v : Value} (h : RowX cur l) (hb : l[k]? = some b) (hf : fo < 9) (hv : (bxC b').toList = (bxC b).toList.set fo v) : RowX (putF cur (0 + k * 9 + fo) v) (l.set k b') ∧ (putF cur (0 + k * 9 + fo) v).size = cur.size := by
  obtain ⟨rest, h⟩ := h
  obtain ⟨hk, hbe⟩ := List.getElem?_eq_some_iff.1 hb
  have hl : (bcs (l.take k)).length = k * 9 := by rw [bcs_len, List.length_take, Nat.min_eq_left (by omega)]
  have h9 : (bxC b).toList.length = 9 := rfl
  have hset : (putF cur (0 + k * 9 + fo) v).toList = bcs (l.set k b') ++ rest := by
    unfold putF
    rw [set_is hk, bcs_app, show bcs (b' :: l.drop (k + 1)) = (bxC b').toList ++ bcs (l.drop (k + 1)) from rfl, hv]
    simp only [h, bcs_split hb, List.append_assoc, Nat.zero_add]
    rw [← hl, List.take_append, List.take_of_length_le (by omega), Nat.add_sub_cancel_left, List.take_append_of_le_length (by omega), List.append_assoc]
    congr 1
    rw [Nat.add_assoc, ← List.drop_drop, List.drop_left' rfl, List.drop_append_of_le_length (by omega), List.set_eq_take_append_cons_drop, if_pos (by omega)]
    simp
  refine ⟨⟨rest, hset⟩, ?_⟩
  have h1 := congrArg List.length hset
  have h2 := congrArg List.length h
  simp only [List.length_append, bcs_len, List.length_set, Array.length_toList] at h1 h2
  omega
theorem st_fld {W0 : Base} {o : Oper} {a : Act} {K K' : List (Nat × Obj)} {ty t : TypeId} {x y : Operand} {g k fo : Nat} {cur : Array Value} {l : List Bx} {v : Value} (ho : o.op = .store ty x y) (hx : a.eval x = .pointer (some ⟨g, 0 + k * 9 + fo, none⟩)) (hv : a.eval y = v)
    (hm : (g, .cells cur t (0, 0)) ∈ K) (hB : W0.B ≤ g) (hi : (Tryd.prog.info? ty).map (·.size) = some 1) (hvc : v.cells = #[v]) (h1 : v.oneCell' = true) (hr : RowX cur l) (hk : k < l.length) (hf : fo < 9)
    (hK : ∀ p ∈ K', p = (g, .cells (putF cur (0 + k * 9 + fo) v) t (0, 0)) ∨ (p ∈ K ∧ p.1 ≠ g)) : ∀ w, KS W0 K w → ∃ w', (execOp a.eval o).run Tryd.prog w = .ok .skip w' ∧ KS W0 K' w' :=
  st_row (off := 0 + k * 9 + fo) (v := v) ho hx hv hm hB (by rw [hvc]; exact hi) (by have := hr.size; rw [hvc]; show 0 + k * 9 + fo + 1 ≤ cur.size; omega) (by rw [hvc]; intro x hx; cases List.mem_singleton.1 hx; exact h1) (by rw [hvc]; rfl) hK
theorem sum_le_small {l : List Bx} (h : l.length ≤ 1000) : SmOk 1000000 (totalX l) := by
  have := total_le l
  unfold SmOk
  generalize totalX l = s at *
  have h2 : (l.length : Int) ≤ 1000 := by omega
  omega
theorem total_n {l : List Bx} (h : ∀ b ∈ l, rightX b = true) : (totalX l).n = l.length := by
  induction l with
  | nil => rfl
  | cons b l ih =>
    rw [total_cons]
    show (totalX [b]).n + (totalX l).n = _
    rw [ih (fun x hx => h x (.tail _ hx)), show totalX [b] = addX sm0 b from rfl, add_right (h b (.head _))]
    show 0 + 1 + l.length = _
    rw [List.length_cons]; omega
theorem total_lost {l : List Bx} {i : Nat} {b b' : Bx} (hb : l[i]? = some b) (hw : rightX b' = false) : plusX (totalX (l.set i b')) (totalX [b]) = totalX l := by
  obtain ⟨hi, rfl⟩ := List.getElem?_eq_some_iff.1 hb
  have e : totalX l = plusX (totalX (l.take i)) (plusX (totalX [l[i]]) (totalX (l.drop (i + 1)))) := by
    conv => lhs; rw [← List.take_append_drop i l, List.drop_eq_getElem_cons hi, total_app, total_cons]
  have h0 : ∀ s, plusX sm0 s = s := fun s => by rw [plus_comm, plus_zero]
  rw [set_is hi, total_app, total_cons, total_one hw, h0, e, plus_assoc, plus_comm (totalX (l.drop (i + 1)))]
theorem one_at {l : List Bx} {i : Nat} {b : Bx} (hb : l[i]? = some b) : (l.take (i + 1)).drop i = [b] := by
  obtain ⟨hi, rfl⟩ := List.getElem?_eq_some_iff.1 hb
  rw [List.take_succ_eq_append_getElem hi, List.drop_append_of_le_length (by rw [List.length_take]; omega), List.drop_of_length_le (by rw [List.length_take]; omega)]
  rfl
theorem wr_neg {b b' : Bx} (h : rightX b = true) (hk : b'.kilos = -b.kilos) : rightX b' = false := by
  have := right_kilos h
  exact wr5 (by unfold rul5; rw [hk]; simp; omega)
theorem mem_app {A B : List Bx} {b : Bx} {i : Nat} (hA : ∀ b ∈ A, rightX b = true) (hB : ∀ b ∈ B, rightX b = true) (h : (A ++ B)[i]? = some b) : rightX b = true := by
  rcases List.mem_append.1 (List.mem_of_getElem? h) with h | h
  · exact hA b h
  · exact hB b h
set_option maxRecDepth 100000 in
set_option maxHeartbeats 40000000 in
theorem BoxSums_law (w : World) (hE : Env w) (l0 : List Sk) (p0 : Option Addr) (c0 : Nat) (hb0 : SLV w p0 (l0.flatMap skC)) (hok0 : ∀ x ∈ l0, skOk x) (hl0 : l0.length ≤ maxLen) (hc0 : l0.length ≤ c0) (l1 : List Sk) (p1 : Option Addr) (c1 : Nat) (hb1 : SLV w p1 (l1.flatMap skC)) (hok1 : ∀ x ∈ l1, skOk x) (hl1 : l1.length ≤ maxLen) (hc1 : l1.length ≤ c1) (a2 : Int) (rr2 : 0 ≤ a2 ∧ a2 ≤ 255) : Calls Tryd.prog 7 #[.slice p0 l0.length c0, .slice p1 l1.length c1, .int .u8 a2] w fun e w' => e = .returned (.bool true) ∧ Below w.heap.size w w' := by
  have HE := Lib.hid hE
  clear hE
  obtain ⟨at_, rfl⟩ : ∃ n : Nat, a2 = (n : Int) := ⟨a2.toNat, by omega⟩
  have HB0 := Lib.hid hb0
  clear hb0
  have hll0 : l0.length ≤ 9223372036854775807 := by unfold maxLen at hl0; omega
  have hla0 := loaded_len l0
  have hra0 := loaded_right hok0
  have HB1 := Lib.hid hb1
  clear hb1
  have hll1 : l1.length ≤ 9223372036854775807 := by unfold maxLen at hl1; omega
  have hla1 := loaded_len l1
  have hra1 := loaded_right hok1
  have hab : ((loadedX l0) ++ (loadedX l1)).length ≤ 120 := by rw [List.length_append]; omega
  have hba : ((loadedX l1) ++ (loadedX l0)).length ≤ 120 := by rw [List.length_append]; omega
  go_enter Tryd.func7, Tryd.ntmps7
  refine wp_seq ?_
  refine wp_region_L (W0 := w) [] (KS.start w) ?_
  refine lm (v := .bool false) rfl rfl ?_
  refine wpL_done (fun W1 hW1 => ?_)
  refine (show Code.wp _ _ _ _ _ from ?_)
  refine wp_seq ?_
  refine wp_region_L (W0 := w) [] (hW1) ?_
  refine lm (v := .slice p0 l0.length c0) rfl rfl ?_
  refine wpL_c (f := 24) (args := #[.slice p0 l0.length c0]) (fun v K9 => ∃ Kl, OwnL w 26 9 v (loadedX l0).length (bcs (loadedX l0)) Kl ∧ (∀ p ∈ ([] : List (Nat × Obj)), ∀ q ∈ Kl, q.1 ≠ p.1) ∧ K9 = [] ++ Kl) rfl (by kernel_rfl) (fun _ => (by kernel_rfl)) (fun W hW => calls_out hW (Loaded_any l0 p0 c0 hok0 hll0 hc0 W (HB0.out.keep hW.1))) (fun _ => by simp only [List.setIfInBounds_toArray, List.set_cons_succ, List.set_cons_zero] <;> rfl) ?_
  rintro v1 Kl1 ⟨_, O1, N1, rfl⟩
  refine lm (v := .slice p1 l1.length c1) rfl rfl ?_
  refine wpL_c (f := 24) (args := #[.slice p1 l1.length c1]) (fun v K9 => ∃ Kl, OwnL w 26 9 v (loadedX l1).length (bcs (loadedX l1)) Kl ∧ (∀ p ∈ (Kl1 : List (Nat × Obj)), ∀ q ∈ Kl, q.1 ≠ p.1) ∧ K9 = Kl1 ++ Kl) rfl (by kernel_rfl) (fun _ => (by kernel_rfl)) (fun W hW => calls_out hW (Loaded_any l1 p1 c1 hok1 hll1 hc1 W (HB1.out.keep hW.1))) (fun _ => by simp only [List.setIfInBounds_toArray, List.set_cons_succ, List.set_cons_zero] <;> rfl) ?_
  rintro v2 K9 ⟨Kl2, O2, N2, rfl⟩
  obtain dj3_0 : Dj Kl1 Kl2 := by simpa only [dj_app_l, dj_app_r, dj_cons_l, dj_cons_r, dj_nil_l, dj_nil_r, dk_app, dk_cons, dk_nil, and_true, true_and, and_assoc] using (show Dj Kl1 Kl2 from N2)
  refine lm (v := v1) rfl rfl ?_
  refine lm (v := v2) rfl rfl ?_
  refine wpL_done (fun W2 hW2 => ?_)
  refine (show Code.wp _ _ _ _ _ from ?_)
  refine wp_seq ?_
  refine wp_region_L (W0 := w) (Kl1 ++ Kl2) (hW2) ?_
  refine wpL_new (fun g => .slice (some ⟨g, 0, none⟩) 0 0) (obi := .cells #[] 26 (0, 0)) rfl rfl (fun _ => by kernel_rfl) (fun _ => by simp only [List.setIfInBounds_toArray, List.set_cons_succ, List.set_cons_zero] <;> rfl) fun g4 Bg4 Fg4 => ?_
  obtain ⟨dj5_0, dj5_1⟩ : Dk g4 Kl1 ∧ Dk g4 Kl2 := by simpa only [dj_app_l, dj_app_r, dj_cons_l, dj_cons_r, dj_nil_l, dj_nil_r, dk_app, dk_cons, dk_nil, and_true, true_and, and_assoc] using (show Dk g4 (Kl1 ++ Kl2) from Fg4)
  refine lm (v := v1) rfl rfl ?_
  obtain ⟨p6, c6, rfl, hc6, HB6⟩ := own_bs O1
  refine wpL_g (AppO w 26 9 (Kl1 ++ Kl2) (0 + ((loadedX l0).length)) ((bcs []) ++ (bcs (loadedX l0)))) rfl rfl (app_any el_bx (m := ((loadedX l0).length)) (news := (bcs (loadedX l0))) rfl (by kernel_rfl) (by kernel_rfl) (src_bs (c := c6) Tryd.underlying22 (HB6.mono (fun p hp => by simp only [List.mem_cons, List.mem_append, List.nil_append, List.not_mem_nil, or_assoc, or_false, false_or, hp, true_or, or_true])) rfl) (own_bnone Bg4) (fun p hp => by cases List.mem_singleton.1 hp; exact (.head _)) (fun p hp => ⟨by simp only [List.mem_cons, List.mem_append, List.nil_append, List.not_mem_nil, or_assoc, or_false, false_or] at hp ⊢ <;> grind, (show Dj (Kl1 ++ Kl2) [(g4, .cells #[] 26 (0, 0))] from (by (try simp only [dj_app_l, dj_app_r, dj_cons_l, dj_cons_r, dj_nil_l, dj_nil_r, dk_app, dk_cons, dk_nil, and_true, true_and, and_assoc]); repeat' (first | trivial | assumption | exact Dj.symm (by assumption) | exact Ne.symm (by assumption) | apply And.intro))) p hp⟩) (by omega) (by omega)) (fun _ => by simp only [List.setIfInBounds_toArray, List.set_cons_succ, List.set_cons_zero] <;> rfl) ?_
  rintro v7 K9 ⟨Kl7, O7, N7, rfl⟩
  replace O7 : OwnL w 26 9 v7 ((loadedX l0).length) (bcs (loadedX l0)) Kl7 := by rw [Nat.zero_add] at O7; exact O7
  obtain ⟨dj8_0, dj8_1⟩ : Dj Kl1 Kl7 ∧ Dj Kl2 Kl7 := by simpa only [dj_app_l, dj_app_r, dj_cons_l, dj_cons_r, dj_nil_l, dj_nil_r, dk_app, dk_cons, dk_nil, and_true, true_and, and_assoc] using (show Dj (Kl1 ++ Kl2) Kl7 from N7)
  refine lm (v := v2) rfl rfl ?_
  obtain ⟨p9, c9, rfl, hc9, HB9⟩ := own_bs O2
  refine wpL_g (AppO w 26 9 (Kl1 ++ Kl2) (((loadedX l0).length) + ((loadedX l1).length)) ((bcs (loadedX l0)) ++ (bcs (loadedX l1)))) rfl rfl (app_any el_bx (m := ((loadedX l1).length)) (news := (bcs (loadedX l1))) rfl (by kernel_rfl) (by kernel_rfl) (src_bs (c := c9) Tryd.underlying22 (HB9.mono (fun p hp => by simp only [List.mem_cons, List.mem_append, List.nil_append, List.not_mem_nil, or_assoc, or_false, false_or, hp, true_or, or_true])) rfl) O7 (fun p hp => by simp only [List.mem_cons, List.mem_append, List.nil_append, List.not_mem_nil, or_assoc, or_false, false_or, hp, or_true, true_or]) (fun p hp => ⟨by simp only [List.mem_cons, List.mem_append, List.nil_append, List.not_mem_nil, or_assoc, or_false, false_or] at hp ⊢ <;> grind, (show Dj (Kl1 ++ Kl2) Kl7 from (by (try simp only [dj_app_l, dj_app_r, dj_cons_l, dj_cons_r, dj_nil_l, dj_nil_r, dk_app, dk_cons, dk_nil, and_true, true_and, and_assoc]); repeat' (first | trivial | assumption | exact Dj.symm (by assumption) | exact Ne.symm (by assumption) | apply And.intro))) p hp⟩) (by omega) (by omega)) (fun _ => by simp only [List.setIfInBounds_toArray, List.set_cons_succ, List.set_cons_zero] <;> rfl) ?_
  rintro v10 K9 ⟨Kl10, O10, N10, rfl⟩
  replace O10 : OwnL w 26 9 v10 ((loadedX l0) ++ (loadedX l1)).length (bcs ((loadedX l0) ++ (loadedX l1))) Kl10 := by rw [bcs_app, List.length_append]; exact O10
  obtain ⟨dj11_0, dj11_1⟩ : Dj Kl1 Kl10 ∧ Dj Kl2 Kl10 := by simpa only [dj_app_l, dj_app_r, dj_cons_l, dj_cons_r, dj_nil_l, dj_nil_r, dk_app, dk_cons, dk_nil, and_true, true_and, and_assoc] using (show Dj (Kl1 ++ Kl2) Kl10 from N10)
  refine lm (v := v10) rfl rfl ?_
  refine wpL_done (fun W3 hW3 => ?_)
  refine (show Code.wp _ _ _ _ _ from ?_)
  refine wp_seq ?_
  refine wp_region_L (W0 := w) ((Kl1 ++ Kl2) ++ Kl10) (hW3) ?_
  refine wpL_new (fun g => .slice (some ⟨g, 0, none⟩) 0 0) (obi := .cells #[] 26 (0, 0)) rfl rfl (fun _ => by kernel_rfl) (fun _ => by simp only [List.setIfInBounds_toArray, List.set_cons_succ, List.set_cons_zero] <;> rfl) fun g12 Bg12 Fg12 => ?_
  obtain ⟨dj13_0, dj13_1, dj13_2⟩ : Dk g12 Kl1 ∧ Dk g12 Kl2 ∧ Dk g12 Kl10 := by simpa only [dj_app_l, dj_app_r, dj_cons_l, dj_cons_r, dj_nil_l, dj_nil_r, dk_app, dk_cons, dk_nil, and_true, true_and, and_assoc] using (show Dk g12 ((Kl1 ++ Kl2) ++ Kl10) from Fg12)
  refine lm (v := .slice p9 ((loadedX l1).length) c9) rfl rfl ?_
  refine wpL_g (AppO w 26 9 (Kl1 ++ (Kl2 ++ Kl10)) (0 + ((loadedX l1).length)) ((bcs []) ++ (bcs (loadedX l1)))) rfl rfl (app_any el_bx (m := ((loadedX l1).length)) (news := (bcs (loadedX l1))) rfl (by kernel_rfl) (by kernel_rfl) (src_bs (c := c9) Tryd.underlying22 (HB9.mono (fun p hp => by simp only [List.mem_cons, List.mem_append, List.nil_append, List.not_mem_nil, or_assoc, or_false, false_or, hp, true_or, or_true])) rfl) (own_bnone Bg12) (fun p hp => by cases List.mem_singleton.1 hp; exact (.head _)) (fun p hp => ⟨by simp only [List.mem_cons, List.mem_append, List.nil_append, List.not_mem_nil, or_assoc, or_false, false_or] at hp ⊢ <;> grind, (show Dj (Kl1 ++ (Kl2 ++ Kl10)) [(g12, .cells #[] 26 (0, 0))] from (by (try simp only [dj_app_l, dj_app_r, dj_cons_l, dj_cons_r, dj_nil_l, dj_nil_r, dk_app, dk_cons, dk_nil, and_true, true_and, and_assoc]); repeat' (first | trivial | assumption | exact Dj.symm (by assumption) | exact Ne.symm (by assumption) | apply And.intro))) p hp⟩) (by omega) (by omega)) (fun _ => by simp only [List.setIfInBounds_toArray, List.set_cons_succ, List.set_cons_zero] <;> rfl) ?_
  rintro v14 K9 ⟨Kl14, O14, N14, rfl⟩
  replace O14 : OwnL w 26 9 v14 ((loadedX l1).length) (bcs (loadedX l1)) Kl14 := by rw [Nat.zero_add] at O14; exact O14
  obtain ⟨dj15_0, dj15_1, dj15_2⟩ : Dj Kl1 Kl14 ∧ Dj Kl2 Kl14 ∧ Dj Kl10 Kl14 := by simpa only [dj_app_l, dj_app_r, dj_cons_l, dj_cons_r, dj_nil_l, dj_nil_r, dk_app, dk_cons, dk_nil, and_true, true_and, and_assoc] using (show Dj (Kl1 ++ (Kl2 ++ Kl10)) Kl14 from N14)
  refine lm (v := .slice p6 ((loadedX l0).length) c6) rfl rfl ?_
  refine wpL_g (AppO w 26 9 (Kl1 ++ (Kl2 ++ Kl10)) (((loadedX l1).length) + ((loadedX l0).length)) ((bcs (loadedX l1)) ++ (bcs (loadedX l0)))) rfl rfl (app_any el_bx (m := ((loadedX l0).length)) (news := (bcs (loadedX l0))) rfl (by kernel_rfl) (by kernel_rfl) (src_bs (c := c6) Tryd.underlying22 (HB6.mono (fun p hp => by simp only [List.mem_cons, List.mem_append, List.nil_append, List.not_mem_nil, or_assoc, or_false, false_or, hp, true_or, or_true])) rfl) O14 (fun p hp => by simp only [List.mem_cons, List.mem_append, List.nil_append, List.not_mem_nil, or_assoc, or_false, false_or, hp, or_true, true_or]) (fun p hp => ⟨by simp only [List.mem_cons, List.mem_append, List.nil_append, List.not_mem_nil, or_assoc, or_false, false_or] at hp ⊢ <;> grind, (show Dj (Kl1 ++ (Kl2 ++ Kl10)) Kl14 from (by (try simp only [dj_app_l, dj_app_r, dj_cons_l, dj_cons_r, dj_nil_l, dj_nil_r, dk_app, dk_cons, dk_nil, and_true, true_and, and_assoc]); repeat' (first | trivial | assumption | exact Dj.symm (by assumption) | exact Ne.symm (by assumption) | apply And.intro))) p hp⟩) (by omega) (by omega)) (fun _ => by simp only [List.setIfInBounds_toArray, List.set_cons_succ, List.set_cons_zero] <;> rfl) ?_
  rintro v16 K9 ⟨Kl16, O16, N16, rfl⟩
  replace O16 : OwnL w 26 9 v16 ((loadedX l1) ++ (loadedX l0)).length (bcs ((loadedX l1) ++ (loadedX l0))) Kl16 := by rw [bcs_app, List.length_append]; exact O16
  obtain ⟨dj17_0, dj17_1, dj17_2⟩ : Dj Kl1 Kl16 ∧ Dj Kl2 Kl16 ∧ Dj Kl10 Kl16 := by simpa only [dj_app_l, dj_app_r, dj_cons_l, dj_cons_r, dj_nil_l, dj_nil_r, dk_app, dk_cons, dk_nil, and_true, true_and, and_assoc] using (show Dj (Kl1 ++ (Kl2 ++ Kl10)) Kl16 from N16)
  refine lm (v := v16) rfl rfl ?_
  refine wpL_done (fun W4 hW4 => ?_)
  refine (show Code.wp _ _ _ _ _ from ?_)
  refine wp_seq ?_
  refine wp_region_L (W0 := w) ((Kl1 ++ (Kl2 ++ Kl10)) ++ Kl16) (hW4) ?_
  refine lm (v := .slice p6 ((loadedX l0).length) c6) rfl rfl ?_
  refine lv (v := smV (totalX (loadedX l0))) rfl rfl (yb_call (f := 26) (args := #[.slice p6 ((loadedX l0).length) c6]) (fun _ => by kernel_rfl) fun W hW => Total_any (loadedX l0) p6 c6 (by first | omega | (simp; done) | (simp; omega) | decide) W (HB6 W (hW.sub (fun p hp => by simp only [List.mem_cons, List.mem_append, List.nil_append, List.not_mem_nil, or_assoc, or_false, false_or, hp, true_or, or_true])))) ?_
  refine lm (v := .slice p9 ((loadedX l1).length) c9) rfl rfl ?_
  refine lv (v := smV (totalX (loadedX l1))) rfl rfl (yb_call (f := 26) (args := #[.slice p9 ((loadedX l1).length) c9]) (fun _ => by kernel_rfl) fun W hW => Total_any (loadedX l1) p9 c9 (by first | omega | (simp; done) | (simp; omega) | decide) W (HB9 W (hW.sub (fun p hp => by simp only [List.mem_cons, List.mem_append, List.nil_append, List.not_mem_nil, or_assoc, or_false, false_or, hp, true_or, or_true])))) ?_
  refine lv (v := smV (plusX (totalX (loadedX l0)) (totalX (loadedX l1)))) rfl rfl (yb_call (f := 25) (args := #[smV (totalX (loadedX l0)), smV (totalX (loadedX l1))]) (fun _ => by kernel_rfl) fun W hW => plus_any (totalX (loadedX l0)) (totalX (loadedX l1)) (sum_le_small (by first | omega | (simp only [List.length_set]; omega) | (simp; done))) (sum_le_small (by first | omega | (simp only [List.length_set]; omega) | (simp; done))) W) ?_
  refine wpL_new (fun g => .pointer (some ⟨g, 0, none⟩)) (obi := .cells #[.int .i64 0, .int .i64 0, .int .i64 0, .int .i64 0, .int .i64 0] 47 (0, 0)) rfl rfl (fun _ => by kernel_rfl) (fun _ => by simp only [List.setIfInBounds_toArray, List.set_cons_succ, List.set_cons_zero] <;> rfl) fun g18 Bg18 Fg18 => ?_
  obtain ⟨dj19_0, dj19_1, dj19_2, dj19_3⟩ : Dk g18 Kl1 ∧ Dk g18 Kl2 ∧ Dk g18 Kl10 ∧ Dk g18 Kl16 := by simpa only [dj_app_l, dj_app_r, dj_cons_l, dj_cons_r, dj_nil_l, dj_nil_r, dk_app, dk_cons, dk_nil, and_true, true_and, and_assoc] using (show Dk g18 ((Kl1 ++ (Kl2 ++ Kl10)) ++ Kl16) from Fg18)
  refine wpL_s ((g18, .cells (smC (plusX (totalX (loadedX l0)) (totalX (loadedX l1)))) 47 (0, 0)) :: ((Kl1 ++ (Kl2 ++ Kl10)) ++ Kl16)) rfl rfl (st_row (off := 0) (v := smV (plusX (totalX (loadedX l0)) (totalX (loadedX l1)))) rfl (by kernel_rfl) (by kernel_rfl) (.head _) Bg18 (by kernel_rfl) (Nat.le_refl 5) (sm_one (plusX (totalX (loadedX l0)) (totalX (loadedX l1)))) (by kernel_rfl) (List.forall_mem_cons.2 ⟨.inl rfl, (fun p hp => .inr ⟨(.tail _ hp), ((show Dk g18 ((Kl1 ++ (Kl2 ++ Kl10)) ++ Kl16) from (by (try simp only [dj_app_l, dj_app_r, dj_cons_l, dj_cons_r, dj_nil_l, dj_nil_r, dk_app, dk_cons, dk_nil, and_true, true_and, and_assoc]); repeat' (first | trivial | assumption | exact Dj.symm (by assumption) | exact Ne.symm (by assumption) | apply And.intro))) _ hp)⟩)⟩)) ?_
  refine wpL_done (fun W5 hW5 => ?_)
  refine (show Code.wp _ _ _ _ _ from ?_)
  refine wp_seq ?_
  refine wp_seq ?_
  refine wp_region_V (W0 := w) ((g18, .cells (smC (plusX (totalX (loadedX l0)) (totalX (loadedX l1)))) 47 (0, 0)) :: ((Kl1 ++ (Kl2 ++ Kl10)) ++ Kl16)) (by kernel_rfl) (hW5) ?_
  refine vm (i := 0) (v := v10) rfl rfl rfl ?_
  obtain ⟨p20, c20, rfl, hc20, HB20⟩ := own_bs O10
  refine vv (i := 1) (v := smV (totalX ((loadedX l0) ++ (loadedX l1)))) rfl rfl rfl (yb_call (f := 26) (args := #[.slice p20 (((loadedX l0) ++ (loadedX l1)).length) c20]) (fun _ => by kernel_rfl) fun W hW => Total_any ((loadedX l0) ++ (loadedX l1)) p20 c20 (by first | omega | (simp; done) | (simp; omega) | decide) W (HB20 W (hW.sub (fun p hp => by simp only [List.mem_cons, List.mem_append, List.nil_append, List.not_mem_nil, or_assoc, or_false, false_or, hp, true_or, or_true])))) ?_
  refine vv (i := 2) (v := smV (plusX (totalX (loadedX l0)) (totalX (loadedX l1)))) rfl rfl rfl (yb_load (n := 5) (off := 0) rfl (by kernel_rfl) (.head _) Tryd.underlying47 rfl (by kernel_rfl) (Nat.le_refl 5) (by kernel_rfl)) ?_
  refine vp (i := 3) (v := .bool false) rfl rfl rfl (run_bin rfl (vx := smV (totalX ((loadedX l0) ++ (loadedX l1)))) (vy := smV (plusX (totalX (loadedX l0)) (totalX (loadedX l1)))) (by kernel_rfl) (by kernel_rfl) fun w => neq_sm (decide_eq_true (total_app _ _)) w) ?_
  refine vm (i := 4) (v := .bool false) rfl rfl rfl ?_
  refine vm (i := 5) (v := v16) rfl rfl rfl ?_
  obtain ⟨p21, c21, rfl, hc21, HB21⟩ := own_bs O16
  refine vv (i := 6) (v := smV (totalX ((loadedX l1) ++ (loadedX l0)))) rfl rfl rfl (yb_call (f := 26) (args := #[.slice p21 (((loadedX l1) ++ (loadedX l0)).length) c21]) (fun _ => by kernel_rfl) fun W hW => Total_any ((loadedX l1) ++ (loadedX l0)) p21 c21 (by first | omega | (simp; done) | (simp; omega) | decide) W (HB21 W (hW.sub (fun p hp => by simp only [List.mem_cons, List.mem_append, List.nil_append, List.not_mem_nil, or_assoc, or_false, false_or, hp, true_or, or_true])))) ?_
  refine vv (i := 7) (v := smV (plusX (totalX (loadedX l0)) (totalX (loadedX l1)))) rfl rfl rfl (yb_load (n := 5) (off := 0) rfl (by kernel_rfl) (.head _) Tryd.underlying47 rfl (by kernel_rfl) (Nat.le_refl 5) (by kernel_rfl)) ?_
  refine vp (i := 8) (v := .bool false) rfl rfl rfl (run_bin rfl (vx := smV (totalX ((loadedX l1) ++ (loadedX l0)))) (vy := smV (plusX (totalX (loadedX l0)) (totalX (loadedX l1)))) (by kernel_rfl) (by kernel_rfl) fun w => neq_sm (decide_eq_true ((total_app _ _).trans (plus_comm _ _))) w) ?_
  refine vm (i := 9) (v := .bool false) rfl rfl rfl ?_
  refine vm (i := 10) (v := .bool false) rfl rfl rfl ?_
  refine vm (i := 11) (v := .pointer (some ⟨g18, 0, none⟩)) rfl rfl rfl ?_
  refine vv (i := 12) (v := .int .i64 ((((plusX (totalX (loadedX l0)) (totalX (loadedX l1))).n) : Nat) : Int)) rfl rfl rfl (yb_cell (off := 0) rfl (by kernel_rfl) (.head _) Tryd.underlying3 rfl (by kernel_rfl)) ?_
  refine vm (i := 13) (v := .slice p20 (((loadedX l0) ++ (loadedX l1)).length) c20) rfl rfl rfl ?_
  refine vp (i := 14) (v := .int .i64 (((((loadedX l0) ++ (loadedX l1)).length) : Nat) : Int)) rfl rfl rfl (run_lenL (p := p20) (cap := c20) (n := (((loadedX l0) ++ (loadedX l1)).length)) rfl Tryd.underlying22 (by kernel_rfl)) ?_
  refine vp (i := 15) (v := .bool false) rfl rfl rfl (run_bin rfl (vx := (.int .i64 ((((plusX (totalX (loadedX l0)) (totalX (loadedX l1))).n) : Nat) : Int))) (vy := (.int .i64 (((((loadedX l0) ++ (loadedX l1)).length) : Nat) : Int))) (by kernel_rfl) (by kernel_rfl) fun w => bn_neq (decide_eq_true (by rw [← total_app]; exact total_n (fun b hb => (List.mem_append.1 hb).elim (hra0 b) (hra1 b)))) w) ?_
  refine vm (i := 16) (v := .bool false) rfl rfl rfl ?_
  refine wpV_done (by kernel_rfl) (fun W6 hW6 => ?_) _
  refine (show Code.wp _ _ _ _ _ from ?_)
  refine wp_cond_false rfl ?_
  refine wp_skip ?_
  refine (show Code.wp _ _ _ _ _ from ?_)
  refine wp_seq ?_
  refine wp_seq ?_
  refine wp_region_L (W0 := w) ((g18, .cells (smC (plusX (totalX (loadedX l0)) (totalX (loadedX l1)))) 47 (0, 0)) :: ((Kl1 ++ (Kl2 ++ Kl10)) ++ Kl16)) (hW6) ?_
  refine lm (v := .slice p20 (((loadedX l0) ++ (loadedX l1)).length) c20) rfl rfl ?_
  refine lp (v := .int .i64 (((((loadedX l0) ++ (loadedX l1)).length) : Nat) : Int)) rfl rfl (run_lenL (p := p20) (cap := c20) (n := (((loadedX l0) ++ (loadedX l1)).length)) rfl Tryd.underlying22 (by kernel_rfl)) ?_
  refine lp (v := .bool (decide (0 < (((loadedX l0) ++ (loadedX l1)).length)))) rfl rfl (run_bin rfl (vx := (.int .i64 (((((loadedX l0) ++ (loadedX l1)).length) : Nat) : Int))) (vy := (.int .i64 ((0 : Nat) : Int))) (by kernel_rfl) (by kernel_rfl) fun w => bn_gtr rfl w) ?_
  refine wpL_done (fun W7 hW7 => ?_)
  refine (show Code.wp _ _ _ _ _ from ?_)
  cases hd1 : (decide (0 < (((loadedX l0) ++ (loadedX l1)).length))) with
  | false =>
    have h1 : ¬ (0 < (((loadedX l0) ++ (loadedX l1)).length)) := of_decide_eq_false hd1
    clear hd1
    refine wp_cond_false rfl ?_
    refine wp_skip ?_
    refine (show Code.wp _ _ _ _ _ from ?_)
    refine wp_seq ?_
    refine wp_region_L (W0 := w) ((g18, .cells (smC (plusX (totalX (loadedX l0)) (totalX (loadedX l1)))) 47 (0, 0)) :: ((Kl1 ++ (Kl2 ++ Kl10)) ++ Kl16)) (hW7) ?_
    refine lv (v := .bool true) rfl rfl (yb_call (f := 12) (args := #[]) (fun _ => by kernel_rfl) fun W hW => awake_any W (HE.out.keep hW.1)) ?_
    refine lm (v := .bool true) rfl rfl ?_
    refine wpL_done (fun W8 hW8 => ?_)
    refine (show Code.wp _ _ _ _ _ from ?_)
    refine wp_ret ?_
    try simp only [inBlock_ret, then_ret]
    refine bodyPost_ret (v := .bool true) ?_ rfl ?_
    · kernel_rfl
    · exact ⟨rfl, hW8.1⟩
  | true =>
    have h1 : 0 < (((loadedX l0) ++ (loadedX l1)).length) := of_decide_eq_true hd1
    clear hd1
    have hmod := Nat.mod_lt at_ h1
    obtain ⟨bi, hbi⟩ : ∃ b, ((loadedX l0) ++ (loadedX l1))[(at_ % ((loadedX l0) ++ (loadedX l1)).length)]? = some b := ⟨_, List.getElem?_eq_getElem hmod⟩
    have hrbi := mem_app hra0 hra1 hbi
    have hkbi := right_kilos hrbi
    refine wp_cond_true rfl ?_
    refine wp_seq ?_
    refine wp_region_L (W0 := w) ((g18, .cells (smC (plusX (totalX (loadedX l0)) (totalX (loadedX l1)))) 47 (0, 0)) :: ((Kl1 ++ (Kl2 ++ Kl10)) ++ Kl16)) (hW7) ?_
    refine lm (v := .int .u8 ((at_ : Nat) : Int)) rfl rfl ?_
    refine lp (v := .int .i64 ((at_ : Nat) : Int)) rfl rfl (run_conv rfl (vx := (.int .u8 ((at_ : Nat) : Int))) (by kernel_rfl) fun w => cv_int Tryd.underlying5 Tryd.underlying3 (wr_i64 (by omega)) w) ?_
    refine lm (v := .slice p20 (((loadedX l0) ++ (loadedX l1)).length) c20) rfl rfl ?_
    refine lp (v := .int .i64 (((((loadedX l0) ++ (loadedX l1)).length) : Nat) : Int)) rfl rfl (run_lenL (p := p20) (cap := c20) (n := (((loadedX l0) ++ (loadedX l1)).length)) rfl Tryd.underlying22 (by kernel_rfl)) ?_
    refine lp (v := .int .i64 (((at_ % (((loadedX l0) ++ (loadedX l1)).length)) : Nat) : Int)) rfl rfl (run_bin rfl (vx := (.int .i64 ((at_ : Nat) : Int))) (vy := (.int .i64 (((((loadedX l0) ++ (loadedX l1)).length) : Nat) : Int))) (by kernel_rfl) (by kernel_rfl) fun w => bn_rem (z := (at_ % (((loadedX l0) ++ (loadedX l1)).length))) rfl (by omega) w) ?_
    refine lm (v := .int .i64 (((at_ % (((loadedX l0) ++ (loadedX l1)).length)) : Nat) : Int)) rfl rfl ?_
    refine wpL_done (fun W9 hW9 => ?_)
    refine (show Code.wp _ _ _ _ _ from ?_)
    refine wp_seq ?_
    refine wp_region_L (W0 := w) ((g18, .cells (smC (plusX (totalX (loadedX l0)) (totalX (loadedX l1)))) 47 (0, 0)) :: ((Kl1 ++ (Kl2 ++ Kl10)) ++ Kl16)) (hW9) ?_
    refine lm (v := .slice p20 (((loadedX l0) ++ (loadedX l1)).length) c20) rfl rfl ?_
    refine lm (v := .int .i64 (((at_ % (((loadedX l0) ++ (loadedX l1)).length)) : Nat) : Int)) rfl rfl ?_
    refine lm (v := .int .i64 (((at_ % (((loadedX l0) ++ (loadedX l1)).length)) : Nat) : Int)) rfl rfl ?_
    refine lp (v := .int .i64 ((((at_ % (((loadedX l0) ++ (loadedX l1)).length)) + 1) : Nat) : Int)) rfl rfl (run_bin rfl (vx := (.int .i64 (((at_ % (((loadedX l0) ++ (loadedX l1)).length)) : Nat) : Int))) (vy := (.int .i64 ((1 : Nat) : Int))) (by kernel_rfl) (by kernel_rfl) fun w => bn_add (z := ((at_ % (((loadedX l0) ++ (loadedX l1)).length)) + 1)) rfl (wr_i64 (by omega)) w) ?_
    have HBi := (one_at hbi) ▸ (bs_cut c20 (at_ % ((loadedX l0) ++ (loadedX l1)).length) (bs_take ((at_ % ((loadedX l0) ++ (loadedX l1)).length) + 1) HB20) (by rw [List.length_take]; omega))
    refine lp (v := .slice (cutQ p20 c20 (at_ % ((loadedX l0) ++ (loadedX l1)).length) 9) 1 (c20 - (at_ % ((loadedX l0) ++ (loadedX l1)).length))) rfl rfl (fun w => (run_slm (p := p20) (n := (((loadedX l0) ++ (loadedX l1)).length)) (c := c20) (i := (at_ % (((loadedX l0) ++ (loadedX l1)).length))) (j := ((at_ % (((loadedX l0) ++ (loadedX l1)).length)) + 1)) (k1 := .i64) (k2 := .i64) (sz := 9) rfl Tryd.underlying22 (by kernel_rfl) (by kernel_rfl) (by kernel_rfl) (by kernel_rfl) (by omega) (by omega) w).trans (by rw [show ((at_ % ((loadedX l0) ++ (loadedX l1)).length) + 1) - (at_ % ((loadedX l0) ++ (loadedX l1)).length) = 1 from by omega])) ?_
    refine lv (v := smV (totalX [bi])) rfl rfl (yb_call (f := 26) (args := #[.slice (cutQ p20 c20 (at_ % ((loadedX l0) ++ (loadedX l1)).length) 9) 1 (c20 - (at_ % ((loadedX l0) ++ (loadedX l1)).length))]) (fun _ => by kernel_rfl) fun W hW => Total_any [bi] (cutQ p20 c20 (at_ % ((loadedX l0) ++ (loadedX l1)).length) 9) (c20 - (at_ % ((loadedX l0) ++ (loadedX l1)).length)) (by first | omega | (simp; done) | (simp; omega) | decide) W (HBi W (hW.sub (fun p hp => by simp only [List.mem_cons, List.mem_append, List.nil_append, List.not_mem_nil, or_assoc, or_false, false_or, hp, true_or, or_true])))) ?_
    refine wpL_new (fun g => .pointer (some ⟨g, 0, none⟩)) (obi := .cells #[.int .i64 0, .int .i64 0, .int .i64 0, .int .i64 0, .int .i64 0] 47 (0, 0)) rfl rfl (fun _ => by kernel_rfl) (fun _ => by simp only [List.setIfInBounds_toArray, List.set_cons_succ, List.set_cons_zero] <;> rfl) fun g22 Bg22 Fg22 => ?_
    obtain ⟨dj23_0, dj23_1, dj23_2, dj23_3, dj23_4⟩ : g18 ≠ g22 ∧ Dk g22 Kl1 ∧ Dk g22 Kl2 ∧ Dk g22 Kl10 ∧ Dk g22 Kl16 := by simpa only [dj_app_l, dj_app_r, dj_cons_l, dj_cons_r, dj_nil_l, dj_nil_r, dk_app, dk_cons, dk_nil, and_true, true_and, and_assoc] using (show Dk g22 ((g18, .cells (smC (plusX (totalX (loadedX l0)) (totalX (loadedX l1)))) 47 (0, 0)) :: ((Kl1 ++ (Kl2 ++ Kl10)) ++ Kl16)) from Fg22)
    refine wpL_s ((g22, .cells (smC (totalX [bi])) 47 (0, 0)) :: (g18, .cells (smC (plusX (totalX (loadedX l0)) (totalX (loadedX l1)))) 47 (0, 0)) :: ((Kl1 ++ (Kl2 ++ Kl10)) ++ Kl16)) rfl rfl (st_row (off := 0) (v := smV (totalX [bi])) rfl (by kernel_rfl) (by kernel_rfl) (.head _) Bg22 (by kernel_rfl) (Nat.le_refl 5) (sm_one (totalX [bi])) (by kernel_rfl) (List.forall_mem_cons.2 ⟨.inl rfl, (List.forall_mem_cons.2 ⟨.inr ⟨(.tail _ (.head _)), (by first | assumption | exact Ne.symm (by assumption))⟩, (fun p hp => .inr ⟨(.tail _ (.tail _ hp)), ((show Dk g22 ((Kl1 ++ (Kl2 ++ Kl10)) ++ Kl16) from (by (try simp only [dj_app_l, dj_app_r, dj_cons_l, dj_cons_r, dj_nil_l, dj_nil_r, dk_app, dk_cons, dk_nil, and_true, true_and, and_assoc]); repeat' (first | trivial | assumption | exact Dj.symm (by assumption) | exact Ne.symm (by assumption) | apply And.intro))) _ hp)⟩)⟩)⟩)) ?_
    refine wpL_done (fun W10 hW10 => ?_)
    refine (show Code.wp _ _ _ _ _ from ?_)
    refine wp_seq ?_
    obtain ⟨go24, co24, cu24, rq24, Bo24, Ro24, rk24⟩ := own_some O10 h1
    cases rq24
    subst rk24
    have dk24_0 : Dk go24 Kl1 := by have h : Dj Kl1 [(go24, .cells cu24 26 (0, 0))] := (by first | assumption | exact Dj.symm (by assumption)); simpa only [dj_app_l, dj_app_r, dj_cons_l, dj_cons_r, dj_nil_l, dj_nil_r, dk_app, dk_cons, dk_nil, and_true, true_and, and_assoc] using h
    have dk24_1 : Dk go24 Kl2 := by have h : Dj Kl2 [(go24, .cells cu24 26 (0, 0))] := (by first | assumption | exact Dj.symm (by assumption)); simpa only [dj_app_l, dj_app_r, dj_cons_l, dj_cons_r, dj_nil_l, dj_nil_r, dk_app, dk_cons, dk_nil, and_true, true_and, and_assoc] using h
    have dk24_2 : Dk go24 Kl16 := by have h : Dj Kl16 [(go24, .cells cu24 26 (0, 0))] := (by first | assumption | exact Dj.symm (by assumption)); simpa only [dj_app_l, dj_app_r, dj_cons_l, dj_cons_r, dj_nil_l, dj_nil_r, dk_app, dk_cons, dk_nil, and_true, true_and, and_assoc] using h
    have db24_0 : go24 ≠ g22 := by have h : Dk g22 [(go24, .cells cu24 26 (0, 0))] := (by assumption); simpa only [dj_app_l, dj_app_r, dj_cons_l, dj_cons_r, dj_nil_l, dj_nil_r, dk_app, dk_cons, dk_nil, and_true, true_and, and_assoc] using h
    have db24_1 : go24 ≠ g18 := by have h : Dk g18 [(go24, .cells cu24 26 (0, 0))] := (by assumption); simpa only [dj_app_l, dj_app_r, dj_cons_l, dj_cons_r, dj_nil_l, dj_nil_r, dk_app, dk_cons, dk_nil, and_true, true_and, and_assoc] using h
    refine wp_region_L (W0 := w) ((go24, .cells cu24 26 (0, 0)) :: (g22, .cells (smC (totalX [bi])) 47 (0, 0)) :: (g18, .cells (smC (plusX (totalX (loadedX l0)) (totalX (loadedX l1)))) 47 (0, 0)) :: (Kl1 ++ (Kl2 ++ Kl16))) ((hW10.sub (fun p hp => by simp only [List.mem_cons, List.mem_append, List.nil_append, List.not_mem_nil, or_assoc, or_false, false_or, List.cons_append, List.append_assoc] at hp ⊢ <;> grind))) ?_
    refine lm (v := .slice (some ⟨go24, 0, none⟩) (((loadedX l0) ++ (loadedX l1)).length) c20) rfl rfl ?_
    refine lm (v := .int .i64 (((at_ % (((loadedX l0) ++ (loadedX l1)).length)) : Nat) : Int)) rfl rfl ?_
    refine lm (v := .slice (some ⟨go24, 0, none⟩) (((loadedX l0) ++ (loadedX l1)).length) c20) rfl rfl ?_
    refine lm (v := .int .i64 (((at_ % (((loadedX l0) ++ (loadedX l1)).length)) : Nat) : Int)) rfl rfl ?_
    refine lp (v := .pointer (some ⟨go24, 0 + (at_ % (((loadedX l0) ++ (loadedX l1)).length)) * 9, none⟩)) rfl rfl (run_idxL (j := .i64) (n := (((loadedX l0) ++ (loadedX l1)).length)) (cap := c20) (b := go24) (off := 0) (k := (at_ % (((loadedX l0) ++ (loadedX l1)).length))) (sz := 9) rfl Tryd.underlying22 (by kernel_rfl) (by kernel_rfl) (by kernel_rfl) (by omega)) ?_
    refine lm (v := .pointer (some ⟨go24, 0 + (at_ % (((loadedX l0) ++ (loadedX l1)).length)) * 9 + 4, none⟩)) rfl rfl ?_
    refine lv (v := .int .i64 bi.kilos) rfl rfl (yb_cell (off := 0 + (at_ % (((loadedX l0) ++ (loadedX l1)).length)) * 9 + 4) rfl (by kernel_rfl) (.head _) Tryd.underlying3 rfl (RowX.get (rowx_own Ro24) hbi 4 _ rfl)) ?_
    refine lp (v := .int .i64 (-bi.kilos)) rfl rfl (run_un (v := .int .i64 (-bi.kilos)) rfl (by kernel_rfl) fun w => un_neg (by rw [show (0 : Int) - bi.kilos = (-bi.kilos) from by omega]; exact wi_i64 (by omega)) w) ?_
    refine lp (v := .pointer (some ⟨go24, 0 + (at_ % (((loadedX l0) ++ (loadedX l1)).length)) * 9, none⟩)) rfl rfl (run_idxL (j := .i64) (n := (((loadedX l0) ++ (loadedX l1)).length)) (cap := c20) (b := go24) (off := 0) (k := (at_ % (((loadedX l0) ++ (loadedX l1)).length))) (sz := 9) rfl Tryd.underlying22 (by kernel_rfl) (by kernel_rfl) (by kernel_rfl) (by omega)) ?_
    refine lm (v := .pointer (some ⟨go24, 0 + (at_ % (((loadedX l0) ++ (loadedX l1)).length)) * 9 + 4, none⟩)) rfl rfl ?_
    obtain ⟨R25, Q25⟩ := RowX.putf (fo := 4) (b' := (Bx.mk bi.id bi.num bi.size bi.high (-bi.kilos) bi.load bi.dis bi.cls bi.rf)) (v := .int .i64 (-bi.kilos)) (rowx_own Ro24) hbi (by omega) rfl
    refine wpL_s ((go24, .cells (putF cu24 (0 + (at_ % (((loadedX l0) ++ (loadedX l1)).length)) * 9 + 4) (.int .i64 (-bi.kilos))) 26 (0, 0)) :: (g22, .cells (smC (totalX [bi])) 47 (0, 0)) :: (g18, .cells (smC (plusX (totalX (loadedX l0)) (totalX (loadedX l1)))) 47 (0, 0)) :: (Kl1 ++ (Kl2 ++ Kl16))) rfl rfl (st_fld (k := (at_ % (((loadedX l0) ++ (loadedX l1)).length))) (fo := 4) (v := .int .i64 (-bi.kilos)) rfl (by kernel_rfl) (by kernel_rfl) (.head _) Bo24 (by kernel_rfl) rfl rfl (rowx_own Ro24) (List.getElem?_eq_some_iff.1 hbi).1 (by omega) (List.forall_mem_cons.2 ⟨.inl rfl, (List.forall_mem_cons.2 ⟨.inr ⟨(.tail _ (.head _)), (by first | assumption | exact Ne.symm (by assumption))⟩, (List.forall_mem_cons.2 ⟨.inr ⟨(.tail _ (.tail _ (.head _))), (by first | assumption | exact Ne.symm (by assumption))⟩, (fun p hp => .inr ⟨(.tail _ (.tail _ (.tail _ hp))), ((show Dk go24 (Kl1 ++ (Kl2 ++ Kl16)) from (by (try simp only [dj_app_l, dj_app_r, dj_cons_l, dj_cons_r, dj_nil_l, dj_nil_r, dk_app, dk_cons, dk_nil, and_true, true_and, and_assoc]); repeat' (first | trivial | assumption | exact Dj.symm (by assumption) | exact Ne.symm (by assumption) | apply And.intro))) _ hp)⟩)⟩)⟩)⟩)) ?_
    refine wpL_done (fun W11 hW11 => ?_)
    refine (show Code.wp _ _ _ _ _ from ?_)
    refine wp_seq ?_
    have hlost := total_lost (b' := (Bx.mk bi.id bi.num bi.size bi.high (-bi.kilos) bi.load bi.dis bi.cls bi.rf)) hbi (wr_neg hrbi rfl)
    refine wp_region_V (W0 := w) ((go24, .cells (putF cu24 (0 + (at_ % (((loadedX l0) ++ (loadedX l1)).length)) * 9 + 4) (.int .i64 (-bi.kilos))) 26 (0, 0)) :: (g22, .cells (smC (totalX [bi])) 47 (0, 0)) :: (g18, .cells (smC (plusX (totalX (loadedX l0)) (totalX (loadedX l1)))) 47 (0, 0)) :: (Kl1 ++ (Kl2 ++ Kl16))) (by kernel_rfl) (hW11) ?_
    refine vm (i := 0) (v := .slice (some ⟨go24, 0, none⟩) (((loadedX l0) ++ (loadedX l1)).length) c20) rfl rfl rfl ?_
    have hfl26 : ((((loadedX l0) ++ (loadedX l1)).set (at_ % (((loadedX l0) ++ (loadedX l1)).length)) (Bx.mk bi.id bi.num bi.size bi.high (-bi.kilos) bi.load bi.dis bi.cls bi.rf)) : List Bx).length = (((loadedX l0) ++ (loadedX l1)).length) := by first | (simp only [List.length_set]; done) | (simp only [List.length_set, List.length_take]; omega) | omega
    refine vv (i := 1) (v := smV (totalX (((loadedX l0) ++ (loadedX l1)).set (at_ % (((loadedX l0) ++ (loadedX l1)).length)) (Bx.mk bi.id bi.num bi.size bi.high (-bi.kilos) bi.load bi.dis bi.cls bi.rf)))) rfl rfl rfl (yb_call (f := 26) (args := #[.slice (some ⟨go24, 0, none⟩) (((loadedX l0) ++ (loadedX l1)).length) c20]) (fun _ => by kernel_rfl) fun W hW => (by have h := Total_any (((loadedX l0) ++ (loadedX l1)).set (at_ % (((loadedX l0) ++ (loadedX l1)).length)) (Bx.mk bi.id bi.num bi.size bi.high (-bi.kilos) bi.load bi.dis bi.cls bi.rf)) (some ⟨go24, 0, none⟩) c20 (by first | omega | (simp; done) | (simp; omega) | decide) W (rowx_slv (hW.2 _ (.head _)) R25); rw [hfl26] at h; exact h)) ?_
    refine vv (i := 2) (v := smV (totalX [bi])) rfl rfl rfl (yb_load (n := 5) (off := 0) rfl (by kernel_rfl) (.tail _ (.head _)) Tryd.underlying47 rfl (by kernel_rfl) (Nat.le_refl 5) (by kernel_rfl)) ?_
    refine vv (i := 3) (v := smV (plusX (totalX (((loadedX l0) ++ (loadedX l1)).set (at_ % (((loadedX l0) ++ (loadedX l1)).length)) (Bx.mk bi.id bi.num bi.size bi.high (-bi.kilos) bi.load bi.dis bi.cls bi.rf))) (totalX [bi]))) rfl rfl rfl (yb_call (f := 25) (args := #[smV (totalX (((loadedX l0) ++ (loadedX l1)).set (at_ % (((loadedX l0) ++ (loadedX l1)).length)) (Bx.mk bi.id bi.num bi.size bi.high (-bi.kilos) bi.load bi.dis bi.cls bi.rf))), smV (totalX [bi])]) (fun _ => by kernel_rfl) fun W hW => plus_any (totalX (((loadedX l0) ++ (loadedX l1)).set (at_ % (((loadedX l0) ++ (loadedX l1)).length)) (Bx.mk bi.id bi.num bi.size bi.high (-bi.kilos) bi.load bi.dis bi.cls bi.rf))) (totalX [bi]) (sum_le_small (by first | omega | (simp only [List.length_set]; omega) | (simp; done))) (sum_le_small (by first | omega | (simp only [List.length_set]; omega) | (simp; done))) W) ?_
    refine vv (i := 4) (v := smV (plusX (totalX (loadedX l0)) (totalX (loadedX l1)))) rfl rfl rfl (yb_load (n := 5) (off := 0) rfl (by kernel_rfl) (.tail _ (.tail _ (.head _))) Tryd.underlying47 rfl (by kernel_rfl) (Nat.le_refl 5) (by kernel_rfl)) ?_
    refine vp (i := 5) (v := .bool false) rfl rfl rfl (run_bin rfl (vx := smV (plusX (totalX (((loadedX l0) ++ (loadedX l1)).set (at_ % (((loadedX l0) ++ (loadedX l1)).length)) (Bx.mk bi.id bi.num bi.size bi.high (-bi.kilos) bi.load bi.dis bi.cls bi.rf))) (totalX [bi]))) (vy := smV (plusX (totalX (loadedX l0)) (totalX (loadedX l1)))) (by kernel_rfl) (by kernel_rfl) fun w => neq_sm (decide_eq_true (hlost.trans (total_app _ _))) w) ?_
    refine wpV_done (by kernel_rfl) (fun W12 hW12 => ?_) _
    refine (show Code.wp _ _ _ _ _ from ?_)
    refine wp_cond_false rfl ?_
    refine wp_skip ?_
    refine (show Code.wp _ _ _ _ _ from ?_)
    refine wp_seq ?_
    refine wp_region_L (W0 := w) ((go24, .cells (putF cu24 (0 + (at_ % (((loadedX l0) ++ (loadedX l1)).length)) * 9 + 4) (.int .i64 (-bi.kilos))) 26 (0, 0)) :: (g22, .cells (smC (totalX [bi])) 47 (0, 0)) :: (g18, .cells (smC (plusX (totalX (loadedX l0)) (totalX (loadedX l1)))) 47 (0, 0)) :: (Kl1 ++ (Kl2 ++ Kl16))) (hW12) ?_
    refine lv (v := .bool true) rfl rfl (yb_call (f := 12) (args := #[]) (fun _ => by kernel_rfl) fun W hW => awake_any W (HE.out.keep hW.1)) ?_
    refine lm (v := .bool true) rfl rfl ?_
    refine wpL_done (fun W13 hW13 => ?_)
    refine (show Code.wp _ _ _ _ _ from ?_)
    refine wp_ret ?_
    try simp only [inBlock_ret, then_ret]
    refine bodyPost_ret (v := .bool true) ?_ rfl ?_
    · kernel_rfl
    · exact ⟨rfl, hW13.1⟩
end Go.Proofs.YtjbbeolapaaiaaaDoor
namespace Go.Proofs.YtjbbeolapaaiaaaDoor
open Go Go.RowKit Tw
theorem bad_take {l : List Bx} {m j : Nat} (h : j < m) : badX (l.take m) j = badX l j := by
  unfold badX
  rw [List.getElem?_take_of_lt h]
  cases hb : l[j]? with
  | none => rfl
  | some b =>
    have e1 : seenX (l.take m) j b.num = seenX l j b.num := by
      unfold seenX
      rw [List.take_take, Nat.min_eq_left (by omega)]
    have e2 : prevX (l.take m) j b = prevX l j b := by
      unfold prevX
      rw [List.getElem?_take_of_lt (by omega)]
    simp only [e1, e2]
theorem valid_none {l : List Bx} (hl : l.length ≤ 2000) (h : ∀ j, j < l.length → badX l j = false) : validV l = .tuple #[.int .i64 (-1), .int .i64 0] := by
  unfold validV
  rw [if_neg (by omega), firstBad_none h]
theorem valid_some {l : List Bx} {k : Nat} (hl : l.length ≤ 2000) (hk : k < l.length) (h : ∀ j, j < k → badX l j = false) (hb : badX l k = true) : validV l = .tuple #[.int .i64 ((k : Nat) : Int), .int .i64 60] := by
  unfold validV
  rw [if_neg (by omega), firstBad_some hk h hb]
theorem first_none {l : List Bx} (h : firstBad l = none) : ∀ j, j < l.length → badX l j = false := fun j hj => by
  unfold firstBad at h
  rw [List.find?_eq_none] at h
  simpa using h j (List.mem_range.2 hj)
theorem first_some {l : List Bx} {k : Nat} (h : firstBad l = some k) : k < l.length ∧ badX l k = true ∧ ∀ j, j < k → badX l j = false := by
  unfold firstBad at h
  have hm := List.mem_of_find?_eq_some h
  have hk := List.mem_range.1 hm
  refine ⟨hk, List.find?_some h, fun j hj => ?_⟩
  obtain ⟨_, us, vs, he, ha⟩ := List.find?_eq_some_iff_append.1 h
  have hlen : us.length = k := by
    have h1 : (List.range l.length)[us.length]? = some k := by rw [he]; simp
    obtain ⟨h2, h3⟩ := List.getElem?_eq_some_iff.1 h1
    rwa [List.getElem_range] at h3
  have hjm : j ∈ us := by
    have h1 : (List.range l.length)[j]? = some j := by rw [List.getElem?_range (by omega)]
    rw [he, List.getElem?_append_left (by omega)] at h1
    exact List.mem_of_getElem? h1
  simpa using ha j hjm
theorem valid_take {l : List Bx} {n e : Nat} (hl : l.length ≤ 2000) (hn : n ≤ e) (he : e ≤ l.length) (h : ∀ j, j < e → badX l j = false) : validV (l.take n) = .tuple #[.int .i64 (-1), .int .i64 0] :=
  valid_none (by rw [List.length_take]; omega) fun j hj => by
    rw [List.length_take] at hj
    rw [bad_take (by omega)]
    exact h j (by omega)
theorem valid_upto {l : List Bx} {k : Nat} (hl : l.length ≤ 2000) (hk : k < l.length) (hb : badX l k = true) (h : ∀ j, j < k → badX l j = false) : validV (l.take (k + 1)) = .tuple #[.int .i64 ((k : Nat) : Int), .int .i64 60] :=
  valid_some (by rw [List.length_take]; omega) (by rw [List.length_take]; omega) (fun j hj => by rw [bad_take (by omega)]; exact h j hj) (by rw [bad_take (by omega)]; exact hb)
theorem good_step {l : List Bx} {j : Nat} {a b : Bx} (h : badX l (j + 1) = false) (ha : l[j]? = some a) (hb : l[j + 1]? = some b) : a.id < b.id := by
  unfold badX prevX at h
  rw [hb] at h
  simp only [Nat.add_sub_cancel, ha, Bool.or_eq_false_iff, Bool.and_eq_false_iff, decide_eq_false_iff_not] at h
  omega
theorem good_lt {l : List Bx} {e : Nat} (h : ∀ j, j < e → badX l j = false) : ∀ (d k : Nat) {a b : Bx}, k + d + 1 < e → l[k]? = some a → l[k + d + 1]? = some b → a.id < b.id
  | 0, k, a, b, hk, ha, hb => good_step (h (k + 1) (by omega)) ha hb
  | d + 1, k, a, b, hk, ha, hb => by
    have hlt := (List.getElem?_eq_some_iff.1 hb).1
    have hc : l[k + d + 1]? = some (l[k + d + 1]'(by omega)) := List.getElem?_eq_getElem _
    have h1 := good_lt h d k (by omega) ha hc
    have h2 := good_step (h (k + d + 1 + 1) (by omega)) hc hb
    omega
theorem find_good {l : List Bx} {e k : Nat} {b : Bx} (h : ∀ j, j < e → badX l j = false) (hb : (l.take e)[k]? = some b) : findX (l.take e) b.id = some b := by
  have hlt := (List.getElem?_eq_some_iff.1 hb).1
  rw [List.length_take] at hlt
  rw [List.getElem?_take_of_lt (by omega)] at hb
  unfold findX
  refine find_at (k := k) ?_ (by rw [List.getElem?_take_of_lt (by omega)]; exact hb) (decide_eq_true rfl)
  rw [List.find?_eq_none]
  intro c hc
  rw [List.take_take, Nat.min_eq_left (by omega)] at hc
  obtain ⟨j, hj, hcj⟩ := List.mem_iff_getElem.1 hc
  rw [List.length_take] at hj
  rw [List.getElem_take] at hcj
  have hc2 : l[j]? = some c := by rw [← hcj]; exact List.getElem?_eq_getElem _
  have := good_lt h (k - j - 1) j (by omega) hc2 (by rw [show j + (k - j - 1) + 1 = k from by omega]; exact hb)
  unfold idIs
  simp only [decide_eq_true_eq]
  omega
theorem num_good {l : List Bx} {e k : Nat} {b : Bx} (h : ∀ j, j < e → badX l j = false) (hb : (l.take e)[k]? = some b) (hn : ¬ (b.num = [])) : numberedX (l.take e) b.num = some b := by
  have hlt := (List.getElem?_eq_some_iff.1 hb).1
  rw [List.length_take] at hlt
  rw [List.getElem?_take_of_lt (by omega)] at hb
  unfold numberedX
  rw [if_neg hn]
  refine find_at (k := k) ?_ (by rw [List.getElem?_take_of_lt (by omega)]; exact hb) (decide_eq_true rfl)
  rw [List.find?_eq_none]
  intro c hc
  rw [List.take_take, Nat.min_eq_left (by omega)] at hc
  have hg := h k (by omega)
  unfold badX seenX at hg
  rw [hb] at hg
  simp only [Bool.or_eq_false_iff, Bool.and_eq_false_iff, decide_eq_false_iff_not, List.any_eq_false] at hg
  have h2 := hg.1.2
  unfold numIs
  rcases h2 with h2 | h2
  · exact absurd hn h2
  · simpa using h2 c hc
theorem num_no {l : List Bx} {n : List UInt8} (h : n = []) : numberedX l n = none := by unfold numberedX; rw [if_pos h]
theorem find_is {l : List Bx} {p : Option Addr} {c : Nat} {n : Int} {b : Bx} (h : findX l n = some b) (hl : l.length ≤ 4000000000) (W : World) (hp : SLV W p (bcs l)) : Calls Tryd.prog 30 #[.slice p l.length c, .int .i64 n] W fun e w' => e = .returned (.tuple #[bxV b, .bool true]) ∧ Below W.heap.size W w' := by
  have h1 := Find_any l p c n hl W hp
  rw [h] at h1
  exact h1
theorem num_is {l : List Bx} {p : Option Addr} {c : Nat} {n : List UInt8} {b : Bx} (h : numberedX l n = some b) (hl : l.length ≤ 4000000000) (W : World) (hp : SLV W p (bcs l)) : Calls Tryd.prog 31 #[.slice p l.length c, strV n] W fun e w' => e = .returned (.tuple #[.int .i64 b.id, .bool true]) ∧ Below W.heap.size W w' := by
  have h1 := Numbered_any l p c n hl W hp
  rw [h] at h1
  exact h1
theorem num_isn {l : List Bx} {p : Option Addr} {c : Nat} {n : List UInt8} (h : numberedX l n = none) (hl : l.length ≤ 4000000000) (W : World) (hp : SLV W p (bcs l)) : Calls Tryd.prog 31 #[.slice p l.length c, strV n] W fun e w' => e = .returned (.tuple #[.int .i64 0, .bool false]) ∧ Below W.heap.size W w' := by
  have h1 := Numbered_any l p c n hl W hp
  rw [h] at h1
  exact h1
theorem bs_row {W0 : Base} {g : Nat} {cur : Array Value} {l : List Bx} {t : TypeId} {fr : Nat × Nat} (h : RowX cur l) : BS W0 (some ⟨g, 0, none⟩) l [(g, .cells cur t fr)] := fun W hW => rowx_slv (hW.2 _ (.head _)) h
set_option maxRecDepth 100000 in
set_option maxHeartbeats 40000000 in
theorem BoxFirst_law (w : World) (hE : Env w) (l0 : List Sk) (p0 : Option Addr) (c0 : Nat) (hb0 : SLV w p0 (l0.flatMap skC)) (hok0 : ∀ x ∈ l0, skOk x) (hl0 : l0.length ≤ maxLen) (hc0 : l0.length ≤ c0) (a1 : Int) (rr1 : 0 ≤ a1 ∧ a1 ≤ 255) (a2 : Int) (rr2 : 0 ≤ a2 ∧ a2 ≤ 255) : Calls Tryd.prog 9 #[.slice p0 l0.length c0, .int .u8 a1, .int .u8 a2] w fun e w' => e = .returned (.bool true) ∧ Below w.heap.size w w' := by
  have HE := Lib.hid hE
  clear hE
  obtain ⟨at_, rfl⟩ : ∃ n : Nat, a1 = (n : Int) := ⟨a1.toNat, by omega⟩
  obtain ⟨how, rfl⟩ : ∃ n : Nat, a2 = (n : Int) := ⟨a2.toNat, by omega⟩
  have HB0 := Lib.hid hb0
  clear hb0
  have hll0 : l0.length ≤ 9223372036854775807 := by unfold maxLen at hl0; omega
  have hla0 := loaded_len l0
  have hra0 := loaded_right hok0
  go_enter Tryd.func9, Tryd.ntmps9
  refine wp_seq ?_
  refine wp_region_L (W0 := w) [] (KS.start w) ?_
  refine lm (v := .bool false) rfl rfl ?_
  refine wpL_done (fun W1 hW1 => ?_)
  refine (show Code.wp _ _ _ _ _ from ?_)
  refine wp_seq ?_
  refine wp_region_L (W0 := w) [] (hW1) ?_
  refine lm (v := .slice p0 l0.length c0) rfl rfl ?_
  refine wpL_c (f := 24) (args := #[.slice p0 l0.length c0]) (fun v K9 => ∃ Kl, OwnL w 26 9 v (loadedX l0).length (bcs (loadedX l0)) Kl ∧ (∀ p ∈ ([] : List (Nat × Obj)), ∀ q ∈ Kl, q.1 ≠ p.1) ∧ K9 = [] ++ Kl) rfl (by kernel_rfl) (fun _ => (by kernel_rfl)) (fun W hW => calls_out hW (Loaded_any l0 p0 c0 hok0 hll0 hc0 W (HB0.out.keep hW.1))) (fun _ => by simp only [List.setIfInBounds_toArray, List.set_cons_succ, List.set_cons_zero] <;> rfl) ?_
  rintro v1 Kl1 ⟨_, O1, N1, rfl⟩
  refine lm (v := v1) rfl rfl ?_
  refine wpL_done (fun W2 hW2 => ?_)
  refine (show Code.wp _ _ _ _ _ from ?_)
  obtain ⟨p2, c2, rfl, hc2, HB2⟩ := own_bs O1
  refine wp_joins (fun az wz => ∃ (pn : Option Addr) (cn : Nat) (nl : List Bx) (Tn : List (Nat × Obj)) (nn : Nat), (BS w pn nl Tn) ∧ (nl.length ≤ 60) ∧ (nl.length ≤ cn) ∧ (nl.length = nn) ∧ JoinR (fun zq => List.toArray ((.slice p0 l0.length c0) :: (.int .u8 ((at_ : Nat) : Int)) :: (.int .u8 ((how : Nat) : Int)) :: undef :: undef :: undef :: (.bool false) :: (.slice pn nn cn) :: zq 8 :: undef :: undef :: undef :: undef :: undef :: undef :: undef :: undef :: undef :: undef :: undef :: undef :: undef :: undef :: (.slice p0 l0.length c0) :: (.slice p2 ((loadedX l0).length) c2) :: zq 25 :: zq 26 :: zq 27 :: zq 28 :: zq 29 :: zq 30 :: zq 31 :: zq 32 :: zq 33 :: zq 34 :: zq 35 :: zq 36 :: zq 37 :: zq 38 :: zq 39 :: zq 40 :: zq 41 :: zq 42 :: zq 43 :: zq 44 :: zq 45 :: zq 46 :: zq 47 :: zq 48 :: zq 49 :: zq 50 :: zq 51 :: zq 52 :: zq 53 :: zq 54 :: zq 55 :: zq 56 :: zq 57 :: zq 58 :: zq 59 :: zq 60 :: zq 61 :: zq 62 :: zq 63 :: zq 64 :: undef :: undef :: undef :: undef :: undef :: undef :: undef :: undef :: undef :: undef :: undef :: undef :: undef :: undef :: undef :: undef :: undef :: undef :: undef :: undef :: undef :: undef :: undef :: undef :: undef :: undef :: undef :: undef :: undef :: undef :: undef :: undef :: undef :: undef :: undef :: undef :: undef :: undef :: undef :: undef :: undef :: undef :: undef :: undef :: undef :: undef :: undef :: undef :: undef :: undef :: undef :: undef :: undef :: undef :: undef :: undef :: undef :: undef :: undef :: undef :: undef :: undef :: undef :: undef :: undef :: undef :: undef :: undef :: undef :: undef :: undef :: undef :: undef :: undef :: undef :: undef :: undef :: undef :: undef :: undef :: undef :: undef :: undef :: undef :: undef :: undef :: undef :: undef :: undef :: undef :: undef :: undef :: undef :: undef :: undef :: undef :: undef :: undef :: undef :: undef :: undef :: undef :: undef :: undef :: undef :: undef :: undef :: undef :: undef :: [])) w Tn az wz) 1 ?_ ?_
  · refine (show Code.wp _ _ _ _ _ from ?_)
    refine wp_seq ?_
    refine wp_region_L (W0 := w) Kl1 (hW2) ?_
    refine lm (v := .slice p2 ((loadedX l0).length) c2) rfl rfl ?_
    refine lp (v := .int .i64 ((((loadedX l0).length) : Nat) : Int)) rfl rfl (run_lenL (p := p2) (cap := c2) (n := ((loadedX l0).length)) rfl Tryd.underlying22 (by kernel_rfl)) ?_
    refine lp (v := .bool (decide (0 < ((loadedX l0).length)))) rfl rfl (run_bin rfl (vx := (.int .i64 ((((loadedX l0).length) : Nat) : Int))) (vy := (.int .i64 ((0 : Nat) : Int))) (by kernel_rfl) (by kernel_rfl) fun w => bn_gtr rfl w) ?_
    refine wpL_done (fun W3 hW3 => ?_)
    refine (show Code.wp _ _ _ _ _ from ?_)
    cases hd1 : (decide (0 < ((loadedX l0).length))) with
    | false =>
      have h1 : ¬ (0 < ((loadedX l0).length)) := of_decide_eq_false hd1
      clear hd1
      refine wp_cond_false rfl ?_
      refine wp_skip ?_
      exact ⟨p2, c2, (loadedX l0), Kl1, (loadedX l0).length, HB2, (by omega), (by omega), rfl, join_mk (by kernel_rfl) (hW3.sub (fun p hp => by first | exact hp | (simp only [List.mem_cons, List.mem_append, List.nil_append, List.not_mem_nil, or_assoc, or_false, false_or] at hp ⊢ <;> grind)))⟩
    | true =>
      have h1 : 0 < ((loadedX l0).length) := of_decide_eq_true hd1
      clear hd1
      have hmod := Nat.mod_lt at_ h1
      refine wp_cond_true rfl ?_
      refine wp_seq ?_
      obtain ⟨go3, co3, cu3, rq3, Bo3, Ro3, rk3⟩ := own_some O1 h1
      cases rq3
      subst rk3
      refine wp_region_L (W0 := w) [(go3, .cells cu3 26 (0, 0))] ((hW3.sub (fun p hp => by simp only [List.mem_cons, List.mem_append, List.nil_append, List.not_mem_nil, or_assoc, or_false, false_or, List.cons_append, List.append_assoc] at hp ⊢ <;> grind))) ?_
      refine lm (v := .slice (some ⟨go3, 0, none⟩) ((loadedX l0).length) c2) rfl rfl ?_
      refine lm (v := .int .u8 ((at_ : Nat) : Int)) rfl rfl ?_
      refine lp (v := .int .i64 ((at_ : Nat) : Int)) rfl rfl (run_conv rfl (vx := (.int .u8 ((at_ : Nat) : Int))) (by kernel_rfl) fun w => cv_int Tryd.underlying5 Tryd.underlying3 (wr_i64 (by omega)) w) ?_
      refine lm (v := .slice (some ⟨go3, 0, none⟩) ((loadedX l0).length) c2) rfl rfl ?_
      refine lp (v := .int .i64 ((((loadedX l0).length) : Nat) : Int)) rfl rfl (run_lenL (p := (some ⟨go3, 0, none⟩)) (cap := c2) (n := ((loadedX l0).length)) rfl Tryd.underlying22 (by kernel_rfl)) ?_
      refine lp (v := .int .i64 (((at_ % ((loadedX l0).length)) : Nat) : Int)) rfl rfl (run_bin rfl (vx := (.int .i64 ((at_ : Nat) : Int))) (vy := (.int .i64 ((((loadedX l0).length) : Nat) : Int))) (by kernel_rfl) (by kernel_rfl) fun w => bn_rem (z := (at_ % ((loadedX l0).length))) rfl (by omega) w) ?_
      refine lp (v := .pointer (some ⟨go3, 0 + (at_ % ((loadedX l0).length)) * 9, none⟩)) rfl rfl (run_idxL (j := .i64) (n := ((loadedX l0).length)) (cap := c2) (b := go3) (off := 0) (k := (at_ % ((loadedX l0).length))) (sz := 9) rfl Tryd.underlying22 (by kernel_rfl) (by kernel_rfl) (by kernel_rfl) (by omega)) ?_
      refine lm (v := .pointer (some ⟨go3, 0 + (at_ % ((loadedX l0).length)) * 9, none⟩)) rfl rfl ?_
      refine wpL_done (fun W4 hW4 => ?_)
      refine (show Code.wp _ _ _ _ _ from ?_)
      refine wp_seq ?_
      refine wp_region_L (W0 := w) [(go3, .cells cu3 26 (0, 0))] (hW4) ?_
      refine lm (v := .int .u8 ((how : Nat) : Int)) rfl rfl ?_
      refine lp (v := .int .u8 (((how % 6) : Nat) : Int)) rfl rfl (run_bin rfl (vx := (.int .u8 ((how : Nat) : Int))) (vy := (.int .u8 ((6 : Nat) : Int))) (by kernel_rfl) (by kernel_rfl) fun w => bn_rem (z := (how % 6)) rfl (by omega) w) ?_
      refine wpL_done (fun W5 hW5 => ?_)
      refine (show Code.wp _ _ _ _ _ from ?_)
      refine wp_block ?_
      refine wp_seq ?_
      refine wp_region_L (W0 := w) [(go3, .cells cu3 26 (0, 0))] (hW5) ?_
      refine lp (v := .bool (decide ((how % 6) = 0))) rfl rfl (run_bin rfl (vx := (.int .u8 (((how % 6) : Nat) : Int))) (vy := (.int .u8 ((0 : Nat) : Int))) (by kernel_rfl) (by kernel_rfl) fun w => bn_eql rfl w) ?_
      refine lm (v := .bool (decide ((how % 6) = 0))) rfl rfl ?_
      refine wpL_done (fun W6 hW6 => ?_)
      refine (show Code.wp _ _ _ _ _ from ?_)
      cases hd2 : (decide ((how % 6) = 0)) with
      | false =>
        have h2 : ¬ ((how % 6) = 0) := of_decide_eq_false hd2
        clear hd2
        refine wp_cond_false rfl ?_
        refine wp_seq ?_
        refine wp_region_L (W0 := w) [(go3, .cells cu3 26 (0, 0))] (hW6) ?_
        refine lp (v := .bool (decide ((how % 6) = 1))) rfl rfl (run_bin rfl (vx := (.int .u8 (((how % 6) : Nat) : Int))) (vy := (.int .u8 ((1 : Nat) : Int))) (by kernel_rfl) (by kernel_rfl) fun w => bn_eql rfl w) ?_
        refine lm (v := .bool (decide ((how % 6) = 1))) rfl rfl ?_
        refine wpL_done (fun W7 hW7 => ?_)
        refine (show Code.wp _ _ _ _ _ from ?_)
        cases hd3 : (decide ((how % 6) = 1)) with
        | false =>
          have h3 : ¬ ((how % 6) = 1) := of_decide_eq_false hd3
          clear hd3
          refine wp_cond_false rfl ?_
          refine wp_seq ?_
          refine wp_region_L (W0 := w) [(go3, .cells cu3 26 (0, 0))] (hW7) ?_
          refine lp (v := .bool (decide ((how % 6) = 2))) rfl rfl (run_bin rfl (vx := (.int .u8 (((how % 6) : Nat) : Int))) (vy := (.int .u8 ((2 : Nat) : Int))) (by kernel_rfl) (by kernel_rfl) fun w => bn_eql rfl w) ?_
          refine lm (v := .bool (decide ((how % 6) = 2))) rfl rfl ?_
          refine wpL_done (fun W8 hW8 => ?_)
          refine (show Code.wp _ _ _ _ _ from ?_)
          cases hd4 : (decide ((how % 6) = 2)) with
          | false =>
            have h4 : ¬ ((how % 6) = 2) := of_decide_eq_false hd4
            clear hd4
            refine wp_cond_false rfl ?_
            refine wp_seq ?_
            refine wp_region_L (W0 := w) [(go3, .cells cu3 26 (0, 0))] (hW8) ?_
            refine lp (v := .bool (decide ((how % 6) = 3))) rfl rfl (run_bin rfl (vx := (.int .u8 (((how % 6) : Nat) : Int))) (vy := (.int .u8 ((3 : Nat) : Int))) (by kernel_rfl) (by kernel_rfl) fun w => bn_eql rfl w) ?_
            refine lm (v := .bool (decide ((how % 6) = 3))) rfl rfl ?_
            refine wpL_done (fun W9 hW9 => ?_)
            refine (show Code.wp _ _ _ _ _ from ?_)
            cases hd5 : (decide ((how % 6) = 3)) with
            | false =>
              have h5 : ¬ ((how % 6) = 3) := of_decide_eq_false hd5
              clear hd5
              refine wp_cond_false rfl ?_
              refine wp_skip ?_
              have hll : (loadedX l0).length = (loadedX l0).length := by simp only [List.length_set]
              exact ⟨(some ⟨go3, 0, none⟩), c2, (loadedX l0), [(go3, .cells cu3 26 (0, 0))], (loadedX l0).length, (bs_row (rowx_own Ro3)), (by rw [hll]; omega), (by rw [hll]; exact Ro3.2.2.1), hll, join_mk (by kernel_rfl) (hW9.sub (fun p hp => by first | exact hp | (simp only [List.mem_cons, List.mem_append, List.nil_append, List.not_mem_nil, or_assoc, or_false, false_or] at hp ⊢ <;> grind)))⟩
            | true =>
              have h5 : (how % 6) = 3 := of_decide_eq_true hd5
              clear hd5
              refine wp_cond_true rfl ?_
              refine wp_region_L (W0 := w) [(go3, .cells cu3 26 (0, 0))] (hW9) ?_
              refine lm (v := .pointer (some ⟨go3, 0 + (at_ % ((loadedX l0).length)) * 9, none⟩)) rfl rfl ?_
              refine lm (v := .pointer (some ⟨go3, 0 + (at_ % ((loadedX l0).length)) * 9, none⟩)) rfl rfl ?_
              refine lm (v := .pointer (some ⟨go3, 0 + (at_ % ((loadedX l0).length)) * 9, none⟩)) rfl rfl ?_
              refine lm (v := .pointer (some ⟨go3, 0 + (at_ % ((loadedX l0).length)) * 9 + 5, none⟩)) rfl rfl ?_
              obtain ⟨b4, hy4⟩ : ∃ b, ((loadedX l0) : List Bx)[(at_ % ((loadedX l0).length))]? = some b := ⟨_, List.getElem?_eq_getElem (by first | omega | (simp only [List.length_set]; omega))⟩
              refine lv (v := .int .i64 b4.load) rfl rfl (yb_cell (off := 0 + (at_ % ((loadedX l0).length)) * 9 + 5) rfl (by kernel_rfl) (.head _) Tryd.underlying3 rfl (RowX.get (rowx_own Ro3) hy4 5 _ rfl)) ?_
              refine lm (v := .pointer (some ⟨go3, 0 + (at_ % ((loadedX l0).length)) * 9, none⟩)) rfl rfl ?_
              refine lm (v := .pointer (some ⟨go3, 0 + (at_ % ((loadedX l0).length)) * 9 + 6, none⟩)) rfl rfl ?_
              obtain ⟨R5, Q5⟩ := RowX.putf (fo := 6) (b' := (Bx.mk b4.id b4.num b4.size b4.high b4.kilos b4.load b4.load b4.cls b4.rf)) (v := .int .i64 b4.load) (rowx_own Ro3) hy4 (by omega) rfl
              refine wpL_s [(go3, .cells (putF cu3 (0 + (at_ % ((loadedX l0).length)) * 9 + 6) (.int .i64 b4.load)) 26 (0, 0))] rfl rfl (st_fld (k := (at_ % ((loadedX l0).length))) (fo := 6) (v := .int .i64 b4.load) rfl (by kernel_rfl) (by kernel_rfl) (.head _) Bo3 (by kernel_rfl) rfl rfl (rowx_own Ro3) (List.getElem?_eq_some_iff.1 hy4).1 (by omega) (List.forall_mem_cons.2 ⟨.inl rfl, (List.forall_mem_nil _)⟩)) ?_
              refine wpL_done (fun W10 hW10 => ?_)
              have hll : ((loadedX l0).set (at_ % ((loadedX l0).length)) (Bx.mk b4.id b4.num b4.size b4.high b4.kilos b4.load b4.load b4.cls b4.rf)).length = (loadedX l0).length := by simp only [List.length_set]
              exact ⟨(some ⟨go3, 0, none⟩), c2, ((loadedX l0).set (at_ % ((loadedX l0).length)) (Bx.mk b4.id b4.num b4.size b4.high b4.kilos b4.load b4.load b4.cls b4.rf)), [(go3, .cells (putF cu3 (0 + (at_ % ((loadedX l0).length)) * 9 + 6) (.int .i64 b4.load)) 26 (0, 0))], (loadedX l0).length, (bs_row R5), (by rw [hll]; omega), (by rw [hll]; exact Ro3.2.2.1), hll, join_mk (by kernel_rfl) (hW10.sub (fun p hp => by first | exact hp | (simp only [List.mem_cons, List.mem_append, List.nil_append, List.not_mem_nil, or_assoc, or_false, false_or] at hp ⊢ <;> grind)))⟩
          | true =>
            have h4 : (how % 6) = 2 := of_decide_eq_true hd4
            clear hd4
            refine wp_cond_true rfl ?_
            refine wp_region_L (W0 := w) [(go3, .cells cu3 26 (0, 0))] (hW8) ?_
            refine lm (v := .pointer (some ⟨go3, 0 + (at_ % ((loadedX l0).length)) * 9, none⟩)) rfl rfl ?_
            refine lm (v := .pointer (some ⟨go3, 0 + (at_ % ((loadedX l0).length)) * 9, none⟩)) rfl rfl ?_
            refine lm (v := .pointer (some ⟨go3, 0 + (at_ % ((loadedX l0).length)) * 9 + 4, none⟩)) rfl rfl ?_
            obtain ⟨b6, hy6⟩ : ∃ b, ((loadedX l0) : List Bx)[(at_ % ((loadedX l0).length))]? = some b := ⟨_, List.getElem?_eq_getElem (by first | omega | (simp only [List.length_set]; omega))⟩
            obtain ⟨R7, Q7⟩ := RowX.putf (fo := 4) (b' := (Bx.mk b6.id b6.num b6.size b6.high 0 b6.load b6.dis b6.cls b6.rf)) (v := .int .i64 0) (rowx_own Ro3) hy6 (by omega) rfl
            refine wpL_s [(go3, .cells (putF cu3 (0 + (at_ % ((loadedX l0).length)) * 9 + 4) (.int .i64 0)) 26 (0, 0))] rfl rfl (st_fld (k := (at_ % ((loadedX l0).length))) (fo := 4) (v := .int .i64 0) rfl (by kernel_rfl) (by kernel_rfl) (.head _) Bo3 (by kernel_rfl) rfl rfl (rowx_own Ro3) (List.getElem?_eq_some_iff.1 hy6).1 (by omega) (List.forall_mem_cons.2 ⟨.inl rfl, (List.forall_mem_nil _)⟩)) ?_
            refine wpL_done (fun W11 hW11 => ?_)
            have hll : ((loadedX l0).set (at_ % ((loadedX l0).length)) (Bx.mk b6.id b6.num b6.size b6.high 0 b6.load b6.dis b6.cls b6.rf)).length = (loadedX l0).length := by simp only [List.length_set]
            exact ⟨(some ⟨go3, 0, none⟩), c2, ((loadedX l0).set (at_ % ((loadedX l0).length)) (Bx.mk b6.id b6.num b6.size b6.high 0 b6.load b6.dis b6.cls b6.rf)), [(go3, .cells (putF cu3 (0 + (at_ % ((loadedX l0).length)) * 9 + 4) (.int .i64 0)) 26 (0, 0))], (loadedX l0).length, (bs_row R7), (by rw [hll]; omega), (by rw [hll]; exact Ro3.2.2.1), hll, join_mk (by kernel_rfl) (hW11.sub (fun p hp => by first | exact hp | (simp only [List.mem_cons, List.mem_append, List.nil_append, List.not_mem_nil, or_assoc, or_false, false_or] at hp ⊢ <;> grind)))⟩
        | true =>
          have h3 : (how % 6) = 1 := of_decide_eq_true hd3
          clear hd3
          refine wp_cond_true rfl ?_
          refine wp_region_L (W0 := w) [(go3, .cells cu3 26 (0, 0))] (hW7) ?_
          refine lm (v := .pointer (some ⟨go3, 0 + (at_ % ((loadedX l0).length)) * 9, none⟩)) rfl rfl ?_
          refine lm (v := .slice (some ⟨go3, 0, none⟩) ((loadedX l0).length) c2) rfl rfl ?_
          refine lp (v := .pointer (some ⟨go3, 0 + 0 * 9, none⟩)) rfl rfl (run_idxL (j := .i64) (n := ((loadedX l0).length)) (cap := c2) (b := go3) (off := 0) (k := 0) (sz := 9) rfl Tryd.underlying22 (by kernel_rfl) (by kernel_rfl) (by kernel_rfl) (by omega)) ?_
          refine lm (v := .pointer (some ⟨go3, 0 + 0 * 9 + 1, none⟩)) rfl rfl ?_
          obtain ⟨b8, hy8⟩ : ∃ b, ((loadedX l0) : List Bx)[0]? = some b := ⟨_, List.getElem?_eq_getElem (by first | omega | (simp only [List.length_set]; omega))⟩
          refine lv (v := strV b8.num) rfl rfl (yb_cell (off := 0 + 0 * 9 + 1) rfl (by kernel_rfl) (.head _) Tryd.underlying9 rfl (RowX.get (rowx_own Ro3) hy8 1 _ rfl)) ?_
          refine lm (v := .pointer (some ⟨go3, 0 + (at_ % ((loadedX l0).length)) * 9, none⟩)) rfl rfl ?_
          refine lm (v := .pointer (some ⟨go3, 0 + (at_ % ((loadedX l0).length)) * 9 + 1, none⟩)) rfl rfl ?_
          obtain ⟨b9, hy9⟩ : ∃ b, ((loadedX l0) : List Bx)[(at_ % ((loadedX l0).length))]? = some b := ⟨_, List.getElem?_eq_getElem (by first | omega | (simp only [List.length_set]; omega))⟩
          obtain ⟨R10, Q10⟩ := RowX.putf (fo := 1) (b' := (Bx.mk b9.id b8.num b9.size b9.high b9.kilos b9.load b9.dis b9.cls b9.rf)) (v := strV b8.num) (rowx_own Ro3) hy9 (by omega) rfl
          refine wpL_s [(go3, .cells (putF cu3 (0 + (at_ % ((loadedX l0).length)) * 9 + 1) (strV b8.num)) 26 (0, 0))] rfl rfl (st_fld (k := (at_ % ((loadedX l0).length))) (fo := 1) (v := strV b8.num) rfl (by kernel_rfl) (by kernel_rfl) (.head _) Bo3 (by kernel_rfl) rfl rfl (rowx_own Ro3) (List.getElem?_eq_some_iff.1 hy9).1 (by omega) (List.forall_mem_cons.2 ⟨.inl rfl, (List.forall_mem_nil _)⟩)) ?_
          refine wpL_done (fun W12 hW12 => ?_)
          have hll : ((loadedX l0).set (at_ % ((loadedX l0).length)) (Bx.mk b9.id b8.num b9.size b9.high b9.kilos b9.load b9.dis b9.cls b9.rf)).length = (loadedX l0).length := by simp only [List.length_set]
          exact ⟨(some ⟨go3, 0, none⟩), c2, ((loadedX l0).set (at_ % ((loadedX l0).length)) (Bx.mk b9.id b8.num b9.size b9.high b9.kilos b9.load b9.dis b9.cls b9.rf)), [(go3, .cells (putF cu3 (0 + (at_ % ((loadedX l0).length)) * 9 + 1) (strV b8.num)) 26 (0, 0))], (loadedX l0).length, (bs_row R10), (by rw [hll]; omega), (by rw [hll]; exact Ro3.2.2.1), hll, join_mk (by kernel_rfl) (hW12.sub (fun p hp => by first | exact hp | (simp only [List.mem_cons, List.mem_append, List.nil_append, List.not_mem_nil, or_assoc, or_false, false_or] at hp ⊢ <;> grind)))⟩
      | true =>
        have h2 : (how % 6) = 0 := of_decide_eq_true hd2
        clear hd2
        refine wp_cond_true rfl ?_
        refine wp_region_L (W0 := w) [(go3, .cells cu3 26 (0, 0))] (hW6) ?_
        refine lm (v := .pointer (some ⟨go3, 0 + (at_ % ((loadedX l0).length)) * 9, none⟩)) rfl rfl ?_
        refine lm (v := .pointer (some ⟨go3, 0 + (at_ % ((loadedX l0).length)) * 9, none⟩)) rfl rfl ?_
        refine lm (v := .pointer (some ⟨go3, 0 + (at_ % ((loadedX l0).length)) * 9, none⟩)) rfl rfl ?_
        obtain ⟨b11, hy11⟩ : ∃ b, ((loadedX l0) : List Bx)[(at_ % ((loadedX l0).length))]? = some b := ⟨_, List.getElem?_eq_getElem (by first | omega | (simp only [List.length_set]; omega))⟩
        obtain ⟨R12, Q12⟩ := RowX.putf (fo := 0) (b' := (Bx.mk 1 b11.num b11.size b11.high b11.kilos b11.load b11.dis b11.cls b11.rf)) (v := .int .i64 1) (rowx_own Ro3) hy11 (by omega) rfl
        refine wpL_s [(go3, .cells (putF cu3 (0 + (at_ % ((loadedX l0).length)) * 9 + 0) (.int .i64 1)) 26 (0, 0))] rfl rfl (st_fld (k := (at_ % ((loadedX l0).length))) (fo := 0) (v := .int .i64 1) rfl (by kernel_rfl) (by kernel_rfl) (.head _) Bo3 (by kernel_rfl) rfl rfl (rowx_own Ro3) (List.getElem?_eq_some_iff.1 hy11).1 (by omega) (List.forall_mem_cons.2 ⟨.inl rfl, (List.forall_mem_nil _)⟩)) ?_
        refine wpL_done (fun W13 hW13 => ?_)
        have hll : ((loadedX l0).set (at_ % ((loadedX l0).length)) (Bx.mk 1 b11.num b11.size b11.high b11.kilos b11.load b11.dis b11.cls b11.rf)).length = (loadedX l0).length := by simp only [List.length_set]
        exact ⟨(some ⟨go3, 0, none⟩), c2, ((loadedX l0).set (at_ % ((loadedX l0).length)) (Bx.mk 1 b11.num b11.size b11.high b11.kilos b11.load b11.dis b11.cls b11.rf)), [(go3, .cells (putF cu3 (0 + (at_ % ((loadedX l0).length)) * 9 + 0) (.int .i64 1)) 26 (0, 0))], (loadedX l0).length, (bs_row R12), (by rw [hll]; omega), (by rw [hll]; exact Ro3.2.2.1), hll, join_mk (by kernel_rfl) (hW13.sub (fun p hp => by first | exact hp | (simp only [List.mem_cons, List.mem_append, List.nil_append, List.not_mem_nil, or_assoc, or_false, false_or] at hp ⊢ <;> grind)))⟩
  · rintro a1 W1j ⟨pn, cn, nl, Tn, nn, hbs, hnl, hcn, hnn, ⟨zx1, rfl⟩, hW1j⟩
    dsimp only [cutT]
    rcases hfb : firstBad nl with _ | kb
    · have hgood0 := first_none hfb
      have hgood : ∀ j, j < nn → badX nl j = false := fun j hj => hgood0 j (by omega)
      refine wp_seq ?_
      refine wp_region_L (W0 := w) Tn (hW1j) ?_
      refine lm (v := .slice pn nn cn) rfl rfl ?_
      have hfl13 : (nl : List Bx).length = nn := by first | (simp only [List.length_set]; done) | (simp only [List.length_set, List.length_take]; omega) | omega
      refine lv (v := .tuple #[.int .i64 (-1), .int .i64 0]) rfl rfl (yb_call (f := 29) (args := #[.slice pn nn cn]) (fun _ => by kernel_rfl) fun W hW => (by have h := valid_is (l := nl) (p := pn) (c := cn) (valid_none (by omega) hgood0) (by first | omega | (rw [List.length_take]; omega)) W (hbs W (hW.sub (fun p hp => by simp only [List.mem_cons, List.mem_append, List.nil_append, List.not_mem_nil, or_assoc, or_false, false_or, hp, true_or, or_true]))); rw [hfl13] at h; exact h)) ?_
      refine lm (v := .tuple #[.int .i64 (-1), .int .i64 0]) rfl rfl ?_
      refine lm (v := .int .i64 (-1)) rfl rfl ?_
      refine lm (v := .int .i64 0) rfl rfl ?_
      refine lm (v := .int .i64 (-1)) rfl rfl ?_
      refine lm (v := .int .i64 0) rfl rfl ?_
      refine wpL_done (fun W14 hW14 => ?_)
      refine (show Code.wp _ _ _ _ _ from ?_)
      refine wp_seq ?_
      refine wp_region_L (W0 := w) Tn (hW14) ?_
      refine lm (v := .slice pn nn cn) rfl rfl ?_
      refine lp (v := .int .i64 ((nn : Nat) : Int)) rfl rfl (run_lenL (p := pn) (cap := cn) (n := nn) rfl Tryd.underlying22 (by kernel_rfl)) ?_
      refine lm (v := .int .i64 ((nn : Nat) : Int)) rfl rfl ?_
      refine wpL_done (fun W15 hW15 => ?_)
      refine (show Code.wp _ _ _ _ _ from ?_)
      refine wp_seq ?_
      refine wp_seq ?_
      refine wp_region_L (W0 := w) Tn (hW15) ?_
      refine lm (v := .int .i64 0) rfl rfl ?_
      refine lm (v := .bool false) rfl rfl ?_
      refine wpL_done (fun W16 hW16 => ?_)
      refine (show Code.wp _ _ _ _ _ from ?_)
      refine wp_cond_false rfl ?_
      refine wp_seq ?_
      refine wp_region_L (W0 := w) Tn (hW16) ?_
      refine lm (v := .int .i64 0) rfl rfl ?_
      refine lm (v := .bool false) rfl rfl ?_
      refine lm (v := .bool false) rfl rfl ?_
      refine lm (v := .int .i64 (-1)) rfl rfl ?_
      refine lm (v := .bool false) rfl rfl ?_
      refine lm (v := .bool false) rfl rfl ?_
      refine wpL_done (fun W17 hW17 => ?_)
      refine (show Code.wp _ _ _ _ _ from ?_)
      refine wp_cond_false rfl ?_
      refine wp_skip ?_
      refine (show Code.wp _ _ _ _ _ from ?_)
      refine wp_seq ?_
      refine wp_seq ?_
      refine wp_region_L (W0 := w) Tn (hW17) ?_
      refine lm (v := .int .i64 ((nn : Nat) : Int)) rfl rfl ?_
      refine lp (v := .int .i64 (((nn + 1) : Nat) : Int)) rfl rfl (run_bin rfl (vx := (.int .i64 ((nn : Nat) : Int))) (vy := (.int .i64 ((1 : Nat) : Int))) (by kernel_rfl) (by kernel_rfl) fun w => bn_add (z := (nn + 1)) rfl (wr_i64 (by omega)) w) ?_
      refine lm (v := .int .i64 0) rfl rfl ?_
      refine wpL_done (fun W18 hW18 => ?_)
      refine (show Code.wp _ _ _ _ _ from ?_)
      refine wp_block ?_
      go_loopw [106] (fun u106 wr => ∃ (n : Nat), (n ≤ (nn + 1)) ∧ u106 = .int .i64 ((n : Nat) : Int) ∧ KS w Tn wr) (fun u106 _ => (nn + 1) - (intOf u106).toNat)
      case atStart => exact ⟨0, (Nat.zero_le _), rfl, (hW18.sub (fun p hp => by first | exact hp | (simp only [List.mem_cons, List.mem_append, List.nil_append, List.not_mem_nil, or_assoc, or_false, false_or] at hp ⊢ <;> grind)))⟩
      case round =>
        obtain ⟨n, hn, rfl, hL19⟩ := hrel
        refine wp_seq ?_
        refine wp_region_L (W0 := w) Tn (hL19) ?_
        refine lp (v := .bool (decide (n < (nn + 1)))) rfl rfl (run_bin rfl (vx := (.int .i64 ((n : Nat) : Int))) (vy := (.int .i64 (((nn + 1) : Nat) : Int))) (by kernel_rfl) (by kernel_rfl) fun w => bn_lss rfl w) ?_
        refine wpL_done (fun W20 hW20 => ?_)
        refine (show Code.wp _ _ _ _ _ from ?_)
        refine wp_seq ?_
        cases hd6 : (decide (n < (nn + 1))) with
        | false =>
          have h6 : ¬ (n < (nn + 1)) := of_decide_eq_false hd6
          clear hd6
          refine wp_cond_false rfl ?_
          refine wp_exit ?_
          refine (show Code.wp _ _ _ _ _ from ?_)
          refine wp_seq ?_
          refine wp_seq ?_
          refine wp_region_L (W0 := w) Tn (hW20) ?_
          refine lm (v := .slice pn nn cn) rfl rfl ?_
          refine lm (v := .int .i64 ((nn : Nat) : Int)) rfl rfl ?_
          refine lp (v := .slice pn nn cn) rfl rfl (run_slt (p := pn) (n := nn) (c := cn) (j := nn) (kd := .i64) (sz := 9) rfl Tryd.underlying22 (by kernel_rfl) (by kernel_rfl) (by kernel_rfl) (by first | omega | assumption)) ?_
          refine lp (v := .int .i64 ((nn : Nat) : Int)) rfl rfl (run_lenL (p := pn) (cap := cn) (n := nn) rfl Tryd.underlying22 (by kernel_rfl)) ?_
          refine lm (v := .int .i64 0) rfl rfl ?_
          refine wpL_done (fun W21 hW21 => ?_)
          refine (show Code.wp _ _ _ _ _ from ?_)
          refine wp_block ?_
          go_loopw [127] (fun u127 wr => ∃ (k : Nat), (k ≤ nn) ∧ u127 = .int .i64 ((k : Nat) : Int) ∧ KS w Tn wr) (fun u127 _ => nn - (intOf u127).toNat)
          case atStart => exact ⟨0, (Nat.zero_le _), rfl, (hW21.sub (fun p hp => by first | exact hp | (simp only [List.mem_cons, List.mem_append, List.nil_append, List.not_mem_nil, or_assoc, or_false, false_or] at hp ⊢ <;> grind)))⟩
          case round =>
            obtain ⟨k, hk, rfl, hL22⟩ := hrel
            refine wp_seq ?_
            refine wp_region_L (W0 := w) Tn (hL22) ?_
            refine lp (v := .bool (decide (k < nn))) rfl rfl (run_bin rfl (vx := (.int .i64 ((k : Nat) : Int))) (vy := (.int .i64 ((nn : Nat) : Int))) (by kernel_rfl) (by kernel_rfl) fun w => bn_lss rfl w) ?_
            refine wpL_done (fun W23 hW23 => ?_)
            refine (show Code.wp _ _ _ _ _ from ?_)
            refine wp_seq ?_
            cases hd7 : (decide (k < nn)) with
            | false =>
              have h7 : ¬ (k < nn) := of_decide_eq_false hd7
              clear hd7
              refine wp_cond_false rfl ?_
              refine wp_exit ?_
              refine (show Code.wp _ _ _ _ _ from ?_)
              refine wp_seq ?_
              refine wp_region_L (W0 := w) Tn (hW23) ?_
              refine lv (v := .bool true) rfl rfl (yb_call (f := 12) (args := #[]) (fun _ => by kernel_rfl) fun W hW => awake_any W (HE.out.keep hW.1)) ?_
              refine lm (v := .bool true) rfl rfl ?_
              refine wpL_done (fun W24 hW24 => ?_)
              refine (show Code.wp _ _ _ _ _ from ?_)
              refine wp_ret ?_
              try simp only [inBlock_ret, then_ret]
              refine bodyPost_ret (v := .bool true) ?_ rfl ?_
              · kernel_rfl
              · exact ⟨rfl, hW24.1⟩
            | true =>
              have h7 : k < nn := of_decide_eq_true hd7
              clear hd7
              refine wp_cond_true rfl ?_
              refine wp_skip ?_
              refine (show Code.wp _ _ _ _ _ from ?_)
              refine wp_seq ?_
              refine wp_block ?_
              refine wp_seq ?_
              refine wp_region_L (W0 := w) Tn (hW23) ?_
              obtain ⟨b14, g14_, f14, hy14, hp14, hc14⟩ := ((bs_take nn hbs)).at (hW23.sub (fun p hp => by simp only [List.mem_cons, List.mem_append, List.nil_append, List.not_mem_nil, or_assoc, or_false, false_or, hp, true_or, or_true])) (k := k) (by first | omega | (simp only [List.length_drop, List.length_take, List.length_append]; omega))
              refine lp (v := .pointer (some ⟨g14_, f14 + k * 9, none⟩)) rfl rfl (run_idxQ (p := pn) (cap := cn) (n := nn) (j := .i64) (k := k) (sz := 9) rfl Tryd.underlying22 (by kernel_rfl) (by kernel_rfl) hp14 (by kernel_rfl) (by omega)) ?_
              refine lv (v := bxV b14) rfl rfl (yb_bs (off := f14 + k * 9) (b := b14) rfl (by kernel_rfl) (fun W hW jq vq hv => hc14 W (hW.sub (fun p hp => by simp only [List.mem_cons, List.mem_append, List.nil_append, List.not_mem_nil, or_assoc, or_false, false_or, hp, true_or, or_true])) jq vq hv) Tryd.underlying26 rfl (by kernel_rfl)) ?_
              refine wpL_new (fun g => .pointer (some ⟨g, 0, none⟩)) (obi := .cells (bxC bx0) 26 (0, 0)) rfl rfl (fun _ => by kernel_rfl) (fun _ => by simp only [List.setIfInBounds_toArray, List.set_cons_succ, List.set_cons_zero] <;> rfl) fun g15 Bg15 Fg15 => ?_
              obtain dj16_0 : Dk g15 Tn := by simpa only [dj_app_l, dj_app_r, dj_cons_l, dj_cons_r, dj_nil_l, dj_nil_r, dk_app, dk_cons, dk_nil, and_true, true_and, and_assoc] using (show Dk g15 Tn from Fg15)
              refine wpL_s ((g15, .cells (bxC b14) 26 (0, 0)) :: Tn) rfl rfl (st_bx (b := b14) rfl (by kernel_rfl) (by kernel_rfl) (.head _) rfl Bg15 (by kernel_rfl) (List.forall_mem_cons.2 ⟨.inl rfl, (fun p hp => .inr ⟨(.tail _ hp), ((show Dk g15 Tn from (by (try simp only [dj_app_l, dj_app_r, dj_cons_l, dj_cons_r, dj_nil_l, dj_nil_r, dk_app, dk_cons, dk_nil, and_true, true_and, and_assoc]); repeat' (first | trivial | assumption | exact Dj.symm (by assumption) | exact Ne.symm (by assumption) | apply And.intro))) _ hp)⟩)⟩)) ?_
              refine wpL_done (fun W25 hW25 => ?_)
              refine (show Code.wp _ _ _ _ _ from ?_)
              refine wp_seq ?_
              refine wp_region_V (W0 := w) ((g15, .cells (bxC b14) 26 (0, 0)) :: Tn) (by kernel_rfl) (hW25) ?_
              refine vm (i := 0) (v := .slice pn nn cn) rfl rfl rfl ?_
              refine vm (i := 1) (v := .int .i64 ((nn : Nat) : Int)) rfl rfl rfl ?_
              refine vp (i := 2) (v := .slice pn nn cn) rfl rfl rfl (run_slt (p := pn) (n := nn) (c := cn) (j := nn) (kd := .i64) (sz := 9) rfl Tryd.underlying22 (by kernel_rfl) (by kernel_rfl) (by kernel_rfl) (by first | omega | assumption)) ?_
              refine vm (i := 3) (v := .pointer (some ⟨g15, 0, none⟩)) rfl rfl rfl ?_
              refine vv (i := 4) (v := .int .i64 b14.id) rfl rfl rfl (yb_cell (off := 0) rfl (by kernel_rfl) (.head _) Tryd.underlying3 rfl (by kernel_rfl)) ?_
              have hfl17 : ((nl.take nn) : List Bx).length = nn := by first | (simp only [List.length_set]; done) | (simp only [List.length_set, List.length_take]; omega) | omega
              refine vv (i := 5) (v := .tuple #[bxV b14, .bool true]) rfl rfl rfl (yb_call (f := 30) (args := #[.slice pn nn cn, .int .i64 b14.id]) (fun _ => by kernel_rfl) fun W hW => (by have h := find_is (l := (nl.take nn)) (p := pn) (c := cn) (find_good hgood hy14) (by rw [List.length_take]; omega) W ((bs_take nn hbs) W (hW.sub (fun p hp => by simp only [List.mem_cons, List.mem_append, List.nil_append, List.not_mem_nil, or_assoc, or_false, false_or, hp, true_or, or_true]))); rw [hfl17] at h; exact h)) ?_
              refine vm (i := 6) (v := .tuple #[bxV b14, .bool true]) rfl rfl rfl ?_
              refine vm (i := 7) (v := bxV b14) rfl rfl rfl ?_
              refine vm (i := 8) (v := .bool true) rfl rfl rfl ?_
              refine wpV_ns (fun g => .pointer (some ⟨g, 0, none⟩)) (i := 9) (obi := .cells (bxC bx0) 26 (0, 0)) rfl rfl rfl (by kernel_rfl) (fun _ => by kernel_rfl) (fun _ => by simp only [List.setIfInBounds_toArray, List.set_cons_succ, List.set_cons_zero] <;> rfl) fun g18 Bg18 Fg18 => ?_
              obtain ⟨dj19_0, dj19_1⟩ : g15 ≠ g18 ∧ Dk g18 Tn := by simpa only [dj_app_l, dj_app_r, dj_cons_l, dj_cons_r, dj_nil_l, dj_nil_r, dk_app, dk_cons, dk_nil, and_true, true_and, and_assoc] using (show Dk g18 ((g15, .cells (bxC b14) 26 (0, 0)) :: Tn) from Fg18)
              refine wpV_s ((g18, .cells (bxC b14) 26 (0, 0)) :: (g15, .cells (bxC b14) 26 (0, 0)) :: Tn) (i := 10) rfl (by kernel_rfl) rfl rfl rfl (st_bx (b := b14) rfl (by kernel_rfl) (by kernel_rfl) (.head _) rfl Bg18 (by kernel_rfl) (List.forall_mem_cons.2 ⟨.inl rfl, (List.forall_mem_cons.2 ⟨.inr ⟨(.tail _ (.head _)), (by first | assumption | exact Ne.symm (by assumption))⟩, (fun p hp => .inr ⟨(.tail _ (.tail _ hp)), ((show Dk g18 Tn from (by (try simp only [dj_app_l, dj_app_r, dj_cons_l, dj_cons_r, dj_nil_l, dj_nil_r, dk_app, dk_cons, dk_nil, and_true, true_and, and_assoc]); repeat' (first | trivial | assumption | exact Dj.symm (by assumption) | exact Ne.symm (by assumption) | apply And.intro))) _ hp)⟩)⟩)⟩)) ?_
              refine vm (i := 11) (v := .bool true) rfl rfl rfl ?_
              refine wpV_done (by kernel_rfl) (fun W26 hW26 => ?_) _
              refine (show Code.wp _ _ _ _ _ from ?_)
              refine wp_seq ?_
              refine wp_region_V (W0 := w) ((g18, .cells (bxC b14) 26 (0, 0)) :: (g15, .cells (bxC b14) 26 (0, 0)) :: Tn) (by kernel_rfl) (hW26) ?_
              refine vm (i := 0) (v := .slice pn nn cn) rfl rfl rfl ?_
              refine vm (i := 1) (v := .int .i64 ((nn : Nat) : Int)) rfl rfl rfl ?_
              refine vp (i := 2) (v := .slice pn nn cn) rfl rfl rfl (run_slt (p := pn) (n := nn) (c := cn) (j := nn) (kd := .i64) (sz := 9) rfl Tryd.underlying22 (by kernel_rfl) (by kernel_rfl) (by kernel_rfl) (by first | omega | assumption)) ?_
              refine vm (i := 3) (v := .pointer (some ⟨g15, 1, none⟩)) rfl rfl rfl ?_
              refine vv (i := 4) (v := strV b14.num) rfl rfl rfl (yb_cell (off := 1) rfl (by kernel_rfl) (.tail _ (.head _)) Tryd.underlying9 rfl (by kernel_rfl)) ?_
              cases hd8 : (decide (b14.num = [])) with
              | false =>
                have h8 : ¬ (b14.num = []) := of_decide_eq_false hd8
                clear hd8
                have hfl20 : ((nl.take nn) : List Bx).length = nn := by first | (simp only [List.length_set]; done) | (simp only [List.length_set, List.length_take]; omega) | omega
                refine vv (i := 5) (v := .tuple #[.int .i64 b14.id, .bool true]) rfl rfl rfl (yb_call (f := 31) (args := #[.slice pn nn cn, strV b14.num]) (fun _ => by kernel_rfl) fun W hW => (by have h := num_is (l := (nl.take nn)) (p := pn) (c := cn) (num_good hgood hy14 h8) (by rw [List.length_take]; omega) W ((bs_take nn hbs) W (hW.sub (fun p hp => by simp only [List.mem_cons, List.mem_append, List.nil_append, List.not_mem_nil, or_assoc, or_false, false_or, hp, true_or, or_true]))); rw [hfl20] at h; exact h)) ?_
                refine vm (i := 6) (v := .tuple #[.int .i64 b14.id, .bool true]) rfl rfl rfl ?_
                refine vm (i := 7) (v := .int .i64 b14.id) rfl rfl rfl ?_
                refine vm (i := 8) (v := .bool true) rfl rfl rfl ?_
                refine vm (i := 9) (v := .int .i64 b14.id) rfl rfl rfl ?_
                refine vm (i := 10) (v := .bool true) rfl rfl rfl ?_
                refine wpV_done (by kernel_rfl) (fun W27 hW27 => ?_) _
                refine (show Code.wp _ _ _ _ _ from ?_)
                refine wp_seq ?_
                refine wp_region_L (W0 := w) ((g18, .cells (bxC b14) 26 (0, 0)) :: (g15, .cells (bxC b14) 26 (0, 0)) :: Tn) (hW27) ?_
                refine lm (v := .bool true) rfl rfl ?_
                refine lm (v := .bool false) rfl rfl ?_
                refine lm (v := .bool false) rfl rfl ?_
                refine lv (v := bxV b14) rfl rfl (yb_load (n := 9) (off := 0) rfl (by kernel_rfl) (.head _) Tryd.underlying26 rfl (by kernel_rfl) (Nat.le_refl 9) (by kernel_rfl)) ?_
                refine lv (v := bxV b14) rfl rfl (yb_load (n := 9) (off := 0) rfl (by kernel_rfl) (.tail _ (.head _)) Tryd.underlying26 rfl (by kernel_rfl) (Nat.le_refl 9) (by kernel_rfl)) ?_
                refine lp (v := .bool false) rfl rfl (run_bin rfl (vx := bxV b14) (vy := bxV b14) (by kernel_rfl) (by kernel_rfl) fun w => neq_bx (decide_eq_true rfl) w) ?_
                refine lm (v := .bool false) rfl rfl ?_
                refine lm (v := .bool false) rfl rfl ?_
                refine lm (v := .bool true) rfl rfl ?_
                refine lm (v := .pointer (some ⟨g15, 1, none⟩)) rfl rfl ?_
                refine lv (v := strV b14.num) rfl rfl (yb_cell (off := 1) rfl (by kernel_rfl) (.tail _ (.head _)) Tryd.underlying9 rfl (by kernel_rfl)) ?_
                refine lp (v := .bool true) rfl rfl (run_bin rfl (vx := strV b14.num) (vy := strV []) (by kernel_rfl) (by kernel_rfl) fun w => bs_neq (decide_eq_false (by assumption)) w) ?_
                refine lm (v := .bool false) rfl rfl ?_
                refine lm (v := .bool false) rfl rfl ?_
                refine lm (v := .bool false) rfl rfl ?_
                refine lm (v := .bool true) rfl rfl ?_
                refine lm (v := .bool true) rfl rfl ?_
                refine lm (v := .int .i64 b14.id) rfl rfl ?_
                refine lm (v := .pointer (some ⟨g15, 0, none⟩)) rfl rfl ?_
                refine lv (v := .int .i64 b14.id) rfl rfl (yb_cell (off := 0) rfl (by kernel_rfl) (.tail _ (.head _)) Tryd.underlying3 rfl (by kernel_rfl)) ?_
                refine lp (v := .bool false) rfl rfl (run_bin rfl (vx := (.int .i64 b14.id)) (vy := (.int .i64 b14.id)) (by kernel_rfl) (by kernel_rfl) fun w => bi_neq (decide_eq_true rfl) w) ?_
                refine lm (v := .bool false) rfl rfl ?_
                refine lm (v := .bool false) rfl rfl ?_
                refine wpL_done (fun W28 hW28 => ?_)
                refine (show Code.wp _ _ _ _ _ from ?_)
                refine wp_cond_false rfl ?_
                refine wp_skip ?_
                refine (show Code.wp _ _ _ _ _ from ?_)
                refine wp_region_L (W0 := w) ((g18, .cells (bxC b14) 26 (0, 0)) :: (g15, .cells (bxC b14) 26 (0, 0)) :: Tn) (hW28) ?_
                refine lp (v := .int .i64 (((k + 1) : Nat) : Int)) rfl rfl (run_bin rfl (vx := (.int .i64 ((k : Nat) : Int))) (vy := (.int .i64 ((1 : Nat) : Int))) (by kernel_rfl) (by kernel_rfl) fun w => bn_add (z := (k + 1)) rfl (wr_i64 (by omega)) w) ?_
                refine lm (v := .int .i64 (((k + 1) : Nat) : Int)) rfl rfl ?_
                refine wpL_done (fun W29 hW29 => ?_)
                go_roundw
                case rel =>
                  repeat apply Exists.intro
                  exact ⟨⟨k + 1, (by omega), rfl, (hW29.sub (fun p hp => by first | exact hp | (simp only [List.mem_cons, List.mem_append, List.nil_append, List.not_mem_nil, or_assoc, or_false, false_or] at hp ⊢ <;> grind)))⟩, rfl⟩
                case measure => (show nn - (intOf (.int .i64 (((k + 1) : Nat) : Int))).toNat < nn - (intOf (.int .i64 ((k : Nat) : Int))).toNat); simp only [intOf]; omega
              | true =>
                have h8 : b14.num = [] := of_decide_eq_true hd8
                clear hd8
                have hfl21 : ((nl.take nn) : List Bx).length = nn := by first | (simp only [List.length_set]; done) | (simp only [List.length_set, List.length_take]; omega) | omega
                refine vv (i := 5) (v := .tuple #[.int .i64 0, .bool false]) rfl rfl rfl (yb_call (f := 31) (args := #[.slice pn nn cn, strV b14.num]) (fun _ => by kernel_rfl) fun W hW => (by have h := num_isn (l := (nl.take nn)) (p := pn) (c := cn) (num_no h8) (by rw [List.length_take]; omega) W ((bs_take nn hbs) W (hW.sub (fun p hp => by simp only [List.mem_cons, List.mem_append, List.nil_append, List.not_mem_nil, or_assoc, or_false, false_or, hp, true_or, or_true]))); rw [hfl21] at h; exact h)) ?_
                refine vm (i := 6) (v := .tuple #[.int .i64 0, .bool false]) rfl rfl rfl ?_
                refine vm (i := 7) (v := .int .i64 0) rfl rfl rfl ?_
                refine vm (i := 8) (v := .bool false) rfl rfl rfl ?_
                refine vm (i := 9) (v := .int .i64 0) rfl rfl rfl ?_
                refine vm (i := 10) (v := .bool false) rfl rfl rfl ?_
                refine wpV_done (by kernel_rfl) (fun W30 hW30 => ?_) _
                refine (show Code.wp _ _ _ _ _ from ?_)
                refine wp_seq ?_
                refine wp_region_L (W0 := w) ((g18, .cells (bxC b14) 26 (0, 0)) :: (g15, .cells (bxC b14) 26 (0, 0)) :: Tn) (hW30) ?_
                refine lm (v := .bool true) rfl rfl ?_
                refine lm (v := .bool false) rfl rfl ?_
                refine lm (v := .bool false) rfl rfl ?_
                refine lv (v := bxV b14) rfl rfl (yb_load (n := 9) (off := 0) rfl (by kernel_rfl) (.head _) Tryd.underlying26 rfl (by kernel_rfl) (Nat.le_refl 9) (by kernel_rfl)) ?_
                refine lv (v := bxV b14) rfl rfl (yb_load (n := 9) (off := 0) rfl (by kernel_rfl) (.tail _ (.head _)) Tryd.underlying26 rfl (by kernel_rfl) (Nat.le_refl 9) (by kernel_rfl)) ?_
                refine lp (v := .bool false) rfl rfl (run_bin rfl (vx := bxV b14) (vy := bxV b14) (by kernel_rfl) (by kernel_rfl) fun w => neq_bx (decide_eq_true rfl) w) ?_
                refine lm (v := .bool false) rfl rfl ?_
                refine lm (v := .bool false) rfl rfl ?_
                refine lm (v := .bool false) rfl rfl ?_
                refine lm (v := .pointer (some ⟨g15, 1, none⟩)) rfl rfl ?_
                refine lv (v := strV b14.num) rfl rfl (yb_cell (off := 1) rfl (by kernel_rfl) (.tail _ (.head _)) Tryd.underlying9 rfl (by kernel_rfl)) ?_
                refine lp (v := .bool false) rfl rfl (run_bin rfl (vx := strV b14.num) (vy := strV []) (by kernel_rfl) (by kernel_rfl) fun w => bs_neq (decide_eq_true (by assumption)) w) ?_
                refine lm (v := .bool false) rfl rfl ?_
                refine lm (v := .bool false) rfl rfl ?_
                refine lm (v := .bool false) rfl rfl ?_
                refine lm (v := .bool false) rfl rfl ?_
                refine lm (v := .bool false) rfl rfl ?_
                refine ln rfl ?_
                refine ln rfl ?_
                refine ln rfl ?_
                refine ln rfl ?_
                refine lm (v := .bool false) rfl rfl ?_
                refine lm (v := .bool false) rfl rfl ?_
                refine wpL_done (fun W31 hW31 => ?_)
                refine (show Code.wp _ _ _ _ _ from ?_)
                refine wp_cond_false rfl ?_
                refine wp_skip ?_
                refine (show Code.wp _ _ _ _ _ from ?_)
                refine wp_region_L (W0 := w) ((g18, .cells (bxC b14) 26 (0, 0)) :: (g15, .cells (bxC b14) 26 (0, 0)) :: Tn) (hW31) ?_
                refine lp (v := .int .i64 (((k + 1) : Nat) : Int)) rfl rfl (run_bin rfl (vx := (.int .i64 ((k : Nat) : Int))) (vy := (.int .i64 ((1 : Nat) : Int))) (by kernel_rfl) (by kernel_rfl) fun w => bn_add (z := (k + 1)) rfl (wr_i64 (by omega)) w) ?_
                refine lm (v := .int .i64 (((k + 1) : Nat) : Int)) rfl rfl ?_
                refine wpL_done (fun W32 hW32 => ?_)
                go_roundw
                case rel =>
                  repeat apply Exists.intro
                  exact ⟨⟨k + 1, (by omega), rfl, (hW32.sub (fun p hp => by first | exact hp | (simp only [List.mem_cons, List.mem_append, List.nil_append, List.not_mem_nil, or_assoc, or_false, false_or] at hp ⊢ <;> grind)))⟩, rfl⟩
                case measure => (show nn - (intOf (.int .i64 (((k + 1) : Nat) : Int))).toNat < nn - (intOf (.int .i64 ((k : Nat) : Int))).toNat); simp only [intOf]; omega
        | true =>
          have h6 : n < (nn + 1) := of_decide_eq_true hd6
          clear hd6
          refine wp_cond_true rfl ?_
          refine wp_skip ?_
          refine (show Code.wp _ _ _ _ _ from ?_)
          refine wp_seq ?_
          refine wp_block ?_
          refine wp_seq ?_
          refine wp_region_L (W0 := w) Tn (hW20) ?_
          refine lm (v := .int .i64 ((n : Nat) : Int)) rfl rfl ?_
          refine lm (v := .int .i64 ((n : Nat) : Int)) rfl rfl ?_
          refine wpL_done (fun W33 hW33 => ?_)
          refine (show Code.wp _ _ _ _ _ from ?_)
          refine wp_seq ?_
          refine wp_region_L (W0 := w) Tn (hW33) ?_
          refine lm (v := .slice pn nn cn) rfl rfl ?_
          refine lm (v := .int .i64 ((n : Nat) : Int)) rfl rfl ?_
          refine lp (v := .slice pn n cn) rfl rfl (run_slt (p := pn) (n := nn) (c := cn) (j := n) (kd := .i64) (sz := 9) rfl Tryd.underlying22 (by kernel_rfl) (by kernel_rfl) (by kernel_rfl) (by first | omega | assumption)) ?_
          have hfl22 : ((nl.take n) : List Bx).length = n := by first | (simp only [List.length_set]; done) | (simp only [List.length_set, List.length_take]; omega) | omega
          refine lv (v := .tuple #[.int .i64 (-1), .int .i64 0]) rfl rfl (yb_call (f := 29) (args := #[.slice pn n cn]) (fun _ => by kernel_rfl) fun W hW => (by have h := valid_is (l := (nl.take n)) (p := pn) (c := cn) (valid_take (by omega) (by omega) (by omega) hgood) (by first | omega | (rw [List.length_take]; omega)) W ((bs_take n hbs) W (hW.sub (fun p hp => by simp only [List.mem_cons, List.mem_append, List.nil_append, List.not_mem_nil, or_assoc, or_false, false_or, hp, true_or, or_true]))); rw [hfl22] at h; exact h)) ?_
          refine lm (v := .tuple #[.int .i64 (-1), .int .i64 0]) rfl rfl ?_
          refine lm (v := .int .i64 (-1)) rfl rfl ?_
          refine lm (v := .int .i64 0) rfl rfl ?_
          refine lm (v := .int .i64 (-1)) rfl rfl ?_
          refine lm (v := .int .i64 0) rfl rfl ?_
          refine wpL_done (fun W34 hW34 => ?_)
          refine (show Code.wp _ _ _ _ _ from ?_)
          refine wp_seq ?_
          refine wp_region_L (W0 := w) Tn (hW34) ?_
          refine lm (v := .int .i64 (-1)) rfl rfl ?_
          refine lm (v := .bool false) rfl rfl ?_
          refine lm (v := .bool false) rfl rfl ?_
          refine lm (v := .int .i64 0) rfl rfl ?_
          refine lm (v := .bool false) rfl rfl ?_
          refine lm (v := .bool false) rfl rfl ?_
          refine wpL_done (fun W35 hW35 => ?_)
          refine (show Code.wp _ _ _ _ _ from ?_)
          refine wp_cond_false rfl ?_
          refine wp_skip ?_
          refine (show Code.wp _ _ _ _ _ from ?_)
          refine wp_region_L (W0 := w) Tn (hW35) ?_
          refine lp (v := .int .i64 (((n + 1) : Nat) : Int)) rfl rfl (run_bin rfl (vx := (.int .i64 ((n : Nat) : Int))) (vy := (.int .i64 ((1 : Nat) : Int))) (by kernel_rfl) (by kernel_rfl) fun w => bn_add (z := (n + 1)) rfl (wr_i64 (by omega)) w) ?_
          refine lm (v := .int .i64 (((n + 1) : Nat) : Int)) rfl rfl ?_
          refine wpL_done (fun W36 hW36 => ?_)
          go_roundw
          case rel =>
            repeat apply Exists.intro
            exact ⟨⟨n + 1, (by omega), rfl, (hW36.sub (fun p hp => by first | exact hp | (simp only [List.mem_cons, List.mem_append, List.nil_append, List.not_mem_nil, or_assoc, or_false, false_or] at hp ⊢ <;> grind)))⟩, rfl⟩
          case measure => (show (nn + 1) - (intOf (.int .i64 (((n + 1) : Nat) : Int))).toNat < (nn + 1) - (intOf (.int .i64 ((n : Nat) : Int))).toNat); simp only [intOf]; omega
    · obtain ⟨hkb, hbad, hgood⟩ := first_some hfb
      refine wp_seq ?_
      refine wp_region_L (W0 := w) Tn (hW1j) ?_
      refine lm (v := .slice pn nn cn) rfl rfl ?_
      have hfl23 : (nl : List Bx).length = nn := by first | (simp only [List.length_set]; done) | (simp only [List.length_set, List.length_take]; omega) | omega
      refine lv (v := .tuple #[.int .i64 ((kb : Nat) : Int), .int .i64 60]) rfl rfl (yb_call (f := 29) (args := #[.slice pn nn cn]) (fun _ => by kernel_rfl) fun W hW => (by have h := valid_is (l := nl) (p := pn) (c := cn) (valid_some (by omega) hkb hgood hbad) (by first | omega | (rw [List.length_take]; omega)) W (hbs W (hW.sub (fun p hp => by simp only [List.mem_cons, List.mem_append, List.nil_append, List.not_mem_nil, or_assoc, or_false, false_or, hp, true_or, or_true]))); rw [hfl23] at h; exact h)) ?_
      refine lm (v := .tuple #[.int .i64 ((kb : Nat) : Int), .int .i64 60]) rfl rfl ?_
      refine lm (v := .int .i64 ((kb : Nat) : Int)) rfl rfl ?_
      refine lm (v := .int .i64 60) rfl rfl ?_
      refine lm (v := .int .i64 ((kb : Nat) : Int)) rfl rfl ?_
      refine lm (v := .int .i64 60) rfl rfl ?_
      refine wpL_done (fun W37 hW37 => ?_)
      refine (show Code.wp _ _ _ _ _ from ?_)
      refine wp_seq ?_
      refine wp_region_L (W0 := w) Tn (hW37) ?_
      refine lm (v := .slice pn nn cn) rfl rfl ?_
      refine lp (v := .int .i64 ((nn : Nat) : Int)) rfl rfl (run_lenL (p := pn) (cap := cn) (n := nn) rfl Tryd.underlying22 (by kernel_rfl)) ?_
      refine lm (v := .int .i64 ((nn : Nat) : Int)) rfl rfl ?_
      refine wpL_done (fun W38 hW38 => ?_)
      refine (show Code.wp _ _ _ _ _ from ?_)
      refine wp_seq ?_
      refine wp_seq ?_
      refine wp_region_L (W0 := w) Tn (hW38) ?_
      refine lm (v := .int .i64 60) rfl rfl ?_
      refine lm (v := .bool true) rfl rfl ?_
      refine wpL_done (fun W39 hW39 => ?_)
      refine (show Code.wp _ _ _ _ _ from ?_)
      refine wp_cond_true rfl ?_
      refine wp_seq ?_
      refine wp_seq ?_
      refine wp_region_L (W0 := w) Tn (hW39) ?_
      refine lm (v := .int .i64 ((kb : Nat) : Int)) rfl rfl ?_
      refine lp (v := .bool false) rfl rfl (run_bin rfl (vx := (.int .i64 ((kb : Nat) : Int))) (vy := (.int .i64 ((0 : Nat) : Int))) (by kernel_rfl) (by kernel_rfl) fun w => bn_lss (decide_eq_false (Nat.not_lt_zero _)) w) ?_
      refine lm (v := .bool false) rfl rfl ?_
      refine lm (v := .int .i64 ((kb : Nat) : Int)) rfl rfl ?_
      refine lm (v := .slice pn nn cn) rfl rfl ?_
      refine lp (v := .int .i64 ((nn : Nat) : Int)) rfl rfl (run_lenL (p := pn) (cap := cn) (n := nn) rfl Tryd.underlying22 (by kernel_rfl)) ?_
      refine lp (v := .bool false) rfl rfl (run_bin rfl (vx := (.int .i64 ((kb : Nat) : Int))) (vy := (.int .i64 ((nn : Nat) : Int))) (by kernel_rfl) (by kernel_rfl) fun w => bn_geq (decide_eq_true (by omega)) w) ?_
      refine lm (v := .bool false) rfl rfl ?_
      refine wpL_done (fun W40 hW40 => ?_)
      refine (show Code.wp _ _ _ _ _ from ?_)
      refine wp_cond_false rfl ?_
      refine wp_skip ?_
      refine (show Code.wp _ _ _ _ _ from ?_)
      refine wp_seq ?_
      refine wp_seq ?_
      refine wp_region_L (W0 := w) Tn (hW40) ?_
      refine lm (v := .slice pn nn cn) rfl rfl ?_
      refine lm (v := .int .i64 ((kb : Nat) : Int)) rfl rfl ?_
      refine lp (v := .int .i64 (((kb + 1) : Nat) : Int)) rfl rfl (run_bin rfl (vx := (.int .i64 ((kb : Nat) : Int))) (vy := (.int .i64 ((1 : Nat) : Int))) (by kernel_rfl) (by kernel_rfl) fun w => bn_add (z := (kb + 1)) rfl (wr_i64 (by omega)) w) ?_
      refine lp (v := .slice pn (kb + 1) cn) rfl rfl (run_slt (p := pn) (n := nn) (c := cn) (j := (kb + 1)) (kd := .i64) (sz := 9) rfl Tryd.underlying22 (by kernel_rfl) (by kernel_rfl) (by kernel_rfl) (by first | omega | assumption)) ?_
      have hfl24 : ((nl.take (kb + 1)) : List Bx).length = (kb + 1) := by first | (simp only [List.length_set]; done) | (simp only [List.length_set, List.length_take]; omega) | omega
      refine lv (v := .tuple #[.int .i64 ((kb : Nat) : Int), .int .i64 60]) rfl rfl (yb_call (f := 29) (args := #[.slice pn (kb + 1) cn]) (fun _ => by kernel_rfl) fun W hW => (by have h := valid_is (l := (nl.take (kb + 1))) (p := pn) (c := cn) (valid_upto (by omega) hkb hbad hgood) (by first | omega | (rw [List.length_take]; omega)) W ((bs_take (kb + 1) hbs) W (hW.sub (fun p hp => by simp only [List.mem_cons, List.mem_append, List.nil_append, List.not_mem_nil, or_assoc, or_false, false_or, hp, true_or, or_true]))); rw [hfl24] at h; exact h)) ?_
      refine lm (v := .tuple #[.int .i64 ((kb : Nat) : Int), .int .i64 60]) rfl rfl ?_
      refine lm (v := .int .i64 ((kb : Nat) : Int)) rfl rfl ?_
      refine lm (v := .int .i64 60) rfl rfl ?_
      refine lm (v := .int .i64 ((kb : Nat) : Int)) rfl rfl ?_
      refine lm (v := .int .i64 60) rfl rfl ?_
      refine wpL_done (fun W41 hW41 => ?_)
      refine (show Code.wp _ _ _ _ _ from ?_)
      refine wp_seq ?_
      refine wp_region_L (W0 := w) Tn (hW41) ?_
      refine lm (v := .int .i64 ((kb : Nat) : Int)) rfl rfl ?_
      refine lm (v := .int .i64 ((kb : Nat) : Int)) rfl rfl ?_
      refine lp (v := .bool false) rfl rfl (run_bin rfl (vx := (.int .i64 ((kb : Nat) : Int))) (vy := (.int .i64 ((kb : Nat) : Int))) (by kernel_rfl) (by kernel_rfl) fun w => bn_neq (decide_eq_true rfl) w) ?_
      refine lm (v := .bool false) rfl rfl ?_
      refine lm (v := .int .i64 60) rfl rfl ?_
      refine lm (v := .bool false) rfl rfl ?_
      refine lm (v := .bool false) rfl rfl ?_
      refine wpL_done (fun W42 hW42 => ?_)
      refine (show Code.wp _ _ _ _ _ from ?_)
      refine wp_cond_false rfl ?_
      refine wp_skip ?_
      refine (show Code.wp _ _ _ _ _ from ?_)
      refine wp_region_L (W0 := w) Tn (hW42) ?_
      refine lm (v := .int .i64 ((kb : Nat) : Int)) rfl rfl ?_
      refine lm (v := .int .i64 ((kb : Nat) : Int)) rfl rfl ?_
      refine wpL_done (fun W43 hW43 => ?_)
      refine (show Code.wp _ _ _ _ _ from ?_)
      refine wp_seq ?_
      refine wp_seq ?_
      refine wp_region_L (W0 := w) Tn (hW43) ?_
      refine lm (v := .int .i64 ((kb : Nat) : Int)) rfl rfl ?_
      refine lp (v := .int .i64 (((kb + 1) : Nat) : Int)) rfl rfl (run_bin rfl (vx := (.int .i64 ((kb : Nat) : Int))) (vy := (.int .i64 ((1 : Nat) : Int))) (by kernel_rfl) (by kernel_rfl) fun w => bn_add (z := (kb + 1)) rfl (wr_i64 (by omega)) w) ?_
      refine lm (v := .int .i64 0) rfl rfl ?_
      refine wpL_done (fun W44 hW44 => ?_)
      refine (show Code.wp _ _ _ _ _ from ?_)
      refine wp_block ?_
      go_loopw [106] (fun u106 wr => ∃ (n : Nat), (n ≤ (kb + 1)) ∧ u106 = .int .i64 ((n : Nat) : Int) ∧ KS w Tn wr) (fun u106 _ => (kb + 1) - (intOf u106).toNat)
      case atStart => exact ⟨0, (Nat.zero_le _), rfl, (hW44.sub (fun p hp => by first | exact hp | (simp only [List.mem_cons, List.mem_append, List.nil_append, List.not_mem_nil, or_assoc, or_false, false_or] at hp ⊢ <;> grind)))⟩
      case round =>
        obtain ⟨n, hn, rfl, hL45⟩ := hrel
        refine wp_seq ?_
        refine wp_region_L (W0 := w) Tn (hL45) ?_
        refine lp (v := .bool (decide (n < (kb + 1)))) rfl rfl (run_bin rfl (vx := (.int .i64 ((n : Nat) : Int))) (vy := (.int .i64 (((kb + 1) : Nat) : Int))) (by kernel_rfl) (by kernel_rfl) fun w => bn_lss rfl w) ?_
        refine wpL_done (fun W46 hW46 => ?_)
        refine (show Code.wp _ _ _ _ _ from ?_)
        refine wp_seq ?_
        cases hd9 : (decide (n < (kb + 1))) with
        | false =>
          have h9 : ¬ (n < (kb + 1)) := of_decide_eq_false hd9
          clear hd9
          refine wp_cond_false rfl ?_
          refine wp_exit ?_
          refine (show Code.wp _ _ _ _ _ from ?_)
          refine wp_seq ?_
          refine wp_seq ?_
          refine wp_region_L (W0 := w) Tn (hW46) ?_
          refine lm (v := .slice pn nn cn) rfl rfl ?_
          refine lm (v := .int .i64 ((kb : Nat) : Int)) rfl rfl ?_
          refine lp (v := .slice pn kb cn) rfl rfl (run_slt (p := pn) (n := nn) (c := cn) (j := kb) (kd := .i64) (sz := 9) rfl Tryd.underlying22 (by kernel_rfl) (by kernel_rfl) (by kernel_rfl) (by first | omega | assumption)) ?_
          refine lp (v := .int .i64 ((kb : Nat) : Int)) rfl rfl (run_lenL (p := pn) (cap := cn) (n := kb) rfl Tryd.underlying22 (by kernel_rfl)) ?_
          refine lm (v := .int .i64 0) rfl rfl ?_
          refine wpL_done (fun W47 hW47 => ?_)
          refine (show Code.wp _ _ _ _ _ from ?_)
          refine wp_block ?_
          go_loopw [127] (fun u127 wr => ∃ (k : Nat), (k ≤ kb) ∧ u127 = .int .i64 ((k : Nat) : Int) ∧ KS w Tn wr) (fun u127 _ => kb - (intOf u127).toNat)
          case atStart => exact ⟨0, (Nat.zero_le _), rfl, (hW47.sub (fun p hp => by first | exact hp | (simp only [List.mem_cons, List.mem_append, List.nil_append, List.not_mem_nil, or_assoc, or_false, false_or] at hp ⊢ <;> grind)))⟩
          case round =>
            obtain ⟨k, hk, rfl, hL48⟩ := hrel
            refine wp_seq ?_
            refine wp_region_L (W0 := w) Tn (hL48) ?_
            refine lp (v := .bool (decide (k < kb))) rfl rfl (run_bin rfl (vx := (.int .i64 ((k : Nat) : Int))) (vy := (.int .i64 ((kb : Nat) : Int))) (by kernel_rfl) (by kernel_rfl) fun w => bn_lss rfl w) ?_
            refine wpL_done (fun W49 hW49 => ?_)
            refine (show Code.wp _ _ _ _ _ from ?_)
            refine wp_seq ?_
            cases hd10 : (decide (k < kb)) with
            | false =>
              have h10 : ¬ (k < kb) := of_decide_eq_false hd10
              clear hd10
              refine wp_cond_false rfl ?_
              refine wp_exit ?_
              refine (show Code.wp _ _ _ _ _ from ?_)
              refine wp_seq ?_
              refine wp_region_L (W0 := w) Tn (hW49) ?_
              refine lv (v := .bool true) rfl rfl (yb_call (f := 12) (args := #[]) (fun _ => by kernel_rfl) fun W hW => awake_any W (HE.out.keep hW.1)) ?_
              refine lm (v := .bool true) rfl rfl ?_
              refine wpL_done (fun W50 hW50 => ?_)
              refine (show Code.wp _ _ _ _ _ from ?_)
              refine wp_ret ?_
              try simp only [inBlock_ret, then_ret]
              refine bodyPost_ret (v := .bool true) ?_ rfl ?_
              · kernel_rfl
              · exact ⟨rfl, hW50.1⟩
            | true =>
              have h10 : k < kb := of_decide_eq_true hd10
              clear hd10
              refine wp_cond_true rfl ?_
              refine wp_skip ?_
              refine (show Code.wp _ _ _ _ _ from ?_)
              refine wp_seq ?_
              refine wp_block ?_
              refine wp_seq ?_
              refine wp_region_L (W0 := w) Tn (hW49) ?_
              obtain ⟨b25, g25_, f25, hy25, hp25, hc25⟩ := ((bs_take kb hbs)).at (hW49.sub (fun p hp => by simp only [List.mem_cons, List.mem_append, List.nil_append, List.not_mem_nil, or_assoc, or_false, false_or, hp, true_or, or_true])) (k := k) (by first | omega | (simp only [List.length_drop, List.length_take, List.length_append]; omega))
              refine lp (v := .pointer (some ⟨g25_, f25 + k * 9, none⟩)) rfl rfl (run_idxQ (p := pn) (cap := cn) (n := kb) (j := .i64) (k := k) (sz := 9) rfl Tryd.underlying22 (by kernel_rfl) (by kernel_rfl) hp25 (by kernel_rfl) (by omega)) ?_
              refine lv (v := bxV b25) rfl rfl (yb_bs (off := f25 + k * 9) (b := b25) rfl (by kernel_rfl) (fun W hW jq vq hv => hc25 W (hW.sub (fun p hp => by simp only [List.mem_cons, List.mem_append, List.nil_append, List.not_mem_nil, or_assoc, or_false, false_or, hp, true_or, or_true])) jq vq hv) Tryd.underlying26 rfl (by kernel_rfl)) ?_
              refine wpL_new (fun g => .pointer (some ⟨g, 0, none⟩)) (obi := .cells (bxC bx0) 26 (0, 0)) rfl rfl (fun _ => by kernel_rfl) (fun _ => by simp only [List.setIfInBounds_toArray, List.set_cons_succ, List.set_cons_zero] <;> rfl) fun g26 Bg26 Fg26 => ?_
              obtain dj27_0 : Dk g26 Tn := by simpa only [dj_app_l, dj_app_r, dj_cons_l, dj_cons_r, dj_nil_l, dj_nil_r, dk_app, dk_cons, dk_nil, and_true, true_and, and_assoc] using (show Dk g26 Tn from Fg26)
              refine wpL_s ((g26, .cells (bxC b25) 26 (0, 0)) :: Tn) rfl rfl (st_bx (b := b25) rfl (by kernel_rfl) (by kernel_rfl) (.head _) rfl Bg26 (by kernel_rfl) (List.forall_mem_cons.2 ⟨.inl rfl, (fun p hp => .inr ⟨(.tail _ hp), ((show Dk g26 Tn from (by (try simp only [dj_app_l, dj_app_r, dj_cons_l, dj_cons_r, dj_nil_l, dj_nil_r, dk_app, dk_cons, dk_nil, and_true, true_and, and_assoc]); repeat' (first | trivial | assumption | exact Dj.symm (by assumption) | exact Ne.symm (by assumption) | apply And.intro))) _ hp)⟩)⟩)) ?_
              refine wpL_done (fun W51 hW51 => ?_)
              refine (show Code.wp _ _ _ _ _ from ?_)
              refine wp_seq ?_
              refine wp_region_V (W0 := w) ((g26, .cells (bxC b25) 26 (0, 0)) :: Tn) (by kernel_rfl) (hW51) ?_
              refine vm (i := 0) (v := .slice pn nn cn) rfl rfl rfl ?_
              refine vm (i := 1) (v := .int .i64 ((kb : Nat) : Int)) rfl rfl rfl ?_
              refine vp (i := 2) (v := .slice pn kb cn) rfl rfl rfl (run_slt (p := pn) (n := nn) (c := cn) (j := kb) (kd := .i64) (sz := 9) rfl Tryd.underlying22 (by kernel_rfl) (by kernel_rfl) (by kernel_rfl) (by first | omega | assumption)) ?_
              refine vm (i := 3) (v := .pointer (some ⟨g26, 0, none⟩)) rfl rfl rfl ?_
              refine vv (i := 4) (v := .int .i64 b25.id) rfl rfl rfl (yb_cell (off := 0) rfl (by kernel_rfl) (.head _) Tryd.underlying3 rfl (by kernel_rfl)) ?_
              have hfl28 : ((nl.take kb) : List Bx).length = kb := by first | (simp only [List.length_set]; done) | (simp only [List.length_set, List.length_take]; omega) | omega
              refine vv (i := 5) (v := .tuple #[bxV b25, .bool true]) rfl rfl rfl (yb_call (f := 30) (args := #[.slice pn kb cn, .int .i64 b25.id]) (fun _ => by kernel_rfl) fun W hW => (by have h := find_is (l := (nl.take kb)) (p := pn) (c := cn) (find_good hgood hy25) (by rw [List.length_take]; omega) W ((bs_take kb hbs) W (hW.sub (fun p hp => by simp only [List.mem_cons, List.mem_append, List.nil_append, List.not_mem_nil, or_assoc, or_false, false_or, hp, true_or, or_true]))); rw [hfl28] at h; exact h)) ?_
              refine vm (i := 6) (v := .tuple #[bxV b25, .bool true]) rfl rfl rfl ?_
              refine vm (i := 7) (v := bxV b25) rfl rfl rfl ?_
              refine vm (i := 8) (v := .bool true) rfl rfl rfl ?_
              refine wpV_ns (fun g => .pointer (some ⟨g, 0, none⟩)) (i := 9) (obi := .cells (bxC bx0) 26 (0, 0)) rfl rfl rfl (by kernel_rfl) (fun _ => by kernel_rfl) (fun _ => by simp only [List.setIfInBounds_toArray, List.set_cons_succ, List.set_cons_zero] <;> rfl) fun g29 Bg29 Fg29 => ?_
              obtain ⟨dj30_0, dj30_1⟩ : g26 ≠ g29 ∧ Dk g29 Tn := by simpa only [dj_app_l, dj_app_r, dj_cons_l, dj_cons_r, dj_nil_l, dj_nil_r, dk_app, dk_cons, dk_nil, and_true, true_and, and_assoc] using (show Dk g29 ((g26, .cells (bxC b25) 26 (0, 0)) :: Tn) from Fg29)
              refine wpV_s ((g29, .cells (bxC b25) 26 (0, 0)) :: (g26, .cells (bxC b25) 26 (0, 0)) :: Tn) (i := 10) rfl (by kernel_rfl) rfl rfl rfl (st_bx (b := b25) rfl (by kernel_rfl) (by kernel_rfl) (.head _) rfl Bg29 (by kernel_rfl) (List.forall_mem_cons.2 ⟨.inl rfl, (List.forall_mem_cons.2 ⟨.inr ⟨(.tail _ (.head _)), (by first | assumption | exact Ne.symm (by assumption))⟩, (fun p hp => .inr ⟨(.tail _ (.tail _ hp)), ((show Dk g29 Tn from (by (try simp only [dj_app_l, dj_app_r, dj_cons_l, dj_cons_r, dj_nil_l, dj_nil_r, dk_app, dk_cons, dk_nil, and_true, true_and, and_assoc]); repeat' (first | trivial | assumption | exact Dj.symm (by assumption) | exact Ne.symm (by assumption) | apply And.intro))) _ hp)⟩)⟩)⟩)) ?_
              refine vm (i := 11) (v := .bool true) rfl rfl rfl ?_
              refine wpV_done (by kernel_rfl) (fun W52 hW52 => ?_) _
              refine (show Code.wp _ _ _ _ _ from ?_)
              refine wp_seq ?_
              refine wp_region_V (W0 := w) ((g29, .cells (bxC b25) 26 (0, 0)) :: (g26, .cells (bxC b25) 26 (0, 0)) :: Tn) (by kernel_rfl) (hW52) ?_
              refine vm (i := 0) (v := .slice pn nn cn) rfl rfl rfl ?_
              refine vm (i := 1) (v := .int .i64 ((kb : Nat) : Int)) rfl rfl rfl ?_
              refine vp (i := 2) (v := .slice pn kb cn) rfl rfl rfl (run_slt (p := pn) (n := nn) (c := cn) (j := kb) (kd := .i64) (sz := 9) rfl Tryd.underlying22 (by kernel_rfl) (by kernel_rfl) (by kernel_rfl) (by first | omega | assumption)) ?_
              refine vm (i := 3) (v := .pointer (some ⟨g26, 1, none⟩)) rfl rfl rfl ?_
              refine vv (i := 4) (v := strV b25.num) rfl rfl rfl (yb_cell (off := 1) rfl (by kernel_rfl) (.tail _ (.head _)) Tryd.underlying9 rfl (by kernel_rfl)) ?_
              cases hd11 : (decide (b25.num = [])) with
              | false =>
                have h11 : ¬ (b25.num = []) := of_decide_eq_false hd11
                clear hd11
                have hfl31 : ((nl.take kb) : List Bx).length = kb := by first | (simp only [List.length_set]; done) | (simp only [List.length_set, List.length_take]; omega) | omega
                refine vv (i := 5) (v := .tuple #[.int .i64 b25.id, .bool true]) rfl rfl rfl (yb_call (f := 31) (args := #[.slice pn kb cn, strV b25.num]) (fun _ => by kernel_rfl) fun W hW => (by have h := num_is (l := (nl.take kb)) (p := pn) (c := cn) (num_good hgood hy25 h11) (by rw [List.length_take]; omega) W ((bs_take kb hbs) W (hW.sub (fun p hp => by simp only [List.mem_cons, List.mem_append, List.nil_append, List.not_mem_nil, or_assoc, or_false, false_or, hp, true_or, or_true]))); rw [hfl31] at h; exact h)) ?_
                refine vm (i := 6) (v := .tuple #[.int .i64 b25.id, .bool true]) rfl rfl rfl ?_
                refine vm (i := 7) (v := .int .i64 b25.id) rfl rfl rfl ?_
                refine vm (i := 8) (v := .bool true) rfl rfl rfl ?_
                refine vm (i := 9) (v := .int .i64 b25.id) rfl rfl rfl ?_
                refine vm (i := 10) (v := .bool true) rfl rfl rfl ?_
                refine wpV_done (by kernel_rfl) (fun W53 hW53 => ?_) _
                refine (show Code.wp _ _ _ _ _ from ?_)
                refine wp_seq ?_
                refine wp_region_L (W0 := w) ((g29, .cells (bxC b25) 26 (0, 0)) :: (g26, .cells (bxC b25) 26 (0, 0)) :: Tn) (hW53) ?_
                refine lm (v := .bool true) rfl rfl ?_
                refine lm (v := .bool false) rfl rfl ?_
                refine lm (v := .bool false) rfl rfl ?_
                refine lv (v := bxV b25) rfl rfl (yb_load (n := 9) (off := 0) rfl (by kernel_rfl) (.head _) Tryd.underlying26 rfl (by kernel_rfl) (Nat.le_refl 9) (by kernel_rfl)) ?_
                refine lv (v := bxV b25) rfl rfl (yb_load (n := 9) (off := 0) rfl (by kernel_rfl) (.tail _ (.head _)) Tryd.underlying26 rfl (by kernel_rfl) (Nat.le_refl 9) (by kernel_rfl)) ?_
                refine lp (v := .bool false) rfl rfl (run_bin rfl (vx := bxV b25) (vy := bxV b25) (by kernel_rfl) (by kernel_rfl) fun w => neq_bx (decide_eq_true rfl) w) ?_
                refine lm (v := .bool false) rfl rfl ?_
                refine lm (v := .bool false) rfl rfl ?_
                refine lm (v := .bool true) rfl rfl ?_
                refine lm (v := .pointer (some ⟨g26, 1, none⟩)) rfl rfl ?_
                refine lv (v := strV b25.num) rfl rfl (yb_cell (off := 1) rfl (by kernel_rfl) (.tail _ (.head _)) Tryd.underlying9 rfl (by kernel_rfl)) ?_
                refine lp (v := .bool true) rfl rfl (run_bin rfl (vx := strV b25.num) (vy := strV []) (by kernel_rfl) (by kernel_rfl) fun w => bs_neq (decide_eq_false (by assumption)) w) ?_
                refine lm (v := .bool false) rfl rfl ?_
                refine lm (v := .bool false) rfl rfl ?_
                refine lm (v := .bool false) rfl rfl ?_
                refine lm (v := .bool true) rfl rfl ?_
                refine lm (v := .bool true) rfl rfl ?_
                refine lm (v := .int .i64 b25.id) rfl rfl ?_
                refine lm (v := .pointer (some ⟨g26, 0, none⟩)) rfl rfl ?_
                refine lv (v := .int .i64 b25.id) rfl rfl (yb_cell (off := 0) rfl (by kernel_rfl) (.tail _ (.head _)) Tryd.underlying3 rfl (by kernel_rfl)) ?_
                refine lp (v := .bool false) rfl rfl (run_bin rfl (vx := (.int .i64 b25.id)) (vy := (.int .i64 b25.id)) (by kernel_rfl) (by kernel_rfl) fun w => bi_neq (decide_eq_true rfl) w) ?_
                refine lm (v := .bool false) rfl rfl ?_
                refine lm (v := .bool false) rfl rfl ?_
                refine wpL_done (fun W54 hW54 => ?_)
                refine (show Code.wp _ _ _ _ _ from ?_)
                refine wp_cond_false rfl ?_
                refine wp_skip ?_
                refine (show Code.wp _ _ _ _ _ from ?_)
                refine wp_region_L (W0 := w) ((g29, .cells (bxC b25) 26 (0, 0)) :: (g26, .cells (bxC b25) 26 (0, 0)) :: Tn) (hW54) ?_
                refine lp (v := .int .i64 (((k + 1) : Nat) : Int)) rfl rfl (run_bin rfl (vx := (.int .i64 ((k : Nat) : Int))) (vy := (.int .i64 ((1 : Nat) : Int))) (by kernel_rfl) (by kernel_rfl) fun w => bn_add (z := (k + 1)) rfl (wr_i64 (by omega)) w) ?_
                refine lm (v := .int .i64 (((k + 1) : Nat) : Int)) rfl rfl ?_
                refine wpL_done (fun W55 hW55 => ?_)
                go_roundw
                case rel =>
                  repeat apply Exists.intro
                  exact ⟨⟨k + 1, (by omega), rfl, (hW55.sub (fun p hp => by first | exact hp | (simp only [List.mem_cons, List.mem_append, List.nil_append, List.not_mem_nil, or_assoc, or_false, false_or] at hp ⊢ <;> grind)))⟩, rfl⟩
                case measure => (show kb - (intOf (.int .i64 (((k + 1) : Nat) : Int))).toNat < kb - (intOf (.int .i64 ((k : Nat) : Int))).toNat); simp only [intOf]; omega
              | true =>
                have h11 : b25.num = [] := of_decide_eq_true hd11
                clear hd11
                have hfl32 : ((nl.take kb) : List Bx).length = kb := by first | (simp only [List.length_set]; done) | (simp only [List.length_set, List.length_take]; omega) | omega
                refine vv (i := 5) (v := .tuple #[.int .i64 0, .bool false]) rfl rfl rfl (yb_call (f := 31) (args := #[.slice pn kb cn, strV b25.num]) (fun _ => by kernel_rfl) fun W hW => (by have h := num_isn (l := (nl.take kb)) (p := pn) (c := cn) (num_no h11) (by rw [List.length_take]; omega) W ((bs_take kb hbs) W (hW.sub (fun p hp => by simp only [List.mem_cons, List.mem_append, List.nil_append, List.not_mem_nil, or_assoc, or_false, false_or, hp, true_or, or_true]))); rw [hfl32] at h; exact h)) ?_
                refine vm (i := 6) (v := .tuple #[.int .i64 0, .bool false]) rfl rfl rfl ?_
                refine vm (i := 7) (v := .int .i64 0) rfl rfl rfl ?_
                refine vm (i := 8) (v := .bool false) rfl rfl rfl ?_
                refine vm (i := 9) (v := .int .i64 0) rfl rfl rfl ?_
                refine vm (i := 10) (v := .bool false) rfl rfl rfl ?_
                refine wpV_done (by kernel_rfl) (fun W56 hW56 => ?_) _
                refine (show Code.wp _ _ _ _ _ from ?_)
                refine wp_seq ?_
                refine wp_region_L (W0 := w) ((g29, .cells (bxC b25) 26 (0, 0)) :: (g26, .cells (bxC b25) 26 (0, 0)) :: Tn) (hW56) ?_
                refine lm (v := .bool true) rfl rfl ?_
                refine lm (v := .bool false) rfl rfl ?_
                refine lm (v := .bool false) rfl rfl ?_
                refine lv (v := bxV b25) rfl rfl (yb_load (n := 9) (off := 0) rfl (by kernel_rfl) (.head _) Tryd.underlying26 rfl (by kernel_rfl) (Nat.le_refl 9) (by kernel_rfl)) ?_
                refine lv (v := bxV b25) rfl rfl (yb_load (n := 9) (off := 0) rfl (by kernel_rfl) (.tail _ (.head _)) Tryd.underlying26 rfl (by kernel_rfl) (Nat.le_refl 9) (by kernel_rfl)) ?_
                refine lp (v := .bool false) rfl rfl (run_bin rfl (vx := bxV b25) (vy := bxV b25) (by kernel_rfl) (by kernel_rfl) fun w => neq_bx (decide_eq_true rfl) w) ?_
                refine lm (v := .bool false) rfl rfl ?_
                refine lm (v := .bool false) rfl rfl ?_
                refine lm (v := .bool false) rfl rfl ?_
                refine lm (v := .pointer (some ⟨g26, 1, none⟩)) rfl rfl ?_
                refine lv (v := strV b25.num) rfl rfl (yb_cell (off := 1) rfl (by kernel_rfl) (.tail _ (.head _)) Tryd.underlying9 rfl (by kernel_rfl)) ?_
                refine lp (v := .bool false) rfl rfl (run_bin rfl (vx := strV b25.num) (vy := strV []) (by kernel_rfl) (by kernel_rfl) fun w => bs_neq (decide_eq_true (by assumption)) w) ?_
                refine lm (v := .bool false) rfl rfl ?_
                refine lm (v := .bool false) rfl rfl ?_
                refine lm (v := .bool false) rfl rfl ?_
                refine lm (v := .bool false) rfl rfl ?_
                refine lm (v := .bool false) rfl rfl ?_
                refine ln rfl ?_
                refine ln rfl ?_
                refine ln rfl ?_
                refine ln rfl ?_
                refine lm (v := .bool false) rfl rfl ?_
                refine lm (v := .bool false) rfl rfl ?_
                refine wpL_done (fun W57 hW57 => ?_)
                refine (show Code.wp _ _ _ _ _ from ?_)
                refine wp_cond_false rfl ?_
                refine wp_skip ?_
                refine (show Code.wp _ _ _ _ _ from ?_)
                refine wp_region_L (W0 := w) ((g29, .cells (bxC b25) 26 (0, 0)) :: (g26, .cells (bxC b25) 26 (0, 0)) :: Tn) (hW57) ?_
                refine lp (v := .int .i64 (((k + 1) : Nat) : Int)) rfl rfl (run_bin rfl (vx := (.int .i64 ((k : Nat) : Int))) (vy := (.int .i64 ((1 : Nat) : Int))) (by kernel_rfl) (by kernel_rfl) fun w => bn_add (z := (k + 1)) rfl (wr_i64 (by omega)) w) ?_
                refine lm (v := .int .i64 (((k + 1) : Nat) : Int)) rfl rfl ?_
                refine wpL_done (fun W58 hW58 => ?_)
                go_roundw
                case rel =>
                  repeat apply Exists.intro
                  exact ⟨⟨k + 1, (by omega), rfl, (hW58.sub (fun p hp => by first | exact hp | (simp only [List.mem_cons, List.mem_append, List.nil_append, List.not_mem_nil, or_assoc, or_false, false_or] at hp ⊢ <;> grind)))⟩, rfl⟩
                case measure => (show kb - (intOf (.int .i64 (((k + 1) : Nat) : Int))).toNat < kb - (intOf (.int .i64 ((k : Nat) : Int))).toNat); simp only [intOf]; omega
        | true =>
          have h9 : n < (kb + 1) := of_decide_eq_true hd9
          clear hd9
          refine wp_cond_true rfl ?_
          refine wp_skip ?_
          refine (show Code.wp _ _ _ _ _ from ?_)
          refine wp_seq ?_
          refine wp_block ?_
          refine wp_seq ?_
          refine wp_region_L (W0 := w) Tn (hW46) ?_
          refine lm (v := .int .i64 ((n : Nat) : Int)) rfl rfl ?_
          refine lm (v := .int .i64 ((n : Nat) : Int)) rfl rfl ?_
          refine wpL_done (fun W59 hW59 => ?_)
          refine (show Code.wp _ _ _ _ _ from ?_)
          refine wp_seq ?_
          refine wp_region_L (W0 := w) Tn (hW59) ?_
          refine lm (v := .slice pn nn cn) rfl rfl ?_
          refine lm (v := .int .i64 ((n : Nat) : Int)) rfl rfl ?_
          refine lp (v := .slice pn n cn) rfl rfl (run_slt (p := pn) (n := nn) (c := cn) (j := n) (kd := .i64) (sz := 9) rfl Tryd.underlying22 (by kernel_rfl) (by kernel_rfl) (by kernel_rfl) (by first | omega | assumption)) ?_
          have hfl33 : ((nl.take n) : List Bx).length = n := by first | (simp only [List.length_set]; done) | (simp only [List.length_set, List.length_take]; omega) | omega
          refine lv (v := .tuple #[.int .i64 (-1), .int .i64 0]) rfl rfl (yb_call (f := 29) (args := #[.slice pn n cn]) (fun _ => by kernel_rfl) fun W hW => (by have h := valid_is (l := (nl.take n)) (p := pn) (c := cn) (valid_take (by omega) (by omega) (by omega) hgood) (by first | omega | (rw [List.length_take]; omega)) W ((bs_take n hbs) W (hW.sub (fun p hp => by simp only [List.mem_cons, List.mem_append, List.nil_append, List.not_mem_nil, or_assoc, or_false, false_or, hp, true_or, or_true]))); rw [hfl33] at h; exact h)) ?_
          refine lm (v := .tuple #[.int .i64 (-1), .int .i64 0]) rfl rfl ?_
          refine lm (v := .int .i64 (-1)) rfl rfl ?_
          refine lm (v := .int .i64 0) rfl rfl ?_
          refine lm (v := .int .i64 (-1)) rfl rfl ?_
          refine lm (v := .int .i64 0) rfl rfl ?_
          refine wpL_done (fun W60 hW60 => ?_)
          refine (show Code.wp _ _ _ _ _ from ?_)
          refine wp_seq ?_
          refine wp_region_L (W0 := w) Tn (hW60) ?_
          refine lm (v := .int .i64 (-1)) rfl rfl ?_
          refine lm (v := .bool false) rfl rfl ?_
          refine lm (v := .bool false) rfl rfl ?_
          refine lm (v := .int .i64 0) rfl rfl ?_
          refine lm (v := .bool false) rfl rfl ?_
          refine lm (v := .bool false) rfl rfl ?_
          refine wpL_done (fun W61 hW61 => ?_)
          refine (show Code.wp _ _ _ _ _ from ?_)
          refine wp_cond_false rfl ?_
          refine wp_skip ?_
          refine (show Code.wp _ _ _ _ _ from ?_)
          refine wp_region_L (W0 := w) Tn (hW61) ?_
          refine lp (v := .int .i64 (((n + 1) : Nat) : Int)) rfl rfl (run_bin rfl (vx := (.int .i64 ((n : Nat) : Int))) (vy := (.int .i64 ((1 : Nat) : Int))) (by kernel_rfl) (by kernel_rfl) fun w => bn_add (z := (n + 1)) rfl (wr_i64 (by omega)) w) ?_
          refine lm (v := .int .i64 (((n + 1) : Nat) : Int)) rfl rfl ?_
          refine wpL_done (fun W62 hW62 => ?_)
          go_roundw
          case rel =>
            repeat apply Exists.intro
            exact ⟨⟨n + 1, (by omega), rfl, (hW62.sub (fun p hp => by first | exact hp | (simp only [List.mem_cons, List.mem_append, List.nil_append, List.not_mem_nil, or_assoc, or_false, false_or] at hp ⊢ <;> grind)))⟩, rfl⟩
          case measure => (show (kb + 1) - (intOf (.int .i64 (((n + 1) : Nat) : Int))).toNat < (kb + 1) - (intOf (.int .i64 ((n : Nat) : Int))).toNat); simp only [intOf]; omega
end Go.Proofs.YtjbbeolapaaiaaaDoor
/- BoxFirst holds for every input: the program's own answer is true, wherever the listed variables are as the program's text lays them; each argument reads afterwards as it read before. -/
namespace Go.Proofs.YtjbbeolapaaiaaaDoor
open Go.ChangeShapes Go.WideShapes Go.ChangeAt Go.RowKit Tw
set_option maxRecDepth 100000 in
theorem boxFirst_lifted (os : Os) (started : os.Started) (H : Type) (enc : TypeId × Value → H) :
    ReturnsInHanded {} Tryd.checked os 9 .any (fun w args => (Rows.boxFirstSpec.pre enc Tryd.prog Tryd.f9 Rows.boxFirstRow.domain false w args ∧ laidMetH Tryd.prog laidN w) ∧ sizedMet enc Tryd.prog Tryd.f9 (OpenSpec.ofChange Rows.boxFirstSpec) false w args) (Rows.boxFirstSpec.post enc Tryd.prog Tryd.f9 false true false false) := by
  refine handed_and_sized (C := Tryd.checked) (X := fun w => laidMetH Tryd.prog laidN w) (fun _ _ hh h => h.of_heap hh) own started (by kernel_rfl) Tryd.func9
    (ChangeSpec.witness_shaped (enc := enc) (C := Tryd.checked) (os := os) (X := fun w _ => laidMetH Tryd.prog laidN w) false (World.doorLaid Tryd.prog 1000 os) #[.slice none 0 0, .int .u8 0, .int .u8 0] 8 rfl (World.shaped_of_RefB (by kernel_rfl) (by kernel_rfl)) (by kernel_rfl) (by kernel_rfl) (by kernel_rfl) (door_met os _)) ?_
  intro W base args ds gs before hval0 hW hL hsh hsz
  have hval : ∀ (j : Nat) t v, Tryd.f9.params[j]? = some t → args[j]? = some v → Value.okWide Tryd.prog W .any base t v := hval0
  have hW2 := hW
  obtain ⟨p, q, hA0, hV, rfl, hfz, hnd⟩ := hW2
  have hA : DataW.TrodAll enc Tryd.prog W 0 (fun _ => true) true Tryd.f9.params.toList args.toList ds p := hA0
  rw [Tryd.params9] at hA hval
  obtain ⟨v0, vs0, d0, ds0, p0, q0, hargs, rfl, rfl, h0, r0⟩ := trodAll_cons hA
  obtain ⟨v1, vs1, d1, ds1, p1, q1, rfl, rfl, rfl, h1, r1⟩ := trodAll_cons r0
  obtain ⟨v2, vs2, d2, ds2, p2, q2, rfl, rfl, rfl, h2, r2⟩ := trodAll_cons r1
  obtain ⟨rfl, rfl, rfl⟩ := trodAll_nil r2
  obtain rfl : args = #[v0, v1, v2] := by cases args; simp_all
  obtain ⟨rfl, rfl⟩ := trodVars_none hV
  have k0 := h0
  have lt0 : ∀ x ∈ p0, x.block < W.heap.size := by obtain ⟨m, hm⟩ := k0; exact DataW.trod_lt m _ _ _ hm
  obtain ⟨p0_, c0, l0, rfl, hb0, hok0, hl0, hc0⟩ := open_recs (sz := 6) Tryd.underlying44 opens_sk (by kernel_rfl) (by omega) (fun _ => rfl) (hval 0 44 v0 rfl rfl) h0
  obtain ⟨a1, rfl, rfl, rfl, w1⟩ := open_int Tryd.underlying5 (hval 1 5 v1 rfl rfl) h1
  have rr1 : 0 ≤ a1 ∧ a1 ≤ 255 := of_wf w1
  obtain ⟨a2, rfl, rfl, rfl, w2⟩ := open_int Tryd.underlying5 (hval 2 5 v2 rfl rfl) h2
  have rr2 : 0 ≤ a2 ∧ a2 ≤ 255 := of_wf w2
  clear hA0 hval0
  refine (BoxFirst_law W (env_of hL) l0 p0_ c0 hb0 hok0 hl0 hc0 a1 rr1 a2 rr2).mono fun e W' ⟨he, bel⟩ => ?_
  subst he
  exact ⟨_, rfl, _, _, _, [], _, [], hW, (trodAll_cons_mk (shut_bool Tryd.underlying4 _) trodAll_mk0), (trodAll_cons_mk (Below.trod laidOut (by kernel_rfl) (of_decide_eq_true (by kernel_rfl)) k0 bel lt0) (trodAll_cons_mk (shut_int Tryd.underlying5 w1) (trodAll_cons_mk (shut_int Tryd.underlying5 w2) trodAll_mk0))), rfl, bel.frame _, fun h => by cases h⟩
theorem boxFirst_said : Rows.BoxFirstSaid :=
  OpenClaim.holds_of_wide 9 Tryd.f9 rfl rfl rfl rfl rfl rfl rfl ⟨rfl, rfl, rfl, rfl, rfl⟩ rfl rfl rfl rfl rfl (by kernel_rfl) Tryd.func9 (by kernel_rfl)
    (of_decide_eq_true (by kernel_rfl)) (by unfold Func.isWrapper; first | (rw [if_pos (by decide +kernel)]; kernel_rfl) | (rw [if_neg (by decide +kernel)]; exact ⟨rfl, rfl⟩))
    (fun os started H enc _ => boxFirst_lifted os started H enc)
theorem boxFirst_proved : Rows.BoxFirstCardSaid :=
  Claim7.holds_tied_plain_at .later [] [.data] true Rows.boxFirstCard.stood.harness Rows.boxFirstCard.stood.looks
    boxFirst_said (fun _ h => by cases h) (by kernel_rfl) (fun _ h => by cases h) boxFirst_row_tie rfl ⟨rfl, rfl⟩ (by kernel_rfl) rfl
    (fun f fn hf hfn => by
      obtain rfl : f = 9 := Option.some.inj ((show Tryd.prog.funcNamed "twistlock/twistlocklaw06.BoxFirst" = some 9 by kernel_rfl).symm.trans hf) |>.symm
      obtain rfl : fn = Tryd.f9 := (Option.some.inj (Tryd.func9.symm.trans hfn)).symm
      exact ⟨by kernel_rfl, fun j t ht => by
        rw [Tryd.params9] at ht
        have hm : t ∈ [44, 5, 5] := by simpa using Array.mem_of_getElem? ht
        have hall : ([44, 5, 5].all fun u => !Tryd.prog.wantsStandIn u) = true := by kernel_rfl
        exact (show Tryd.prog.wantsStandIn t = false by simpa using List.all_eq_true.1 hall t hm)⟩)
    (by kernel_rfl)
#print axioms boxFirst_proved
end Go.Proofs.YtjbbeolapaaiaaaDoor
